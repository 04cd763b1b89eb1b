/-
  ShellsMoments at n = 5, d = 2.
-/
import Derived.Test.YtneacehpoaambaaSvG
namespace Go.Proofs.Ytneacehpoaambaa
open Go.Ev
theorem rest20 (x1 x2 y1 y2 : V) : restOk 2 0 x1 x2 y1 y2 = true := by kernel_rfl
end Go.Proofs.Ytneacehpoaambaa
