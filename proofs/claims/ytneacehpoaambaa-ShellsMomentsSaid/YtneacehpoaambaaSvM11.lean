/-
  ShellsMoments at n = 4, d = 3.
-/
import Derived.Test.YtneacehpoaambaaSvG
namespace Go.Proofs.Ytneacehpoaambaa
open Go.Ev
theorem rest11 (x1 x2 y1 y2 : V) : restOk 1 1 x1 x2 y1 y2 = true := by kernel_rfl
end Go.Proofs.Ytneacehpoaambaa
