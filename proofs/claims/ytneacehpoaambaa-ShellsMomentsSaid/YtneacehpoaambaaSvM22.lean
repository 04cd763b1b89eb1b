/-
  ShellsMoments at n = 5, d = 4.
-/
import Derived.Test.YtneacehpoaambaaSvG
namespace Go.Proofs.Ytneacehpoaambaa
open Go.Ev
theorem rest22 (x1 x2 y1 y2 : V) : restOk 2 2 x1 x2 y1 y2 = true := by kernel_rfl
end Go.Proofs.Ytneacehpoaambaa
