/-
  Their checks.
-/
import Derived.Test.YtneacehpoaambaaMkF
namespace Go.Proofs.Ytneacehpoaambaa
open Go.Ev
theorem mk62 : chkN2 (callF (eval fs1 1000) e50 [.i .i64 (.ofNat 6), .i .i64 (.ofNat 2)] ⟨.e, .nil⟩) (mL 6 2) = true := by kernel_rfl
theorem rk62 : chkN1 (callF (eval fs1 1000) e51 [.i .i64 (.ofNat 6), .i .i64 (.ofNat 2)] ⟨.e, .nil⟩) (mL 6 2) = true := by kernel_rfl
end Go.Proofs.Ytneacehpoaambaa
