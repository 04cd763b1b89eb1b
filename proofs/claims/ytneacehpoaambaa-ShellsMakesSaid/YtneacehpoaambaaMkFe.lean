/-
  Their checks.
-/
import Derived.Test.YtneacehpoaambaaMkF
namespace Go.Proofs.Ytneacehpoaambaa
open Go.Ev
theorem mk65 : chkN2 (callF (eval fs1 1000) e50 [.i .i64 (.ofNat 6), .i .i64 (.ofNat 5)] ⟨.e, .nil⟩) (mL 6 5) = true := by kernel_rfl
theorem rk65 : chkN1 (callF (eval fs1 1000) e51 [.i .i64 (.ofNat 6), .i .i64 (.ofNat 5)] ⟨.e, .nil⟩) (mL 6 5) = true := by kernel_rfl
end Go.Proofs.Ytneacehpoaambaa
