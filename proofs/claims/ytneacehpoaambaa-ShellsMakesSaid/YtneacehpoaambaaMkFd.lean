/-
  Their checks.
-/
import Derived.Test.YtneacehpoaambaaMkF
namespace Go.Proofs.Ytneacehpoaambaa
open Go.Ev
theorem mk64 : chkN2 (callF (eval fs1 1000) e50 [.i .i64 (.ofNat 6), .i .i64 (.ofNat 4)] ⟨.e, .nil⟩) (mL 6 4) = true := by kernel_rfl
theorem rk64 : chkN1 (callF (eval fs1 1000) e51 [.i .i64 (.ofNat 6), .i .i64 (.ofNat 4)] ⟨.e, .nil⟩) (mL 6 4) = true := by kernel_rfl
end Go.Proofs.Ytneacehpoaambaa
