/-
  Their checks.
-/
import Derived.Test.YtneacehpoaambaaMkF
namespace Go.Proofs.Ytneacehpoaambaa
open Go.Ev
theorem mk32 : chkN2 (callF (eval fs1 1000) e50 [.i .i64 (.ofNat 3), .i .i64 (.ofNat 2)] ⟨.e, .nil⟩) (mL 3 2) = true := by kernel_rfl
theorem rk32 : chkN1 (callF (eval fs1 1000) e51 [.i .i64 (.ofNat 3), .i .i64 (.ofNat 2)] ⟨.e, .nil⟩) (mL 3 2) = true := by kernel_rfl
theorem mk42 : chkN2 (callF (eval fs1 1000) e50 [.i .i64 (.ofNat 4), .i .i64 (.ofNat 2)] ⟨.e, .nil⟩) (mL 4 2) = true := by kernel_rfl
theorem rk42 : chkN1 (callF (eval fs1 1000) e51 [.i .i64 (.ofNat 4), .i .i64 (.ofNat 2)] ⟨.e, .nil⟩) (mL 4 2) = true := by kernel_rfl
theorem mk43 : chkN2 (callF (eval fs1 1000) e50 [.i .i64 (.ofNat 4), .i .i64 (.ofNat 3)] ⟨.e, .nil⟩) (mL 4 3) = true := by kernel_rfl
theorem rk43 : chkN1 (callF (eval fs1 1000) e51 [.i .i64 (.ofNat 4), .i .i64 (.ofNat 3)] ⟨.e, .nil⟩) (mL 4 3) = true := by kernel_rfl
theorem mk52 : chkN2 (callF (eval fs1 1000) e50 [.i .i64 (.ofNat 5), .i .i64 (.ofNat 2)] ⟨.e, .nil⟩) (mL 5 2) = true := by kernel_rfl
theorem rk52 : chkN1 (callF (eval fs1 1000) e51 [.i .i64 (.ofNat 5), .i .i64 (.ofNat 2)] ⟨.e, .nil⟩) (mL 5 2) = true := by kernel_rfl
theorem mk53 : chkN2 (callF (eval fs1 1000) e50 [.i .i64 (.ofNat 5), .i .i64 (.ofNat 3)] ⟨.e, .nil⟩) (mL 5 3) = true := by kernel_rfl
theorem rk53 : chkN1 (callF (eval fs1 1000) e51 [.i .i64 (.ofNat 5), .i .i64 (.ofNat 3)] ⟨.e, .nil⟩) (mL 5 3) = true := by kernel_rfl
theorem mk54 : chkN2 (callF (eval fs1 1000) e50 [.i .i64 (.ofNat 5), .i .i64 (.ofNat 4)] ⟨.e, .nil⟩) (mL 5 4) = true := by kernel_rfl
theorem rk54 : chkN1 (callF (eval fs1 1000) e51 [.i .i64 (.ofNat 5), .i .i64 (.ofNat 4)] ⟨.e, .nil⟩) (mL 5 4) = true := by kernel_rfl
end Go.Proofs.Ytneacehpoaambaa
