/-
  A run.
-/
import Derived.Test.YtmnojcnimncbpaaLzS
namespace Go.Proofs.Ytmnojcnimncbpaa
open Go.Ev
theorem rowE4_chk : row1Chk fs1 3000 e43 rowE4 (.z (.z (.z .e))) = true := by kernel_rfl
theorem rowE4_does : ∀ args h v h', row1G rowE4 args h = some (v, h') → Does rig (.o (.o (.z (.z (.o .e))))) args h v h' := row1_does fs1_ok code43 (fun _ => (CArgs.cons (.sl1 _ _ _) (CArgs.cons (.flat rfl) CArgs.nil))) (fun _ _ => (CRess.cons (.sl _ _ _) (CRess.cons (.flat rfl) (CRess.cons (.flat rfl) CRess.nil))).tup) rowE4_chk
end Go.Proofs.Ytmnojcnimncbpaa
