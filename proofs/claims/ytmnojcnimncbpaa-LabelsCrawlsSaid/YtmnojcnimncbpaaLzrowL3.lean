/-
  A run.
-/
import Derived.Test.YtmnojcnimncbpaaLzS
namespace Go.Proofs.Ytmnojcnimncbpaa
open Go.Ev
theorem rowL3_chk : row1Chk fs1 3000 e24 rowL3 (.z (.z (.z (.z (.o .e))))) = true := by kernel_rfl
theorem rowL3_does : ∀ args h v h', row1G rowL3 args h = some (v, h') → Does rig (.z (.o (.o (.z .e)))) args h v h' := row1_does fs1_ok code24 (fun _ => (CArgs.cons (.flat rfl) (CArgs.cons (.sl1 _ _ _) CArgs.nil))) (fun _ _ => (CRess.cons (.sl _ _ _) (CRess.cons (.flat rfl) (CRess.cons (.flat rfl) CRess.nil))).tup) rowL3_chk
end Go.Proofs.Ytmnojcnimncbpaa
