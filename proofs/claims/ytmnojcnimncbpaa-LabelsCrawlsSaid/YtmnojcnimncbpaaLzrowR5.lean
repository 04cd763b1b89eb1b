/-
  A run.
-/
import Derived.Test.YtmnojcnimncbpaaLzS
namespace Go.Proofs.Ytmnojcnimncbpaa
open Go.Ev
theorem rowR5_chk : row0Chk fs1 3000 e46 rowR5 (.z (.z (.z (.z (.o (.z (.o (.o (.o (.z .e)))))))))) = true := by kernel_rfl
theorem rowR5_does : ∀ args h v h', row0G rowR5 args h = some (v, h') → Does rig (.z (.z (.z (.z (.o .e))))) args h v h' := row0_does fs1_ok code46 (CArgs.cons (.flat rfl) CArgs.nil) (fun _ _ => (CRess.cons (.sl _ _ _) (CRess.cons (.flat rfl) CRess.nil)).tup) rowR5_chk
end Go.Proofs.Ytmnojcnimncbpaa
