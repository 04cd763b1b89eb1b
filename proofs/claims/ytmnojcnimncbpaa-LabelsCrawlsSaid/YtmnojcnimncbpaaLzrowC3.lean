/-
  A run.
-/
import Derived.Test.YtmnojcnimncbpaaLzS
namespace Go.Proofs.Ytmnojcnimncbpaa
open Go.Ev
theorem rowC3_chk : row1Chk fs1 3000 e25 rowC3 (.o .e) = true := by kernel_rfl
theorem rowC3_does : ∀ args h v h', row1G rowC3 args h = some (v, h') → Does rig (.o (.z (.o (.z .e)))) args h v h' := row1_does fs1_ok code25 (fun _ => (CArgs.cons (.flat rfl) (CArgs.cons (.sl1 _ _ _) CArgs.nil))) (fun _ _ => (CRess.cons (.flat rfl) (CRess.cons (.flat rfl) CRess.nil)).tup) rowC3_chk
end Go.Proofs.Ytmnojcnimncbpaa
