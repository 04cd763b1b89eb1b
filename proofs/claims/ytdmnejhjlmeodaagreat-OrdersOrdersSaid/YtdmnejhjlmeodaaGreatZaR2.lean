/-
  awake: Count.
-/
import Derived.Test.YtdmnejhjlmeodaaGreatZaD
namespace Go.Proofs.YtdmnejhjlmeodaaGreat
open Go.Ev
open Go.RowKit
noncomputable def row17:CRow:=⟨fun id => [.i .i64 (.ofNat 4), .sl id 0 4 2], [.i .i64 (.ofNat 0), .i .i64 (.ofNat 1), .i .i64 (.ofNat 0), .i .i64 (.ofNat 3), .i .i64 (.ofNat 1), .i .i64 (.ofNat 2), .i .i64 (.ofNat 2), .i .i64 (.ofNat 3)], [],fun _ => .tup [.i .i64 (.ofNat 2), .i .i64 (.ofNat 0)]⟩
noncomputable def chk17:Bool:=match callF (eval fs0 3000) e17 (row17.args .e) (rowH row17) with | .ok v h1=>beqR v (row17.out .e) && isCells (h1.get .e) row17.cells | .no=>false
theorem run17:chk17=true:=by kernel_rfl
theorem does17:Ret fs0 e17 (row17.args .e) (rowH row17) fun v h1=>v=row17.out .e∧h1.get .e=(rowH row17).get .e:=by
  have h:=run17
  unfold chk17 at h
  split at h
  · rename_i v h1 e
    rw [Bool.and_eq_true] at h
    exact ⟨3000,_,_,e,beqR_eq h.1,isCells_eq h.2⟩
  · cases h
noncomputable def n17:EF:=⟨0, [], .no,some (row2G row17)⟩
theorem args17:∀ id,CArgs [id] (row17.args id) (row17.args .e):=fun _ => .cons (.flat rfl) (.cons (.sl1 _ _ _) .nil)
theorem outs17:∀ ι ι' x,VR ι (row17.out .e) x→VR ι' (row17.out .e) x:=fun ι ι' x h=>by
  cases h with
  | tup hl h => exact .tup hl (fun i h1 h2 => by
      have:=h i h1 h2
      obtain rfl | rfl:i=0 ∨ i=1:=by have:i < 2:=h1; omega
      · exact VR.flat rfl this
      · exact VR.flat rfl this)
theorem nat17:EntryOk rig (.o (.z (.o (.o .e)))) n17:=entry_does (n:=17) rfl Tryz.func17 (by kernel_rfl) (by kernel_rfl) (row2_does fs0_ok code17 args17 rfl outs17 does17)
end Go.Proofs.YtdmnejhjlmeodaaGreat
