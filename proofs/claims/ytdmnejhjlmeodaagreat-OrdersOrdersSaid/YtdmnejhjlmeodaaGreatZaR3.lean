/-
  awake: Layers.
-/
import Derived.Test.YtdmnejhjlmeodaaGreatZaD
namespace Go.Proofs.YtdmnejhjlmeodaaGreat
open Go.Ev
open Go.RowKit
noncomputable def row21:CRow:=⟨fun id => [.i .i64 (.ofNat 4), .sl id 0 3 2], [.i .i64 (.ofNat 0), .i .i64 (.ofNat 1), .i .i64 (.ofNat 0), .i .i64 (.ofNat 2), .i .i64 (.ofNat 0), .i .i64 (.ofNat 3)], [.i .i64 (.ofNat 0), .i .i64 (.ofNat 1), .i .i64 (.ofNat 1), .i .i64 (.ofNat 1)],fun k => .tup [.sl k 0 4 1, .i .i64 (.ofNat 0)]⟩
noncomputable def chk21:Bool:=match callF (eval fs0 3000) e21 (row21.args .e) (rowH row21) with | .ok v h1=>(match v with | .tup l=>oGet (slFirst l) false fun id=>isCells (h1.get .e) row21.cells && (Nat.ble 1 id.nat && (row21.cells.all V.flat && resChk row21 id v h1)) | _=>false) | .no=>false
theorem run21:chk21=true:=by kernel_rfl
theorem does21:∃ id,row1Chk fs0 3000 e21 row21 id=true:=by
  have h:=run21
  unfold chk21 at h
  unfold row1Chk
  split at h
  · rename_i v h1 e
    split at h
    · obtain ⟨id,_,h2⟩:=oGet_some (by simp) h
      exact ⟨id,by rw [e]; exact h2⟩
    · cases h
  · cases h
noncomputable def n21:EF:=⟨0, [], .no,some (row1G row21)⟩
theorem args21:∀ id,CArgs [id] (row21.args id) (row21.args .e):=fun _ => .cons (.flat rfl) (.cons (.sl1 _ _ _) .nil)
theorem outs21:∀ id k,CRes id k (row21.out id) (row21.out k):=fun _ _=>CRess.tup (.cons (.sl _ _ _) (.cons (.flat rfl) .nil))
theorem nat21:EntryOk rig (.o (.z (.z (.o .e)))) n21:=entry_does (n:=21) rfl Tryz.func21 (by kernel_rfl) (by kernel_rfl) (does21.elim fun _ h=>row1_does fs0_ok code21 args21 outs21 h)
end Go.Proofs.YtdmnejhjlmeodaaGreat
