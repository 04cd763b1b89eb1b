/-
  awake: Clash.
-/
import Derived.Test.YtdmnejhjlmeodaaGreatZaD
namespace Go.Proofs.YtdmnejhjlmeodaaGreat
open Go.Ev
open Go.RowKit
noncomputable def row15:CRow:=⟨fun id => [.i .i64 (.ofNat 5), .sl id 0 5 2], [.i .i64 (.ofNat 0), .i .i64 (.ofNat 1), .i .i64 (.ofNat 0), .i .i64 (.ofNat 4), .i .i64 (.ofNat 1), .i .i64 (.ofNat 2), .i .i64 (.ofNat 2), .i .i64 (.ofNat 3), .i .i64 (.ofNat 3), .i .i64 (.ofNat 4)], [.i .i64 (.ofNat 0), .i .i64 (.ofNat 1), .i .i64 (.ofNat 2), .i .i64 (.ofNat 1), .i .i64 (.ofNat 2), .i .i64 (.ofNat 3), .i .i64 (.ofNat 4), .i .i64 (.ofNat 3), .i .i64 (.ofNat 4), .i .i64 (.ofNat 0), .i .i64 (.ofNat 1), .i .i64 (.ofNat 0)],fun k => .tup [.sl k 0 6 2, .b true, .i .i64 (.ofNat 0)]⟩
noncomputable def chk15:Bool:=match callF (eval fs0 3000) e15 (row15.args .e) (rowH row15) with | .ok v h1=>(match v with | .tup l=>oGet (slFirst l) false fun id=>isCells (h1.get .e) row15.cells && (Nat.ble 1 id.nat && (row15.cells.all V.flat && resChk row15 id v h1)) | _=>false) | .no=>false
theorem run15:chk15=true:=by kernel_rfl
theorem does15:∃ id,row1Chk fs0 3000 e15 row15 id=true:=by
  have h:=run15
  unfold chk15 at h
  unfold row1Chk
  split at h
  · rename_i v h1 e
    split at h
    · obtain ⟨id,_,h2⟩:=oGet_some (by simp) h
      exact ⟨id,by rw [e]; exact h2⟩
    · cases h
  · cases h
noncomputable def n15:EF:=⟨0, [], .no,some (row1G row15)⟩
theorem args15:∀ id,CArgs [id] (row15.args id) (row15.args .e):=fun _ => .cons (.flat rfl) (.cons (.sl1 _ _ _) .nil)
theorem outs15:∀ id k,CRes id k (row15.out id) (row15.out k):=fun _ _=>CRess.tup (.cons (.sl _ _ _) (.cons (.flat rfl) (.cons (.flat rfl) .nil)))
theorem nat15:EntryOk rig (.o (.o (.o (.o .e)))) n15:=entry_does (n:=15) rfl Tryz.func15 (by kernel_rfl) (by kernel_rfl) (does15.elim fun _ h=>row1_does fs0_ok code15 args15 outs15 h)
end Go.Proofs.YtdmnejhjlmeodaaGreat
