/-
  awake: Layers.
-/
import Derived.Test.YtdmnejhjlmeodaaOaD
namespace Go.Proofs.Ytdmnejhjlmeodaa
open Go.Ev
open Go.RowKit
noncomputable def row42 : CRow := ⟨fun id => [.i .i64 (.ofNat 4), .sl id 0 3 2], [.i .i64 (.ofNat 0), .i .i64 (.ofNat 1), .i .i64 (.ofNat 0), .i .i64 (.ofNat 2), .i .i64 (.ofNat 0), .i .i64 (.ofNat 3)], [.i .i64 (.ofNat 0), .i .i64 (.ofNat 1), .i .i64 (.ofNat 1), .i .i64 (.ofNat 1)], fun k => .tup [.sl k 0 4 1, .i .i64 (.ofNat 0)]⟩
noncomputable def chk42 : Bool := match callF (eval fs0 3000) e42 (row42.args .e) (rowH row42) with | .ok v h1 => (match v with | .tup l => oGet (slFirst l) false fun id => isCells (h1.get .e) row42.cells && (Nat.ble 1 id.nat && (row42.cells.all V.flat && resChk row42 id v h1)) | _ => false) | .no => false
theorem run42 : chk42 = true := by kernel_rfl
theorem does42 : ∃ id, row1Chk fs0 3000 e42 row42 id = true := by
  have h := run42
  unfold chk42 at h
  unfold row1Chk
  split at h
  · rename_i v h1 e
    split at h
    · obtain ⟨id, _, h2⟩ := oGet_some (by simp) h
      exact ⟨id, by rw [e]; exact h2⟩
    · cases h
  · cases h
noncomputable def n42 : EF := ⟨0, [], .no, some (row1G row42)⟩
theorem args42 : ∀ id, CArgs [id] (row42.args id) (row42.args .e) := fun _ => .cons (.flat rfl) (.cons (.sl1 _ _ _) .nil)
theorem outs42 : ∀ id k, CRes id k (row42.out id) (row42.out k) := fun _ _ => CRess.tup (.cons (.sl _ _ _) (.cons (.flat rfl) .nil))
theorem nat42 : EntryOk rig (.z (.z (.o (.z (.o .e))))) n42 := entry_does (n := 42) rfl Try.func42 (by kernel_rfl) (by kernel_rfl) (does42.elim fun _ h => row1_does fs0_ok code42 args42 outs42 h)
end Go.Proofs.Ytdmnejhjlmeodaa
