/-
  awake: Clash.
-/
import Derived.Test.YtdmnejhjlmeodaaOaD
namespace Go.Proofs.Ytdmnejhjlmeodaa
open Go.Ev
open Go.RowKit
noncomputable def row24 : CRow := ⟨fun id => [.i .i64 (.ofNat 5), .sl id 0 5 2], [.i .i64 (.ofNat 0), .i .i64 (.ofNat 1), .i .i64 (.ofNat 0), .i .i64 (.ofNat 4), .i .i64 (.ofNat 1), .i .i64 (.ofNat 2), .i .i64 (.ofNat 2), .i .i64 (.ofNat 3), .i .i64 (.ofNat 3), .i .i64 (.ofNat 4)], [.i .i64 (.ofNat 0), .i .i64 (.ofNat 1), .i .i64 (.ofNat 2), .i .i64 (.ofNat 1), .i .i64 (.ofNat 2), .i .i64 (.ofNat 3), .i .i64 (.ofNat 4), .i .i64 (.ofNat 3), .i .i64 (.ofNat 4), .i .i64 (.ofNat 0), .i .i64 (.ofNat 1), .i .i64 (.ofNat 0)], fun k => .tup [.sl k 0 6 2, .b true, .i .i64 (.ofNat 0)]⟩
noncomputable def chk24 : Bool := match callF (eval fs0 3000) e24 (row24.args .e) (rowH row24) with | .ok v h1 => (match v with | .tup l => oGet (slFirst l) false fun id => isCells (h1.get .e) row24.cells && (Nat.ble 1 id.nat && (row24.cells.all V.flat && resChk row24 id v h1)) | _ => false) | .no => false
theorem run24 : chk24 = true := by kernel_rfl
theorem does24 : ∃ id, row1Chk fs0 3000 e24 row24 id = true := by
  have h := run24
  unfold chk24 at h
  unfold row1Chk
  split at h
  · rename_i v h1 e
    split at h
    · obtain ⟨id, _, h2⟩ := oGet_some (by simp) h
      exact ⟨id, by rw [e]; exact h2⟩
    · cases h
  · cases h
noncomputable def n24 : EF := ⟨0, [], .no, some (row1G row24)⟩
theorem args24 : ∀ id, CArgs [id] (row24.args id) (row24.args .e) := fun _ => .cons (.flat rfl) (.cons (.sl1 _ _ _) .nil)
theorem outs24 : ∀ id k, CRes id k (row24.out id) (row24.out k) := fun _ _ => CRess.tup (.cons (.sl _ _ _) (.cons (.flat rfl) (.cons (.flat rfl) .nil)))
theorem nat24 : EntryOk rig (.z (.o (.o (.z .e)))) n24 := entry_does (n := 24) rfl Try.func24 (by kernel_rfl) (by kernel_rfl) (does24.elim fun _ h => row1_does fs0_ok code24 args24 outs24 h)
end Go.Proofs.Ytdmnejhjlmeodaa
