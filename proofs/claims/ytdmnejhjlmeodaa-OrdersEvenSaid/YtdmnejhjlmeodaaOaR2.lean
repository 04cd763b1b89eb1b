/-
  awake: Count.
-/
import Derived.Test.YtdmnejhjlmeodaaOaD
namespace Go.Proofs.Ytdmnejhjlmeodaa
open Go.Ev
open Go.RowKit
noncomputable def row31 : CRow := ⟨fun id => [.i .i64 (.ofNat 4), .sl id 0 4 2], [.i .i64 (.ofNat 0), .i .i64 (.ofNat 1), .i .i64 (.ofNat 0), .i .i64 (.ofNat 3), .i .i64 (.ofNat 1), .i .i64 (.ofNat 2), .i .i64 (.ofNat 2), .i .i64 (.ofNat 3)], [], fun _ => .tup [.i .i64 (.ofNat 2), .i .i64 (.ofNat 0)]⟩
noncomputable def chk31 : Bool := match callF (eval fs0 3000) e31 (row31.args .e) (rowH row31) with | .ok v h1 => beqR v (row31.out .e) && isCells (h1.get .e) row31.cells | .no => false
theorem run31 : chk31 = true := by kernel_rfl
theorem does31 : Ret fs0 e31 (row31.args .e) (rowH row31) fun v h1 => v = row31.out .e ∧ h1.get .e = (rowH row31).get .e := by
  have h := run31
  unfold chk31 at h
  split at h
  · rename_i v h1 e
    rw [Bool.and_eq_true] at h
    exact ⟨3000, _, _, e, beqR_eq h.1, isCells_eq h.2⟩
  · cases h
noncomputable def n31 : EF := ⟨0, [], .no, some (row2G row31)⟩
theorem args31 : ∀ id, CArgs [id] (row31.args id) (row31.args .e) := fun _ => .cons (.flat rfl) (.cons (.sl1 _ _ _) .nil)
theorem outs31 : ∀ ι ι' x, VR ι (row31.out .e) x → VR ι' (row31.out .e) x := fun ι ι' x h => by
  cases h with
  | tup hl h => exact .tup hl (fun i h1 h2 => by
      have := h i h1 h2
      obtain rfl | rfl : i = 0 ∨ i = 1 := by have : i < 2 := h1; omega
      · exact VR.flat rfl this
      · exact VR.flat rfl this)
theorem nat31 : EntryOk rig (.o (.o (.o (.o (.o .e))))) n31 := entry_does (n := 31) rfl Try.func31 (by kernel_rfl) (by kernel_rfl) (row2_does fs0_ok code31 args31 rfl outs31 does31)
end Go.Proofs.Ytdmnejhjlmeodaa
