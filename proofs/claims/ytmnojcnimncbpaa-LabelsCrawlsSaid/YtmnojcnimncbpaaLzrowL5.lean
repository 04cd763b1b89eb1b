/-
  The ring of five has no labels.
-/
import Derived.Test.YtmnojcnimncbpaaLzS
import Derived.Test.YtmnojcnimncbpaaPe
namespace Go.Proofs.Ytmnojcnimncbpaa
open Go.Ev
noncomputable def ring5 : List (Int × Int) := [(0, 1), (0, 4), (1, 2), (2, 3), (3, 4)]
theorem ring_no : labsL 5 ring5 = [] := by
  have : (labsL 5 ring5).isEmpty = true := by kernel_rfl
  exact List.isEmpty_iff.1 this
theorem callsL0 : CallsL fs0 where
  c76 := by kernel_rfl
  c99 := by kernel_rfl
  c100 := by kernel_rfl
  c101 := by kernel_rfl
  c102 := by kernel_rfl
  c108 := by kernel_rfl
  c130 := by kernel_rfl
  c17 := by kernel_rfl
  c60 := by kernel_rfl
  c61 := by kernel_rfl
  c98 := by kernel_rfl
  c129 := by kernel_rfl
  c147 := by kernel_rfl
  c68 := by kernel_rfl
  c107 := by kernel_rfl
theorem ring_hc : HC (rowH rowL5) := by
  intro id hid
  have h1 : 1 ≤ id.nat := hid
  show (H.new ⟨.e, .nil⟩ _).get id = .dead
  rw [H.get_new, if_neg (fun e => by rw [e] at h1; exact absurd h1 (by decide))]
  show getB (T.get id T.nil) = _
  rw [T.get_nil]; rfl
theorem ring_srp : Srp (rowH rowL5) (.sl .e 0 5 2) ring5 := by
  refine .inr ⟨.e, 0, 10, rowL5.cells, rfl, .inl rfl, ?_⟩
  exact ⟨rfl, by decide, rfl⟩
theorem ring_ret : Ret fs0 f24 (rowL5.args .e) (rowH rowL5) fun v h1 => v = rowL5.out .e ∧ h1.get .e = (rowH rowL5).get .e := by
  refine (f24_ok (m := 5) callsL0 ring_srp ring_hc rfl).mono ?_
  rintro r h1 ⟨w, rfl, _, _, g, hw⟩
  rw [hw ring_no, ring_no]
  exact ⟨rfl, g.old _ (by decide)⟩
theorem ring_out : ∀ ι ι' x, VR ι (rowL5.out .e) x → VR ι' (rowL5.out .e) x := by
  intro ι ι' x hx
  have hx : VR ι (.tup [.sn, .b false, .i .i64 (.ofNat 0)]) x := hx
  show VR ι' (.tup [.sn, .b false, .i .i64 (.ofNat 0)]) x
  cases hx with
  | @tup cs vs hl hh =>
    refine VR.tup hl fun i h h' => ?_
    have hi := hh i h h'
    have h3 : i < 3 := h
    generalize vs[i] = y at hi
    match i, h3 with
    | 0, _ => have hi : VR ι .sn y := hi
              show VR ι' .sn y
              cases hi; exact .sn
    | 1, _ => have hi : VR ι (.b false) y := hi
              show VR ι' (.b false) y
              cases hi; exact .b _
    | 2, _ => have hi : VR ι (.i .i64 (.ofNat 0)) y := hi
              show VR ι' (.i .i64 (.ofNat 0)) y
              cases hi; exact .i _ _
theorem rowL5_does : ∀ args h v h', row2G rowL5 args h = some (v, h') → Does rig (K.ofNat 24) args h v h' :=
  row2_does (ef := f24) fs0_ok (show f24.nv = none ∧ ∃ fn c, FnOk rig (K.ofNat 24) f24 fn c from code24) (fun _ => CArgs.cons (.flat rfl) (CArgs.cons (.sl1 _ _ _) CArgs.nil)) (by kernel_rfl) ring_out ring_ret
end Go.Proofs.Ytmnojcnimncbpaa
