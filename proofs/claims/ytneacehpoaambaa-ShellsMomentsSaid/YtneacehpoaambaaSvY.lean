/-
  ShellsMoments returns true, whatever the input, and what it was given reads as it did.
-/
import Derived.Test.YtneacehpoaambaaSvG
import Derived.Test.YtneacehpoaambaaSvM00
import Derived.Test.YtneacehpoaambaaSvM10
import Derived.Test.YtneacehpoaambaaSvM11
import Derived.Test.YtneacehpoaambaaSvM20
import Derived.Test.YtneacehpoaambaaSvM21
import Derived.Test.YtneacehpoaambaaSvM22
import Derived.Test.YtneacehpoaambaaSvM30
import Derived.Test.YtneacehpoaambaaSvM31
import Derived.Test.YtneacehpoaambaaSvM32
import Derived.Test.YtneacehpoaambaaSvM33
import Derived.ProofKit
import Derived.SizedLaws
namespace Go.Proofs.Ytneacehpoaambaa
open Go.Ev
open Go.ChangeShapes Go.WideShapes Go.ChangeAt Go.RowKit

theorem mom_of {r s : Nat} (h2 : ∀ n d, eval fs2 2997 none mr2 (f1 n d (.ofNat r)) h00 = .ok .normal (f2 r n d (Int.tmod (fw .u64 d) (.ofNat (r + 1)))) h00)
    (h3 : ∀ n d, f2 r n d (.ofNat s) = g r s (.i .i64 n) (.i .u64 (fw .u64 n)) (.i .i64 d) (.i .u64 (fw .u64 d))) (h4 : ∀ x1 x2 y1 y2, restOk r s x1 x2 y1 y2 = true) (n d : Int) (hn : Int.tmod (fw .u64 n) (.ofNat 4) = .ofNat r) (hd : Int.tmod (fw .u64 d) (.ofNat (r + 1)) = .ofNat s) :
    givesB fs2 3000 e12 [.i .i64 n, .i .i64 d] (.b true) = true := by
  have e1 := mom1 n d
  rw [hn] at e1
  have e2 := h2 n d
  rw [hd, h3] at e2
  have e3 := (seq_ok (B := .seq mr1 (.seq mr2 mrest)) (mom0 n d)).trans ((seq_ok (B := .seq mr2 mrest) e1).trans (seq_ok (B := mrest) e2))
  have h5 := h4 (.i .i64 n) (.i .u64 (fw .u64 n)) (.i .i64 d) (.i .u64 (fw .u64 d))
  unfold givesB
  unfold restOk at h5
  rw [law_eq] at h5 ⊢
  rw [show (⟨.e, .nil⟩ : H) = h00 from rfl, callF_of rfl e3]
  exact h5
theorem momEval (n d : Int) : givesB fs2 3000 e12 [.i .i64 n, .i .i64 d] (.b true) = true := by
  obtain ⟨r, hr, hn⟩ := fu64 n (k := 4) (by decide)
  obtain ⟨s, hs, hd⟩ := fu64 d (k := r + 1) (by omega)
  have hr' : r = 0 ∨ r = 1 ∨ r = 2 ∨ r = 3 := by omega
  rcases hr' with rfl | rfl | rfl | rfl
  · obtain rfl : s = 0 := by omega
    exact mom_of mom2_0 (fun n d => by kernel_rfl) rest00 n d hn hd
  · have hs' : s = 0 ∨ s = 1 := by omega
    rcases hs' with rfl | rfl
    · exact mom_of mom2_1 (fun n d => by kernel_rfl) rest10 n d hn hd
    · exact mom_of mom2_1 (fun n d => by kernel_rfl) rest11 n d hn hd
  · have hs' : s = 0 ∨ s = 1 ∨ s = 2 := by omega
    rcases hs' with rfl | rfl | rfl
    · exact mom_of mom2_2 (fun n d => by kernel_rfl) rest20 n d hn hd
    · exact mom_of mom2_2 (fun n d => by kernel_rfl) rest21 n d hn hd
    · exact mom_of mom2_2 (fun n d => by kernel_rfl) rest22 n d hn hd
  · have hs' : s = 0 ∨ s = 1 ∨ s = 2 ∨ s = 3 := by omega
    rcases hs' with rfl | rfl | rfl | rfl
    · exact mom_of mom2_3 (fun n d => by kernel_rfl) rest30 n d hn hd
    · exact mom_of mom2_3 (fun n d => by kernel_rfl) rest31 n d hn hd
    · exact mom_of mom2_3 (fun n d => by kernel_rfl) rest32 n d hn hd
    · exact mom_of mom2_3 (fun n d => by kernel_rfl) rest33 n d hn hd
theorem mom_call (n d : Int) (w : World) : Calls Try.prog 12 #[.int .i64 n, .int .i64 d] w fun e w' => e = .returned (.bool true) ∧ Below w.heap.size w w' := by
  have hg := gives_of_eval fs2_ok code12 rfl rfl (momEval n d) (fun _ => none) [.int .i64 n, .int .i64 d] w (VRs.cons (.i _ _) (VRs.cons (.i _ _) VRs.nil))
  refine (callsIn_wide.1 hg).mono ?_
  rintro e w' ⟨v', rfl, hv, h1, h2, h3, h4, h5⟩
  have := (hv fun _ => none).of_b
  subst this
  exact ⟨rfl, h1, h2, h3, h4, h5⟩

theorem shut_b {H : Type} {enc : TypeId × Value → H} {W : World} {base : Nat} {sp : Nat → Bool} {held : Bool} (b : Bool) : DataW.Trod enc Try.prog W base sp held 4 (.bool b) (.lit (.bool b)) [] := ⟨1, by simp [DataW.trod, Value.cells, Try.underlying4]⟩
theorem Try.own : ownKnob Try.prog.godebug = none := by kernel_rfl
set_option maxRecDepth 100000 in
theorem shellsMoments_lifted (os : Os) (started : os.Started) (H : Type) (enc : TypeId × Value → H) :
    ReturnsInHanded {} Try.checked os 12 .any (Rows.shellsMomentsSpec.pre6 enc Try.prog Try.f12 Rows.shellsMomentsRow.domain false) (Rows.shellsMomentsSpec.post enc Try.prog Try.f12 false true false false) := by
  refine returnsInHanded_of_change (C := Try.checked) Try.own started (by kernel_rfl) Try.func12
    (ChangeSpec.witness6 (enc := enc) (C := Try.checked) false ⟨#[], #[.int .i64 0, .int .i64 0], []⟩ 8 (by kernel_rfl) (by kernel_rfl) (by kernel_rfl) (by kernel_rfl)) ?_
  intro W base args ds gs before hval0 hW hcnd _
  have hval : ∀ (j : Nat) t v, Try.f12.params[j]? = some t → args[j]? = some v → Value.okWide Try.prog W .any base t v := hval0
  have hW' := hW
  obtain ⟨p, q, hA0, hV, rfl, hfz, hnd⟩ := hW
  have hA : DataW.TrodAll enc Try.prog W 0 (fun _ => true) true Try.f12.params.toList args.toList ds p := hA0
  rw [Try.params12] at hA hval
  obtain ⟨v0, v1, d0, d1, p0, p1, rfl, rfl, rfl, h0, h1⟩ := trodAll_two hA
  obtain ⟨rfl, rfl⟩ := trodVars_none hV
  obtain ⟨a, rfl, rfl, rfl, wa⟩ := open_int Try.underlying3 (hval 0 3 v0 rfl rfl) h0
  obtain ⟨b, rfl, rfl, rfl, wb⟩ := open_int Try.underlying3 (hval 1 3 v1 rfl rfl) h1
  clear hA0 hval0
  simp only [List.append_nil] at hW'
  refine (mom_call a b W).mono fun e W' ⟨he, hnx⟩ => ?_
  subst he
  exact ⟨_, rfl, _, _, _, [], [], [], hW', trodAll_mk1 (shut_b true), trodAll_mk2 (shut_int Try.underlying3 wa) (shut_int Try.underlying3 wb), rfl, hnx.frame _, fun h => by cases h⟩
theorem shellsMoments_holds : Rows.ShellsMomentsSaid :=
  OpenClaim.holds_of_wide 12 Try.f12 rfl rfl rfl rfl rfl rfl rfl ⟨rfl, rfl, rfl, rfl, rfl⟩ rfl rfl rfl rfl rfl (by kernel_rfl) Try.func12 (by kernel_rfl)
    (of_decide_eq_true (by kernel_rfl)) (by unfold Func.isWrapper; first | (rw [if_pos (by decide +kernel)]; kernel_rfl) | (rw [if_neg (by decide +kernel)]; exact ⟨rfl, rfl⟩))
    (fun os started H enc _ => shellsMoments_lifted os started H enc)
end Go.Proofs.Ytneacehpoaambaa
