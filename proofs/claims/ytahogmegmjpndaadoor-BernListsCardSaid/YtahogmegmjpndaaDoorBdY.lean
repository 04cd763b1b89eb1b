/-
  BernLists returns true, whatever the input, and what it was given reads as it did. The package-level variables that its row lists hold what the program's text lays; nothing else is asked.
-/
import Derived.Test.YtahogmegmjpndaaDoorBdG
import Derived.Test.YtahogmegmjpndaaDoorPd
import Derived.Test.YtahogmegmjpndaaDoorCards
import Derived.Test.YtahogmegmjpndaaDoorTie
import Derived.Lay
import Derived.Handy
import Derived.SevenTiedAt
namespace Go.Proofs.YtahogmegmjpndaaDoor
open Go.Ev
open Go.ChangeShapes Go.WideShapes Go.ChangeAt Go.RowKit

theorem shut_b {H : Type} {enc : TypeId × Value → H} {W : World} {base : Nat} {sp : Nat → Bool} {held : Bool} (b : Bool) : DataW.Trod enc Tryd.prog W base sp held 4 (.bool b) (.lit (.bool b)) [] := ⟨1, by simp [DataW.trod, Value.cells, Tryd.underlying4]⟩
theorem Tryd.own : ownKnob Tryd.prog.godebug = none := by kernel_rfl
set_option maxRecDepth 100000 in
theorem bernLists_lifted (os : Os) (started : os.Started) (H : Type) (enc : TypeId × Value → H) :
    ReturnsInHanded {} Tryd.checked os 6 .any (fun w args => (Rows.bernListsSpec.pre enc Tryd.prog Tryd.f6 [] false w args ∧ laidMetH Tryd.prog laidL w) ∧ sizedMet enc Tryd.prog Tryd.f6 (OpenSpec.ofChange Rows.bernListsSpec) false w args)
      (Rows.bernListsSpec.post enc Tryd.prog Tryd.f6 false true false false) := by
  refine returnsInHanded_of_change_and (C := Tryd.checked) (X := fun w _ => laidMetH Tryd.prog laidL w) (fun _ _ _ hh h => h.of_heap hh) Tryd.own started (by kernel_rfl) Tryd.func6
    (ChangeSpec.witness_shaped (enc := enc) (C := Tryd.checked) (os := os) (X := fun w _ => laidMetH Tryd.prog laidL w) false (World.laidAll Tryd.prog os laidL) #[.slice none 0 0, .agg #[.int .i64 0, .int .i64 0]] 8 (World.laidAll_os _ _ _)
      (World.shaped_of_ZipB (by kernel_rfl) (by kernel_rfl)) (by kernel_rfl) (by kernel_rfl) (by kernel_rfl)
      (by rw [MakeChecks.laidMetH_plain _ _ _ (by kernel_rfl)]; exact laidMet_laidAll _ (by kernel_rfl) (by kernel_rfl))) ?_
  intro W base args ds gs before hval0 hW _ _ hL _
  have hval : ∀ (j : Nat) t v, Tryd.f6.params[j]? = some t → args[j]? = some v → Value.okWide Tryd.prog W .any base t v := hval0
  have hW' := hW
  obtain ⟨p, q, hA0, hV, rfl, hfz, hnd⟩ := hW
  have hA : DataW.TrodAll enc Tryd.prog W 0 (fun _ => true) true Tryd.f6.params.toList args.toList ds p := hA0
  rw [Tryd.params6] at hA hval
  obtain ⟨v0, v1, d0, d1, p0, p1, rfl, rfl, rfl, h0, h1⟩ := trodAll_two hA
  obtain ⟨rfl, rfl⟩ := trodVars_none hV
  have c3 : Tryd.prog.cellsOf 3 = 1 := by kernel_rfl
  have ce2 : Tryd.prog.cellsOf 2 = 1 := by kernel_rfl
  have ca23 : Tryd.prog.cellsOf 23 = 2 := by kernel_rfl
  have ce2 : Tryd.prog.cellsOf 2 = 1 := by kernel_rfl
  have ca23 : Tryd.prog.cellsOf 23 = 2 := by kernel_rfl
  obtain ⟨L0, z0, hs0, hb0, hback0⟩ := trod_slArg2w Tryd.underlying34 Tryd.underlying23 Tryd.underlying2 ce2 ca23 (hval 0 34 v0 rfl rfl) h0 (ps := p0) (fun x hx => hx) (fun bb off hm => hfz bb off (by simp [hm]))
  obtain ⟨x1_0, x1_1, rfl⟩ := open_a2 Tryd.underlying23 Tryd.underlying2 ce2 ca23 (hval 1 23 v1 rfl rfl) h1
  have hback1 := fun W' (_ : Below W.heap.size W W') => (Plain.sameR (W' := W') (plain_arr Tryd.underlying23 (plain_int Tryd.underlying2))).trod h1
  clear hA0 hval0
  simp only [List.append_nil] at hW'
  refine (law_call (glob hL) hs0 hb0 x1_0 x1_1).mono fun e W' ⟨he, hnx⟩ => ?_
  subst he
  exact ⟨_, rfl, _, _, _, [], _, [], hW', trodAll_mk1 (shut_b true), trodAll_mk2 (hback0 W' hnx) (hback1 W' hnx), rfl, hnx.frame _, fun h => by cases h⟩
theorem bernLists_row : Rows.BernListsSaid :=
  OpenClaim.holds_of_wide 6 Tryd.f6 rfl rfl rfl rfl rfl rfl rfl ⟨rfl, rfl, rfl, rfl, rfl⟩ rfl rfl rfl rfl rfl (by kernel_rfl) Tryd.func6 (by kernel_rfl)
    (of_decide_eq_true (by kernel_rfl)) (by unfold Func.isWrapper; first | (rw [if_pos (by decide +kernel)]; kernel_rfl) | (rw [if_neg (by decide +kernel)]; exact ⟨rfl, rfl⟩))
    (fun os started H enc _ => bernLists_lifted os started H enc)
theorem bernLists_holds : Rows.BernListsCardSaid :=
  Claim7.holds_tied_plain_at .later [] [.data, .data] true (true, "d5458fe95d9d93f7ed7b53cd1ca151ead7f56d8797dd0002f004e05b68eb62b2") false bernLists_row (fun _ h => by cases h) (by kernel_rfl) (fun _ h => by cases h) bernLists_row_tie rfl ⟨rfl, rfl⟩ (by kernel_rfl) rfl
    (fun f fn hf hfn => by
      obtain rfl : f = 6 := Option.some.inj ((show Tryd.prog.funcNamed "girouette/girouettelaw08.BernLists" = some 6 by kernel_rfl).symm.trans hf) |>.symm
      obtain rfl : fn = Tryd.f6 := (Option.some.inj (Tryd.func6.symm.trans hfn)).symm
      exact ⟨by kernel_rfl, fun j t ht => by
        rw [Tryd.params6] at ht
        have hm : t ∈ [34, 23] := by simpa using Array.mem_of_getElem? ht
        have hall : ([34, 23].all fun u => !Tryd.prog.wantsStandIn u) = true := by kernel_rfl
        exact (show Tryd.prog.wantsStandIn t = false by simpa using List.all_eq_true.1 hall t hm)⟩)
    (by kernel_rfl)
end Go.Proofs.YtahogmegmjpndaaDoor
