/-
  Labels: the reference's Graceful; IsGraceful.
  Labels: IsGraceful, Turned, of the program and of the reference.
  Labels: the reference's search: it gives some labels, whichever.
  Labels: the reference's Parts; its search gives some labels.
  Labels: Parts.
  Labels: tame makes a graph.
  Labels: the law LabelsTells.
  Labels: the reference's Check.
  Labels: what the reference's search goes through is what the program goes through.
  Labels: the reference's search, whole.
  Labels: the first labels that part; the law LabelsFirst.
  The evaluator, weakest preconditions: what follows may be weakened.
  The evaluator, weakest preconditions: a store into a slice of pairs; slices of slices of pairs.
  Labels: the copies.
  Labels: the copies, gathered.
  Labels: sums of differences; sides; complete graphs.
  Labels: complete graphs of two to five nodes.
  Labels: the law LabelsParity.
-/
import Derived.Test.YtmnojcnimncbpaaPe
import Derived.Test.YtmnojcnimncbpaaPd
import Derived.KernelRfl
namespace Go.Ev
open Go Go.RowKit
noncomputable def f32_r0 : List EOper := [⟨(some (K.ofNat 6)), none, .as (.c (.b false))⟩]
noncomputable def f32_r1 : List EOper := [⟨(some (K.ofNat 13)), none, .mv (.t (K.ofNat 2))⟩, ⟨(some (K.ofNat 14)), none, .len (.t (K.ofNat 13))⟩, ⟨(some (K.ofNat 15)), none, .mv (.t (K.ofNat 0))⟩, ⟨(some (K.ofNat 16)), none, .bin .neq (.t (K.ofNat 14)) (.t (K.ofNat 15))⟩]
noncomputable def f32_r2 : List EOper := [⟨(some (K.ofNat 6)), none, .as (.c (.b false))⟩]
noncomputable def f32_r3 : List EOper := [⟨(some (K.ofNat 17)), none, .mv (.t (K.ofNat 1))⟩, ⟨(some (K.ofNat 18)), none, .len (.t (K.ofNat 17))⟩, ⟨(some (K.ofNat 7)), none, .as (.t (K.ofNat 18))⟩]
noncomputable def f32_r4 : List EOper := [⟨(some (K.ofNat 8)), none, .as (.c (.i .i64 (.ofNat 0)))⟩]
noncomputable def f32_r5 : List EOper := [⟨(some (K.ofNat 19)), none, .mv (.t (K.ofNat 8))⟩, ⟨(some (K.ofNat 20)), none, .mv (.t (K.ofNat 0))⟩, ⟨(some (K.ofNat 21)), none, .bin .lss (.t (K.ofNat 19)) (.t (K.ofNat 20))⟩]
noncomputable def f32_r6 : List EOper := [⟨(some (K.ofNat 24)), none, .mv (.t (K.ofNat 2))⟩, ⟨(some (K.ofNat 25)), none, .mv (.t (K.ofNat 8))⟩, ⟨(some (K.ofNat 26)), none, .iads 1 (.t (K.ofNat 24)) (.t (K.ofNat 25))⟩, ⟨(some (K.ofNat 27)), none, .ld (.t (K.ofNat 26))⟩, ⟨(some (K.ofNat 28)), none, .bin .lss (.t (K.ofNat 27)) (.c (.i .i64 (.ofNat 0)))⟩, ⟨(some (K.ofNat 29)), none, .mv (.t (K.ofNat 28))⟩, ⟨(some (K.ofNat 30)), (some ((K.ofNat 29), false)), .mv (.t (K.ofNat 2))⟩, ⟨(some (K.ofNat 31)), (some ((K.ofNat 29), false)), .mv (.t (K.ofNat 8))⟩, ⟨(some (K.ofNat 32)), (some ((K.ofNat 29), false)), .iads 1 (.t (K.ofNat 30)) (.t (K.ofNat 31))⟩, ⟨(some (K.ofNat 33)), (some ((K.ofNat 29), false)), .ld (.t (K.ofNat 32))⟩, ⟨(some (K.ofNat 34)), (some ((K.ofNat 29), false)), .mv (.t (K.ofNat 7))⟩, ⟨(some (K.ofNat 35)), (some ((K.ofNat 29), false)), .bin .gtr (.t (K.ofNat 33)) (.t (K.ofNat 34))⟩, ⟨(some (K.ofNat 36)), none, .pick (.t (K.ofNat 29)) (.c (.b true)) (.t (K.ofNat 35))⟩]
noncomputable def f32_r7 : List EOper := [⟨(some (K.ofNat 6)), none, .as (.c (.b false))⟩]
noncomputable def f32_r8 : List EOper := [⟨(some (K.ofNat 9)), none, .as (.c (.i .i64 (.ofNat 0)))⟩]
noncomputable def f32_r9 : List EOper := [⟨(some (K.ofNat 37)), none, .mv (.t (K.ofNat 9))⟩, ⟨(some (K.ofNat 38)), none, .mv (.t (K.ofNat 8))⟩, ⟨(some (K.ofNat 39)), none, .bin .lss (.t (K.ofNat 37)) (.t (K.ofNat 38))⟩]
noncomputable def f32_r10 : List Stage := [⟨[⟨(some (K.ofNat 42)), none, .mv (.t (K.ofNat 2))⟩, ⟨(some (K.ofNat 43)), none, .mv (.t (K.ofNat 9))⟩, ⟨(some (K.ofNat 44)), none, .iads 1 (.t (K.ofNat 42)) (.t (K.ofNat 43))⟩, ⟨(some (K.ofNat 45)), none, .ld (.t (K.ofNat 44))⟩, ⟨(some (K.ofNat 46)), none, .mv (.t (K.ofNat 2))⟩, ⟨(some (K.ofNat 47)), none, .mv (.t (K.ofNat 8))⟩, ⟨(some (K.ofNat 48)), none, .iads 1 (.t (K.ofNat 46)) (.t (K.ofNat 47))⟩, ⟨(some (K.ofNat 49)), none, .ld (.t (K.ofNat 48))⟩, ⟨(some (K.ofNat 50)), none, .bin .eql (.t (K.ofNat 45)) (.t (K.ofNat 49))⟩], [], none, []⟩]
noncomputable def f32_r11 : List EOper := [⟨(some (K.ofNat 6)), none, .as (.c (.b false))⟩]
noncomputable def f32_r12 : List EOper := [⟨(some (K.ofNat 40)), none, .mv (.t (K.ofNat 9))⟩, ⟨(some (K.ofNat 41)), none, .bin .add (.t (K.ofNat 40)) (.c (.i .i64 (.ofNat 1)))⟩, ⟨(some (K.ofNat 9)), none, .as (.t (K.ofNat 41))⟩]
noncomputable def f32_l0 : EC := (.seq (.seq (.reg f32_r9) (.cond (.t (K.ofNat 39)) .skip (.exit 2))) (.seq (.block 3 (.seq (.draw f32_r10) (.cond (.t (K.ofNat 50)) (.seq (.reg f32_r11) .ret) .skip))) (.reg f32_r12)))
noncomputable def f32_r13 : List EOper := [⟨(some (K.ofNat 22)), none, .mv (.t (K.ofNat 8))⟩, ⟨(some (K.ofNat 23)), none, .bin .add (.t (K.ofNat 22)) (.c (.i .i64 (.ofNat 1)))⟩, ⟨(some (K.ofNat 8)), none, .as (.t (K.ofNat 23))⟩]
noncomputable def f32_l1 : EC := (.seq (.seq (.reg f32_r5) (.cond (.t (K.ofNat 21)) .skip (.exit 0))) (.seq (.block 1 (.seq (.seq (.reg f32_r6) (.cond (.t (K.ofNat 36)) (.seq (.reg f32_r7) .ret) .skip)) (.seq (.reg f32_r8) (.block 2 (.loop f32_l0))))) (.reg f32_r13)))
noncomputable def f32_r14 : List EOper := [⟨(some (K.ofNat 51)), none, .mv (.t (K.ofNat 7))⟩, ⟨(some (K.ofNat 52)), none, .bin .add (.t (K.ofNat 51)) (.c (.i .i64 (.ofNat 1)))⟩, ⟨(some (K.ofNat 53)), none, .mkslice 1 [(.b false)] (.t (K.ofNat 52))⟩, ⟨(some (K.ofNat 10)), none, .as (.t (K.ofNat 53))⟩]
noncomputable def f32_r15 : List EOper := [⟨(some (K.ofNat 11)), none, .as (.c (.i .i64 (.ofNat 0)))⟩]
noncomputable def f32_r16 : List EOper := [⟨(some (K.ofNat 54)), none, .mv (.t (K.ofNat 11))⟩, ⟨(some (K.ofNat 55)), none, .mv (.t (K.ofNat 7))⟩, ⟨(some (K.ofNat 56)), none, .bin .lss (.t (K.ofNat 54)) (.t (K.ofNat 55))⟩]
noncomputable def f32_r17 : List Stage := [⟨[⟨(some (K.ofNat 59)), none, .mv (.t (K.ofNat 2))⟩, ⟨(some (K.ofNat 60)), none, .mv (.t (K.ofNat 1))⟩, ⟨(some (K.ofNat 61)), none, .mv (.t (K.ofNat 11))⟩, ⟨(some (K.ofNat 62)), none, .iads 2 (.t (K.ofNat 60)) (.t (K.ofNat 61))⟩, ⟨(some (K.ofNat 63)), none, .iadr 2 1 (.t (K.ofNat 62)) (.c (.i .i64 (.ofNat 0)))⟩, ⟨(some (K.ofNat 64)), none, .ld (.t (K.ofNat 63))⟩, ⟨(some (K.ofNat 65)), none, .iads 1 (.t (K.ofNat 59)) (.t (K.ofNat 64))⟩, ⟨(some (K.ofNat 66)), none, .ld (.t (K.ofNat 65))⟩, ⟨(some (K.ofNat 67)), none, .mv (.t (K.ofNat 2))⟩, ⟨(some (K.ofNat 68)), none, .mv (.t (K.ofNat 1))⟩, ⟨(some (K.ofNat 69)), none, .mv (.t (K.ofNat 11))⟩, ⟨(some (K.ofNat 70)), none, .iads 2 (.t (K.ofNat 68)) (.t (K.ofNat 69))⟩, ⟨(some (K.ofNat 71)), none, .iadr 2 1 (.t (K.ofNat 70)) (.c (.i .i64 (.ofNat 1)))⟩, ⟨(some (K.ofNat 72)), none, .ld (.t (K.ofNat 71))⟩, ⟨(some (K.ofNat 73)), none, .iads 1 (.t (K.ofNat 67)) (.t (K.ofNat 72))⟩, ⟨(some (K.ofNat 74)), none, .ld (.t (K.ofNat 73))⟩, ⟨(some (K.ofNat 75)), none, .bin .sub (.t (K.ofNat 66)) (.t (K.ofNat 74))⟩, ⟨(some (K.ofNat 76)), none, .mv (.t (K.ofNat 2))⟩, ⟨(some (K.ofNat 77)), none, .mv (.t (K.ofNat 1))⟩, ⟨(some (K.ofNat 78)), none, .mv (.t (K.ofNat 11))⟩, ⟨(some (K.ofNat 79)), none, .iads 2 (.t (K.ofNat 77)) (.t (K.ofNat 78))⟩, ⟨(some (K.ofNat 80)), none, .iadr 2 1 (.t (K.ofNat 79)) (.c (.i .i64 (.ofNat 1)))⟩, ⟨(some (K.ofNat 81)), none, .ld (.t (K.ofNat 80))⟩, ⟨(some (K.ofNat 82)), none, .iads 1 (.t (K.ofNat 76)) (.t (K.ofNat 81))⟩, ⟨(some (K.ofNat 83)), none, .ld (.t (K.ofNat 82))⟩, ⟨(some (K.ofNat 84)), none, .mv (.t (K.ofNat 2))⟩, ⟨(some (K.ofNat 85)), none, .mv (.t (K.ofNat 1))⟩, ⟨(some (K.ofNat 86)), none, .mv (.t (K.ofNat 11))⟩, ⟨(some (K.ofNat 87)), none, .iads 2 (.t (K.ofNat 85)) (.t (K.ofNat 86))⟩, ⟨(some (K.ofNat 88)), none, .iadr 2 1 (.t (K.ofNat 87)) (.c (.i .i64 (.ofNat 0)))⟩, ⟨(some (K.ofNat 89)), none, .ld (.t (K.ofNat 88))⟩, ⟨(some (K.ofNat 90)), none, .iads 1 (.t (K.ofNat 84)) (.t (K.ofNat 89))⟩, ⟨(some (K.ofNat 91)), none, .ld (.t (K.ofNat 90))⟩, ⟨(some (K.ofNat 92)), none, .bin .sub (.t (K.ofNat 83)) (.t (K.ofNat 91))⟩, ⟨(some (K.ofNat 93)), none, .max (.t (K.ofNat 75)) (.t (K.ofNat 92))⟩], [], (some ⟨(some (K.ofNat 12)), none, .as (.t (K.ofNat 93))⟩), []⟩, ⟨[], [], none, []⟩]
noncomputable def f32_r18 : List EOper := [⟨(some (K.ofNat 94)), none, .mv (.t (K.ofNat 10))⟩, ⟨(some (K.ofNat 95)), none, .mv (.t (K.ofNat 12))⟩, ⟨(some (K.ofNat 96)), none, .iads 1 (.t (K.ofNat 94)) (.t (K.ofNat 95))⟩, ⟨(some (K.ofNat 97)), none, .ld (.t (K.ofNat 96))⟩]
noncomputable def f32_r19 : List EOper := [⟨(some (K.ofNat 6)), none, .as (.c (.b false))⟩]
noncomputable def f32_r20 : List EOper := [⟨(some (K.ofNat 98)), none, .mv (.t (K.ofNat 10))⟩, ⟨(some (K.ofNat 99)), none, .mv (.t (K.ofNat 12))⟩, ⟨(some (K.ofNat 100)), none, .iads 1 (.t (K.ofNat 98)) (.t (K.ofNat 99))⟩, ⟨none, none, .st 1 (.t (K.ofNat 100)) (.c (.b true))⟩]
noncomputable def f32_r21 : List EOper := [⟨(some (K.ofNat 57)), none, .mv (.t (K.ofNat 11))⟩, ⟨(some (K.ofNat 58)), none, .bin .add (.t (K.ofNat 57)) (.c (.i .i64 (.ofNat 1)))⟩, ⟨(some (K.ofNat 11)), none, .as (.t (K.ofNat 58))⟩]
noncomputable def f32_l2 : EC := (.seq (.seq (.reg f32_r16) (.cond (.t (K.ofNat 56)) .skip (.exit 4))) (.seq (.block 5 (.seq (.draw f32_r17) (.seq (.seq (.reg f32_r18) (.cond (.t (K.ofNat 97)) (.seq (.reg f32_r19) .ret) .skip)) (.reg f32_r20)))) (.reg f32_r21)))
noncomputable def f32_r22 : List EOper := [⟨(some (K.ofNat 6)), none, .as (.c (.b true))⟩]
noncomputable def f32_c : EC := (.seq (.reg f32_r0) (.seq (.seq (.reg f32_r1) (.cond (.t (K.ofNat 16)) (.seq (.reg f32_r2) .ret) .skip)) (.seq (.reg f32_r3) (.seq (.seq (.reg f32_r4) (.block 0 (.loop f32_l1))) (.seq (.reg f32_r14) (.seq (.seq (.reg f32_r15) (.block 4 (.loop f32_l2))) (.seq (.reg f32_r22) .ret)))))))
noncomputable def f32 : EF := ⟨101, [.tmp (K.ofNat 6)], f32_c, none⟩
theorem f32_rs : f32.rs = [.tmp (K.ofNat 6)] := of_eq_true (eq_self _)
theorem mks_b {h : H} {k : IntKind} {n : Nat} (hn : n ≤ 1000000) : mksV 1 [.b false] h (.i k (n : Int)) = .ok (.sl h.nx 0 n 1) (h.new (.cells (n * 1) (rep [.b false] n))) := by
  show (bif Nat.ble n 1000000 then RV.ok (.sl h.nx 0 n 1) (h.new (.cells (n * 1) (rep [.b false] n))) else .no) = _
  rw [Nat.ble_eq_true_of_le hn]; rfl
theorem mksb_sl {h : H} {n : Nat} : Sl V.b (h.new (.cells (n * 1) (rep [.b false] n))) (.sl h.nx 0 n 1) (List.replicate n false) :=
  .inr ⟨h.nx, 0, n * 1, rep [.b false] n, by rw [List.length_replicate], get_new_same, by rw [rep_cell, List.length_replicate, Nat.mul_one], by rw [List.length_replicate]; omega, fun i hi => by
    have hi : i < n := by simpa using hi
    rw [rep_cell, Nat.zero_add, List.getElem?_replicate, if_pos hi, List.getElem_replicate]⟩
section
variable {fs : T EF} {ro : Option K} {h : H} {v w : V} {n : Nat} {E : List (Int × Int)} {L : List Int}
def f32_I (h : H) (n : Nat) (v w : V) (E : List (Int × Int)) (L : List Int) (j : Nat) (fr : Fr) (h1 : H) : Prop := j ≤ L.length ∧ h1 = h ∧ (∀ i, i < j → labOk1 (E.length : Int) L i = true) ∧ fr.get (K.ofNat 0) = some (.i .i64 (n : Int)) ∧ fr.get (K.ofNat 1) = some (v) ∧ fr.get (K.ofNat 2) = some (w) ∧ fr.get (K.ofNat 7) = some (.i .i64 (E.length : Int)) ∧ fr.get (K.ofNat 8) = some (.i .i64 (j : Int))
def f32_K (h : H) (n : Nat) (v w : V) (E : List (Int × Int)) (L : List Int) (j : Nat) (i : Nat) (fr : Fr) (h1 : H) : Prop := i ≤ j ∧ h1 = h ∧ L.getD j 0 ∉ L.take i ∧ fr.get (K.ofNat 0) = some (.i .i64 (n : Int)) ∧ fr.get (K.ofNat 1) = some (v) ∧ fr.get (K.ofNat 2) = some (w) ∧ fr.get (K.ofNat 7) = some (.i .i64 (E.length : Int)) ∧ fr.get (K.ofNat 8) = some (.i .i64 (j : Int)) ∧ fr.get (K.ofNat 9) = some (.i .i64 (i : Int))
def f32_J (h : H) (v w u : V) (E : List (Int × Int)) (L : List Int) (j : Nat) (fr : Fr) (h1 : H) : Prop := j ≤ E.length ∧ Grow h.nx.nat h h1 ∧ (∃ B : List Bool, B.length = E.length + 1 ∧ Met E L j B ∧ Sl V.b h1 u B) ∧ (∀ i, i < j → difOk1 E L i = true) ∧ fr.get (K.ofNat 1) = some (v) ∧ fr.get (K.ofNat 2) = some (w) ∧ fr.get (K.ofNat 7) = some (.i .i64 (E.length : Int)) ∧ fr.get (K.ofNat 10) = some (u) ∧ fr.get (K.ofNat 11) = some (.i .i64 (j : Int))
theorem f32_ret (hv : Srp h v E) (hw : Sr iE h w L) (hc : HC h) (hE : EdgesOk n E) (hL : L.length ≤ 1000000) : Ret fs f32 [.i .i64 (n : Int), v, w] h fun r h' => r = .b (grB (n : Int) E L) ∧ Grow h.nx.nat h h' := by
  apply ret_of rfl
  show W fs none f32_c _ _ _
  unfold f32_c
  have hl := hw.len
  have hE10 : E.length ≤ 10 := hE.1
  by_cases hn : L.length = n
  · have d0 : decide ((L.length : Int) ≠ (n : Int)) = false := by simp; omega
    have e0 : decide ((L.length : Int) = (n : Int)) = true := by simp; omega
    simp (disch := omega) only [f32_r0, f32_r1, f32_r3, f32_r4, w_skip, w_reg, w_seq, w_cond, w_block, seqK_n, ckB_b, cbB_b, true_and, x_nil, x_mv, x_as, x_bin, x_len, kx, rvP_ok, okv_some, ev_t, ev_c, getV_some, putD_some, bin_neq, frame_3, of0, getK_set, Nat.reduceEqDiff, ↓reduceIte, Bool.false_eq_true, hl, d0, hv.len]
    refine W_loop (f32_I h n v w E L) (fun j => L.length - j) ?_ 0 ⟨by omega, rfl, fun i hi => by omega, by simp (disch := omega) only [getK_set, Nat.reduceEqDiff, ↓reduceIte, and_self, Int.natCast_zero]⟩
    rintro j fr h1 ⟨hj, rfl, hok, g0, g1, g2, g7, g8⟩
    unfold f32_l1
    by_cases hlt : j < L.length
    · have d1 : decide ((j : Int) < (n : Int)) = true := by simp; omega
      obtain ⟨p, hp1, hp2, hp3⟩ := hw.atb j hlt
      have hg : L.getD j 0 = L[j] := by simp [List.getD_eq_getElem?_getD, hlt]
      have bad : labOk1 (E.length : Int) L j = false → grB (n : Int) E L = false := fun hb => by
        unfold grB labsOk
        rw [all_no hlt hb]; simp
      cases d2 : decide (L[j] < 0) with
      | true =>
        have hb : labOk1 (E.length : Int) L j = false := by
          unfold labOk1; rw [hg, decide_eq_false (by have := of_decide_eq_true d2; omega)]; rfl
        simp (disch := omega) only [f32_r5, f32_r6, f32_r7, f32_rs, w_skip, w_reg, w_seq, w_cond, w_block, w_ret, seqK_n, seqK_r, atK_r, loopK_r, ckB_b, cbB_b, okG_b, asG_f, true_and, retK_r, x_nil, x_g, x_mv, x_as, x_pick, x_ld, x_bin, x_iads, kx, rvP_ok, okv_some, ev_t, ev_c, getV_some, putD_some, bin_lss, pick_b, oGet_s, readRs_nil, readRs_t, retV_1, of0, Option.some.injEq, exists_eq_left', getK_set, Nat.reduceEqDiff, ↓reduceIte, Bool.false_eq_true, Bool.not_true, g0, g2, g8, d1, hp1, hp2, iE, d2, bad hb, true_and]
        exact Grow.refl _ _
      | false =>
      have n2 := of_decide_eq_false d2
      cases d3 : decide (L[j] > (E.length : Int)) with
      | true =>
        have hb : labOk1 (E.length : Int) L j = false := by
          unfold labOk1; rw [hg, decide_eq_false (by have := of_decide_eq_true d3; omega : ¬ L[j] ≤ (E.length : Int))]; simp
        simp (disch := omega) only [f32_r5, f32_r6, f32_r7, f32_rs, w_skip, w_reg, w_seq, w_cond, w_block, w_ret, seqK_n, seqK_r, atK_r, loopK_r, ckB_b, cbB_b, okG_b, asG_f, true_and, retK_r, x_nil, x_g, x_mv, x_as, x_pick, x_ld, x_bin, x_iads, kx, rvP_ok, okv_some, ev_t, ev_c, getV_some, putD_some, bin_lss, bin_gtr, pick_b, oGet_s, readRs_nil, readRs_t, retV_1, of0, Option.some.injEq, exists_eq_left', getK_set, Nat.reduceEqDiff, ↓reduceIte, Bool.false_eq_true, Bool.not_false, g0, g2, g7, g8, d1, hp1, hp2, iE, d2, d3, bad hb, true_and]
        exact Grow.refl _ _
      | false =>
      have n3 := of_decide_eq_false d3
      have hlo : labOk1 (E.length : Int) L j = !decide (L[j] ∈ L.take j) := by
        unfold labOk1
        rw [hg, decide_eq_true (by omega : 0 ≤ L[j]), decide_eq_true (by omega : L[j] ≤ (E.length : Int))]; rfl
      simp (disch := omega) only [f32_r5, f32_r6, f32_r8, w_skip, w_reg, w_seq, w_cond, w_block, seqK_n, ckB_b, cbB_b, okG_b, asG_f, true_and, x_nil, x_g, x_mv, x_as, x_pick, x_ld, x_bin, x_iads, kx, rvP_ok, okv_some, ev_t, ev_c, getV_some, putD_some, bin_lss, bin_gtr, pick_b, of0, getK_set, Nat.reduceEqDiff, ↓reduceIte, Bool.false_eq_true, Bool.not_false, g0, g2, g7, g8, d1, hp1, hp2, iE, d2, d3]
      refine W_loop (f32_K h1 n v w E L j) (fun i => j - i) ?_ 0 ⟨by omega, rfl, by simp, by simp (disch := omega) only [getK_set, Nat.reduceEqDiff, ↓reduceIte, g0, g1, g2, g7, g8, and_self, Int.natCast_zero]⟩
      clear g0 g1 g2 g7 g8
      rintro i fr h2 ⟨hi, rfl, hnin, g0, g1, g2, g7, g8, g9⟩
      unfold f32_l0
      by_cases hil : i < j
      · have d4 : decide ((i : Int) < (j : Int)) = true := by simp; omega
        obtain ⟨q, hq1, hq2, hq3⟩ := hw.atb i (by omega)
        have hwb := hw.beq
        cases d5 : decide (L[i] = L[j]) with
        | true =>
          have hin : L[j] ∈ L.take j := by
            rw [← of_decide_eq_true d5]
            exact List.mem_iff_getElem.2 ⟨i, by simp; omega, by simp⟩
          rw [decide_eq_true hin] at hlo
          simp (disch := omega) only [f32_r9, f32_r10, f32_r11, f32_rs, w_skip, w_reg, w_draw, w_seq, w_cond, w_block, w_ret, seqK_n, seqK_r, atK_r, loopK_r, ckB_b, cbB_b, true_and, retK_r, x_nil, x_mv, x_as, x_bin, kx, kg, xg_nil, xg_mv, xg_ld, xg_bin, xg_iads, xd_cons, fresh_nil, stK_n, stay_nil, rvP_ok, okv_some, ev_t, ev_c, getV_some, putD_some, bin_eql, bin_lss, oGet_s, readRs_nil, readRs_t, retV_1, Option.some.injEq, exists_eq_left', getK_set, Nat.reduceEqDiff, ↓reduceIte, g2, g8, g9, d4, hp1, hp2, hq1, hq2, iE, d5, bad hlo, true_and]
          exact Grow.refl _ _
        | false =>
          simp (disch := omega) only [f32_r9, f32_r10, f32_r12, w_skip, w_reg, w_draw, w_seq, w_cond, w_block, seqK_n, atK_n, loopK_n, ckB_b, cbB_b, true_and, x_nil, x_mv, x_as, x_bin, kx, kg, xg_nil, xg_mv, xg_ld, xg_bin, xg_iads, xd_cons, fresh_nil, stK_n, stay_nil, rvP_ok, okv_some, ev_t, ev_c, getV_some, putD_some, bin_add, bin_eql, bin_lss, of1, getK_set, Nat.reduceEqDiff, ↓reduceIte, Bool.false_eq_true, g2, g8, g9, d4, hp1, hp2, hq1, hq2, iE, d5, fw64]
          refine ⟨i + 1, by omega, by omega, rfl, ?_, by simp (disch := omega) only [getK_set, Nat.reduceEqDiff, ↓reduceIte, g0, g1, g2, g7, g8, and_self, Int.natCast_add, Int.natCast_one]⟩
          rw [hg] at hnin ⊢
          rw [List.take_succ_eq_append_getElem (by omega), List.mem_append, List.mem_singleton]
          rintro (h | h)
          · exact hnin h
          · exact of_decide_eq_false d5 h.symm
      · have d4 : decide ((i : Int) < (j : Int)) = false := by simp; omega
        have ei : i = j := by omega
        rw [ei, hg] at hnin
        rw [decide_eq_false hnin] at hlo
        simp (disch := omega) only [f32_r9, f32_r13, w_reg, w_seq, w_cond, w_exit, seqK_n, seqK_e, atK_n, atK_e, loopK_n, loopK_e, ckB_b, cbB_b, true_and, x_nil, x_mv, x_as, x_bin, kx, rvP_ok, okv_some, ev_t, ev_c, getV_some, putD_some, bin_add, bin_lss, of1, getK_set, Nat.reduceEqDiff, ↓reduceIte, Bool.false_eq_true, g8, g9, d4, fw64]
        refine ⟨j + 1, by omega, by omega, rfl, fun i hi => ?_, by simp (disch := omega) only [getK_set, Nat.reduceEqDiff, ↓reduceIte, g0, g1, g2, g7, and_self, Int.natCast_add, Int.natCast_one]⟩
        by_cases e : i = j
        · rw [e]; exact hlo
        · exact hok i (by omega)
    · have d1 : decide ((j : Int) < (n : Int)) = false := by simp; omega
      have ej : j = L.length := by omega
      have hlabs : labsOk (E.length : Int) L = true := all_yes fun i hi => hok i (by omega)
      have hlin := labs_in hlabs
      have heq : grB (n : Int) E L = difsOk E L := by unfold grB; rw [e0, hlabs]; rfl
      have hmk : ∀ {k : IntKind}, mksV 1 [.b false] h1 (.i k ((E.length + 1 : Nat) : Int)) = .ok (.sl h1.nx 0 (E.length + 1) 1) (h1.new (.cells ((E.length + 1) * 1) (rep [.b false] (E.length + 1)))) := mks_b (by omega)
      rw [Int.natCast_add, Int.natCast_one] at hmk
      have hs0 := mksb_sl (h := h1) (n := E.length + 1)
      have gl := Grow.new (Nat.le_refl h1.nx.nat) (.cells ((E.length + 1) * 1) (rep [.b false] (E.length + 1)))
      have nl := nx_new h1 (.cells ((E.length + 1) * 1) (rep [.b false] (E.length + 1)))
      simp (disch := omega) only [f32_r5, f32_r14, f32_r15, w_reg, w_seq, w_cond, w_block, w_exit, seqK_n, seqK_e, atK_e, loopK_e, ckB_b, cbB_b, true_and, x_nil, x_mv, x_as, x_bin, x_mks, kx, rvP_ok, okv_some, ev_t, ev_c, getV_some, putD_some, bin_add, bin_lss, of0, of1, getK_set, Nat.reduceEqDiff, ↓reduceIte, Bool.false_eq_true, g0, g7, g8, d1, fw64, hmk]
      refine W_loop (f32_J h1 v w (.sl h1.nx 0 (E.length + 1) 1) E L) (fun j => E.length - j) ?_ 0 ⟨by omega, gl, ⟨List.replicate (E.length + 1) false, by simp, Met.zero, hs0⟩, fun i hi => by omega, by simp (disch := omega) only [getK_set, Nat.reduceEqDiff, ↓reduceIte, g1, g2, g7, and_self, Int.natCast_zero]⟩
      clear g0 g1 g2 g7 g8 hs0 gl d1 hmk
      rintro j fr h2 ⟨hj, hG, ⟨B, hB, hM, hS⟩, hok2, g1, g2, g7, g10, g11⟩
      have hc2 := hG.hc hc
      have hv2 := hv.grow hc hG
      have hw2 := hw.grow hc hG
      unfold f32_l2
      by_cases hlt2 : j < E.length
      · have d1 : decide ((j : Int) < (E.length : Int)) = true := by simpa using hlt2
        obtain ⟨ide, q, hp1, _, hp2, hp3⟩ := hv2.at2 hlt2
        obtain ⟨a, b, d, ha, hb, ea, eb, hab, ed, ead, hdE, la, lb⟩ := dfE_in hE hlin hn hlt2
        have hdm := hM.dif hlt2 ed (by omega)
        obtain ⟨s, hs1, hs2, hs3⟩ := hw2.atb a ha
        obtain ⟨t, ht1, ht2, ht3⟩ := hw2.atb b hb
        have hwb := hw.beq
        have hvb := hv.beq
        rw [ea] at hp2
        rw [eb] at hp3
        have hmax : max (L[a] - L[b]) (L[b] - L[a]) = (d : Int) := by rw [← ead]; unfold absD; split <;> omega
        simp (disch := omega) only [f32_r16, f32_r17, w_skip, w_reg, w_draw, w_seq, w_cond, w_block, seqK_n, ckB_b, cbB_b, true_and, x_nil, x_mv, x_as, x_bin, kx, kg, xg_nil, xg_mv, xg_ld, xg_bin, xg_iadr, xg_iads, xg_max, xd_cons, fresh_nil, stK_n, stK_s, stay_nil, rvP_ok, okv_some, ev_t, ev_c, getV_some, putD_some, bin_sub, bin_lss, onP_p, max_ii, of0, of1, getK_set, Nat.reduceEqDiff, ↓reduceIte, ix2_0, ix2_1, g1, g2, g7, g11, d1, hp1, hp2, hp3, hs1, hs2, ht1, ht2, iE, fw64, hmax]
        obtain ⟨r, hr1, hr2⟩ := hS.at d (by omega)
        cases hbd : B[d]'(by omega) with
        | true =>
          rw [hbd] at hdm hr2
          have hno : grB (n : Int) E L = false := by rw [heq]; unfold difsOk; exact all_no hlt2 hdm
          simp (disch := omega) only [f32_r18, f32_r19, f32_rs, w_reg, w_seq, w_cond, w_ret, seqK_n, seqK_r, atK_r, loopK_r, ckB_b, cbB_b, true_and, retK_r, x_nil, x_mv, x_as, x_ld, x_iads, kx, rvP_ok, ev_t, ev_c, getV_some, putD_some, oGet_s, readRs_nil, readRs_t, retV_1, Option.some.injEq, exists_eq_left', getK_set, Nat.reduceEqDiff, ↓reduceIte, g10, hr1, hr2, hno, true_and]
          exact hG
        | false =>
          rw [hbd] at hdm hr2
          obtain ⟨r', id', m', cs', hst1, hst2, hst3, hst4, hst5⟩ := hS.st (i := d) (by omega) (x := true) (c := .b true) rfl rfl hc2
          obtain ⟨off', n', sz', hid⟩ := hst4
          injection hid with hid _ _ _
          have hrr : r' = r := by
            have h9 := (hst1 .i64 h2).symm.trans (hr1 .i64 h2)
            injection h9
          rw [hrr] at hst2
          simp (disch := omega) only [f32_r18, f32_r20, f32_r21, w_skip, w_reg, w_cond, seqK_n, atK_n, loopK_n, ckB_b, cbB_b, true_and, x_nil, x_mv, x_as, x_ld, x_st, x_bin, x_iads, kx, rvP_ok, okv_some, ev_t, ev_c, getV_some, putD_some, putD_none, bin_add, of1, getK_set, Nat.reduceEqDiff, ↓reduceIte, Bool.false_eq_true, g10, g11, hr1, hr2, hst2, fw64]
          refine ⟨j + 1, by omega, by omega, hG.trans (Grow.put (by rw [← hid]; exact Nat.le_refl _) hst5 _), ⟨_, by simpa using hB, hM.succ hlt2 ed (by omega), hst3⟩, fun i hi => ?_, by simp (disch := omega) only [getK_set, Nat.reduceEqDiff, ↓reduceIte, g1, g2, g7, g10, and_self, Int.natCast_add, Int.natCast_one]⟩
          by_cases e : i = j
          · rw [e]; exact hdm
          · exact hok2 i (by omega)
      · have d1 : decide ((j : Int) < (E.length : Int)) = false := by simpa using hlt2
        have hdf : difsOk E L = true := all_yes fun i hi => hok2 i (by omega)
        simp (disch := omega) only [f32_r16, f32_r22, f32_rs, w_reg, w_seq, w_cond, w_exit, w_ret, seqK_n, seqK_e, atK_e, loopK_e, ckB_b, cbB_b, true_and, retK_r, x_nil, x_mv, x_as, x_bin, kx, rvP_ok, okv_some, ev_t, ev_c, getV_some, putD_some, bin_lss, oGet_s, readRs_nil, readRs_t, retV_1, Option.some.injEq, exists_eq_left', getK_set, Nat.reduceEqDiff, ↓reduceIte, Bool.false_eq_true, g7, g11, d1, heq, hdf, true_and]
        exact hG
  · have d0 : decide ((L.length : Int) ≠ (n : Int)) = true := by simp; omega
    have e0 : grB (n : Int) E L = false := by unfold grB; rw [decide_eq_false (by omega)]; rfl
    simp (disch := omega) only [f32_r0, f32_r1, f32_r2, f32_rs, w_reg, w_seq, w_cond, w_ret, seqK_n, seqK_r, ckB_b, cbB_b, true_and, retK_r, x_nil, x_mv, x_as, x_bin, x_len, kx, rvP_ok, okv_some, ev_t, ev_c, getV_some, putD_some, bin_neq, oGet_s, readRs_nil, readRs_t, retV_1, frame_3, Option.some.injEq, exists_eq_left', getK_set, Nat.reduceEqDiff, ↓reduceIte, hl, d0, e0, true_and]
    exact Grow.refl _ _
end
end Go.Ev
namespace Go.Ev
open Go Go.RowKit
section
variable {fs : T EF} {ro : Option K} {h : H} {v w : V} {n : Int} {m : Nat} {E : List (Int × Int)} {L : List Int}
end
end Go.Ev
namespace Go.Ev
open Go Go.RowKit
section
variable {fs : T EF} {ro : Option K} {h : H} {v w : V} {n : Nat} {E : List (Int × Int)} {L : List Int} {x : Int}
end
end Go.Ev
namespace Go.Ev
open Go Go.RowKit
noncomputable def f33_r0 : List EOper := [⟨(some (K.ofNat 4)), none, .as (.c (.i .i64 (.ofNat 0)))⟩, ⟨(some (K.ofNat 5)), none, .as (.c (.b false))⟩]
noncomputable def f33_r1 : List EOper := [⟨(some (K.ofNat 6)), none, .as (.c (.i .i64 (.ofNat 0)))⟩]
noncomputable def f33_r2 : List EOper := [⟨(some (K.ofNat 9)), none, .mv (.t (K.ofNat 6))⟩, ⟨(some (K.ofNat 10)), none, .mv (.t (K.ofNat 0))⟩, ⟨(some (K.ofNat 11)), none, .len (.t (K.ofNat 10))⟩, ⟨(some (K.ofNat 12)), none, .bin .lss (.t (K.ofNat 9)) (.t (K.ofNat 11))⟩]
noncomputable def f33_r3 : List EOper := [⟨(some (K.ofNat 7)), none, .as (.c (.b true))⟩]
noncomputable def f33_r4 : List EOper := [⟨(some (K.ofNat 8)), none, .as (.c (.i .i64 (.ofNat 0)))⟩]
noncomputable def f33_r5 : List EOper := [⟨(some (K.ofNat 15)), none, .mv (.t (K.ofNat 8))⟩, ⟨(some (K.ofNat 16)), none, .mv (.t (K.ofNat 0))⟩, ⟨(some (K.ofNat 17)), none, .len (.t (K.ofNat 16))⟩, ⟨(some (K.ofNat 18)), none, .bin .lss (.t (K.ofNat 15)) (.t (K.ofNat 17))⟩]
noncomputable def f33_r6 : List Stage := [⟨[⟨(some (K.ofNat 21)), none, .mv (.t (K.ofNat 7))⟩, ⟨(some (K.ofNat 22)), none, .mv (.t (K.ofNat 21))⟩, ⟨(some (K.ofNat 23)), (some ((K.ofNat 22), true)), .mv (.t (K.ofNat 1))⟩, ⟨(some (K.ofNat 24)), (some ((K.ofNat 22), true)), .mv (.t (K.ofNat 0))⟩, ⟨(some (K.ofNat 25)), (some ((K.ofNat 22), true)), .mv (.t (K.ofNat 8))⟩, ⟨(some (K.ofNat 26)), (some ((K.ofNat 22), true)), .iads 2 (.t (K.ofNat 24)) (.t (K.ofNat 25))⟩, ⟨(some (K.ofNat 27)), (some ((K.ofNat 22), true)), .iadr 2 1 (.t (K.ofNat 26)) (.c (.i .i64 (.ofNat 0)))⟩, ⟨(some (K.ofNat 28)), (some ((K.ofNat 22), true)), .ld (.t (K.ofNat 27))⟩, ⟨(some (K.ofNat 29)), (some ((K.ofNat 22), true)), .iads 1 (.t (K.ofNat 23)) (.t (K.ofNat 28))⟩, ⟨(some (K.ofNat 30)), (some ((K.ofNat 22), true)), .ld (.t (K.ofNat 29))⟩, ⟨(some (K.ofNat 31)), (some ((K.ofNat 22), true)), .mv (.t (K.ofNat 6))⟩, ⟨(some (K.ofNat 32)), (some ((K.ofNat 22), true)), .bin .leq (.t (K.ofNat 30)) (.t (K.ofNat 31))⟩, ⟨(some (K.ofNat 33)), (some ((K.ofNat 22), true)), .mv (.t (K.ofNat 1))⟩, ⟨(some (K.ofNat 34)), (some ((K.ofNat 22), true)), .mv (.t (K.ofNat 0))⟩, ⟨(some (K.ofNat 35)), (some ((K.ofNat 22), true)), .mv (.t (K.ofNat 8))⟩, ⟨(some (K.ofNat 36)), (some ((K.ofNat 22), true)), .iads 2 (.t (K.ofNat 34)) (.t (K.ofNat 35))⟩, ⟨(some (K.ofNat 37)), (some ((K.ofNat 22), true)), .iadr 2 1 (.t (K.ofNat 36)) (.c (.i .i64 (.ofNat 1)))⟩, ⟨(some (K.ofNat 38)), (some ((K.ofNat 22), true)), .ld (.t (K.ofNat 37))⟩, ⟨(some (K.ofNat 39)), (some ((K.ofNat 22), true)), .iads 1 (.t (K.ofNat 33)) (.t (K.ofNat 38))⟩, ⟨(some (K.ofNat 40)), (some ((K.ofNat 22), true)), .ld (.t (K.ofNat 39))⟩, ⟨(some (K.ofNat 41)), (some ((K.ofNat 22), true)), .mv (.t (K.ofNat 6))⟩, ⟨(some (K.ofNat 42)), (some ((K.ofNat 22), true)), .bin .leq (.t (K.ofNat 40)) (.t (K.ofNat 41))⟩, ⟨(some (K.ofNat 43)), (some ((K.ofNat 22), true)), .eqk (.one none) true (.t (K.ofNat 32)) (.t (K.ofNat 42))⟩, ⟨(some (K.ofNat 44)), none, .pick (.t (K.ofNat 22)) (.t (K.ofNat 43)) (.c (.b false))⟩], [], (some ⟨(some (K.ofNat 7)), none, .as (.t (K.ofNat 44))⟩), []⟩, ⟨[], [], none, []⟩]
noncomputable def f33_r7 : List EOper := [⟨(some (K.ofNat 19)), none, .mv (.t (K.ofNat 8))⟩, ⟨(some (K.ofNat 20)), none, .bin .add (.t (K.ofNat 19)) (.c (.i .i64 (.ofNat 1)))⟩, ⟨(some (K.ofNat 8)), none, .as (.t (K.ofNat 20))⟩]
noncomputable def f33_l0 : EC := (.seq (.seq (.reg f33_r5) (.cond (.t (K.ofNat 18)) .skip (.exit 2))) (.seq (.block 3 (.draw f33_r6)) (.reg f33_r7)))
noncomputable def f33_r8 : List EOper := [⟨(some (K.ofNat 45)), none, .mv (.t (K.ofNat 7))⟩]
noncomputable def f33_r9 : List EOper := [⟨(some (K.ofNat 46)), none, .mv (.t (K.ofNat 6))⟩, ⟨(some (K.ofNat 4)), none, .as (.t (K.ofNat 46))⟩, ⟨(some (K.ofNat 5)), none, .as (.c (.b true))⟩]
noncomputable def f33_r10 : List EOper := [⟨(some (K.ofNat 13)), none, .mv (.t (K.ofNat 6))⟩, ⟨(some (K.ofNat 14)), none, .bin .add (.t (K.ofNat 13)) (.c (.i .i64 (.ofNat 1)))⟩, ⟨(some (K.ofNat 6)), none, .as (.t (K.ofNat 14))⟩]
noncomputable def f33_l1 : EC := (.seq (.seq (.reg f33_r2) (.cond (.t (K.ofNat 12)) .skip (.exit 0))) (.seq (.block 1 (.seq (.reg f33_r3) (.seq (.seq (.reg f33_r4) (.block 2 (.loop f33_l0))) (.seq (.reg f33_r8) (.cond (.t (K.ofNat 45)) (.seq (.reg f33_r9) .ret) .skip))))) (.reg f33_r10)))
noncomputable def f33_r11 : List EOper := [⟨(some (K.ofNat 4)), none, .as (.c (.i .i64 (.ofNat 0)))⟩, ⟨(some (K.ofNat 5)), none, .as (.c (.b false))⟩]
noncomputable def f33_c : EC := (.seq (.reg f33_r0) (.seq (.seq (.reg f33_r1) (.block 0 (.loop f33_l1))) (.seq (.reg f33_r11) .ret)))
noncomputable def f33 : EF := ⟨47, [.tmp (K.ofNat 4), .tmp (K.ofNat 5)], f33_c, none⟩
theorem f33_rs : f33.rs = [.tmp (K.ofNat 4), .tmp (K.ofNat 5)] := of_eq_true (eq_self _)
def prt1 (L : List Int) (c : Int) (e : Int × Int) : Bool := decide (L.getD e.1.toNat 0 ≤ c) != decide (L.getD e.2.toNat 0 ≤ c)
/-- Do the labels part by c? -/
def prtC (E : List (Int × Int)) (L : List Int) (c : Int) : Bool := E.all (prt1 L c)
/-- The least number by which they part. -/
def prtO (E : List (Int × Int)) (L : List Int) : Option Int := firstF (fun c => if prtC E L c = true then some c else none) 0 E.length
section
variable {fs : T EF} {ro : Option K} {h : H} {v w : V} {n : Nat} {E : List (Int × Int)} {L : List Int}
theorem all_snoc {p : Int × Int → Bool} {j : Nat} (hj : j < E.length) : (E.take (j + 1)).all p = ((E.take j).all p && p E[j]) := by
  rw [List.take_succ_eq_append_getElem hj, List.all_append]; simp
def f33_I (h : H) (v w : V) (E : List (Int × Int)) (L : List Int) (c : Nat) (fr : Fr) (h1 : H) : Prop := c ≤ E.length ∧ h1 = h ∧ prtO E L = firstF (fun c => if prtC E L c = true then some c else none) (c : Int) (E.length - c) ∧ fr.get (K.ofNat 0) = some (v) ∧ fr.get (K.ofNat 1) = some (w) ∧ fr.get (K.ofNat 6) = some (.i .i64 (c : Int))
def f33_J (h : H) (v w : V) (E : List (Int × Int)) (L : List Int) (c : Nat) (j : Nat) (fr : Fr) (h1 : H) : Prop := j ≤ E.length ∧ h1 = h ∧ fr.get (K.ofNat 0) = some (v) ∧ fr.get (K.ofNat 1) = some (w) ∧ fr.get (K.ofNat 6) = some (.i .i64 (c : Int)) ∧ fr.get (K.ofNat 7) = some (.b ((E.take j).all (prt1 L (c : Int)))) ∧ fr.get (K.ofNat 8) = some (.i .i64 (j : Int))
theorem f33_ret (hv : Srp h v E) (hw : Sr iE h w L) (hE : EdgesOk n E) (hn : L.length = n) : Ret fs f33 [v, w] h fun r h' => r = .tup [.i .i64 ((prtO E L).getD 0), .b (prtO E L).isSome] ∧ h' = h := by
  obtain ⟨hE10, _, hE3⟩ := hE
  apply ret_of rfl
  show W fs none f33_c _ _ _
  unfold f33_c
  simp (disch := omega) only [f33_r0, f33_r1, w_reg, w_seq, w_block, seqK_n, x_nil, x_as, ev_c, putD_some, frame_2, of0]
  refine W_loop (f33_I h v w E L) (fun c => E.length - c) ?_ 0 ⟨by omega, rfl, rfl, by simp (disch := omega) only [getK_set, Nat.reduceEqDiff, ↓reduceIte, and_self, Int.natCast_zero]⟩
  rintro c fr h1 ⟨hc, rfl, he, g0, g1, g6⟩
  unfold f33_l1
  by_cases hlt : c < E.length
  · have d0 : decide ((c : Int) < (E.length : Int)) = true := by simpa using hlt
    simp (disch := omega) only [f33_r2, f33_r3, f33_r4, w_skip, w_reg, w_seq, w_cond, w_block, seqK_n, ckB_b, cbB_b, true_and, x_nil, x_mv, x_as, x_bin, x_len, kx, rvP_ok, okv_some, ev_t, ev_c, getV_some, putD_some, bin_lss, of0, getK_set, Nat.reduceEqDiff, ↓reduceIte, g0, g6, hv.len, d0]
    refine W_loop (f33_J h1 v w E L c) (fun j => E.length - j) ?_ 0 ⟨by omega, rfl, by simp (disch := omega) only [getK_set, Nat.reduceEqDiff, ↓reduceIte, g0, g1, g6, and_self, Int.natCast_zero, List.take_zero, List.all_nil]⟩
    clear g0 g1 g6
    rintro j fr h2 ⟨hj, rfl, g0, g1, g6, g7, g8⟩
    unfold f33_l0
    by_cases hlt2 : j < E.length
    · have d1 : decide ((j : Int) < (E.length : Int)) = true := by simpa using hlt2
      obtain ⟨ide, q, hp1, _, hp2, hp3⟩ := hv.at2 hlt2
      obtain ⟨e0, e1, e2⟩ := hE3 E[j] (List.getElem_mem hlt2)
      have hvb := hv.beq
      have hwb := hw.beq
      obtain ⟨a, ea⟩ : ∃ a : Nat, E[j].1 = (a : Int) := ⟨E[j].1.toNat, by omega⟩
      obtain ⟨b, eb⟩ : ∃ b : Nat, E[j].2 = (b : Int) := ⟨E[j].2.toNat, by omega⟩
      obtain ⟨s, hs1, hs2, hs3⟩ := hw.atb a (by omega)
      obtain ⟨t, ht1, ht2, ht3⟩ := hw.atb b (by omega)
      have hpe : prt1 L (c : Int) E[j] = (decide (L[a] ≤ (c : Int)) != decide (L[b] ≤ (c : Int))) := by
        unfold prt1
        rw [ea, eb]
        simp [List.getD_eq_getElem?_getD, show a < L.length by omega, show b < L.length by omega]
      have hall := all_snoc (p := prt1 L (c : Int)) hlt2
      rw [hpe] at hall
      rw [ea] at hp2
      rw [eb] at hp3
      have kb : ∀ a b, keyEq (.one none) (.b a) (.b b) = some (a == b) := fun _ _ => rfl
      cases hb : (E.take j).all (prt1 L (c : Int)) with
      | false =>
        rw [hb] at g7 hall
        simp (disch := omega) only [f33_r5, f33_r6, f33_r7, w_skip, w_reg, w_draw, w_seq, w_cond, w_block, seqK_n, atK_n, loopK_n, ckB_b, cbB_b, okG_b, asG_t, true_and, x_nil, x_mv, x_as, x_bin, x_len, kx, kg, xg_nil, xg_g, xg_mv, xg_pick, xd_cons, fresh_nil, stK_n, stK_s, stay_nil, rvP_ok, okv_some, ev_t, ev_c, getV_some, putD_some, bin_add, bin_lss, pick_b, of0, of1, getK_set, Nat.reduceEqDiff, ↓reduceIte, Bool.false_eq_true, g0, g7, g8, hv.len, d1, fw64]
        refine ⟨j + 1, by omega, by omega, rfl, ?_⟩
        rw [hall]
        simp (disch := omega) only [getK_set, Nat.reduceEqDiff, ↓reduceIte, g0, g1, g6, and_self, Bool.false_and, Int.natCast_add, Int.natCast_one]
      | true =>
        rw [hb] at g7 hall
        simp (disch := omega) only [f33_r5, f33_r6, f33_r7, w_skip, w_reg, w_draw, w_seq, w_cond, w_block, seqK_n, atK_n, loopK_n, ckB_b, cbB_b, okG_b, asG_t, true_and, x_nil, x_mv, x_as, x_bin, x_len, kx, kg, xg_nil, xg_g, xg_mv, xg_pick, xg_ld, xg_bin, xg_eqk, xg_iadr, xg_iads, xd_cons, fresh_nil, stK_n, stK_s, stay_nil, rvP_ok, okv_some, ev_t, ev_c, getV_some, putD_some, bin_add, bin_lss, bin_leq, pick_b, onP_p, oGet_s, of0, of1, getK_set, Nat.reduceEqDiff, ↓reduceIte, ix2_0, ix2_1, g0, g1, g6, g7, g8, hv.len, d1, hp1, hp2, hp3, hs1, hs2, ht1, ht2, iE, kb, fw64]
        refine ⟨j + 1, by omega, by omega, rfl, ?_⟩
        rw [hall, show (true && (decide (L[a] ≤ (c : Int)) != decide (L[b] ≤ (c : Int)))) = (bif true then !(decide (L[a] ≤ (c : Int)) == decide (L[b] ≤ (c : Int))) else (decide (L[a] ≤ (c : Int)) == decide (L[b] ≤ (c : Int)))) from rfl]
        simp (disch := omega) only [getK_set, Nat.reduceEqDiff, ↓reduceIte, g0, g1, g6, and_self, Int.natCast_add, Int.natCast_one]
    · have d1 : decide ((j : Int) < (E.length : Int)) = false := by simpa using hlt2
      have ej : j = E.length := by omega
      have eC : prtC E L (c : Int) = (E.take j).all (prt1 L (c : Int)) := by rw [ej, List.take_length]; rfl
      have en : E.length - c = (E.length - (c + 1)) + 1 := by omega
      rw [en, firstF_succ, eC] at he
      cases hb : (E.take j).all (prt1 L (c : Int)) with
      | true =>
        rw [hb] at g7 he
        simp (disch := omega) only [f33_r5, f33_r8, f33_r9, f33_rs, w_reg, w_seq, w_cond, w_exit, w_ret, seqK_n, seqK_e, seqK_r, atK_r, atK_e, loopK_e, loopK_r, ckB_b, cbB_b, true_and, retK_r, x_nil, x_mv, x_as, x_bin, x_len, kx, rvP_ok, okv_some, ev_t, ev_c, getV_some, putD_some, bin_lss, oGet_s, readRs_nil, readRs_t, retV_2, Option.some.injEq, exists_eq_left', getK_set, Nat.reduceEqDiff, ↓reduceIte, Bool.false_eq_true, g0, g6, g7, g8, hv.len, d1]
        have he2 : prtO E L = some (c : Int) := he
        rw [he2]
        exact ⟨rfl, trivial⟩
      | false =>
        rw [hb] at g7 he
        simp (disch := omega) only [f33_r5, f33_r8, f33_r9, f33_r10, w_skip, w_reg, w_seq, w_cond, w_exit, seqK_n, seqK_e, atK_n, atK_e, loopK_n, loopK_e, ckB_b, cbB_b, true_and, x_nil, x_mv, x_as, x_bin, x_len, kx, rvP_ok, okv_some, ev_t, ev_c, getV_some, putD_some, bin_add, bin_lss, of1, getK_set, Nat.reduceEqDiff, ↓reduceIte, Bool.false_eq_true, g0, g6, g7, g8, hv.len, d1, fw64]
        have he2 : prtO E L = firstF (fun c => if prtC E L c = true then some c else none) ((c : Int) + 1) (E.length - (c + 1)) := he
        exact ⟨c + 1, by omega, by omega, rfl, by rw [he2, Int.natCast_add, Int.natCast_one], by simp (disch := omega) only [getK_set, Nat.reduceEqDiff, ↓reduceIte, g0, g1, and_self, Int.natCast_add, Int.natCast_one]⟩
  · have d0 : decide ((c : Int) < (E.length : Int)) = false := by simpa using hlt
    have en : E.length - c = 0 := by omega
    rw [en] at he
    have he2 : prtO E L = none := he
    simp (disch := omega) only [f33_r2, f33_r11, f33_rs, w_reg, w_seq, w_cond, w_exit, w_ret, seqK_n, seqK_e, atK_e, loopK_e, ckB_b, cbB_b, retK_r, x_nil, x_mv, x_as, x_bin, x_len, kx, rvP_ok, okv_some, ev_t, ev_c, getV_some, putD_some, bin_lss, oGet_s, readRs_nil, readRs_t, retV_2, of0, Option.some.injEq, exists_eq_left', getK_set, Nat.reduceEqDiff, ↓reduceIte, Bool.false_eq_true, g0, g6, hv.len, d0, he2, Option.getD_none, Option.isSome_none, and_self]
end
end Go.Ev
namespace Go.Ev
open Go Go.RowKit
noncomputable def f63_r0 : List EOper := [⟨(some (K.ofNat 4)), none, .as (.c (.i .i64 (.ofNat 0)))⟩, ⟨(some (K.ofNat 5)), none, .as (.c (.b false))⟩]
noncomputable def f63_r1 : List EOper := [⟨(some (K.ofNat 6)), none, .as (.c .sn)⟩, ⟨(some (K.ofNat 7)), none, .as (.c .sn)⟩]
noncomputable def f63_r2 : List EOper := [⟨(some (K.ofNat 16)), none, .mv (.t (K.ofNat 0))⟩, ⟨(some (K.ofNat 17)), none, .len (.t (K.ofNat 16))⟩, ⟨(some (K.ofNat 18)), none, .mv (.c (.i .i64 (.ofNat 0)))⟩]
noncomputable def f63_r3 : List EOper := [⟨(some (K.ofNat 19)), none, .bin .lss (.t (K.ofNat 18)) (.t (K.ofNat 17))⟩]
noncomputable def f63_r4 : List EOper := [⟨(some (K.ofNat 20)), none, .iads 2 (.t (K.ofNat 16)) (.t (K.ofNat 18))⟩, ⟨(some (K.ofNat 21)), none, .ldn 2 (.t (K.ofNat 20))⟩, ⟨(some (K.ofNat 9)), none, .alloc 2 [(.i .i64 (.ofNat 0)), (.i .i64 (.ofNat 0))]⟩, ⟨none, none, .st 2 (.t (K.ofNat 9)) (.t (K.ofNat 21))⟩]
noncomputable def f63_r5 : List Stage := [⟨[⟨(some (K.ofNat 23)), none, .mv (.t (K.ofNat 1))⟩, ⟨(some (K.ofNat 24)), none, .iadr 2 1 (.t (K.ofNat 9)) (.c (.i .i64 (.ofNat 0)))⟩, ⟨(some (K.ofNat 25)), none, .ld (.t (K.ofNat 24))⟩, ⟨(some (K.ofNat 26)), none, .iads 1 (.t (K.ofNat 23)) (.t (K.ofNat 25))⟩, ⟨(some (K.ofNat 27)), none, .ld (.t (K.ofNat 26))⟩, ⟨(some (K.ofNat 28)), none, .mv (.t (K.ofNat 1))⟩, ⟨(some (K.ofNat 29)), none, .iadr 2 1 (.t (K.ofNat 9)) (.c (.i .i64 (.ofNat 1)))⟩, ⟨(some (K.ofNat 30)), none, .ld (.t (K.ofNat 29))⟩, ⟨(some (K.ofNat 31)), none, .iads 1 (.t (K.ofNat 28)) (.t (K.ofNat 30))⟩, ⟨(some (K.ofNat 32)), none, .ld (.t (K.ofNat 31))⟩, ⟨(some (K.ofNat 33)), none, .bslice 1 1 [(.i .i64 (.ofNat 0))] [(0, 1, (.t (K.ofNat 32)))]⟩], [], (some ⟨(some (K.ofNat 34)), none, .call (.c (.fn (K.ofNat 102) [])) [(.t (K.ofNat 27)), (.t (K.ofNat 33))]⟩), [(K.ofNat 33)]⟩, ⟨[⟨(some (K.ofNat 22)), none, .mv (.t (K.ofNat 34))⟩, ⟨(some (K.ofNat 35)), none, .ext (.t (K.ofNat 22)) 0⟩, ⟨(some (K.ofNat 36)), none, .ext (.t (K.ofNat 22)) 1⟩], [], (some ⟨(some (K.ofNat 10)), none, .as (.t (K.ofNat 35))⟩), []⟩, ⟨[], [⟨(some (K.ofNat 36)), none, .ext (.t (K.ofNat 22)) 1⟩], (some ⟨(some (K.ofNat 11)), none, .as (.t (K.ofNat 36))⟩), []⟩, ⟨[], [], none, []⟩]
noncomputable def f63_r6 : List EOper := [⟨(some (K.ofNat 37)), none, .mv (.t (K.ofNat 6))⟩, ⟨(some (K.ofNat 38)), none, .mv (.t (K.ofNat 10))⟩, ⟨(some (K.ofNat 39)), none, .bslice 1 1 [(.i .i64 (.ofNat 0))] [(0, 1, (.t (K.ofNat 38)))]⟩, ⟨(some (K.ofNat 40)), none, .app 1 (.t (K.ofNat 37)) (.t (K.ofNat 39))⟩, ⟨(some (K.ofNat 6)), none, .as (.t (K.ofNat 40))⟩]
noncomputable def f63_r7 : List EOper := [⟨(some (K.ofNat 41)), none, .mv (.t (K.ofNat 7))⟩, ⟨(some (K.ofNat 42)), none, .mv (.t (K.ofNat 11))⟩, ⟨(some (K.ofNat 43)), none, .bslice 1 1 [(.i .i64 (.ofNat 0))] [(0, 1, (.t (K.ofNat 42)))]⟩, ⟨(some (K.ofNat 44)), none, .app 1 (.t (K.ofNat 41)) (.t (K.ofNat 43))⟩, ⟨(some (K.ofNat 7)), none, .as (.t (K.ofNat 44))⟩]
noncomputable def f63_r8 : List EOper := [⟨(some (K.ofNat 45)), none, .bin .add (.t (K.ofNat 18)) (.c (.i .i64 (.ofNat 1)))⟩, ⟨(some (K.ofNat 18)), none, .mv (.t (K.ofNat 45))⟩]
noncomputable def f63_l0 : EC := (.seq (.reg f63_r3) (.seq (.cond (.t (K.ofNat 19)) .skip (.exit 0)) (.seq (.block 1 (.seq (.reg f63_r4) (.seq (.draw f63_r5) (.seq (.reg f63_r6) (.reg f63_r7))))) (.reg f63_r8))))
noncomputable def f63_r9 : List Stage := [⟨[⟨(some (K.ofNat 47)), none, .mv (.t (K.ofNat 6))⟩, ⟨(some (K.ofNat 48)), none, .iads 1 (.t (K.ofNat 47)) (.c (.i .i64 (.ofNat 0)))⟩, ⟨(some (K.ofNat 49)), none, .ld (.t (K.ofNat 48))⟩, ⟨(some (K.ofNat 50)), none, .mv (.t (K.ofNat 6))⟩, ⟨(some (K.ofNat 51)), none, .slice 1 (.t (K.ofNat 50)) (some (.c (.i .i64 (.ofNat 1)))) none none⟩], [], (some ⟨(some (K.ofNat 52)), none, .call (.c (.fn (K.ofNat 102) [])) [(.t (K.ofNat 49)), (.t (K.ofNat 51))]⟩), []⟩, ⟨[⟨(some (K.ofNat 46)), none, .mv (.t (K.ofNat 52))⟩, ⟨(some (K.ofNat 53)), none, .ext (.t (K.ofNat 46)) 0⟩, ⟨(some (K.ofNat 54)), none, .ext (.t (K.ofNat 46)) 1⟩], [], (some ⟨(some (K.ofNat 12)), none, .as (.t (K.ofNat 53))⟩), []⟩, ⟨[], [⟨(some (K.ofNat 54)), none, .ext (.t (K.ofNat 46)) 1⟩], (some ⟨(some (K.ofNat 13)), none, .as (.t (K.ofNat 54))⟩), []⟩, ⟨[], [], none, []⟩]
noncomputable def f63_r10 : List Stage := [⟨[⟨(some (K.ofNat 56)), none, .mv (.t (K.ofNat 7))⟩, ⟨(some (K.ofNat 57)), none, .iads 1 (.t (K.ofNat 56)) (.c (.i .i64 (.ofNat 0)))⟩, ⟨(some (K.ofNat 58)), none, .ld (.t (K.ofNat 57))⟩, ⟨(some (K.ofNat 59)), none, .mv (.t (K.ofNat 7))⟩, ⟨(some (K.ofNat 60)), none, .slice 1 (.t (K.ofNat 59)) (some (.c (.i .i64 (.ofNat 1)))) none none⟩], [], (some ⟨(some (K.ofNat 61)), none, .call (.c (.fn (K.ofNat 102) [])) [(.t (K.ofNat 58)), (.t (K.ofNat 60))]⟩), []⟩, ⟨[⟨(some (K.ofNat 55)), none, .mv (.t (K.ofNat 61))⟩, ⟨(some (K.ofNat 62)), none, .ext (.t (K.ofNat 55)) 0⟩, ⟨(some (K.ofNat 63)), none, .ext (.t (K.ofNat 55)) 1⟩], [], (some ⟨(some (K.ofNat 14)), none, .as (.t (K.ofNat 62))⟩), []⟩, ⟨[], [⟨(some (K.ofNat 63)), none, .ext (.t (K.ofNat 55)) 1⟩], (some ⟨(some (K.ofNat 15)), none, .as (.t (K.ofNat 63))⟩), []⟩, ⟨[], [], none, []⟩]
noncomputable def f63_r11 : List EOper := [⟨(some (K.ofNat 64)), none, .mv (.t (K.ofNat 14))⟩, ⟨(some (K.ofNat 65)), none, .mv (.t (K.ofNat 13))⟩, ⟨(some (K.ofNat 66)), none, .bin .leq (.t (K.ofNat 64)) (.t (K.ofNat 65))⟩]
noncomputable def f63_r12 : List EOper := [⟨(some (K.ofNat 4)), none, .as (.c (.i .i64 (.ofNat 0)))⟩, ⟨(some (K.ofNat 5)), none, .as (.c (.b false))⟩]
noncomputable def f63_r13 : List EOper := [⟨(some (K.ofNat 67)), none, .mv (.t (K.ofNat 13))⟩, ⟨(some (K.ofNat 4)), none, .as (.t (K.ofNat 67))⟩, ⟨(some (K.ofNat 5)), none, .as (.c (.b true))⟩]
noncomputable def f63_c : EC := (.seq (.reg f63_r0) (.seq (.reg f63_r1) (.seq (.seq (.reg f63_r2) (.block 0 (.loop f63_l0))) (.seq (.draw f63_r9) (.seq (.draw f63_r10) (.seq (.seq (.reg f63_r11) (.cond (.t (K.ofNat 66)) (.seq (.reg f63_r12) .ret) .skip)) (.seq (.reg f63_r13) .ret)))))))
noncomputable def f63 : EF := ⟨68, [.tmp (K.ofNat 4), .tmp (K.ofNat 5)], f63_c, none⟩
theorem f63_rs : f63.rs = [.tmp (K.ofNat 4), .tmp (K.ofNat 5)] := of_eq_true (eq_self _)
def loE (L : List Int) (e : Int × Int) : Int := min (L.getD e.1.toNat 0) (L.getD e.2.toNat 0)
def hiE (L : List Int) (e : Int × Int) : Int := max (L.getD e.1.toNat 0) (L.getD e.2.toNat 0)
theorem maxL_le {x : Int} : ∀ {L : List Int} {a : Int}, maxL a L ≤ x ↔ a ≤ x ∧ ∀ y ∈ L, y ≤ x
  | [], a => by simp [maxL]
  | b :: L, a => by
    show maxL (max a b) L ≤ x ↔ _
    rw [maxL_le]
    simp only [List.mem_cons, forall_eq_or_imp]
    constructor
    · rintro ⟨h1, h2⟩; exact ⟨by omega, by omega, h2⟩
    · rintro ⟨h1, h2, h3⟩; exact ⟨by omega, h3⟩
theorem lt_minL {x : Int} : ∀ {L : List Int} {a : Int}, x < minL a L ↔ x < a ∧ ∀ y ∈ L, x < y
  | [], a => by simp [minL]
  | b :: L, a => by
    show x < minL (min a b) L ↔ _
    rw [lt_minL]
    simp only [List.mem_cons, forall_eq_or_imp]
    constructor
    · rintro ⟨h1, h2⟩; exact ⟨by omega, by omega, h2⟩
    · rintro ⟨h1, h2, h3⟩; exact ⟨by omega, h3⟩
theorem firstF_first {α : Type} {g : Int → Option α} {c : Int} {r : α} (hg : g c = some r) : ∀ {n : Nat} {a : Int}, a ≤ c → c < a + n → (∀ x, a ≤ x → x < c → g x = none) → firstF g a n = some r
  | 0, a, h1, h2, _ => by omega
  | n + 1, a, h1, h2, h3 => by
    rw [firstF_succ]
    by_cases e : a = c
    · rw [e, hg]
    · rw [h3 a (by omega) (by omega)]
      exact firstF_first hg (by omega) (by omega) fun x h4 h5 => h3 x (by omega) h5
theorem firstF_no {α : Type} {g : Int → Option α} : ∀ {n : Nat} {a : Int}, (∀ x, g x = none) → firstF g a n = none
  | 0, _, _ => rfl
  | n + 1, a, h => by rw [firstF_succ, h]; exact firstF_no h
def cE (E : List (Int × Int)) (L : List Int) : Int := maxL ((E.map (loE L)).headD 0) (E.map (loE L)).tail
def aE (E : List (Int × Int)) (L : List Int) : Int := minL ((E.map (hiE L)).headD 0) (E.map (hiE L)).tail
theorem prtC_iff {E : List (Int × Int)} {L : List Int} {x : Int} (hE : E ≠ []) : prtC E L x = true ↔ cE E L ≤ x ∧ x < aE E L := by
  have h1 : ∀ e, prt1 L x e = true ↔ loE L e ≤ x ∧ x < hiE L e := fun e => by
    unfold prt1 loE hiE
    generalize L.getD e.1.toNat 0 = p
    generalize L.getD e.2.toNat 0 = q
    by_cases hp : p ≤ x <;> by_cases hq : q ≤ x <;> simp [hp, hq] <;> omega
  unfold prtC cE aE
  rw [List.all_eq_true, maxL_le, lt_minL]
  cases E with
  | nil => exact absurd rfl hE
  | cons e E =>
    simp only [List.map_cons, List.headD_cons, List.tail_cons, List.mem_map, List.mem_cons, forall_eq_or_imp, forall_exists_index, and_imp, forall_apply_eq_imp_iff₂, h1]
    constructor
    · rintro ⟨⟨a1, a2⟩, a3⟩; exact ⟨⟨a1, fun y hy => (a3 y hy).1⟩, a2, fun y hy => (a3 y hy).2⟩
    · rintro ⟨⟨a1, a2⟩, a3, a4⟩; exact ⟨⟨a1, a3⟩, fun y hy => ⟨a2 y hy, a4 y hy⟩⟩
theorem prt_eq {E : List (Int × Int)} {L : List Int} (hE : E ≠ []) (h0 : 0 ≤ cE E L) (hm : aE E L ≤ E.length) : prtO E L = if aE E L ≤ cE E L then none else some (cE E L) := by
  unfold prtO
  split
  · rename_i h
    refine firstF_no fun x => ?_
    rw [if_neg]
    rw [prtC_iff hE]
    omega
  · rename_i h
    refine firstF_first (c := cE E L) (by rw [if_pos ((prtC_iff hE).2 ⟨Int.le_refl _, by omega⟩)]) h0 (by omega) fun x h1 h2 => ?_
    rw [if_neg]
    rw [prtC_iff hE]
    omega
theorem stay_ext {fs : T EF} {fr : Fr} {h : H} {x : EO} {k : K} {i : Nat} : (stays fs goNo fr h ⟨some k, none, .ext x i⟩ = true) = again ((ev fr x).onTup fun l => okv (nth l i) h) (getV (fr.get k)) := chk_again
structure CallsPt (fs : T EF) : Prop where
  c63 : fs.get (K.ofNat 63) = some f63
  c102 : fs.get (K.ofNat 102) = some f102
section
variable {fs : T EF} {ro : Option K} {h : H} {v w : V} {n : Nat} {E : List (Int × Int)} {L : List Int}
def f63_I (h : H) (v w : V) (E : List (Int × Int)) (L : List Int) (j : Nat) (fr : Fr) (h1 : H) : Prop := j ≤ E.length ∧ Grow h.nx.nat h h1 ∧ ∃ u1 u2, Sl iE h1 u1 ((E.take j).map (loE L)) ∧ Own h.nx.nat u1 ∧ Sl iE h1 u2 ((E.take j).map (hiE L)) ∧ Own h.nx.nat u2 ∧ (∀ id off n sz, u2 = .sl id off n sz → NotIn id u1) ∧ fr.get (K.ofNat 1) = some (w) ∧ fr.get (K.ofNat 6) = some (u1) ∧ fr.get (K.ofNat 7) = some (u2) ∧ fr.get (K.ofNat 16) = some (v) ∧ fr.get (K.ofNat 17) = some (.i .i64 (E.length : Int)) ∧ fr.get (K.ofNat 18) = some (.i .i64 (j : Int))
theorem f63_ret (k : CallsPt fs) (hv : Srp h v E) (hw : Sr iE h w L) (hc : HC h) (hE : EdgesOk n E) (hne : E ≠ []) (hlin : LabOk E L) (hn : L.length = n) : Ret fs f63 [v, w] h fun r h' => r = .tup [.i .i64 ((prtO E L).getD 0), .b (prtO E L).isSome] ∧ Grow h.nx.nat h h' := by
  have hE0 := hE
  obtain ⟨hE10, _, hE3⟩ := hE
  apply ret_of rfl
  show W fs none f63_c _ _ _
  unfold f63_c
  simp (disch := omega) only [f63_r0, f63_r1, f63_r2, w_reg, w_seq, w_block, seqK_n, x_nil, x_mv, x_as, x_len, kx, rvP_ok, ev_t, ev_c, getV_some, putD_some, frame_2, of0, getK_set, Nat.reduceEqDiff, ↓reduceIte, hv.len]
  refine W_loop (f63_I h v w E L) (fun j => E.length - j) ?_ 0 ⟨by omega, Grow.refl _ _, .sn, .sn, Sl.nil, Own.sn, Sl.nil, Own.sn, (fun _ _ _ _ e => by cases e), by simp (disch := omega) only [getK_set, Nat.reduceEqDiff, ↓reduceIte, and_self, Int.natCast_zero]⟩
  rintro j fr h1 ⟨hj, hG, u1, u2, hs1, ho1, hs2, ho2, hap, g1, g6, g7, g16, g17, g18⟩
  have hc1 := hG.hc hc
  have hv1 := hv.grow hc hG
  unfold f63_l0
  by_cases hlt : j < E.length
  · have d0 : decide ((j : Int) < (E.length : Int)) = true := by simpa using hlt
    obtain ⟨ide, q, hp1, hp2, _, _⟩ := hv1.at2 hlt
    obtain ⟨a, b, d, ha, hb, ea, eb, hab, ed, ead, hdE, la, lb⟩ := dfE_in hE0 hlin hn hlt
    have elo : loE L E[j] = min L[a] L[b] := by unfold loE; rw [ea, eb]; simp [List.getD_eq_getElem?_getD, ha, hb]
    have ehi : hiE L E[j] = max L[a] L[b] := by unfold hiE; rw [ea, eb]; simp [List.getD_eq_getElem?_getD, ha, hb]
    have hst2 : storeV (h1.new (.cells 2 zz)) 2 (.p h1.nx 0) (.agg [.i .i64 E[j].1, .i .i64 E[j].2]) = .ok undefV ((h1.new (.cells 2 zz)).put h1.nx (.cells 2 [.i .i64 E[j].1, .i .i64 E[j].2])) := st2 (a := .i .i64 (.ofNat 0)) (b := .i .i64 (.ofNat 0)) get_new_same
    have nx1 := nx_new h1 (.cells 2 zz)
    have gA : Grow h1.nx.nat h1 ((h1.new (.cells 2 zz)).put h1.nx (.cells 2 [.i .i64 E[j].1, .i .i64 E[j].2])) := (Grow.new (Nat.le_refl _) _).trans (Grow.put (Nat.le_refl _) (by omega) _)
    have c12 : ((h1.new (.cells 2 zz)).put h1.nx (.cells 2 [.i .i64 E[j].1, .i .i64 E[j].2])).get h1.nx = .cells 2 [.i .i64 E[j].1, .i .i64 E[j].2] := get_put_same
    have hzz : ([.i .i64 0, .i .i64 0] : List V) = zz := rfl
    generalize hh2 : (h1.new (.cells 2 zz)).put h1.nx (.cells 2 [.i .i64 E[j].1, .i .i64 E[j].2]) = h3 at *
    have hG3 := hG.trans (gA.low hG.nx)
    have hc3 := hG3.hc hc
    have hw3 := hw.grow hc hG3
    have l0 : loadV h3 (.p h1.nx (0 + 0 * 1)) one? = .ok (.i .i64 E[j].1) h3 := load_p c12 rfl
    have l1 : loadV h3 (.p h1.nx (0 + 1 * 1)) one? = .ok (.i .i64 E[j].2) h3 := load_p c12 rfl
    obtain ⟨s, hx1, hx2, hx3⟩ := hw3.atb a ha
    obtain ⟨t, ht1, ht2, ht3⟩ := hw3.atb b hb
    have hwb := hw.beq
    rw [ea] at l0
    rw [eb] at l1
    rw [ea, eb] at hst2 hp2
    have hlit := Sl.lit (e := iE) (x := L[b]) (h := h3)
    have gl := Grow.new (Nat.le_refl h3.nx.nat) (.cells (1 * 1) [iE L[b]])
    simp (disch := omega) only [f63_r3, f63_r4, f63_r5, w_skip, w_reg, w_draw, w_seq, w_cond, w_block, seqK_n, ckB_b, cbB_b, true_and, x_nil, x_alloc, x_ldn, x_st, x_bin, x_iads, x_call, kx, kg, xg_nil, xg_mv, xg_ld, xg_iadr, xg_iads, xg_bslice, xd_cons, stK_s, stay_nil, rvP_ok, okv_some, ev_t, ev_c, evs_nil, evs_cons, getV_some, putD_some, putD_none, bin_lss, onP_p, oGet_s, cells1_i, fill_1, set_1, of0, of1, Option.some.injEq, exists_eq_left', getK_set, Nat.reduceEqDiff, ↓reduceIte, ix2_0, ix2_1, g1, g16, g17, g18, d0, hp1, hp2, hzz, hst2, l0, l1, hx1, hx2, ht1, ht2, iE, hc3.dead, fill_1, set_1]
    refine ⟨fresh_one (n := 1) (sz := 1) (by simp (disch := omega) only [getK_set, ↓reduceIte]), ?_⟩
    refine (callP_0 (ef := f102) k.c102 rfl (f102_ret (a := L[a]) hlit.sr (by simp))).mono ?_
    rintro r h4 ⟨rfl, rfl⟩
    have gAl := gA.trans (gl.low gA.nx)
    have hGl := hG.trans (gAl.low hG.nx)
    have hcl := hGl.hc hc
    have hs1' := hs1.grow hc1 gAl
    have hs2' := hs2.grow hc1 gAl
    have em : minL L[a] [L[b]] = loE L E[j] := by rw [elo]; rfl
    have eM : maxL L[a] [L[b]] = hiE L E[j] := by rw [ehi]; rfl
    rw [em, eM]
    generalize h3.new (.cells (1 * 1) [iE L[b]]) = h5 at *
    obtain ⟨w1, h6, a1, p1, o1, gr1, kp1⟩ := Sl.push (e := iE) (x := loE L E[j]) (c := .i .i64 (loE L E[j])) rfl hs1' ho1 hGl.nx hcl (by simp; omega)
    have hG6 := hGl.trans gr1
    have hc6 := gr1.hc hcl
    have hs2'' : Sl iE h6 u2 ((E.take j).map (hiE L)) := hs2'.same fun id off n sz e => (kp1 id (hs2'.lt hcl _ _ _ _ e) (hap _ _ _ _ e)).1
    obtain ⟨w2, h7, a2, p2, o2, gr2, kp2⟩ := Sl.push (e := iE) (x := hiE L E[j]) (c := .i .i64 (hiE L E[j])) rfl hs2'' ho2 hG6.nx hc6 (by simp; omega)
    have hG7 := hG6.trans gr2
    -- the two slices stay apart
    have hap1 : ∀ id off n sz, w1 = .sl id off n sz → NotIn id u2 := fun id off n sz e off' n' sz' e' => (kp1 id (hs2'.lt hcl _ _ _ _ e') (hap _ _ _ _ e')).2 _ _ _ e
    have p1' : Sl iE h7 w1 ((E.take j).map (loE L) ++ [loE L E[j]]) := p1.same fun id off n sz e => (kp2 id (p1.lt hc6 _ _ _ _ e) (hap1 _ _ _ _ e)).1
    have hap2 : ∀ id off n sz, w2 = .sl id off n sz → NotIn id w1 := fun id off n sz e off' n' sz' e' => (kp2 id (p1.lt hc6 _ _ _ _ e') (hap1 _ _ _ _ e')).2 _ _ _ e
    simp (disch := omega) only [f63_r6, f63_r7, f63_r8, w_reg, w_seq, seqK_n, atK_n, loopK_n, true_and, x_nil, x_mv, x_as, x_bslice, x_bin, x_app, kx, kg, xg_nil, xg_mv, xg_ext, xd_cons, fresh_nil, stK_n, stK_s, stay_nil, stay_cons, again_ok, beq_i, rvP_ok, okv_some, ev_t, ev_c, getV_some, putD_some, bin_add, onTup_t, oGet_s, nth0, nth1, cells1_i, fill_1, set_1, of0, of1, getK_set, Nat.reduceEqDiff, ↓reduceIte, g6, g7, g18, fill_1, set_1, a1, a2, fw64, stay_ext, again_ok, beq_i]
    have e1 : (E.take j).map (loE L) ++ [loE L E[j]] = (E.take (j + 1)).map (loE L) := by rw [List.take_succ_eq_append_getElem hlt, List.map_append]; rfl
    have e2 : (E.take j).map (hiE L) ++ [hiE L E[j]] = (E.take (j + 1)).map (hiE L) := by rw [List.take_succ_eq_append_getElem hlt, List.map_append]; rfl
    rw [e1] at p1'
    rw [e2] at p2
    exact ⟨j + 1, by omega, by omega, hG7, w1, w2, p1', o1, p2, o2, hap2, by simp (disch := omega) only [getK_set, Nat.reduceEqDiff, ↓reduceIte, g1, g16, g17, and_self, Int.natCast_add, Int.natCast_one]⟩
  · have d0 : decide ((j : Int) < (E.length : Int)) = false := by simpa using hlt
    have ej : j = E.length := by omega
    rw [ej, List.take_length] at hs1 hs2
    have hpos := List.length_pos_iff.2 hne
    have hl1 : 0 < (E.map (loE L)).length := by simpa using hpos
    have hl2 : 0 < (E.map (hiE L)).length := by simpa using hpos
    have lim : ∀ {M : List Int} (hp : 0 < M.length), M[0] = M.headD 0 := fun {M} hp => by cases M with
      | nil => simp at hp
      | cons x l => rfl
    obtain ⟨p, hp1, hp2, hp3⟩ := hs1.atb 0 hl1
    obtain ⟨q, hq1, hq2, hq3⟩ := hs2.atb 0 hl2
    rw [lim hl1] at hp2
    rw [lim hl2] at hq2
    simp only [Int.natCast_zero] at hp1 hq1
    obtain ⟨v1, c1, d1, _⟩ := hs1.sr.cut (lo := some (.i .i64 1)) (hi := none) (l := 1) (u := (E.map (loE L)).length) rfl rfl (by omega) (by omega)
    obtain ⟨v2, c2, d2, _⟩ := hs2.sr.cut (lo := some (.i .i64 1)) (hi := none) (l := 1) (u := (E.map (hiE L)).length) rfl rfl (by omega) (by omega)
    rw [List.take_length, List.drop_one] at d1 d2
    have hb1 := hs1.beq
    have hb2 := hs2.beq
    have hv1b := d1.beq
    have hv2b := d2.beq
    simp (disch := omega) only [f63_r3, f63_r9, w_reg, w_draw, w_seq, w_cond, w_exit, seqK_n, seqK_e, atK_e, loopK_e, ckB_b, cbB_b, true_and, x_nil, x_bin, sliceV_eq, Option.map_none, Option.map_some, x_call, kx, kg, xg_nil, xg_mv, xg_ld, xg_slice, xg_iads, xd_cons, fresh_nil, stK_s, stay_nil, rvP_ok, okv_some, ev_t, ev_c, evs_nil, evs_cons, getV_some, putD_some, bin_lss, of0, of1, getK_set, Nat.reduceEqDiff, ↓reduceIte, Bool.false_eq_true, g6, g17, g18, d0, hp1, hp2, sliceV_eq, Option.map_none, Option.map_some, c1, iE]
    refine (callP_0 (ef := f102) k.c102 rfl (f102_ret d1 (by rw [List.length_tail, List.length_map]; omega))).mono ?_
    rintro r h4 ⟨rfl, rfl⟩
    simp (disch := omega) only [f63_r10, w_draw, w_seq, seqK_n, true_and, x_nil, x_as, sliceV_eq, Option.map_none, Option.map_some, x_call, kx, kg, xg_nil, xg_mv, xg_ld, xg_slice, xg_iads, xg_ext, xd_cons, fresh_nil, stK_n, stK_s, stay_nil, stay_cons, again_ok, beq_i, rvP_ok, okv_some, ev_t, ev_c, evs_nil, evs_cons, getV_some, putD_some, onTup_t, nth0, nth1, of0, of1, getK_set, Nat.reduceEqDiff, ↓reduceIte, g7, stay_ext, again_ok, beq_i, hq1, hq2, sliceV_eq, Option.map_none, Option.map_some, c2, iE]
    refine (callP_0 (ef := f102) k.c102 rfl (f102_ret d2 (by rw [List.length_tail, List.length_map]; omega))).mono ?_
    rintro r h5 ⟨rfl, rfl⟩
    obtain ⟨a, b, d, ha, hb, ea, eb, hab, _, _, _, la, lb⟩ := dfE_in hE0 hlin hn hpos
    have e1 : (E.map (loE L)).headD 0 = min L[a] L[b] := by
      rw [← lim hl1, List.getElem_map]; unfold loE; rw [ea, eb]; simp [List.getD_eq_getElem?_getD, ha, hb]
    have e2 : (E.map (hiE L)).headD 0 = max L[a] L[b] := by
      rw [← lim hl2, List.getElem_map]; unfold hiE; rw [ea, eb]; simp [List.getD_eq_getElem?_getD, ha, hb]
    have hla := hlin _ (List.getElem_mem ha)
    have hlb := hlin _ (List.getElem_mem hb)
    have hc0 : 0 ≤ cE E L := by
      have h9 := (maxL_le.1 (Int.le_refl (cE E L))).1
      omega
    have ham : aE E L ≤ (E.length : Int) := by
      have h9 : ¬ (E.map (hiE L)).headD 0 < aE E L := fun h9 => by have := (lt_minL.1 h9).1; omega
      omega
    have hpe := prt_eq hne hc0 ham
    show Go.Ev.kX fs [] _ _ _ _ _
    have eC : maxL ((E.map (loE L)).headD 0) (E.map (loE L)).tail = cE E L := rfl
    have eA : minL ((E.map (hiE L)).headD 0) (E.map (hiE L)).tail = aE E L := rfl
    rw [hpe]
    cases dd : decide (aE E L ≤ cE E L) with
    | true =>
      rw [if_pos (of_decide_eq_true dd)]
      simp (disch := omega) only [f63_r11, f63_r12, f63_rs, w_reg, w_seq, w_cond, w_ret, seqK_n, seqK_r, ckB_b, cbB_b, true_and, retK_r, x_nil, x_mv, x_as, x_bin, kx, kg, xg_nil, xg_mv, xg_ext, xd_cons, fresh_nil, stK_n, stK_s, stay_nil, stay_cons, again_ok, beq_i, rvP_ok, okv_some, ev_t, ev_c, getV_some, putD_some, bin_leq, onTup_t, oGet_s, nth0, nth1, readRs_nil, readRs_t, retV_2, of0, Option.some.injEq, exists_eq_left', getK_set, Nat.reduceEqDiff, ↓reduceIte, stay_ext, again_ok, beq_i, eC, eA, dd, Option.getD_none, Option.isSome_none, true_and]
      exact hG
    | false =>
      rw [if_neg (of_decide_eq_false dd)]
      simp (disch := omega) only [f63_r11, f63_r13, f63_rs, w_skip, w_reg, w_seq, w_cond, w_ret, seqK_n, ckB_b, cbB_b, true_and, retK_r, x_nil, x_mv, x_as, x_bin, kx, kg, xg_nil, xg_mv, xg_ext, xd_cons, fresh_nil, stK_n, stK_s, stay_nil, stay_cons, again_ok, beq_i, rvP_ok, okv_some, ev_t, ev_c, getV_some, putD_some, bin_leq, onTup_t, oGet_s, nth0, nth1, readRs_nil, readRs_t, retV_2, Option.some.injEq, exists_eq_left', getK_set, Nat.reduceEqDiff, ↓reduceIte, Bool.false_eq_true, stay_ext, again_ok, beq_i, eC, eA, dd, Option.getD_some, Option.isSome_some, true_and]
      exact hG
theorem chkI_ne {x : Int} (hn : chkI x E = 0) : E ≠ [] := by
  rintro rfl
  unfold chkI at hn
  split at hn
  · cases hn
  · simp at hn
end
end Go.Ev
namespace Go.Ev
open Go Go.RowKit
noncomputable def f28_r0 : List EOper := [⟨(some (K.ofNat 6)), none, .as (.c (.i .i64 (.ofNat 0)))⟩, ⟨(some (K.ofNat 7)), none, .as (.c .sn)⟩]
noncomputable def f28_r1 : List EOper := [⟨(some (K.ofNat 14)), none, .mv (.t (K.ofNat 0))⟩, ⟨(some (K.ofNat 15)), none, .conv .u64 (.t (K.ofNat 14))⟩, ⟨(some (K.ofNat 16)), none, .bin .rem (.t (K.ofNat 15)) (.c (.i .u64 (.ofNat 6)))⟩, ⟨(some (K.ofNat 17)), none, .conv .i64 (.t (K.ofNat 16))⟩, ⟨(some (K.ofNat 18)), none, .bin .add (.c (.i .i64 (.ofNat 2))) (.t (K.ofNat 17))⟩, ⟨(some (K.ofNat 0)), none, .as (.t (K.ofNat 18))⟩]
noncomputable def f28_r2 : List EOper := [⟨(some (K.ofNat 8)), none, .as (.c .sn)⟩]
noncomputable def f28_r3 : List EOper := [⟨(some (K.ofNat 9)), none, .as (.c (.i .i64 (.ofNat 0)))⟩]
noncomputable def f28_r4 : List EOper := [⟨(some (K.ofNat 19)), none, .mv (.t (K.ofNat 9))⟩, ⟨(some (K.ofNat 20)), none, .mv (.t (K.ofNat 0))⟩, ⟨(some (K.ofNat 21)), none, .bin .lss (.t (K.ofNat 19)) (.t (K.ofNat 20))⟩]
noncomputable def f28_r5 : List EOper := [⟨(some (K.ofNat 24)), none, .mv (.t (K.ofNat 9))⟩, ⟨(some (K.ofNat 25)), none, .bin .add (.t (K.ofNat 24)) (.c (.i .i64 (.ofNat 1)))⟩, ⟨(some (K.ofNat 10)), none, .as (.t (K.ofNat 25))⟩]
noncomputable def f28_r6 : List EOper := [⟨(some (K.ofNat 26)), none, .mv (.t (K.ofNat 10))⟩, ⟨(some (K.ofNat 27)), none, .mv (.t (K.ofNat 0))⟩, ⟨(some (K.ofNat 28)), none, .bin .lss (.t (K.ofNat 26)) (.t (K.ofNat 27))⟩]
noncomputable def f28_r7 : List EOper := [⟨(some (K.ofNat 11)), none, .as (.c (.i .i64 (.ofNat 0)))⟩]
noncomputable def f28_r8 : List EOper := [⟨(some (K.ofNat 31)), none, .mv (.t (K.ofNat 11))⟩, ⟨(some (K.ofNat 32)), none, .mv (.t (K.ofNat 1))⟩, ⟨(some (K.ofNat 33)), none, .len (.t (K.ofNat 32))⟩, ⟨(some (K.ofNat 34)), none, .bin .lss (.t (K.ofNat 31)) (.t (K.ofNat 33))⟩, ⟨(some (K.ofNat 35)), none, .mv (.t (K.ofNat 34))⟩, ⟨(some (K.ofNat 36)), (some ((K.ofNat 35), true)), .mv (.t (K.ofNat 8))⟩, ⟨(some (K.ofNat 37)), (some ((K.ofNat 35), true)), .len (.t (K.ofNat 36))⟩, ⟨(some (K.ofNat 38)), (some ((K.ofNat 35), true)), .mv (.t (K.ofNat 2))⟩, ⟨(some (K.ofNat 39)), (some ((K.ofNat 35), true)), .bin .lss (.t (K.ofNat 37)) (.t (K.ofNat 38))⟩, ⟨(some (K.ofNat 40)), none, .pick (.t (K.ofNat 35)) (.t (K.ofNat 39)) (.c (.b false))⟩]
noncomputable def f28_r9 : List Stage := [⟨[⟨(some (K.ofNat 43)), none, .mv (.t (K.ofNat 1))⟩, ⟨(some (K.ofNat 44)), none, .mv (.t (K.ofNat 11))⟩, ⟨(some (K.ofNat 45)), none, .iads 2 (.t (K.ofNat 43)) (.t (K.ofNat 44))⟩, ⟨(some (K.ofNat 46)), none, .iadr 2 1 (.t (K.ofNat 45)) (.c (.i .i64 (.ofNat 0)))⟩, ⟨(some (K.ofNat 47)), none, .ld (.t (K.ofNat 46))⟩, ⟨(some (K.ofNat 48)), none, .conv .u64 (.t (K.ofNat 47))⟩, ⟨(some (K.ofNat 49)), none, .mv (.t (K.ofNat 0))⟩, ⟨(some (K.ofNat 50)), none, .conv .u64 (.t (K.ofNat 49))⟩, ⟨(some (K.ofNat 51)), none, .bin .rem (.t (K.ofNat 48)) (.t (K.ofNat 50))⟩, ⟨(some (K.ofNat 52)), none, .conv .i64 (.t (K.ofNat 51))⟩, ⟨(some (K.ofNat 53)), none, .mv (.t (K.ofNat 1))⟩, ⟨(some (K.ofNat 54)), none, .mv (.t (K.ofNat 11))⟩, ⟨(some (K.ofNat 55)), none, .iads 2 (.t (K.ofNat 53)) (.t (K.ofNat 54))⟩, ⟨(some (K.ofNat 56)), none, .iadr 2 1 (.t (K.ofNat 55)) (.c (.i .i64 (.ofNat 1)))⟩, ⟨(some (K.ofNat 57)), none, .ld (.t (K.ofNat 56))⟩, ⟨(some (K.ofNat 58)), none, .conv .u64 (.t (K.ofNat 57))⟩, ⟨(some (K.ofNat 59)), none, .mv (.t (K.ofNat 0))⟩, ⟨(some (K.ofNat 60)), none, .conv .u64 (.t (K.ofNat 59))⟩, ⟨(some (K.ofNat 61)), none, .bin .rem (.t (K.ofNat 58)) (.t (K.ofNat 60))⟩, ⟨(some (K.ofNat 62)), none, .conv .i64 (.t (K.ofNat 61))⟩], [], (some ⟨(some (K.ofNat 12)), none, .as (.t (K.ofNat 52))⟩), []⟩, ⟨[], [⟨(some (K.ofNat 53)), none, .mv (.t (K.ofNat 1))⟩, ⟨(some (K.ofNat 54)), none, .mv (.t (K.ofNat 11))⟩, ⟨(some (K.ofNat 55)), none, .iads 2 (.t (K.ofNat 53)) (.t (K.ofNat 54))⟩, ⟨(some (K.ofNat 56)), none, .iadr 2 1 (.t (K.ofNat 55)) (.c (.i .i64 (.ofNat 1)))⟩, ⟨(some (K.ofNat 57)), none, .ld (.t (K.ofNat 56))⟩, ⟨(some (K.ofNat 58)), none, .conv .u64 (.t (K.ofNat 57))⟩, ⟨(some (K.ofNat 59)), none, .mv (.t (K.ofNat 0))⟩, ⟨(some (K.ofNat 60)), none, .conv .u64 (.t (K.ofNat 59))⟩, ⟨(some (K.ofNat 61)), none, .bin .rem (.t (K.ofNat 58)) (.t (K.ofNat 60))⟩, ⟨(some (K.ofNat 62)), none, .conv .i64 (.t (K.ofNat 61))⟩], (some ⟨(some (K.ofNat 13)), none, .as (.t (K.ofNat 62))⟩), []⟩, ⟨[], [], none, []⟩]
noncomputable def f28_r10 : List EOper := [⟨(some (K.ofNat 63)), none, .mv (.t (K.ofNat 12))⟩, ⟨(some (K.ofNat 64)), none, .mv (.t (K.ofNat 13))⟩, ⟨(some (K.ofNat 65)), none, .min (.t (K.ofNat 63)) (.t (K.ofNat 64))⟩, ⟨(some (K.ofNat 66)), none, .mv (.t (K.ofNat 9))⟩, ⟨(some (K.ofNat 67)), none, .bin .eql (.t (K.ofNat 65)) (.t (K.ofNat 66))⟩, ⟨(some (K.ofNat 68)), none, .mv (.t (K.ofNat 67))⟩, ⟨(some (K.ofNat 69)), (some ((K.ofNat 68), true)), .mv (.t (K.ofNat 12))⟩, ⟨(some (K.ofNat 70)), (some ((K.ofNat 68), true)), .mv (.t (K.ofNat 13))⟩, ⟨(some (K.ofNat 71)), (some ((K.ofNat 68), true)), .max (.t (K.ofNat 69)) (.t (K.ofNat 70))⟩, ⟨(some (K.ofNat 72)), (some ((K.ofNat 68), true)), .mv (.t (K.ofNat 10))⟩, ⟨(some (K.ofNat 73)), (some ((K.ofNat 68), true)), .bin .eql (.t (K.ofNat 71)) (.t (K.ofNat 72))⟩, ⟨(some (K.ofNat 74)), none, .pick (.t (K.ofNat 68)) (.t (K.ofNat 73)) (.c (.b false))⟩]
noncomputable def f28_r11 : List EOper := [⟨(some (K.ofNat 75)), none, .mv (.t (K.ofNat 8))⟩, ⟨(some (K.ofNat 76)), none, .mv (.t (K.ofNat 9))⟩, ⟨(some (K.ofNat 77)), none, .mv (.t (K.ofNat 10))⟩, ⟨(some (K.ofNat 78)), none, .build [(.i .i64 (.ofNat 0)), (.i .i64 (.ofNat 0))] [(0, 1, (.t (K.ofNat 76))), (1, 1, (.t (K.ofNat 77)))]⟩, ⟨(some (K.ofNat 79)), none, .bslice 1 2 [(.i .i64 (.ofNat 0)), (.i .i64 (.ofNat 0))] [(0, 2, (.t (K.ofNat 78)))]⟩, ⟨(some (K.ofNat 80)), none, .app 2 (.t (K.ofNat 75)) (.t (K.ofNat 79))⟩, ⟨(some (K.ofNat 8)), none, .as (.t (K.ofNat 80))⟩]
noncomputable def f28_r12 : List EOper := [⟨(some (K.ofNat 41)), none, .mv (.t (K.ofNat 11))⟩, ⟨(some (K.ofNat 42)), none, .bin .add (.t (K.ofNat 41)) (.c (.i .i64 (.ofNat 1)))⟩, ⟨(some (K.ofNat 11)), none, .as (.t (K.ofNat 42))⟩]
noncomputable def f28_l0 : EC := (.seq (.seq (.reg f28_r8) (.cond (.t (K.ofNat 40)) .skip (.exit 4))) (.seq (.block 5 (.seq (.draw f28_r9) (.seq (.reg f28_r10) (.cond (.t (K.ofNat 74)) (.seq (.reg f28_r11) (.exit 4)) .skip)))) (.reg f28_r12)))
noncomputable def f28_r13 : List EOper := [⟨(some (K.ofNat 29)), none, .mv (.t (K.ofNat 10))⟩, ⟨(some (K.ofNat 30)), none, .bin .add (.t (K.ofNat 29)) (.c (.i .i64 (.ofNat 1)))⟩, ⟨(some (K.ofNat 10)), none, .as (.t (K.ofNat 30))⟩]
noncomputable def f28_l1 : EC := (.seq (.seq (.reg f28_r6) (.cond (.t (K.ofNat 28)) .skip (.exit 2))) (.seq (.block 3 (.seq (.reg f28_r7) (.block 4 (.loop f28_l0)))) (.reg f28_r13)))
noncomputable def f28_r14 : List EOper := [⟨(some (K.ofNat 22)), none, .mv (.t (K.ofNat 9))⟩, ⟨(some (K.ofNat 23)), none, .bin .add (.t (K.ofNat 22)) (.c (.i .i64 (.ofNat 1)))⟩, ⟨(some (K.ofNat 9)), none, .as (.t (K.ofNat 23))⟩]
noncomputable def f28_l2 : EC := (.seq (.seq (.reg f28_r4) (.cond (.t (K.ofNat 21)) .skip (.exit 0))) (.seq (.block 1 (.seq (.reg f28_r5) (.block 2 (.loop f28_l1)))) (.reg f28_r14)))
noncomputable def f28_r15 : List EOper := [⟨(some (K.ofNat 81)), none, .mv (.t (K.ofNat 8))⟩, ⟨(some (K.ofNat 82)), none, .len (.t (K.ofNat 81))⟩, ⟨(some (K.ofNat 83)), none, .bin .eql (.t (K.ofNat 82)) (.c (.i .i64 (.ofNat 0)))⟩]
noncomputable def f28_r16 : List EOper := [⟨(some (K.ofNat 84)), none, .mv (.t (K.ofNat 8))⟩, ⟨(some (K.ofNat 85)), none, .build [(.i .i64 (.ofNat 0)), (.i .i64 (.ofNat 0))] [(0, 1, (.c (.i .i64 (.ofNat 0)))), (1, 1, (.c (.i .i64 (.ofNat 1))))]⟩, ⟨(some (K.ofNat 86)), none, .bslice 1 2 [(.i .i64 (.ofNat 0)), (.i .i64 (.ofNat 0))] [(0, 2, (.t (K.ofNat 85)))]⟩, ⟨(some (K.ofNat 87)), none, .app 2 (.t (K.ofNat 84)) (.t (K.ofNat 86))⟩, ⟨(some (K.ofNat 8)), none, .as (.t (K.ofNat 87))⟩]
noncomputable def f28_r17 : List EOper := [⟨(some (K.ofNat 88)), none, .mv (.t (K.ofNat 0))⟩, ⟨(some (K.ofNat 89)), none, .mv (.t (K.ofNat 8))⟩, ⟨(some (K.ofNat 6)), none, .as (.t (K.ofNat 88))⟩, ⟨(some (K.ofNat 7)), none, .as (.t (K.ofNat 89))⟩]
noncomputable def f28_c : EC := (.seq (.reg f28_r0) (.seq (.reg f28_r1) (.seq (.reg f28_r2) (.seq (.seq (.reg f28_r3) (.block 0 (.loop f28_l2))) (.seq (.seq (.reg f28_r15) (.cond (.t (K.ofNat 83)) (.reg f28_r16) .skip)) (.seq (.reg f28_r17) .ret))))))
noncomputable def f28 : EF := ⟨90, [.tmp (K.ofNat 6), .tmp (K.ofNat 7)], f28_c, none⟩
theorem f28_rs : f28.rs = [.tmp (K.ofNat 6), .tmp (K.ofNat 7)] := of_eq_true (eq_self _)
structure TmOk (N : Int) (E : List (Int × Int)) (a b : Int) : Prop where
  ris : risB N E = true
  len : E.length ≤ 10
  bf : ∀ e ∈ E, bfB e (a, b) = true
theorem bfB_iff {a b : Int × Int} : bfB a b = true ↔ a.1 < b.1 ∨ (a.1 = b.1 ∧ a.2 < b.2) := by
  unfold bfB; simp
theorem TmOk.next {N a b : Int} {E : List (Int × Int)} (h : TmOk N E a b) {a' b' : Int} (hx : a < a' ∨ (a = a' ∧ b ≤ b')) : TmOk N E a' b' := ⟨h.ris, h.len, fun e he => by
  have := bfB_iff.1 (h.bf e he)
  refine bfB_iff.2 ?_
  simp only at this ⊢
  omega⟩
theorem risB_snoc {N : Int} {E : List (Int × Int)} {e : Int × Int} (h1 : risB N E = true) (h2 : edB N e = true) (h3 : ∀ x ∈ E, bfB x e = true) : risB N (E ++ [e]) = true := by
  refine risB_yes fun j hj => ?_
  have hj : j < E.length + 1 := by simpa using hj
  by_cases e1 : j < E.length
  · have h4 := List.all_eq_true.1 h1 j (by simpa using e1)
    unfold okAt at h4 ⊢
    have g1 : (E ++ [e]).getD j (0, 0) = E.getD j (0, 0) := by simp [List.getD_eq_getElem?_getD, List.getElem?_append_left e1]
    have g2 : (E ++ [e]).getD (j - 1) (0, 0) = E.getD (j - 1) (0, 0) := by simp [List.getD_eq_getElem?_getD, List.getElem?_append_left (show j - 1 < E.length by omega)]
    rw [g1, g2]; exact h4
  · have ej : j = E.length := by omega
    subst ej
    unfold okAt
    have g1 : (E ++ [e]).getD E.length (0, 0) = e := by simp [List.getD_eq_getElem?_getD]
    rw [g1, h2, Bool.true_and]
    by_cases hz : E.length = 0
    · rw [decide_eq_true hz]; rfl
    · have hl : E.length - 1 < E.length := by omega
      have g2 : (E ++ [e]).getD (E.length - 1) (0, 0) = E[E.length - 1] := by simp [List.getD_eq_getElem?_getD, List.getElem?_append_left hl, hl]
      rw [g2, h3 _ (List.getElem_mem hl)]; simp
theorem TmOk.snoc {N a b : Int} {E : List (Int × Int)} (h : TmOk N E a b) (hl : E.length < 10) (ha : 0 ≤ a) (hab : a < b) (hb : b < N) : TmOk N (E ++ [(a, b)]) a (b + 1) :=
  ⟨risB_snoc h.ris (by unfold edB; simp; omega) h.bf, by simp; omega, fun e he => by
    rcases List.mem_append.1 he with he | he
    · exact (h.next (a' := a) (b' := b + 1) (.inr ⟨rfl, by omega⟩)).bf e he
    · have : e = (a, b) := by simpa using he
      subst this
      exact bfB_iff.2 (.inr ⟨rfl, by simp only; omega⟩)⟩
theorem TmOk.chk {m : Nat} {E : List (Int × Int)} {a b : Int} (h : TmOk (m : Int) E a b) (h2 : 2 ≤ m) (h7 : m ≤ 7) (hn : E ≠ []) : chkI (m : Int) E = 0 := by
  have := List.length_pos_iff.2 hn
  have hl := h.len
  unfold chkI
  rw [if_neg (by omega), if_neg (by omega), if_pos h.ris]
theorem Sk.srp {h : H} {v : V} {L : List (Int × Int)} (hs : Sk 2 qE h v L) : Srp h v L := by
  rcases hs with ⟨rfl, rfl⟩ | ⟨id, off, m, cs, rfl, hb, h1, h2, h3⟩
  · exact .inl ⟨rfl, rfl, rfl⟩
  · exact .inr ⟨id, off, m, cs, rfl, .inl hb, h1, h2, h3⟩
theorem fill_p2 {fr : Fr} {x : EO} {z1 z2 : V} : fillE fr [z1, z2] [(0, 2, x)] = oGet (cellsN 2 (ev fr x)) none fun cs => some (setMany [z1, z2] 0 cs) := of_eq_true (eq_self _)
theorem set_p2 {z1 z2 a b : V} : setMany [z1, z2] 0 [a, b] = [a, b] := of_eq_true (eq_self _)
section
variable {fs : T EF} {ro : Option K} {h : H} {v : V} {l : List (Int × Int)}
def f28_A (h : H) (v : V) (m : Nat) (l : List (Int × Int)) (a b : Nat) (i : Nat) (fr : Fr) (h1 : H) : Prop := i ≤ l.length ∧ ∃ u E, Sk 2 qE h1 u E ∧ Own h.nx.nat u ∧ Grow h.nx.nat h h1 ∧ TmOk (m : Int) E (a : Int) (b : Int) ∧ fr.get (K.ofNat 0) = some (.i .i64 (m : Int)) ∧ fr.get (K.ofNat 1) = some (v) ∧ fr.get (K.ofNat 2) = some (.i .i64 10) ∧ fr.get (K.ofNat 8) = some (u) ∧ fr.get (K.ofNat 9) = some (.i .i64 (a : Int)) ∧ fr.get (K.ofNat 10) = some (.i .i64 (b : Int)) ∧ fr.get (K.ofNat 11) = some (.i .i64 (i : Int))
def f28_B (h : H) (v : V) (m : Nat) (a : Nat) (b : Nat) (fr : Fr) (h1 : H) : Prop := a < b ∧ b ≤ m + 1 ∧ ∃ u E, Sk 2 qE h1 u E ∧ Own h.nx.nat u ∧ Grow h.nx.nat h h1 ∧ TmOk (m : Int) E (a : Int) (b : Int) ∧ fr.get (K.ofNat 0) = some (.i .i64 (m : Int)) ∧ fr.get (K.ofNat 1) = some (v) ∧ fr.get (K.ofNat 2) = some (.i .i64 10) ∧ fr.get (K.ofNat 8) = some (u) ∧ fr.get (K.ofNat 9) = some (.i .i64 (a : Int)) ∧ fr.get (K.ofNat 10) = some (.i .i64 (b : Int))
def f28_C (h : H) (v : V) (m : Nat) (a : Nat) (fr : Fr) (h1 : H) : Prop := a ≤ m ∧ ∃ u E, Sk 2 qE h1 u E ∧ Own h.nx.nat u ∧ Grow h.nx.nat h h1 ∧ TmOk (m : Int) E (a : Int) 0 ∧ fr.get (K.ofNat 0) = some (.i .i64 (m : Int)) ∧ fr.get (K.ofNat 1) = some (v) ∧ fr.get (K.ofNat 2) = some (.i .i64 10) ∧ fr.get (K.ofNat 8) = some (u) ∧ fr.get (K.ofNat 9) = some (.i .i64 (a : Int))
theorem f28_ret {n : Int} (hv : Srp h v l) (hc : HC h) (hL : l.length ≤ 9223372036854775807) : Ret fs f28 [.i .i64 n, v, .i .i64 10] h fun r h' => ∃ (m : Nat) (u : V) (E : List (Int × Int)), r = .tup [.i .i64 (m : Int), u] ∧ Srp h' u E ∧ chkI (m : Int) E = 0 ∧ Grow h.nx.nat h h' := by
  apply ret_of rfl
  show W fs none f28_c _ _ _
  unfold f28_c
  obtain ⟨q, hq6, hqe⟩ := rem_k n (k := 6) (by omega) (by omega)
  have hqe : fw .i64 ((fw .u64 n).tmod 6) = (q : Int) := hqe
  obtain ⟨m, hm⟩ : ∃ m : Nat, m = 2 + q := ⟨_, rfl⟩
  have em : 2 + (q : Int) = (m : Int) := by omega
  simp (disch := omega) only [f28_r0, f28_r1, f28_r2, f28_r3, w_reg, w_seq, w_block, seqK_n, x_nil, x_mv, x_as, x_bin, x_conv, kx, rvP_ok, okv_some, ev_t, ev_c, getV_some, putD_some, bin_add, bin_rem, onI_i, frame_3, of0, of2, of6, getK_set, Nat.reduceEqDiff, ↓reduceIte, hqe, fw64, em]
  refine W_loop (f28_C h v m) (fun a => m - a) ?_ 0 ⟨by omega, .sn, [], Sk.nil, Own.sn, Grow.refl _ _, ⟨rfl, by simp, fun e he => by cases he⟩, by simp (disch := omega) only [getK_set, Nat.reduceEqDiff, ↓reduceIte, and_self, Int.natCast_zero]⟩
  rintro a fr h1 ⟨ha, u, E, hs, ho, hG, hT, g0, g1, g2, g8, g9⟩
  unfold f28_l2
  by_cases hlt : a < m
  · have d0 : decide ((a : Int) < (m : Int)) = true := by simp; omega
    simp (disch := omega) only [f28_r4, f28_r5, w_skip, w_reg, w_seq, w_cond, w_block, seqK_n, ckB_b, cbB_b, true_and, x_nil, x_mv, x_as, x_bin, kx, rvP_ok, okv_some, ev_t, ev_c, getV_some, putD_some, bin_add, bin_lss, of1, getK_set, Nat.reduceEqDiff, ↓reduceIte, g0, g9, d0, fw64]
    refine W_loop (f28_B h v m a) (fun b => m + 1 - b) ?_ (a + 1) ⟨by omega, by omega, u, E, hs, ho, hG, hT.next (.inr ⟨rfl, by omega⟩), by simp (disch := omega) only [getK_set, Nat.reduceEqDiff, ↓reduceIte, g0, g1, g2, g8, g9, and_self, Int.natCast_add, Int.natCast_one]⟩
    clear hs ho hG hT g0 g1 g2 g8 g9
    rintro b fr h2 ⟨hab, hb, u, E, hs, ho, hG, hT, g0, g1, g2, g8, g9, g10⟩
    unfold f28_l1
    by_cases hlt2 : b < m
    · have d1 : decide ((b : Int) < (m : Int)) = true := by simp; omega
      simp (disch := omega) only [f28_r6, f28_r7, w_skip, w_reg, w_seq, w_cond, w_block, seqK_n, ckB_b, cbB_b, true_and, x_nil, x_mv, x_as, x_bin, kx, rvP_ok, okv_some, ev_t, ev_c, getV_some, putD_some, bin_lss, of0, getK_set, Nat.reduceEqDiff, ↓reduceIte, g0, g10, d1]
      refine W_loop (f28_A h v m l a b) (fun i => l.length - i) ?_ 0 ⟨by omega, u, E, hs, ho, hG, hT, by simp (disch := omega) only [getK_set, Nat.reduceEqDiff, ↓reduceIte, g0, g1, g2, g8, g9, g10, and_self, Int.natCast_zero]⟩
      clear hs ho hG hT g0 g1 g2 g8 g9 g10
      rintro i fr h3 ⟨hi, u, E, hs, ho, hG, hT, g0, g1, g2, g8, g9, g10, g11⟩
      have hc3 := hG.hc hc
      have hv3 := hv.grow hc hG
      have hsl := hs.len
      have hTl := hT.len
      -- after the search
      have fin : ∀ (fr : Fr) (h4 : H) (u : V) (E : List (Int × Int)), Sk 2 qE h4 u E → Own h.nx.nat u → Grow h.nx.nat h h4 → TmOk (m : Int) E (a : Int) ((b : Int) + 1) → fr.get (K.ofNat 0) = some (.i .i64 (m : Int)) ∧ fr.get (K.ofNat 1) = some (v) ∧ fr.get (K.ofNat 2) = some (.i .i64 10) ∧ fr.get (K.ofNat 8) = some (u) ∧ fr.get (K.ofNat 9) = some (.i .i64 (a : Int)) ∧ fr.get (K.ofNat 10) = some (.i .i64 (b : Int)) → Go.Ev.X fs f28_r13 (loopK (f28_B h v m a) (fun b => m + 1 - b) b (atK 2 (atK 1 (seqK (W fs none (.reg f28_r14)) (loopK (f28_C h v m) (fun a => m - a) a (atK 0 (seqK (W fs none (.seq (.seq (.reg f28_r15) (.cond (.t (K.ofNat 83)) (.reg f28_r16) .skip)) (.seq (.reg f28_r17) .ret))) (retK f28 fun r h' => ∃ (m : Nat) (u : V) (E : List (Int × Int)), r = .tup [.i .i64 (m : Int), u] ∧ Srp h' u E ∧ chkI (m : Int) E = 0 ∧ Grow h.nx.nat h h'))))))) .normal) fr h4 := by
        clear g0 g1 g2 g8 g9 g10 g11 fr
        rintro fr h4 u E hs ho hG hT ⟨g0, g1, g2, g8, g9, g10⟩
        simp (disch := omega) only [f28_r13, loopK_n, x_nil, x_mv, x_as, x_bin, kx, rvP_ok, okv_some, ev_t, ev_c, getV_some, putD_some, bin_add, of1, getK_set, ↓reduceIte, g10, fw64]
        exact ⟨b + 1, by omega, by omega, by omega, u, E, hs, ho, hG, hT, by simp (disch := omega) only [getK_set, Nat.reduceEqDiff, ↓reduceIte, g0, g1, g2, g8, g9, and_self, Int.natCast_add, Int.natCast_one]⟩
      unfold f28_l0
      by_cases hlt3 : i < l.length
      · have d2 : decide ((i : Int) < (l.length : Int)) = true := by simpa using hlt3
        by_cases hE : E.length < 10
        · have d3 : decide ((E.length : Int) < 10) = true := by simp; omega
          obtain ⟨ide, qq, hp1, _, hp2, hp3⟩ := hv3.at2 hlt3
          have hvb := hv.beq
          have hmw : fw .u64 (m : Int) = (m : Int) := fwu64 (by omega) (by omega)
          have hrem : ∀ a, binV .rem (.i .u64 a) (.i .u64 (m : Int)) = some (.i .u64 (a.tmod (m : Int))) := fun a => bin_rem (by omega)
          obtain ⟨c, hcm, hce⟩ := rem_k l[i].1 (k := m) (by omega) (by omega)
          obtain ⟨d, hdm, hde⟩ := rem_k l[i].2 (k := m) (by omega) (by omega)
          simp (disch := omega) only [f28_r8, f28_r9, w_skip, w_reg, w_draw, w_seq, w_cond, w_block, seqK_n, ckB_b, cbB_b, okG_b, asG_t, true_and, x_nil, x_g, x_mv, x_as, x_pick, x_bin, x_len, kx, kg, xg_nil, xg_mv, xg_ld, xg_bin, xg_conv, xg_iadr, xg_iads, xd_cons, fresh_nil, stK_n, stK_s, stay_nil, stay_cons, again_ok, stay_mv, beq_i, stay_iads, stay_ld, stay_bin, beq_p, rvP_ok, okv_some, ev_t, ev_c, getV_some, putD_some, bin_lss, pick_b, onI_i, onP_p, of0, of1, getK_set, Nat.reduceEqDiff, ↓reduceIte, stay_iadr, stay_conv, ix2_0, ix2_1, g0, g1, g2, g8, g11, hv3.len, hsl, d2, d3, hp1, hp2, hp3, hvb, hmw, hrem, hce, hde]
          have next : ∀ (fr : Fr), fr.get (K.ofNat 0) = some (.i .i64 (m : Int)) ∧ fr.get (K.ofNat 1) = some (v) ∧ fr.get (K.ofNat 2) = some (.i .i64 10) ∧ fr.get (K.ofNat 8) = some (u) ∧ fr.get (K.ofNat 9) = some (.i .i64 (a : Int)) ∧ fr.get (K.ofNat 10) = some (.i .i64 (b : Int)) ∧ fr.get (K.ofNat 11) = some (.i .i64 (i : Int)) → Go.Ev.X fs f28_r12 (loopK (f28_A h v m l a b) (fun i => l.length - i) i (atK 4 (atK 3 (seqK (W fs none (.reg f28_r13)) (loopK (f28_B h v m a) (fun b => m + 1 - b) b (atK 2 (atK 1 (seqK (W fs none (.reg f28_r14)) (loopK (f28_C h v m) (fun a => m - a) a (atK 0 (seqK (W fs none (.seq (.seq (.reg f28_r15) (.cond (.t (K.ofNat 83)) (.reg f28_r16) .skip)) (.seq (.reg f28_r17) .ret))) (retK f28 fun r h' => ∃ (m : Nat) (u : V) (E : List (Int × Int)), r = .tup [.i .i64 (m : Int), u] ∧ Srp h' u E ∧ chkI (m : Int) E = 0 ∧ Grow h.nx.nat h h'))))))))))) .normal) fr h3 := by
            clear g0 g1 g2 g8 g9 g10 g11 fr
            rintro fr ⟨g0, g1, g2, g8, g9, g10, g11⟩
            simp (disch := omega) only [f28_r12, loopK_n, x_nil, x_mv, x_as, x_bin, kx, rvP_ok, okv_some, ev_t, ev_c, getV_some, putD_some, bin_add, of1, getK_set, ↓reduceIte, g11, fw64]
            exact ⟨i + 1, by omega, hlt3, u, E, hs, ho, hG, hT, by simp (disch := omega) only [getK_set, Nat.reduceEqDiff, ↓reduceIte, g0, g1, g2, g8, g9, g10, and_self, Int.natCast_add, Int.natCast_one]⟩
          cases d4 : decide (min (c : Int) (d : Int) = (a : Int)) with
          | false =>
            simp (disch := omega) only [f28_r10, w_skip, w_reg, w_cond, seqK_n, atK_n, ckB_b, cbB_b, okG_b, asG_t, true_and, x_nil, x_g, x_mv, x_pick, x_bin, x_min, kx, rvP_ok, okv_some, ev_t, ev_c, getV_some, putD_some, bin_eql, pick_b, min_ii, getK_set, Nat.reduceEqDiff, ↓reduceIte, Bool.false_eq_true, g9, d4]
            exact next _ (by simp (disch := omega) only [getK_set, Nat.reduceEqDiff, ↓reduceIte, g0, g1, g2, g8, g9, g10, g11, and_self])
          | true =>
          cases d5 : decide (max (c : Int) (d : Int) = (b : Int)) with
          | false =>
            simp (disch := omega) only [f28_r10, w_skip, w_reg, w_cond, seqK_n, atK_n, ckB_b, cbB_b, okG_b, asG_t, true_and, x_nil, x_g, x_mv, x_pick, x_bin, x_min, x_max, kx, rvP_ok, okv_some, ev_t, ev_c, getV_some, putD_some, bin_eql, pick_b, min_ii, max_ii, getK_set, Nat.reduceEqDiff, ↓reduceIte, Bool.false_eq_true, g9, g10, d4, d5]
            exact next _ (by simp (disch := omega) only [getK_set, Nat.reduceEqDiff, ↓reduceIte, g0, g1, g2, g8, g9, g10, g11, and_self])
          | true =>
            obtain ⟨u', h4, a1, s1, o1, gr1, _⟩ := Sk.push qE_len (by omega) (x := ((a : Int), (b : Int))) hs ho hG.nx hc3 (by omega)
            have a1' : appV 2 (h3.new (.cells (1 * 2) [.i .i64 (a : Int), .i .i64 (b : Int)])) u (.sl h3.nx 0 1 2) = .ok u' h4 := a1
            simp (disch := omega) only [f28_r10, f28_r11, w_reg, w_seq, w_cond, w_exit, seqK_n, seqK_e, atK_n, atK_e, loopK_e, ckB_b, cbB_b, okG_b, asG_t, true_and, x_nil, x_g, x_mv, x_as, x_pick, x_build, x_bslice, x_bin, x_app, x_min, x_max, kx, rvP_ok, okv_some, ev_t, ev_c, getV_some, putD_some, bin_eql, pick_b, oGet_s, min_ii, max_ii, cells1_i, of0, getK_set, Nat.reduceEqDiff, ↓reduceIte, fill_2, set_2, cells2, g8, g9, g10, d4, d5, fill_2, set_2, cells2, fill_p2, set_p2, a1']
            exact fin _ h4 u' _ s1 o1 (hG.trans gr1) (hT.snoc hE (by omega) (by omega) (by omega)) (by simp (disch := omega) only [getK_set, Nat.reduceEqDiff, ↓reduceIte, g0, g1, g2, g9, g10, and_self])
        · have d3 : decide ((E.length : Int) < 10) = false := by simp; omega
          simp (disch := omega) only [f28_r8, w_reg, w_seq, w_cond, w_exit, seqK_n, seqK_e, atK_n, atK_e, loopK_e, ckB_b, cbB_b, okG_b, asG_t, true_and, x_nil, x_g, x_mv, x_pick, x_bin, x_len, kx, rvP_ok, okv_some, ev_t, ev_c, getV_some, putD_some, bin_lss, pick_b, getK_set, Nat.reduceEqDiff, ↓reduceIte, Bool.false_eq_true, g1, g2, g8, g11, hv3.len, hsl, d2, d3]
          exact fin _ _ u E hs ho hG (hT.next (.inr ⟨rfl, by omega⟩)) (by simp (disch := omega) only [getK_set, Nat.reduceEqDiff, ↓reduceIte, g0, g1, g2, g8, g9, g10, and_self])
      · have d2 : decide ((i : Int) < (l.length : Int)) = false := by simpa using hlt3
        simp (disch := omega) only [f28_r8, w_reg, w_seq, w_cond, w_exit, seqK_n, seqK_e, atK_n, atK_e, loopK_e, ckB_b, cbB_b, okG_b, asG_t, true_and, x_nil, x_g, x_mv, x_pick, x_bin, x_len, kx, rvP_ok, okv_some, ev_t, ev_c, getV_some, putD_some, bin_lss, pick_b, getK_set, Nat.reduceEqDiff, ↓reduceIte, Bool.false_eq_true, g1, g11, hv3.len, d2]
        exact fin _ _ u E hs ho hG (hT.next (.inr ⟨rfl, by omega⟩)) (by simp (disch := omega) only [getK_set, Nat.reduceEqDiff, ↓reduceIte, g0, g1, g2, g8, g9, g10, and_self])
    · have d1 : decide ((b : Int) < (m : Int)) = false := by simp; omega
      simp (disch := omega) only [f28_r6, f28_r14, w_reg, w_seq, w_cond, w_exit, seqK_n, seqK_e, atK_n, atK_e, loopK_n, loopK_e, ckB_b, cbB_b, true_and, x_nil, x_mv, x_as, x_bin, kx, rvP_ok, okv_some, ev_t, ev_c, getV_some, putD_some, bin_add, bin_lss, of1, getK_set, Nat.reduceEqDiff, ↓reduceIte, Bool.false_eq_true, g0, g9, g10, d1, fw64]
      exact ⟨a + 1, by omega, by omega, u, E, hs, ho, hG, hT.next (.inl (by omega)), by simp (disch := omega) only [getK_set, Nat.reduceEqDiff, ↓reduceIte, g0, g1, g2, g8, and_self, Int.natCast_add, Int.natCast_one]⟩
  · have d0 : decide ((a : Int) < (m : Int)) = false := by simp; omega
    have hc1 := hG.hc hc
    by_cases hE : E = []
    · subst hE
      have d1 : decide ((([] : List (Int × Int)).length : Int) = 0) = true := rfl
      obtain ⟨u', h4, a1, s1, o1, gr1, _⟩ := Sk.push qE_len (by omega) (x := ((0 : Int), (1 : Int))) hs ho hG.nx hc1 (by simp)
      have a1' : appV 2 (h1.new (.cells (1 * 2) [.i .i64 0, .i .i64 1])) u (.sl h1.nx 0 1 2) = .ok u' h4 := a1
      simp (disch := omega) only [f28_r4, f28_r15, f28_r16, f28_r17, f28_rs, w_reg, w_seq, w_cond, w_exit, w_ret, seqK_n, seqK_e, atK_e, loopK_e, ckB_b, cbB_b, true_and, retK_r, x_nil, x_mv, x_as, x_build, x_bslice, x_bin, x_len, x_app, kx, rvP_ok, okv_some, ev_t, ev_c, getV_some, putD_some, bin_eql, bin_lss, oGet_s, readRs_nil, readRs_t, retV_2, cells1_i, of0, of1, Option.some.injEq, exists_eq_left', getK_set, Nat.reduceEqDiff, ↓reduceIte, Bool.false_eq_true, fill_2, set_2, cells2, g0, g8, g9, d0, hs.len, d1, fill_2, set_2, cells2, fill_p2, set_p2, a1']
      have hT0 : TmOk (m : Int) [] 0 1 := ⟨hT.ris, by simp, fun e he => by cases he⟩
      have hT1 := hT0.snoc (by simp) (by omega) (by omega) (by omega)
      exact ⟨m, u', _, rfl, s1.srp, hT1.chk (by omega) (by omega) (by simp), hG.trans gr1⟩
    · have hpos := List.length_pos_iff.2 hE
      have d1 : decide ((E.length : Int) = 0) = false := by simp; omega
      simp (disch := omega) only [f28_r4, f28_r15, f28_r17, f28_rs, w_skip, w_reg, w_seq, w_cond, w_exit, w_ret, seqK_n, seqK_e, atK_e, loopK_e, ckB_b, cbB_b, true_and, retK_r, x_nil, x_mv, x_as, x_bin, x_len, kx, rvP_ok, okv_some, ev_t, ev_c, getV_some, putD_some, bin_eql, bin_lss, oGet_s, readRs_nil, readRs_t, retV_2, of0, Option.some.injEq, exists_eq_left', getK_set, Nat.reduceEqDiff, ↓reduceIte, Bool.false_eq_true, g0, g8, g9, d0, hs.len, d1]
      exact ⟨m, u, E, rfl, hs.srp, hT.chk (by omega) (by omega) hE, hG⟩
end
end Go.Ev
namespace Go.Ev
open Go Go.RowKit
noncomputable def f5_r0 : List EOper := [⟨(some (K.ofNat 6)), none, .as (.c (.b false))⟩]
noncomputable def f5_r1 : List EOper := [⟨(some (K.ofNat 22)), none, .mv (.t (K.ofNat 0))⟩, ⟨(some (K.ofNat 23)), none, .mv (.t (K.ofNat 1))⟩, ⟨(some (K.ofNat 24)), none, .call (.c (.fn (K.ofNat 28) [])) [(.t (K.ofNat 22)), (.t (K.ofNat 23)), (.c (.i .i64 (.ofNat 10)))]⟩, ⟨(some (K.ofNat 21)), none, .mv (.t (K.ofNat 24))⟩, ⟨(some (K.ofNat 25)), none, .ext (.t (K.ofNat 21)) 0⟩, ⟨(some (K.ofNat 26)), none, .ext (.t (K.ofNat 21)) 1⟩, ⟨(some (K.ofNat 7)), none, .as (.t (K.ofNat 25))⟩, ⟨(some (K.ofNat 8)), none, .as (.t (K.ofNat 26))⟩]
noncomputable def f5_r2 : List EOper := [⟨(some (K.ofNat 27)), none, .mv (.t (K.ofNat 2))⟩, ⟨(some (K.ofNat 28)), none, .call (.c (.fn (K.ofNat 15) [])) [(.t (K.ofNat 27)), (.c (.i .i64 (.ofNat 10)))]⟩, ⟨(some (K.ofNat 9)), none, .as (.t (K.ofNat 28))⟩]
noncomputable def f5_r3 : List EOper := [⟨(some (K.ofNat 10)), none, .as (.c (.i .i64 (.ofNat 0)))⟩]
noncomputable def f5_r4 : List EOper := [⟨(some (K.ofNat 29)), none, .mv (.t (K.ofNat 10))⟩, ⟨(some (K.ofNat 30)), none, .bin .lss (.t (K.ofNat 29)) (.c (.i .i64 (.ofNat 2)))⟩]
noncomputable def f5_r5 : List EOper := [⟨(some (K.ofNat 33)), none, .mv (.t (K.ofNat 7))⟩, ⟨(some (K.ofNat 34)), none, .mv (.t (K.ofNat 8))⟩, ⟨(some (K.ofNat 35)), none, .mv (.t (K.ofNat 9))⟩, ⟨(some (K.ofNat 36)), none, .call (.c (.fn (K.ofNat 32) [])) [(.t (K.ofNat 33)), (.t (K.ofNat 34)), (.t (K.ofNat 35))]⟩, ⟨(some (K.ofNat 11)), none, .as (.t (K.ofNat 36))⟩]
noncomputable def f5_r6 : List EOper := [⟨(some (K.ofNat 38)), none, .mv (.t (K.ofNat 7))⟩, ⟨(some (K.ofNat 39)), none, .mv (.t (K.ofNat 8))⟩, ⟨(some (K.ofNat 40)), none, .mv (.t (K.ofNat 9))⟩, ⟨(some (K.ofNat 41)), none, .call (.c (.fn (K.ofNat 18) [])) [(.t (K.ofNat 38)), (.t (K.ofNat 39)), (.t (K.ofNat 40))]⟩, ⟨(some (K.ofNat 37)), none, .mv (.t (K.ofNat 41))⟩, ⟨(some (K.ofNat 42)), none, .ext (.t (K.ofNat 37)) 0⟩, ⟨(some (K.ofNat 43)), none, .ext (.t (K.ofNat 37)) 1⟩, ⟨(some (K.ofNat 12)), none, .as (.t (K.ofNat 42))⟩, ⟨(some (K.ofNat 13)), none, .as (.t (K.ofNat 43))⟩]
noncomputable def f5_r7 : List EOper := [⟨(some (K.ofNat 45)), none, .mv (.t (K.ofNat 7))⟩, ⟨(some (K.ofNat 46)), none, .mv (.t (K.ofNat 8))⟩, ⟨(some (K.ofNat 47)), none, .mv (.t (K.ofNat 9))⟩, ⟨(some (K.ofNat 48)), none, .call (.c (.fn (K.ofNat 19) [])) [(.t (K.ofNat 45)), (.t (K.ofNat 46)), (.t (K.ofNat 47))]⟩, ⟨(some (K.ofNat 44)), none, .mv (.t (K.ofNat 48))⟩, ⟨(some (K.ofNat 49)), none, .ext (.t (K.ofNat 44)) 0⟩, ⟨(some (K.ofNat 50)), none, .ext (.t (K.ofNat 44)) 1⟩, ⟨(some (K.ofNat 51)), none, .ext (.t (K.ofNat 44)) 2⟩, ⟨(some (K.ofNat 14)), none, .as (.t (K.ofNat 49))⟩, ⟨(some (K.ofNat 15)), none, .as (.t (K.ofNat 50))⟩, ⟨(some (K.ofNat 16)), none, .as (.t (K.ofNat 51))⟩]
noncomputable def f5_r8 : List EOper := [⟨(some (K.ofNat 53)), none, .mv (.t (K.ofNat 7))⟩, ⟨(some (K.ofNat 54)), none, .mv (.t (K.ofNat 8))⟩, ⟨(some (K.ofNat 55)), none, .mv (.t (K.ofNat 9))⟩, ⟨(some (K.ofNat 56)), none, .call (.c (.fn (K.ofNat 20) [])) [(.t (K.ofNat 53)), (.t (K.ofNat 54)), (.t (K.ofNat 55))]⟩, ⟨(some (K.ofNat 52)), none, .mv (.t (K.ofNat 56))⟩, ⟨(some (K.ofNat 57)), none, .ext (.t (K.ofNat 52)) 0⟩, ⟨(some (K.ofNat 58)), none, .ext (.t (K.ofNat 52)) 1⟩, ⟨(some (K.ofNat 17)), none, .as (.t (K.ofNat 57))⟩, ⟨(some (K.ofNat 18)), none, .as (.t (K.ofNat 58))⟩]
noncomputable def f5_r9 : List EOper := [⟨(some (K.ofNat 59)), none, .mv (.t (K.ofNat 13))⟩, ⟨(some (K.ofNat 60)), none, .bin .neq (.t (K.ofNat 59)) (.c (.i .i64 (.ofNat 0)))⟩, ⟨(some (K.ofNat 61)), none, .mv (.t (K.ofNat 60))⟩, ⟨(some (K.ofNat 62)), (some ((K.ofNat 61), false)), .mv (.t (K.ofNat 12))⟩, ⟨(some (K.ofNat 63)), (some ((K.ofNat 61), false)), .mv (.t (K.ofNat 11))⟩, ⟨(some (K.ofNat 64)), (some ((K.ofNat 61), false)), .eqk (.one none) true (.t (K.ofNat 62)) (.t (K.ofNat 63))⟩, ⟨(some (K.ofNat 65)), none, .pick (.t (K.ofNat 61)) (.c (.b true)) (.t (K.ofNat 64))⟩, ⟨(some (K.ofNat 66)), none, .mv (.t (K.ofNat 65))⟩, ⟨(some (K.ofNat 67)), (some ((K.ofNat 66), false)), .mv (.t (K.ofNat 16))⟩, ⟨(some (K.ofNat 68)), (some ((K.ofNat 66), false)), .bin .neq (.t (K.ofNat 67)) (.c (.i .i64 (.ofNat 0)))⟩, ⟨(some (K.ofNat 69)), none, .pick (.t (K.ofNat 66)) (.c (.b true)) (.t (K.ofNat 68))⟩]
noncomputable def f5_r10 : List EOper := [⟨(some (K.ofNat 6)), none, .as (.c (.b false))⟩]
noncomputable def f5_r11 : List EOper := [⟨(some (K.ofNat 70)), none, .mv (.t (K.ofNat 11))⟩, ⟨(some (K.ofNat 71)), none, .not (.t (K.ofNat 70))⟩]
noncomputable def f5_r12 : List EOper := [⟨(some (K.ofNat 72)), none, .mv (.t (K.ofNat 15))⟩, ⟨(some (K.ofNat 73)), none, .mv (.t (K.ofNat 72))⟩, ⟨(some (K.ofNat 74)), (some ((K.ofNat 73), false)), .mv (.t (K.ofNat 14))⟩, ⟨(some (K.ofNat 75)), (some ((K.ofNat 73), false)), .bin .neq (.t (K.ofNat 74)) (.c (.i .i64 (.ofNat 0)))⟩, ⟨(some (K.ofNat 76)), none, .pick (.t (K.ofNat 73)) (.c (.b true)) (.t (K.ofNat 75))⟩, ⟨(some (K.ofNat 77)), none, .mv (.t (K.ofNat 76))⟩, ⟨(some (K.ofNat 78)), (some ((K.ofNat 77), false)), .mv (.t (K.ofNat 18))⟩, ⟨(some (K.ofNat 79)), (some ((K.ofNat 77), false)), .bin .neq (.t (K.ofNat 78)) (.c (.i .i64 (.ofNat 1)))⟩, ⟨(some (K.ofNat 80)), none, .pick (.t (K.ofNat 77)) (.c (.b true)) (.t (K.ofNat 79))⟩, ⟨(some (K.ofNat 81)), none, .mv (.t (K.ofNat 80))⟩, ⟨(some (K.ofNat 82)), (some ((K.ofNat 81), false)), .mv (.t (K.ofNat 17))⟩, ⟨(some (K.ofNat 83)), (some ((K.ofNat 81), false)), .len (.t (K.ofNat 82))⟩, ⟨(some (K.ofNat 84)), (some ((K.ofNat 81), false)), .bin .neq (.t (K.ofNat 83)) (.c (.i .i64 (.ofNat 0)))⟩, ⟨(some (K.ofNat 85)), none, .pick (.t (K.ofNat 81)) (.c (.b true)) (.t (K.ofNat 84))⟩]
noncomputable def f5_r13 : List EOper := [⟨(some (K.ofNat 6)), none, .as (.c (.b false))⟩]
noncomputable def f5_r14 : List EOper := [⟨(some (K.ofNat 87)), none, .mv (.t (K.ofNat 8))⟩, ⟨(some (K.ofNat 88)), none, .mv (.t (K.ofNat 9))⟩, ⟨(some (K.ofNat 89)), none, .call (.c (.fn (K.ofNat 33) [])) [(.t (K.ofNat 87)), (.t (K.ofNat 88))]⟩, ⟨(some (K.ofNat 86)), none, .mv (.t (K.ofNat 89))⟩, ⟨(some (K.ofNat 90)), none, .ext (.t (K.ofNat 86)) 0⟩, ⟨(some (K.ofNat 91)), none, .ext (.t (K.ofNat 86)) 1⟩, ⟨(some (K.ofNat 19)), none, .as (.t (K.ofNat 90))⟩, ⟨(some (K.ofNat 20)), none, .as (.t (K.ofNat 91))⟩]
noncomputable def f5_r15 : List EOper := [⟨(some (K.ofNat 92)), none, .mv (.t (K.ofNat 15))⟩, ⟨(some (K.ofNat 93)), none, .mv (.t (K.ofNat 20))⟩, ⟨(some (K.ofNat 94)), none, .eqk (.one none) true (.t (K.ofNat 92)) (.t (K.ofNat 93))⟩, ⟨(some (K.ofNat 95)), none, .mv (.t (K.ofNat 94))⟩, ⟨(some (K.ofNat 96)), (some ((K.ofNat 95), false)), .mv (.t (K.ofNat 14))⟩, ⟨(some (K.ofNat 97)), (some ((K.ofNat 95), false)), .mv (.t (K.ofNat 19))⟩, ⟨(some (K.ofNat 98)), (some ((K.ofNat 95), false)), .bin .neq (.t (K.ofNat 96)) (.t (K.ofNat 97))⟩, ⟨(some (K.ofNat 99)), none, .pick (.t (K.ofNat 95)) (.c (.b true)) (.t (K.ofNat 98))⟩, ⟨(some (K.ofNat 100)), none, .mv (.t (K.ofNat 99))⟩, ⟨(some (K.ofNat 101)), (some ((K.ofNat 100), false)), .mv (.t (K.ofNat 18))⟩, ⟨(some (K.ofNat 102)), (some ((K.ofNat 100), false)), .bin .neq (.t (K.ofNat 101)) (.c (.i .i64 (.ofNat 0)))⟩, ⟨(some (K.ofNat 103)), none, .pick (.t (K.ofNat 100)) (.c (.b true)) (.t (K.ofNat 102))⟩, ⟨(some (K.ofNat 104)), none, .mv (.t (K.ofNat 103))⟩, ⟨(some (K.ofNat 105)), (some ((K.ofNat 104), false)), .mv (.t (K.ofNat 17))⟩, ⟨(some (K.ofNat 106)), (some ((K.ofNat 104), false)), .mv (.t (K.ofNat 8))⟩, ⟨(some (K.ofNat 107)), (some ((K.ofNat 104), false)), .mv (.t (K.ofNat 9))⟩, ⟨(some (K.ofNat 108)), (some ((K.ofNat 104), false)), .call (.c (.fn (K.ofNat 34) [])) [(.t (K.ofNat 106)), (.t (K.ofNat 107))]⟩, ⟨(some (K.ofNat 109)), (some ((K.ofNat 104), false)), .call (.c (.fn (K.ofNat 30) [])) [(.t (K.ofNat 105)), (.t (K.ofNat 108))]⟩, ⟨(some (K.ofNat 110)), (some ((K.ofNat 104), false)), .not (.t (K.ofNat 109))⟩, ⟨(some (K.ofNat 111)), none, .pick (.t (K.ofNat 104)) (.c (.b true)) (.t (K.ofNat 110))⟩]
noncomputable def f5_r16 : List EOper := [⟨(some (K.ofNat 6)), none, .as (.c (.b false))⟩]
noncomputable def f5_r17 : List EOper := [⟨(some (K.ofNat 112)), none, .mv (.t (K.ofNat 7))⟩, ⟨(some (K.ofNat 113)), none, .mv (.t (K.ofNat 8))⟩, ⟨(some (K.ofNat 114)), none, .mv (.t (K.ofNat 2))⟩, ⟨(some (K.ofNat 115)), none, .len (.t (K.ofNat 114))⟩, ⟨(some (K.ofNat 116)), none, .bin .rem (.t (K.ofNat 115)) (.c (.i .i64 (.ofNat 2)))⟩, ⟨(some (K.ofNat 117)), none, .bin .eql (.t (K.ofNat 116)) (.c (.i .i64 (.ofNat 0)))⟩, ⟨(some (K.ofNat 118)), none, .call (.c (.fn (K.ofNat 29) [])) [(.t (K.ofNat 112)), (.t (K.ofNat 113)), (.t (K.ofNat 117))]⟩, ⟨(some (K.ofNat 9)), none, .as (.t (K.ofNat 118))⟩]
noncomputable def f5_r18 : List EOper := [⟨(some (K.ofNat 31)), none, .mv (.t (K.ofNat 10))⟩, ⟨(some (K.ofNat 32)), none, .bin .add (.t (K.ofNat 31)) (.c (.i .i64 (.ofNat 1)))⟩, ⟨(some (K.ofNat 10)), none, .as (.t (K.ofNat 32))⟩]
noncomputable def f5_l0 : EC := (.seq (.seq (.reg f5_r4) (.cond (.t (K.ofNat 30)) .skip (.exit 0))) (.seq (.block 1 (.seq (.reg f5_r5) (.seq (.reg f5_r6) (.seq (.reg f5_r7) (.seq (.reg f5_r8) (.seq (.seq (.reg f5_r9) (.cond (.t (K.ofNat 69)) (.seq (.reg f5_r10) .ret) .skip)) (.seq (.seq (.reg f5_r11) (.cond (.t (K.ofNat 71)) (.seq (.reg f5_r12) (.cond (.t (K.ofNat 85)) (.seq (.reg f5_r13) .ret) .skip)) (.seq (.reg f5_r14) (.seq (.reg f5_r15) (.cond (.t (K.ofNat 111)) (.seq (.reg f5_r16) .ret) .skip))))) (.reg f5_r17)))))))) (.reg f5_r18)))
noncomputable def f5_r19 : List EOper := [⟨(some (K.ofNat 119)), none, .call (.c (.fn (K.ofNat 23) [])) []⟩, ⟨(some (K.ofNat 6)), none, .as (.t (K.ofNat 119))⟩]
noncomputable def f5_c : EC := (.seq (.reg f5_r0) (.seq (.reg f5_r1) (.seq (.reg f5_r2) (.seq (.seq (.reg f5_r3) (.block 0 (.loop f5_l0))) (.seq (.reg f5_r19) .ret)))))
noncomputable def f5 : EF := ⟨120, [.tmp (K.ofNat 6)], f5_c, none⟩
theorem slArgK_len {P : Program} {W : World} {base : Nat} {t e : TypeId} (ht : P.underlying t = some (.slice e)) {v : Value} {len : Nat} {zs : List Int} (hval : Value.okWide P W .any base t v) (hs : SlArgK 2 W v len zs) : len ≤ 9223372036854775807 := by
  rcases hs with ⟨_, rfl, _⟩ | ⟨b, off, cap, rfl, h1, _⟩
  · exact Nat.zero_le _
  · simp only [Value.okWide, ht, Cell.okWide, Cell.ok] at hval
    have h2 := hval.2.1
    have h3 : IntKind.i64.max = 9223372036854775807 := rfl
    omega
theorem pairsOf_le {len c : Nat} {zs : List Int} (h : len ≤ c) : (pairsOf len zs).length ≤ c := by
  unfold pairsOf; simpa using h
section
variable {fs : T EF} {ro : Option K}
end
end Go.Ev
namespace Go.Ev
open Go Go.RowKit
section
variable {fs : T EF} {ro : Option K} {h : H} {v : V} {n : Int} {E : List (Int × Int)}
end
end Go.Ev
namespace Go.Ev
open Go Go.RowKit
theorem absD_comm (a b : Int) : absD a b = absD b a := by unfold absD; split <;> split <;> omega
theorem pw_all {α : Type} {R : α → α → Prop} (hs : ∀ a b, R a b → R b a) : ∀ {l : List α}, l.Pairwise R → ∀ a ∈ l, ∀ b ∈ l, a ≠ b → R a b
  | [], _, a, ha, _, _, _ => absurd ha (by simp)
  | x :: l, h, a, ha, b, hb, hn => by
    rw [List.pairwise_cons] at h
    rcases List.mem_cons.1 ha with e1 | ha'
    · rcases List.mem_cons.1 hb with e2 | hb'
      · exact absurd (e1.trans e2.symm) hn
      · rw [e1]; exact h.1 b hb'
    · rcases List.mem_cons.1 hb with e2 | hb'
      · rw [e2]; exact hs _ _ (h.1 a ha')
      · exact pw_all hs h.2 a ha' b hb' hn
/-- The edges both of whose ends are among the first k nodes differ in their differences. -/
def PwK (E : List (Int × Int)) (L : List Int) (k : Int) : Prop := E.Pairwise fun e e' => e.2 < k → e'.2 < k → dfE L e ≠ dfE L e'
def dxE (L : List Int) (x : Int) (e : Int × Int) : Int := absD x (L.getD e.1.toNat 0)
def PwX (E : List (Int × Int)) (L : List Int) (x : Int) : Prop := E.Pairwise fun e e' => e.2 = (L.length : Int) → e'.2 = (L.length : Int) → dxE L x e ≠ dxE L x e'
theorem getD_set {L : List Bool} {d e : Nat} (hd : d < L.length) : (L.set d true).getD e false = true ↔ e = d ∨ L.getD e false = true := by
  rw [List.getD_eq_getElem?_getD, List.getD_eq_getElem?_getD, List.getElem?_set]
  by_cases h : d = e
  · subst h; simp [hd]
  · rw [if_neg h]
    constructor
    · exact fun h => .inr h
    · rintro (h1 | h1)
      · exact absurd h1.symm h
      · exact h1
theorem getD_in {L : List Bool} {d : Nat} (h : d < L.length) : L.getD d true = L.getD d false := by
  rw [List.getD_eq_getElem?_getD, List.getD_eq_getElem?_getD, List.getElem?_eq_getElem h]; rfl
/-- What taking the differences to a new label does. -/
theorem step_spec {L : List Int} {x : Int} : ∀ (F : List (Int × Int)) (A : List Bool), A.length = 26 → (∀ e ∈ F, e.2 = (L.length : Int) → 0 ≤ dxE L x e ∧ dxE L x e < 26) →
    match F.foldl (stepO L x) (some A) with
    | none => ¬ ((∀ e ∈ F, e.2 = (L.length : Int) → A.getD (dxE L x e).toNat false = false) ∧ PwX F L x)
    | some B => ((∀ e ∈ F, e.2 = (L.length : Int) → A.getD (dxE L x e).toNat false = false) ∧ PwX F L x) ∧ B.length = 26 ∧ ∀ d : Nat, B.getD d false = true ↔ A.getD d false = true ∨ ∃ e ∈ F, e.2 = (L.length : Int) ∧ dxE L x e = (d : Int)
  | [], A, hA, _ => ⟨⟨fun e he => absurd he (by simp), List.Pairwise.nil⟩, hA, fun d => by simp⟩
  | e :: F, A, hA, hb => by
    rw [List.foldl_cons]
    by_cases h2 : e.2 = (L.length : Int)
    · obtain ⟨b0, b1⟩ := hb e (by simp) h2
      by_cases h3 : A.getD (dxE L x e).toNat false = true
      · have : stepO L x (some A) e = none := by
          show (if e.2 = (L.length : Int) then (if A.getD (dxE L x e).toNat true = true then none else some (A.set (dxE L x e).toNat true)) else some A) = none
          rw [if_pos h2, getD_in (by omega), if_pos h3]
        rw [this, foldl_none]
        rintro ⟨h4, _⟩
        rw [h4 e (by simp) h2] at h3; cases h3
      · have h3' : A.getD (dxE L x e).toNat false = false := by simpa using h3
        have : stepO L x (some A) e = some (A.set (dxE L x e).toNat true) := by
          show (if e.2 = (L.length : Int) then (if A.getD (dxE L x e).toNat true = true then none else some (A.set (dxE L x e).toNat true)) else some A) = _
          rw [if_pos h2, getD_in (by omega), if_neg h3]
        rw [this]
        have ih := step_spec F (A.set (dxE L x e).toNat true) (by simp [hA]) (fun e' he' => hb e' (by simp [he']))
        have hl : (dxE L x e).toNat < A.length := by omega
        have key : ((∀ e' ∈ F, e'.2 = (L.length : Int) → (A.set (dxE L x e).toNat true).getD (dxE L x e').toNat false = false) ∧ PwX F L x) ↔ ((∀ e' ∈ e :: F, e'.2 = (L.length : Int) → A.getD (dxE L x e').toNat false = false) ∧ PwX (e :: F) L x) := by
          unfold PwX
          rw [List.pairwise_cons]
          constructor
          · rintro ⟨p1, p2⟩
            have q : ∀ e' ∈ F, e'.2 = (L.length : Int) → dxE L x e ≠ dxE L x e' ∧ A.getD (dxE L x e').toNat false = false := fun e' he' h4 => by
              have h5 := p1 e' he' h4
              rw [Bool.eq_false_iff] at h5
              rw [Ne, getD_set hl, not_or] at h5
              exact ⟨fun h => h5.1 (by rw [h]), by simpa using h5.2⟩
            refine ⟨fun e' he' h4 => ?_, fun e' he' _ h4 => (q e' he' h4).1, p2⟩
            rcases List.mem_cons.1 he' with rfl | he'
            · exact h3'
            · exact (q e' he' h4).2
          · rintro ⟨p1, p2, p3⟩
            refine ⟨fun e' he' h4 => ?_, p3⟩
            rw [Bool.eq_false_iff, Ne, getD_set hl, not_or]
            have := hb e' (by simp [he']) h4
            have := p2 e' he' h2 h4
            exact ⟨by omega, by rw [p1 e' (by simp [he']) h4]; simp⟩
        cases hf : F.foldl (stepO L x) (some (A.set (dxE L x e).toNat true)) with
        | none => rw [hf] at ih; exact fun h => ih (key.2 h)
        | some B =>
          rw [hf] at ih
          obtain ⟨i1, i2, i3⟩ := ih
          refine ⟨key.1 i1, i2, fun d => ?_⟩
          rw [i3 d, getD_set hl]
          constructor
          · rintro ((h | h) | ⟨e', h5, h6⟩)
            · exact .inr ⟨e, by simp, h2, by omega⟩
            · exact .inl h
            · exact .inr ⟨e', by simp [h5], h6⟩
          · rintro (h | ⟨e', h5, h6, h7⟩)
            · exact .inl (.inr h)
            · rcases List.mem_cons.1 h5 with rfl | h5
              · exact .inl (.inl (by omega))
              · exact .inr ⟨e', h5, h6, h7⟩
    · have : stepO L x (some A) e = some A := by
        show (if e.2 = (L.length : Int) then _ else some A) = some A
        rw [if_neg h2]
      rw [this]
      have ih := step_spec F A hA (fun e' he' => hb e' (by simp [he']))
      have key : ((∀ e' ∈ F, e'.2 = (L.length : Int) → A.getD (dxE L x e').toNat false = false) ∧ PwX F L x) ↔ ((∀ e' ∈ e :: F, e'.2 = (L.length : Int) → A.getD (dxE L x e').toNat false = false) ∧ PwX (e :: F) L x) := by
        unfold PwX
        rw [List.pairwise_cons]
        constructor
        · rintro ⟨p1, p2⟩
          refine ⟨fun e' he' h4 => ?_, fun e' _ h4 => absurd h4 h2, p2⟩
          rcases List.mem_cons.1 he' with rfl | he'
          · exact absurd h4 h2
          · exact p1 e' he' h4
        · rintro ⟨p1, _, p3⟩
          exact ⟨fun e' he' => p1 e' (by simp [he']), p3⟩
      cases hf : F.foldl (stepO L x) (some A) with
      | none => rw [hf] at ih; exact fun h => ih (key.2 h)
      | some B =>
        rw [hf] at ih
        obtain ⟨i1, i2, i3⟩ := ih
        refine ⟨key.1 i1, i2, fun d => ?_⟩
        rw [i3 d]
        constructor
        · rintro (h | ⟨e', h5, h6⟩)
          · exact .inl h
          · exact .inr ⟨e', by simp [h5], h6⟩
        · rintro (h | ⟨e', h5, h6, h7⟩)
          · exact .inl h
          · rcases List.mem_cons.1 h5 with rfl | h5
            · exact absurd h6 h2
            · exact .inr ⟨e', h5, h6, h7⟩
/-- What holds of labels and of the differences that are taken. -/
structure LInv (E : List (Int × Int)) (L : List Int) (A : List Bool) : Prop where
  len : A.length = 26
  lab : LabOk E L
  nd : L.Nodup
  pw : PwK E L L.length
  met : ∀ d : Nat, A.getD d false = true ↔ ∃ e ∈ E, e.2 < (L.length : Int) ∧ dfE L e = (d : Int)
theorem rep_getD {n d : Nat} : (List.replicate n false).getD d false = false := by
  rw [List.getD_eq_getElem?_getD, List.getElem?_replicate]; split <;> rfl
theorem LInv.start {n : Nat} {E : List (Int × Int)} (hE : EdgesOk n E) : LInv E [] (List.replicate 26 false) where
  len := by simp
  lab := fun x hx => absurd hx (by simp)
  nd := List.nodup_nil
  pw := List.Pairwise.imp_of_mem (R := fun _ _ => True) (fun {a b} ha hb _ h => by
    have := hE.2.2 a ha
    have h : a.2 < 0 := h
    omega) (List.pairwise_of_forall (fun _ _ => trivial))
  met := fun d => by
    rw [rep_getD]
    refine ⟨fun h => (by cases h), ?_⟩
    rintro ⟨e, he, h1, _⟩
    have := hE.2.2 e he
    have h1 : e.2 < 0 := h1
    omega
section
variable {n : Nat} {E : List (Int × Int)} {L : List Int} {A : List Bool} {x : Int}
theorem dfE_low (hE : EdgesOk n E) {e : Int × Int} (he : e ∈ E) (h : e.2 < (L.length : Int)) : dfE (L ++ [x]) e = dfE L e := by
  have := hE.2.2 e he
  unfold dfE
  rw [List.getD_eq_getElem?_getD, List.getD_eq_getElem?_getD, List.getD_eq_getElem?_getD, List.getD_eq_getElem?_getD, List.getElem?_append_left (by omega), List.getElem?_append_left (by omega)]
theorem dfE_top (hE : EdgesOk n E) {e : Int × Int} (he : e ∈ E) (h : e.2 = (L.length : Int)) : dfE (L ++ [x]) e = dxE L x e := by
  have := hE.2.2 e he
  unfold dfE dxE
  rw [absD_comm, List.getD_eq_getElem?_getD, List.getD_eq_getElem?_getD, List.getD_eq_getElem?_getD, List.getElem?_append_right (by omega), List.getElem?_append_left (by omega), show e.2.toNat - L.length = 0 by omega]; rfl
theorem dfE_bd (hE : EdgesOk n E) (hL : LabOk E L) {e : Int × Int} (he : e ∈ E) (h : e.2 < (L.length : Int)) : 0 ≤ dfE L e ∧ dfE L e ≤ E.length := by
  have := hE.2.2 e he
  have h1 : e.1.toNat < L.length := by omega
  have h2 : e.2.toNat < L.length := by omega
  have p := hL _ (List.getElem_mem h1)
  have q := hL _ (List.getElem_mem h2)
  unfold dfE
  rw [List.getD_eq_getElem?_getD, List.getD_eq_getElem?_getD, List.getElem?_eq_getElem h1, List.getElem?_eq_getElem h2]
  unfold absD
  show 0 ≤ (if L[e.1.toNat] < L[e.2.toNat] then _ else _) ∧ (if L[e.1.toNat] < L[e.2.toNat] then _ else _) ≤ _
  split <;> constructor <;> simp only [Option.getD_some] at * <;> omega
theorem dxE_bd (hE : EdgesOk n E) (hL : LabOk E L) (hx : 0 ≤ x ∧ x ≤ (E.length : Int)) {e : Int × Int} (he : e ∈ E) (h : e.2 = (L.length : Int)) : 0 ≤ dxE L x e ∧ dxE L x e < 26 := by
  have h0 := hE.2.2 e he
  have h10 := hE.1
  have h1 : e.1.toNat < L.length := by omega
  have p := hL _ (List.getElem_mem h1)
  unfold dxE
  rw [List.getD_eq_getElem?_getD, List.getElem?_eq_getElem h1]
  simp only [Option.getD_some]
  unfold absD
  split <;> omega
/-- The program's step and the reference's test. -/
theorem step_iff (hE : EdgesOk n E) (hI : LInv E L A) (hx : 0 ≤ x ∧ x ≤ (E.length : Int)) (hn : x ∉ L) :
    match stepE E L x A with
    | none => ¬ PwK E (L ++ [x]) ((L.length : Int) + 1)
    | some B => PwK E (L ++ [x]) ((L.length : Int) + 1) ∧ LInv E (L ++ [x]) B := by
  have sp := step_spec (L := L) (x := x) E A hI.len (fun e he h => dxE_bd hE hI.lab hx he h)
  have key : ((∀ e ∈ E, e.2 = (L.length : Int) → A.getD (dxE L x e).toNat false = false) ∧ PwX E L x) ↔ PwK E (L ++ [x]) ((L.length : Int) + 1) := by
    constructor
    · rintro ⟨p1, p2⟩
      have p3 := hI.pw
      unfold PwX at p2
      unfold PwK at p3 ⊢
      refine List.Pairwise.imp_of_mem (R := fun e e' => (e.2 < (L.length : Int) → e'.2 < (L.length : Int) → dfE L e ≠ dfE L e') ∧ (e.2 = (L.length : Int) → e'.2 = (L.length : Int) → dxE L x e ≠ dxE L x e')) (fun {a b} ha hb hab h1 h2 => ?_) ((List.pairwise_and_iff).2 ⟨p3, p2⟩)
      have mix : ∀ c ∈ E, ∀ d ∈ E, c.2 < (L.length : Int) → d.2 = (L.length : Int) → dfE L c ≠ dxE L x d := fun c hc d hd h3 h4 h5 => by
        have b0 := dfE_bd hE hI.lab hc h3
        have := p1 d hd h4
        rw [← h5, (hI.met _).2 ⟨c, hc, h3, by omega⟩] at this
        cases this
      rcases Int.lt_or_eq_of_le (show a.2 ≤ (L.length : Int) by omega) with h3 | h3 <;> rcases Int.lt_or_eq_of_le (show b.2 ≤ (L.length : Int) by omega) with h4 | h4
      · rw [dfE_low hE ha h3, dfE_low hE hb h4]; exact hab.1 h3 h4
      · rw [dfE_low hE ha h3, dfE_top hE hb h4]; exact mix a ha b hb h3 h4
      · rw [dfE_top hE ha h3, dfE_low hE hb h4]; exact (mix b hb a ha h4 h3).symm
      · rw [dfE_top hE ha h3, dfE_top hE hb h4]; exact hab.2 h3 h4
    · intro p
      refine ⟨fun e he h1 => ?_, ?_⟩
      · rw [Bool.eq_false_iff]
        intro h2
        obtain ⟨e', he', h3, h4⟩ := (hI.met _).1 h2
        have := dxE_bd hE hI.lab hx he h1
        have hne : e ≠ e' := fun h => by rw [h] at h1; omega
        have := pw_all (R := fun e e' : Int × Int => e.2 < (L.length : Int) + 1 → e'.2 < (L.length : Int) + 1 → dfE (L ++ [x]) e ≠ dfE (L ++ [x]) e') (fun a b h h1 h2 => (h h2 h1).symm) p e he e' he' hne (by omega) (by omega)
        rw [dfE_top hE he h1, dfE_low hE he' h3] at this
        omega
      · unfold PwX
        refine List.Pairwise.imp_of_mem (fun {a b} ha hb hab h1 h2 => ?_) p
        have := hab (by omega) (by omega)
        rw [dfE_top hE ha h1, dfE_top hE hb h2] at this
        exact this
  unfold stepE
  cases hs : E.foldl (stepO L x) (some A) with
  | none => rw [hs] at sp; exact fun h => sp (key.2 h)
  | some B =>
    rw [hs] at sp
    obtain ⟨s1, s2, s3⟩ := sp
    have hp := key.1 s1
    refine ⟨hp, s2, fun y hy => ?_, ?_, ?_, fun d => ?_⟩
    · rcases List.mem_append.1 hy with hy | hy
      · exact hI.lab y hy
      · rw [List.mem_singleton.1 hy]; exact hx
    · rw [List.nodup_append]
      refine ⟨hI.nd, by simp, fun a ha b hb => ?_⟩
      rw [List.mem_singleton.1 hb]
      exact fun h => hn (h ▸ ha)
    · rw [List.length_append]; exact hp
    · rw [s3 d, hI.met d]
      constructor
      · rintro (⟨e, he, h1, h2⟩ | ⟨e, he, h1, h2⟩)
        · exact ⟨e, he, by simp; omega, by rw [dfE_low hE he h1]; exact h2⟩
        · exact ⟨e, he, by simp; omega, by rw [dfE_top hE he h1]; exact h2⟩
      · rintro ⟨e, he, h1, h2⟩
        have h1 : e.2 < (L.length : Int) + 1 := by simpa using h1
        rcases Int.lt_or_eq_of_le (show e.2 ≤ (L.length : Int) by omega) with h3 | h3
        · exact .inl ⟨e, he, h3, by rw [dfE_low hE he h3] at h2; exact h2⟩
        · exact .inr ⟨e, he, h3, by rw [dfE_top hE he h3] at h2; exact h2⟩
end
theorem difsOk_iff {E : List (Int × Int)} {L : List Int} : difsOk E L = true ↔ E.Pairwise fun e e' => dfE L e ≠ dfE L e' := by
  unfold difsOk
  rw [List.all_eq_true, List.pairwise_iff_getElem]
  constructor
  · intro h i j hi hj hij heq
    have := h j (by simpa using hj)
    unfold difOk1 at this
    have hg : E.getD j (0, 0) = E[j] := by simp [hj]
    rw [hg] at this
    have : dfE L E[j] ∉ (E.take j).map (dfE L) := by simpa using this
    apply this
    rw [← heq]
    exact List.mem_map.2 ⟨E[i], List.mem_iff_getElem.2 ⟨i, by simp; omega, by simp⟩, rfl⟩
  · intro h j hj
    have hj : j < E.length := by simpa using hj
    unfold difOk1
    have hg : E.getD j (0, 0) = E[j] := by simp [hj]
    rw [hg, Bool.not_eq_true', decide_eq_false_iff_not]
    intro hm
    obtain ⟨e, he, heq⟩ := List.mem_map.1 hm
    obtain ⟨i, hi, rfl⟩ := List.getElem_of_mem he
    have hi' : i < j ∧ i < E.length := by rw [List.length_take] at hi; omega
    rw [List.getElem_take] at heq
    exact h i j hi'.2 hj hi'.1 heq
def okM (E : List (Int × Int)) (bp : Bool) (M : List Int) : Bool := (prtO E M).isSome || !bp
theorem LInv.gr {n : Nat} {E : List (Int × Int)} {L : List Int} {A : List Bool} (hI : LInv E L A) (hE : EdgesOk n E) (hn : L.length = n) : grB (n : Int) E L = true := by
  unfold grB
  rw [Bool.and_eq_true, Bool.and_eq_true]
  refine ⟨by simp; omega, all_yes fun j hj => ?_, difsOk_iff.2 ?_⟩
  · unfold labOk1
    have hg : L.getD j 0 = L[j] := by simp [hj]
    obtain ⟨a, b⟩ := hI.lab L[j] (List.getElem_mem hj)
    rw [hg, decide_eq_true a, decide_eq_true b, Bool.true_and, Bool.true_and, Bool.not_eq_true', decide_eq_false_iff_not]
    intro hm
    obtain ⟨i, hi, heq⟩ := List.getElem_of_mem hm
    have hi' : i < j ∧ i < L.length := by rw [List.length_take] at hi; omega
    rw [List.getElem_take] at heq
    exact (List.pairwise_iff_getElem.1 hI.nd) i j hi'.2 hj hi'.1 heq
  · refine List.Pairwise.imp_of_mem (fun {a b} ha hb hab => ?_) hI.pw
    have := hE.2.2 a ha
    have := hE.2.2 b hb
    exact hab (by omega) (by omega)
theorem enumL_gr {n : Nat} {E : List (Int × Int)} (hE : EdgesOk n E) : ∀ (f : Nat) (L : List Int) (A : List Bool), LInv E L A → L.length + f = n → ∀ M ∈ enumL E f L A, grB (n : Int) E M = true ∧ ∃ B, LInv E M B ∧ M.length = n
  | 0, L, A, hI, hn, M, hM => by
    have : M = L := by simpa [enumL] using hM
    subst this
    exact ⟨hI.gr hE (by omega), A, hI, by omega⟩
  | f + 1, L, A, hI, hn, M, hM => by
    rw [enumL_succ] at hM
    obtain ⟨x, hx, hM⟩ := List.mem_flatMap.1 hM
    have hx : x < E.length + 1 := by simpa using hx
    unfold subL subG at hM
    by_cases hin : (x : Int) ∈ L
    · rw [if_pos hin] at hM; exact absurd hM (by simp)
    · rw [if_neg hin] at hM
      have sp := step_iff (x := (x : Int)) hE hI (by omega) hin
      cases hs : stepE E L (x : Int) A with
      | none => rw [hs] at hM; exact absurd hM (by simp)
      | some B =>
        rw [hs] at sp hM
        exact enumL_gr hE f _ B sp.2 (by simp; omega) M hM
/-- All labels are graceful. -/
theorem labsL_gr {n : Nat} {E : List (Int × Int)} (hE : EdgesOk n E) {M : List Int} (hM : M ∈ labsL n E) : grB (n : Int) E M = true ∧ LabOk E M ∧ M.length = n ∧ M.Nodup ∧ E.Pairwise (fun e e' => dfE M e ≠ dfE M e') := by
  obtain ⟨h1, B, h2, h3⟩ := enumL_gr hE n [] _ (LInv.start hE) (by simp) M hM
  refine ⟨h1, h2.lab, h3, h2.nd, ?_⟩
  refine List.Pairwise.imp_of_mem (fun {a b} ha hb hab => ?_) h2.pw
  have := hE.2.2 a ha
  have := hE.2.2 b hb
  exact hab (by omega) (by omega)
end Go.Ev
namespace Go.Ev
section
variable {n : Nat} {E : List (Int × Int)} {M : List Int} {k : Int} {j : Nat}
end
end Go.Ev
namespace Go.Ev
open Go Go.RowKit
section
variable {fs : T EF} {ro : Option K} {h h' : H} {v w : V} {n : Nat} {E : List (Int × Int)} {L : List Int} {x : Int}
end
end Go.Ev
namespace Go.Ev
open Go Go.RowKit
noncomputable def f69_r0 : List EOper := [⟨(some (K.ofNat 3)), none, .box 1 (.t (K.ofNat 1))⟩, ⟨(some (K.ofNat 4)), none, .alloc 1 [.sn]⟩, ⟨(some (K.ofNat 5)), none, .alloc 1 [(.b false)]⟩]
noncomputable def f69_r1 : List EOper := [⟨(some (K.ofNat 9)), none, .mv (.t (K.ofNat 0))⟩, ⟨(some (K.ofNat 10)), none, .ld (.t (K.ofNat 3))⟩, ⟨(some (K.ofNat 11)), none, .call (.c (.fn (K.ofNat 68) [])) [(.t (K.ofNat 9)), (.t (K.ofNat 10))]⟩]
noncomputable def f69_r2 : List EOper := [⟨(some (K.ofNat 6)), none, .as (.t (K.ofNat 12))⟩]
noncomputable def f69_a0 : EC := (.reg f69_r2)
noncomputable def f69_r3 : List EOper := [⟨(some (K.ofNat 14)), none, .ld (.t (K.ofNat 3))⟩, ⟨(some (K.ofNat 15)), none, .mv (.t (K.ofNat 6))⟩, ⟨(some (K.ofNat 16)), none, .call (.c (.fn (K.ofNat 63) [])) [(.t (K.ofNat 14)), (.t (K.ofNat 15))]⟩, ⟨(some (K.ofNat 13)), none, .mv (.t (K.ofNat 16))⟩, ⟨(some (K.ofNat 17)), none, .ext (.t (K.ofNat 13)) 0⟩, ⟨(some (K.ofNat 18)), none, .ext (.t (K.ofNat 13)) 1⟩, ⟨(some (K.ofNat 7)), none, .as (.t (K.ofNat 17))⟩, ⟨(some (K.ofNat 8)), none, .as (.t (K.ofNat 18))⟩]
noncomputable def f69_r4 : List EOper := [⟨(some (K.ofNat 19)), none, .mv (.t (K.ofNat 8))⟩]
noncomputable def f69_r5 : List EOper := [⟨(some (K.ofNat 20)), none, .mv (.t (K.ofNat 6))⟩, ⟨none, none, .st 1 (.t (K.ofNat 4)) (.t (K.ofNat 20))⟩, ⟨none, none, .st 1 (.t (K.ofNat 5)) (.c (.b true))⟩]
noncomputable def f69_b0 : EC := (.block 1 (.seq (.reg f69_r3) (.seq (.reg f69_r4) (.cond (.t (K.ofNat 19)) (.seq (.reg f69_r5) .ret) .skip))))
noncomputable def f69_r6 : List EOper := [⟨none, none, .st 1 (.t (K.ofNat 4)) (.c .sn)⟩, ⟨none, none, .st 1 (.t (K.ofNat 5)) (.c (.b false))⟩]
noncomputable def f69_c : EC := (.seq (.reg f69_r0) (.seq (.seq (.reg f69_r1) (.block 0 (.rangeF (.t (K.ofNat 11)) [(K.ofNat 12)] f69_a0 f69_b0))) (.seq (.reg f69_r6) .ret)))
noncomputable def f69 : EF := ⟨21, [.cell (K.ofNat 4), .cell (K.ofNat 5)], f69_c, none⟩
theorem f69_rs : f69.rs = [.cell (K.ofNat 4), .cell (K.ofNat 5)] := of_eq_true (eq_self _)
noncomputable def f4_r0 : List EOper := [⟨(some (K.ofNat 4)), none, .as (.c (.b false))⟩]
noncomputable def f4_r1 : List EOper := [⟨(some (K.ofNat 18)), none, .mv (.t (K.ofNat 0))⟩, ⟨(some (K.ofNat 19)), none, .mv (.t (K.ofNat 1))⟩, ⟨(some (K.ofNat 20)), none, .call (.c (.fn (K.ofNat 28) [])) [(.t (K.ofNat 18)), (.t (K.ofNat 19)), (.c (.i .i64 (.ofNat 10)))]⟩, ⟨(some (K.ofNat 17)), none, .mv (.t (K.ofNat 20))⟩, ⟨(some (K.ofNat 21)), none, .ext (.t (K.ofNat 17)) 0⟩, ⟨(some (K.ofNat 22)), none, .ext (.t (K.ofNat 17)) 1⟩, ⟨(some (K.ofNat 5)), none, .as (.t (K.ofNat 21))⟩, ⟨(some (K.ofNat 6)), none, .as (.t (K.ofNat 22))⟩]
noncomputable def f4_r2 : List EOper := [⟨(some (K.ofNat 24)), none, .mv (.t (K.ofNat 5))⟩, ⟨(some (K.ofNat 25)), none, .mv (.t (K.ofNat 6))⟩, ⟨(some (K.ofNat 26)), none, .call (.c (.fn (K.ofNat 24) [])) [(.t (K.ofNat 24)), (.t (K.ofNat 25))]⟩, ⟨(some (K.ofNat 23)), none, .mv (.t (K.ofNat 26))⟩, ⟨(some (K.ofNat 27)), none, .ext (.t (K.ofNat 23)) 0⟩, ⟨(some (K.ofNat 28)), none, .ext (.t (K.ofNat 23)) 1⟩, ⟨(some (K.ofNat 29)), none, .ext (.t (K.ofNat 23)) 2⟩, ⟨(some (K.ofNat 7)), none, .as (.t (K.ofNat 27))⟩, ⟨(some (K.ofNat 8)), none, .as (.t (K.ofNat 28))⟩, ⟨(some (K.ofNat 9)), none, .as (.t (K.ofNat 29))⟩]
noncomputable def f4_r3 : List EOper := [⟨(some (K.ofNat 31)), none, .mv (.t (K.ofNat 5))⟩, ⟨(some (K.ofNat 32)), none, .mv (.t (K.ofNat 6))⟩, ⟨(some (K.ofNat 33)), none, .call (.c (.fn (K.ofNat 25) [])) [(.t (K.ofNat 31)), (.t (K.ofNat 32))]⟩, ⟨(some (K.ofNat 30)), none, .mv (.t (K.ofNat 33))⟩, ⟨(some (K.ofNat 34)), none, .ext (.t (K.ofNat 30)) 0⟩, ⟨(some (K.ofNat 35)), none, .ext (.t (K.ofNat 30)) 1⟩, ⟨(some (K.ofNat 10)), none, .as (.t (K.ofNat 34))⟩, ⟨(some (K.ofNat 11)), none, .as (.t (K.ofNat 35))⟩]
noncomputable def f4_r4 : List EOper := [⟨(some (K.ofNat 37)), none, .mv (.t (K.ofNat 5))⟩, ⟨(some (K.ofNat 38)), none, .mv (.t (K.ofNat 6))⟩, ⟨(some (K.ofNat 39)), none, .call (.c (.fn (K.ofNat 26) [])) [(.t (K.ofNat 37)), (.t (K.ofNat 38))]⟩, ⟨(some (K.ofNat 36)), none, .mv (.t (K.ofNat 39))⟩, ⟨(some (K.ofNat 40)), none, .ext (.t (K.ofNat 36)) 0⟩, ⟨(some (K.ofNat 41)), none, .ext (.t (K.ofNat 36)) 1⟩, ⟨(some (K.ofNat 42)), none, .ext (.t (K.ofNat 36)) 2⟩, ⟨(some (K.ofNat 12)), none, .as (.t (K.ofNat 40))⟩, ⟨(some (K.ofNat 13)), none, .as (.t (K.ofNat 41))⟩, ⟨(some (K.ofNat 14)), none, .as (.t (K.ofNat 42))⟩]
noncomputable def f4_r5 : List EOper := [⟨(some (K.ofNat 43)), none, .mv (.t (K.ofNat 5))⟩, ⟨(some (K.ofNat 44)), none, .mv (.t (K.ofNat 6))⟩, ⟨(some (K.ofNat 45)), none, .call (.c (.fn (K.ofNat 29) [])) [(.t (K.ofNat 43)), (.t (K.ofNat 44)), (.c (.b false))]⟩, ⟨(some (K.ofNat 46)), none, .mv (.t (K.ofNat 5))⟩, ⟨(some (K.ofNat 47)), none, .mv (.t (K.ofNat 6))⟩, ⟨(some (K.ofNat 48)), none, .call (.c (.fn (K.ofNat 29) [])) [(.t (K.ofNat 46)), (.t (K.ofNat 47)), (.c (.b true))]⟩, ⟨(some (K.ofNat 15)), none, .as (.t (K.ofNat 45))⟩, ⟨(some (K.ofNat 16)), none, .as (.t (K.ofNat 48))⟩]
noncomputable def f4_r6 : List EOper := [⟨(some (K.ofNat 49)), none, .mv (.t (K.ofNat 9))⟩, ⟨(some (K.ofNat 50)), none, .bin .eql (.t (K.ofNat 49)) (.c (.i .i64 (.ofNat 0)))⟩, ⟨(some (K.ofNat 51)), none, .mv (.t (K.ofNat 50))⟩, ⟨(some (K.ofNat 52)), (some ((K.ofNat 51), true)), .mv (.t (K.ofNat 8))⟩, ⟨(some (K.ofNat 53)), (some ((K.ofNat 51), true)), .mv (.t (K.ofNat 15))⟩, ⟨(some (K.ofNat 54)), (some ((K.ofNat 51), true)), .isnil true (.t (K.ofNat 53))⟩, ⟨(some (K.ofNat 55)), (some ((K.ofNat 51), true)), .eqk (.one none) false (.t (K.ofNat 52)) (.t (K.ofNat 54))⟩, ⟨(some (K.ofNat 56)), none, .pick (.t (K.ofNat 51)) (.t (K.ofNat 55)) (.c (.b false))⟩, ⟨(some (K.ofNat 57)), none, .mv (.t (K.ofNat 56))⟩, ⟨(some (K.ofNat 58)), (some ((K.ofNat 57), true)), .mv (.t (K.ofNat 7))⟩, ⟨(some (K.ofNat 59)), (some ((K.ofNat 57), true)), .mv (.t (K.ofNat 15))⟩, ⟨(some (K.ofNat 60)), (some ((K.ofNat 57), true)), .call (.c (.fn (K.ofNat 30) [])) [(.t (K.ofNat 58)), (.t (K.ofNat 59))]⟩, ⟨(some (K.ofNat 61)), none, .pick (.t (K.ofNat 57)) (.t (K.ofNat 60)) (.c (.b false))⟩, ⟨(some (K.ofNat 62)), none, .mv (.t (K.ofNat 61))⟩, ⟨(some (K.ofNat 63)), (some ((K.ofNat 62), true)), .mv (.t (K.ofNat 11))⟩, ⟨(some (K.ofNat 64)), (some ((K.ofNat 62), true)), .bin .eql (.t (K.ofNat 63)) (.c (.i .i64 (.ofNat 0)))⟩, ⟨(some (K.ofNat 65)), none, .pick (.t (K.ofNat 62)) (.t (K.ofNat 64)) (.c (.b false))⟩, ⟨(some (K.ofNat 66)), none, .mv (.t (K.ofNat 65))⟩, ⟨(some (K.ofNat 67)), (some ((K.ofNat 66), true)), .mv (.t (K.ofNat 10))⟩, ⟨(some (K.ofNat 68)), (some ((K.ofNat 66), true)), .mv (.t (K.ofNat 5))⟩, ⟨(some (K.ofNat 69)), (some ((K.ofNat 66), true)), .mv (.t (K.ofNat 6))⟩, ⟨(some (K.ofNat 70)), (some ((K.ofNat 66), true)), .call (.c (.fn (K.ofNat 31) [])) [(.t (K.ofNat 68)), (.t (K.ofNat 69))]⟩, ⟨(some (K.ofNat 71)), (some ((K.ofNat 66), true)), .bin .eql (.t (K.ofNat 67)) (.t (K.ofNat 70))⟩, ⟨(some (K.ofNat 72)), none, .pick (.t (K.ofNat 66)) (.t (K.ofNat 71)) (.c (.b false))⟩, ⟨(some (K.ofNat 73)), none, .mv (.t (K.ofNat 72))⟩, ⟨(some (K.ofNat 74)), (some ((K.ofNat 73), true)), .mv (.t (K.ofNat 14))⟩, ⟨(some (K.ofNat 75)), (some ((K.ofNat 73), true)), .bin .eql (.t (K.ofNat 74)) (.c (.i .i64 (.ofNat 0)))⟩, ⟨(some (K.ofNat 76)), none, .pick (.t (K.ofNat 73)) (.t (K.ofNat 75)) (.c (.b false))⟩, ⟨(some (K.ofNat 77)), none, .mv (.t (K.ofNat 76))⟩, ⟨(some (K.ofNat 78)), (some ((K.ofNat 77), true)), .mv (.t (K.ofNat 13))⟩, ⟨(some (K.ofNat 79)), (some ((K.ofNat 77), true)), .mv (.t (K.ofNat 16))⟩, ⟨(some (K.ofNat 80)), (some ((K.ofNat 77), true)), .isnil true (.t (K.ofNat 79))⟩, ⟨(some (K.ofNat 81)), (some ((K.ofNat 77), true)), .eqk (.one none) false (.t (K.ofNat 78)) (.t (K.ofNat 80))⟩, ⟨(some (K.ofNat 82)), none, .pick (.t (K.ofNat 77)) (.t (K.ofNat 81)) (.c (.b false))⟩, ⟨(some (K.ofNat 83)), none, .mv (.t (K.ofNat 82))⟩, ⟨(some (K.ofNat 84)), (some ((K.ofNat 83), true)), .mv (.t (K.ofNat 12))⟩, ⟨(some (K.ofNat 85)), (some ((K.ofNat 83), true)), .mv (.t (K.ofNat 16))⟩, ⟨(some (K.ofNat 86)), (some ((K.ofNat 83), true)), .call (.c (.fn (K.ofNat 30) [])) [(.t (K.ofNat 84)), (.t (K.ofNat 85))]⟩, ⟨(some (K.ofNat 87)), none, .pick (.t (K.ofNat 83)) (.t (K.ofNat 86)) (.c (.b false))⟩, ⟨(some (K.ofNat 88)), none, .mv (.t (K.ofNat 87))⟩, ⟨(some (K.ofNat 89)), (some ((K.ofNat 88), true)), .call (.c (.fn (K.ofNat 23) [])) []⟩, ⟨(some (K.ofNat 90)), none, .pick (.t (K.ofNat 88)) (.t (K.ofNat 89)) (.c (.b false))⟩, ⟨(some (K.ofNat 4)), none, .as (.t (K.ofNat 90))⟩]
noncomputable def f4_c : EC := (.seq (.reg f4_r0) (.seq (.reg f4_r1) (.seq (.reg f4_r2) (.seq (.reg f4_r3) (.seq (.reg f4_r4) (.seq (.reg f4_r5) (.seq (.reg f4_r6) .ret)))))))
noncomputable def f4 : EF := ⟨91, [.tmp (K.ofNat 4)], f4_c, none⟩
/-- The first that part. -/
def pFirst (m : Nat) (E : List (Int × Int)) : Option (List Int) := ((labsL m E).filter (okM E true)).head?
structure CallsPa (fs : T EF) : Prop extends CallsL fs, CallsPt fs where
  c69 : fs.get (K.ofNat 69) = some f69
section
variable {fs : T EF} {ro : Option K} {h : H} {v : V} {m : Nat} {E : List (Int × Int)}
theorem okM_t {M : List Int} : okM E true M = (prtO E M).isSome := by unfold okM; simp
theorem f69_ret (k : CallsPa fs) (hv : Srp h v E) (hc : HC h) (hE : EdgesOk m E) (hne : E ≠ []) (hm : 0 < m) : Ret fs f69 [.i .i64 (m : Int), v] h fun r h' => Out h' r (pFirst m E) ∧ Grow h.nx.nat h h' := by
  apply ret_of rfl
  show W fs none f69_c _ _ _
  unfold f69_c
  have hone := hv.one
  have n1 := nx_new h (.cells 1 [v])
  have n2 := nx_new (h.new (.cells 1 [v])) (.cells 1 [.sn])
  have n3 := nx_new ((h.new (.cells 1 [v])).new (.cells 1 [.sn])) (.cells 1 [.b false])
  have t0 : Tri h.nx (h.new (.cells 1 [v])).nx ((h.new (.cells 1 [v])).new (.cells 1 [.sn])).nx (((h.new (.cells 1 [v])).new (.cells 1 [.sn])).new (.cells 1 [.b false])) v .sn (.b false) :=
    ⟨by rw [get_new_old (by omega), get_new_old (by omega), get_new_same], by rw [get_new_old (by omega), get_new_same], get_new_same, by omega, by omega⟩
  have gA : Grow h.nx.nat h (((h.new (.cells 1 [v])).new (.cells 1 [.sn])).new (.cells 1 [.b false])) := (Grow.new (Nat.le_refl _) _).trans ((Grow.new (by omega) _).trans (Grow.new (by omega) _))
  simp (disch := omega) only [f69_r0, w_reg, w_seq, seqK_n, x_nil, x_alloc, x_box, kx, rvP_ok, ev_t, getV_some, putD_some, oGet_s, frame_2, getK_set, ↓reduceIte, hone]
  generalize ((h.new (.cells 1 [v])).new (.cells 1 [.sn])).nx = idc at *
  generalize (h.new (.cells 1 [v])).nx = idb at *
  generalize ((h.new (.cells 1 [v])).new _).new _ = h4 at *
  have hv4 := hv.grow hc gA
  have hc4 := gA.hc hc
  have lv : loadV h4 (.p h.nx 0) one? = .ok v h4 := load_p t0.ha rfl
  simp (disch := omega) only [f69_r1, x_mv, x_ld, x_call, kx, rvP_ok, ev_t, ev_c, evs_nil, evs_cons, getV_some, putD_some, getK_set, Nat.reduceEqDiff, ↓reduceIte, lv]
  refine (callP_0 (ef := f68) k.c68 rfl (f68_ret (n := (m : Int)) hone)).mono ?_
  rintro r h6 ⟨rfl, h6e⟩
  obtain ⟨gC, hc6, n6, n5, hC, hmem⟩ := loop_pre (m := m) hv4 hc4 h6 h6e
  have t6 := t0.same (h' := h6) fun i hi => gC.old i (by omega)
  have g6 := gA.trans (gC.low gA.nx)
  simp (disch := omega) only [w_block, seqK_n, x_nil, kx, putD_some]
  generalize hfr : T.set (K.ofNat 11) _ _ = fr6
  have f11' : fr6.get (K.ofNat 11) = some (.fn (K.ofNat 107) [.p h4.nx 0, .p (h4.new (.cells 1 [.i .i64 (m : Int)])).nx 0]) := by rw [← hfr]; simp (disch := omega) only [getK_set, ↓reduceIte]
  have f3 : fr6.get (K.ofNat 3) = some (.p h.nx 0) := by rw [← hfr]; simp (disch := omega) only [getK_set, Nat.reduceEqDiff, ↓reduceIte]
  have f4' : fr6.get (K.ofNat 4) = some (.p idb 0) := by rw [← hfr]; simp (disch := omega) only [getK_set, Nat.reduceEqDiff, ↓reduceIte]
  have f5' : fr6.get (K.ofNat 5) = some (.p idc 0) := by rw [← hfr]; simp (disch := omega) only [getK_set, Nat.reduceEqDiff, ↓reduceIte]
  clear hfr
  have lab := t6.ab
  have lbc := t6.bc
  have cons : Cons h6.nx.nat m E v h4.nx (h4.new (.cells 1 [.i .i64 (m : Int)])).nx (fun i h1 => (∀ M ∈ (labsL m E).take i, okM E true M = false) ∧ Agr h6.nx.nat h6 h1) :=
    ⟨fun i h1 hi => hC.mem 0 h1 ⟨rfl, hi.2⟩, fun i h1 h' hi hk => ⟨hi.1, fun x hx => (hk x hx).trans (hi.2 x hx)⟩, hC.bn, hC.be, hC.bev⟩
  refine W_rangeL (k := (K.ofNat 107)) (Y := labsL m E) rfl (by simp (disch := omega) only [ev_t, getV_some, f11']) (all_yieldsL k.toCallsG k.c107 hE) hc6 (fun i h1 => (∀ M ∈ (labsL m E).take i, okM E true M = false) ∧ Agr h6.nx.nat h6 h1)
    (fun e h1 => e = .ret ∧ ∃ w L0, pFirst m E = some L0 ∧ h1.get idb = .cells 1 [w] ∧ h1.get idc = .cells 1 [.b true] ∧ Sl iE h1 w L0 ∧ L0 ≠ [] ∧ Grow h.nx.nat h h1) cons ⟨by simp, Agr.refl⟩ ?_ ?_ ?_
  · rintro i h1 w hi ⟨hno, hag⟩ hc1 hnx hb sw ow
    rw [show ∀ Q fr h, W fs (some h6.nx) f69_a0 Q fr h = X fs f69_r2 (Q .normal) fr h from fun _ _ _ => rfl]
    simp (disch := omega) only [f69_r2, rndA_n, x_nil, x_as, ev_t, getV_some, putD_some, getK_set, ↓reduceIte]
    refine ⟨hb, ?_⟩
    have t7 : Tri h.nx idb idc (h1.put h6.nx (bsyB fr6 [(K.ofNat 12)] f69_a0 f69_b0)) v .sn (.b false) := t6.same fun i hi => by rw [get_put_other (fun e => by rw [e] at hi; omega)]; exact hag i (by omega)
    have e7 : (h1.put h6.nx (bsyB fr6 [(K.ofNat 12)] f69_a0 f69_b0)).get h6.nx = bsyB fr6 [(K.ofNat 12)] f69_a0 f69_b0 := get_put_same
    have nx7 : (h1.put h6.nx (bsyB fr6 [(K.ofNat 12)] f69_a0 f69_b0)).nx = h1.nx := rfl
    have sw7 : Sl iE (h1.put h6.nx (bsyB fr6 [(K.ofNat 12)] f69_a0 f69_b0)) w (labsL m E)[i] := sw.put (fun off n sz e => by have := ow _ _ _ _ e; omega) _
    have hc7 : HC (h1.put h6.nx (bsyB fr6 [(K.ofNat 12)] f69_a0 f69_b0)) := (Grow.put (b := 0) (Nat.zero_le _) hnx _).hc hc1
    have o7 : ∀ y : K, y ≠ h6.nx → (h1.put h6.nx (bsyB fr6 [(K.ofNat 12)] f69_a0 f69_b0)).get y = h1.get y := fun y hy => get_put_other hy
    have hv7 : Srp (h1.put h6.nx (bsyB fr6 [(K.ofNat 12)] f69_a0 f69_b0)) v E := hv.same fun id off n sz e => by
      have hid := hv.ltb hc _ _ _ _ e
      have := g6.nx
      rw [get_put_other (kNe (by omega)), hag id (by omega), g6.old id hid]
    show W fs (some h6.nx) (.block 1 (.seq (.reg f69_r3) (.seq (.reg f69_r4) (.cond (.t (K.ofNat 19)) (.seq (.reg f69_r5) .ret) .skip)))) (rndK h6.nx fr6 [(K.ofNat 12)] f69_a0 f69_b0 _ _) _ _
    generalize hh7 : h1.put h6.nx (bsyB fr6 [(K.ofNat 12)] f69_a0 f69_b0) = h7 at *
    obtain ⟨hgr, hlab, hlen, _, _⟩ := labsL_gr hE (List.getElem_mem hi)
    have lv7 : loadV h7 (.p h.nx 0) one? = .ok v h7 := load_p t7.ha rfl
    simp (disch := omega) only [f69_r3, w_reg, w_seq, w_block, x_mv, x_ld, x_call, kx, rvP_ok, ev_t, ev_c, evs_nil, evs_cons, getV_some, putD_some, getK_set, Nat.reduceEqDiff, ↓reduceIte, f3, lv7]
    refine (callP_0 (ef := f63) k.c63 rfl (f63_ret k.toCallsPt hv7 sw7.sr hc7 hE hne hlab hlen)).mono ?_
    rintro r h8 ⟨rfl, g8⟩
    have t8 : Tri h.nx idb idc h8 v .sn (.b false) := t7.same fun i hi => g8.old i (by rw [nx7]; omega)
    have e8 : h8.get h6.nx = bsyB fr6 [(K.ofNat 12)] f69_a0 f69_b0 := (g8.old _ (by rw [nx7]; omega)).trans e7
    have sw8 := sw7.grow hc7 g8
    have hc8 := g8.hc hc7
    have nx8 : h1.nx.nat ≤ h8.nx.nat := by have := g8.nx; rw [nx7] at this; exact this
    have hYi : (labsL m E)[i] ∈ labsL m E := List.getElem_mem hi
    have htk := List.take_succ_eq_append_getElem hi
    cases hp : (prtO E (labsL m E)[i]).isSome with
    | false =>
      simp (disch := omega) only [f69_r4, w_skip, w_reg, w_seq, w_cond, seqK_n, atK_n, ckB_b, cbB_b, true_and, rndK_n, x_nil, x_mv, x_as, x_ext, kx, rvP_ok, okv_some, ev_t, getV_some, putD_some, onTup_t, nth0, nth1, getK_set, Nat.reduceEqDiff, ↓reduceIte, Bool.false_eq_true]
      refine ⟨e8, ⟨fun M hM => ?_, fun x hx => ?_⟩, ?_⟩
      · rw [htk] at hM
        rcases List.mem_append.1 hM with hM | hM
        · exact hno M hM
        · rw [List.mem_singleton.1 hM, okM_t, hp]
      · rw [get_put_other (kNe hx), g8.old x (by rw [nx7]; omega), o7 x (kNe hx)]
        exact hag x hx
      · refine ⟨nx8, (Grow.put (b := 0) (Nat.zero_le _) (by omega) _).hc hc8, fun y hy hy2 => ?_⟩
        rw [get_put_other (fun e => by rw [e] at hy; omega), g8.old y (by rw [nx7]; exact hy2), o7 y (fun e => by rw [e] at hy; omega)]
    | true =>
      have hwo := sw8.sr.one
      have s1 : storeV h8 1 (.p idb 0) w = .ok undefV (h8.put idb (.cells 1 [w])) := st1 t8.hb hwo
      have s2 : storeV (h8.put idb (.cells 1 [w])) 1 (.p idc 0) (.b true) = .ok undefV ((h8.put idb (.cells 1 [w])).put idc (.cells 1 [.b true])) := st1 (by rw [get_put_other (kNe lbc).symm]; exact t8.hc) rfl
      simp (disch := omega) only [f69_r4, f69_r5, w_reg, w_seq, w_cond, w_ret, seqK_n, atK_r, ckB_b, cbB_b, true_and, rndK_r, x_nil, x_mv, x_as, x_st, x_ext, kx, rvP_ok, okv_some, ev_t, ev_c, getV_some, putD_some, putD_none, onTup_t, nth0, nth1, getK_set, Nat.reduceEqDiff, ↓reduceIte, f4', f5', s1, s2]
      have oth : ∀ {y : K}, idc.nat < y.nat → ((h8.put idb (.cells 1 [w])).put idc (.cells 1 [.b true])).get y = h8.get y := fun {y} hy => by rw [get_put_other (kNe hy).symm, get_put_other (kNe (by omega)).symm]
      refine ⟨by rw [oth (by omega)]; exact e8, ⟨w, (labsL m E)[i], ?_, ?_, ?_, ?_, ?_, ?_⟩, ?_⟩
      · unfold pFirst
        conv => lhs; rw [← List.take_append_drop i (labsL m E)]
        rw [List.filter_append, List.filter_eq_nil_iff.2 fun M hM => by rw [hno M hM]; simp, List.nil_append, List.drop_eq_getElem_cons hi, List.filter_cons_of_pos (by rw [okM_t, hp])]; rfl
      · rw [get_put_other (kNe (by omega)), get_put_other (kNe lbc), get_put_same]
      · rw [get_put_other (kNe (by omega)), get_put_same]
      · refine sw8.same fun id off n sz e => ?_
        have h5 := ow _ _ _ _ e
        rw [get_put_other (fun e => by rw [e] at h5; omega), oth (by omega)]
      · intro e; rw [e] at hlen; simp at hlen; omega
      · refine ⟨by show h.nx.nat ≤ h8.nx.nat; have := g6.nx; omega, fun id hid => ?_, fun _ => (Grow.put (b := 0) (Nat.zero_le _) (by show h6.nx.nat < h8.nx.nat; omega) _).hc ((Grow.put (b := 0) (Nat.zero_le _) (by show idc.nat < h8.nx.nat; omega) _).hc ((Grow.put (b := 0) (Nat.zero_le _) (by omega) _).hc hc8))⟩
        have := g6.nx
        rw [get_put_other (kNe (by omega)), get_put_other (kNe (by omega)), get_put_other (kNe (by omega)), g8.old id (by rw [nx7]; omega), o7 id (kNe (by omega)), hag id (by omega), g6.old id hid]
      · refine ⟨nx8, (Grow.put (b := 0) (Nat.zero_le _) (by show h6.nx.nat < h8.nx.nat; omega) _).hc ((Grow.put (b := 0) (Nat.zero_le _) (by show idc.nat < h8.nx.nat; omega) _).hc ((Grow.put (b := 0) (Nat.zero_le _) (by omega) _).hc hc8)), fun y hy hy2 => ?_⟩
        rw [get_put_other (fun e => by rw [e] at hy; omega), oth (by omega), g8.old y (by rw [nx7]; exact hy2), o7 y (fun e => by rw [e] at hy; omega)]
  · rintro h1 ⟨hno, hag⟩ hc1 hnx
    rw [List.take_length] at hno
    have hP : pFirst m E = none := by
      unfold pFirst
      rw [List.filter_eq_nil_iff.2 fun M hM => by rw [hno M hM]; simp]; rfl
    have t7 : Tri h.nx idb idc (h1.put h6.nx .dead) v .sn (.b false) := t6.same fun i hi => by rw [get_put_other (fun e => by rw [e] at hi; omega)]; exact hag i (by omega)
    have hc7 : HC (h1.put h6.nx .dead) := (Grow.put (b := 0) (Nat.zero_le _) hnx _).hc hc1
    have nx7 : (h1.put h6.nx .dead).nx = h1.nx := rfl
    have o7 : ∀ y : K, y.nat < h6.nx.nat → (h1.put h6.nx .dead).get y = h6.get y := fun y hy => by rw [get_put_other (fun e => by rw [e] at hy; omega)]; exact hag y hy
    generalize h1.put h6.nx .dead = h7 at *
    have s1 : storeV h7 1 (.p idb 0) .sn = .ok undefV (h7.put idb (.cells 1 [.sn])) := st1 t7.hb rfl
    have s2 : storeV (h7.put idb (.cells 1 [.sn])) 1 (.p idc 0) (.b false) = .ok undefV ((h7.put idb (.cells 1 [.sn])).put idc (.cells 1 [.b false])) := st1 (by rw [get_put_other (kNe lbc).symm]; exact t7.hc) rfl
    have q1 : ((h7.put idb (.cells 1 [.sn])).put idc (.cells 1 [.b false])).get idb = .cells 1 [.sn] := by rw [get_put_other (kNe lbc), get_put_same]
    have q2 : ((h7.put idb (.cells 1 [.sn])).put idc (.cells 1 [.b false])).get idc = .cells 1 [.b false] := get_put_same
    simp (disch := omega) only [f69_r6, f69_rs, w_reg, w_seq, w_ret, seqK_n, atK_n, retK_r, x_nil, x_st, kx, rvP_ok, ev_t, ev_c, getV_some, putD_none, oGet_s, readRs_nil, readRs_c, retV_2, Option.some.injEq, exists_eq_left', f4', f5', s1, s2, readP1 q1, readP1 q2]
    rw [hP]
    refine ⟨⟨.sn, rfl, rfl⟩, by show h.nx.nat ≤ h7.nx.nat; rw [nx7]; have := g6.nx; omega, fun id hid => ?_, fun _ => (Grow.put (b := 0) (Nat.zero_le _) (by show idc.nat < h7.nx.nat; rw [nx7]; omega) _).hc ((Grow.put (b := 0) (Nat.zero_le _) (by rw [nx7]; omega) _).hc hc7)⟩
    have := g6.nx
    rw [get_put_other (kNe (by omega)), get_put_other (kNe (by omega)), o7 id (by omega), g6.old id hid]
  · rintro e h1 _ ⟨rfl, w, L0, hP, q1, q2, sw, hL0, g⟩
    simp (disch := omega) only [f69_rs, seqK_r, atK_r, retK_r, getV_some, oGet_s, readRs_nil, readRs_c, retV_2, Option.some.injEq, exists_eq_left', f4', f5', readP1 q1, readP1 q2]
    rw [hP]
    exact ⟨⟨w, rfl, sw.sr, hL0⟩, g⟩
end
section
variable {fs : T EF} {ro : Option K}
end
end Go.Ev
namespace Go.Ev
open Go Go.RowKit
section
variable {fs : T EF}
end
end Go.Ev
namespace Go.Ev
open Go Go.RowKit
section
variable {h h' : H} {v u : V} {L : List (Int × Int)} {b : Nat}
section
variable {us : List V} {Ls : List (List (Int × Int))}
end
end
end Go.Ev
namespace Go.Ev
section
variable {h h' : H} {v u : V} {L M : List (Int × Int)}
end
end Go.Ev
namespace Go.Ev
open Go Go.RowKit
section
variable {fs : T EF} {ro : Option K} {h h' : H} {v w : V} {E : List (Int × Int)} {L : List Int} {ide idl : K}
end
end Go.Ev
namespace Go.Ev
open Go Go.RowKit
section
variable {fs : T EF}
section
variable {h : H} {v w : V} {m : Nat} {E : List (Int × Int)} {L : List Int}
end
end
end Go.Ev
namespace Go.Ev
open Go Go.RowKit
/-- A sum over all numbers below m. -/
def sumN : Nat → (Nat → Int) → Int
  | 0, _ => 0
  | m + 1, f => sumN m f + f m
theorem sumN_add {f g : Nat → Int} : ∀ m, sumN m (fun v => f v + g v) = sumN m f + sumN m g
  | 0 => rfl
  | m + 1 => by show sumN m _ + (f m + g m) = sumN m f + f m + (sumN m g + g m); rw [sumN_add m]; omega
theorem sumN_zero : ∀ m, sumN m (fun _ => 0) = 0
  | 0 => rfl
  | m + 1 => by show sumN m _ + 0 = 0; rw [sumN_zero m]; rfl
theorem sumN_one {g : Nat → Int} {a : Nat} : ∀ m, sumN m (fun v => if v = a then g v else 0) = if a < m then g a else 0
  | 0 => rfl
  | m + 1 => by
    show sumN m _ + (if m = a then g m else 0) = _
    rw [sumN_one m]
    by_cases h : m = a
    · subst h; simp
    · by_cases h2 : a < m
      · rw [if_pos h2, if_neg h, if_pos (by omega)]; omega
      · rw [if_neg h2, if_neg h, if_neg (by omega)]; rfl
theorem sumN_cong {f g : Nat → Int} : ∀ m, (∀ v, v < m → f v = g v) → sumN m f = sumN m g
  | 0, _ => rfl
  | m + 1, h => by show sumN m f + f m = sumN m g + g m; rw [sumN_cong m fun v hv => h v (by omega), h m (by omega)]
/-- The number of edges of a node. -/
def dg1 (v : Nat) (e : Int × Int) : Int := (if v = e.1.toNat then 1 else 0) + (if v = e.2.toNat then 1 else 0)
def dgE (E : List (Int × Int)) (v : Nat) : Int := E.foldr (fun e s => dg1 v e + s) 0
theorem dgE_cons {e : Int × Int} {E : List (Int × Int)} {v : Nat} : dgE (e :: E) v = dg1 v e + dgE E v := rfl
theorem dgE_snoc {e : Int × Int} {v : Nat} : ∀ {E : List (Int × Int)}, dgE (E ++ [e]) v = dgE E v + dg1 v e
  | [] => by show dg1 v e + 0 = 0 + dg1 v e; omega
  | x :: E => by show dg1 v x + dgE (E ++ [e]) v = dg1 v x + dgE E v + dg1 v e; rw [dgE_snoc]; omega
def endsS (g : Nat → Int) (E : List (Int × Int)) : Int := E.foldr (fun e s => g e.1.toNat + g e.2.toNat + s) 0
theorem ends_sum {g : Nat → Int} {m : Nat} : ∀ {E : List (Int × Int)}, (∀ e ∈ E, e.1.toNat < m ∧ e.2.toNat < m) → endsS g E = sumN m fun v => dgE E v * g v
  | [], _ => by
    show (0 : Int) = sumN m fun v => 0 * g v
    rw [sumN_cong (g := fun _ => 0) m (fun v _ => by omega), sumN_zero]
  | e :: E, h => by
    obtain ⟨h1, h2⟩ := h e (by simp)
    show g e.1.toNat + g e.2.toNat + endsS g E = _
    rw [ends_sum fun e he => h e (by simp [he])]
    rw [sumN_cong (f := fun v => dgE (e :: E) v * g v) (g := fun v => (((if v = e.1.toNat then g v else 0) + (if v = e.2.toNat then g v else 0)) + dgE E v * g v)) m fun v _ => by
      rw [dgE_cons, Int.add_mul]
      unfold dg1
      rw [Int.add_mul]
      congr 1
      congr 1 <;> split <;> simp]
    rw [sumN_add, sumN_add, sumN_one, sumN_one, if_pos h1, if_pos h2]
end Go.Ev
namespace Go.Ev
end Go.Ev
namespace Go.Ev
open Go Go.RowKit
/-- The numbers of edges, node by node. -/
def dgL (m : Nat) (E : List (Int × Int)) : List Int := (List.range m).map (dgE E)
theorem dgL_len {m : Nat} {E : List (Int × Int)} : (dgL m E).length = m := by simp [dgL]
theorem dgL_at {m v : Nat} {E : List (Int × Int)} (h : v < (dgL m E).length) : (dgL m E)[v] = dgE E v := by simp [dgL]
theorem dgE_nn : ∀ {E : List (Int × Int)} {v : Nat}, 0 ≤ dgE E v ∧ dgE E v ≤ 2 * E.length
  | [], v => by show 0 ≤ (0 : Int) ∧ (0 : Int) ≤ _; simp
  | e :: E, v => by
    have h1 := dgE_nn (E := E) (v := v)
    rw [dgE_cons, List.length_cons]
    unfold dg1
    constructor
    · split <;> split <;> omega
    · split <;> split <;> omega
theorem dgL_step {m a b : Nat} {E : List (Int × Int)} (_ : a < m) (_ : b < m) (hab : a ≠ b) : dgL m (E ++ [((a : Int), (b : Int))]) = ((dgL m E).set a (dgE E a + 1)).set b (dgE E b + 1) := by
  apply List.ext_getElem
  · simp [dgL]
  · intro v h1 h2
    rw [dgL_at, dgE_snoc, List.getElem_set, List.getElem_set]
    have h3 : v < (dgL m E).length := by simpa [dgL] using h1
    unfold dg1
    simp only [Int.toNat_natCast]
    by_cases e1 : b = v
    · subst e1
      rw [if_pos rfl, if_neg (Ne.symm hab), if_pos rfl]; omega
    · rw [if_neg e1]
      by_cases e2 : a = v
      · subst e2
        rw [if_pos rfl, if_pos rfl, if_neg (Ne.symm e1)]; omega
      · rw [if_neg e2, dgL_at h3, if_neg (Ne.symm e2), if_neg (Ne.symm e1)]; omega
section
variable {fs : T EF} {ro : Option K}
end
end Go.Ev
