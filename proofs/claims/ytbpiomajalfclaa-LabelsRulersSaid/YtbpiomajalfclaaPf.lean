/-
  Labels: the program's rulers.
  Labels: the reference's rulers.
  Labels: the reference's Extend and Shortest.
  Labels: what is grown is what the reference grows; a ruler of seven marks.
  Labels: the law LabelsRuler.
  Labels: measured, IsRuler.
  Labels: Extend; few.
  Labels: the law LabelsRulers.
-/
import Derived.Test.YtbpiomajalfclaaPe
namespace Go.Ev
open Go Go.RowKit
theorem beqL_self : ∀ {l : List V}, (∀ x ∈ l, beq1 x x = true) → beqL l l = true
  | [], _ => rfl
  | x :: l, hh => by
    show (beq1 x x && beqL l l) = true
    rw [hh x (by simp), beqL_self fun y hy => hh y (by simp [hy])]; rfl
theorem Sr.beq1 {h : H} {v : V} {L : List Int} (hs : Sr iE h v L) : Go.Ev.beq1 v v = true := by
  have hb := hs.beq
  rcases hs with ⟨rfl, _⟩ | ⟨_, _, _, _, rfl, _⟩
  · rfl
  · exact hb
theorem gr_beq {u : V} {A : List Bool} {m l : Int} (hu : beq1 u u = true) : beqL (grC u A m l) (grC u A m l) = true := by
  refine beqL_self fun x hx => ?_
  unfold grC at hx
  simp only [List.mem_cons, List.mem_append, List.mem_map, List.not_mem_nil, or_false] at hx
  rcases hx with rfl | ⟨b, _, rfl⟩ | rfl | rfl
  · exact hu
  · cases b <;> rfl
  · have := beq_i (k := .i64) (n := m); unfold beqV at this; exact this
  · have := beq_i (k := .i64) (n := l); unfold beqV at this; exact this
section
variable {fs : T EF} {ro : Option K} {h : H} {v : V} {L : List Int} {A : List Bool}
theorem callP_bf {k : K} {ef : EF} {args fst : List V} {P : V → H → Prop} (hf : fs.get k = some ef) (hn : ef.nv = none) (hr : Ret fs ef (fst ++ args) h P) : CallP fs (.bf k fst []) args h P := by
  obtain ⟨n, v, h', e, hp⟩ := hr
  refine ⟨n, v, h', ?_, hp⟩
  show (oGet (fs.get k) RV.no fun ef => callE (eval fs n) ef (cat fst (cat args [])) h) = _
  rw [hf, cat_eq, cat_eq, List.append_nil]
  show oGet ef.nv (callF (eval fs n) ef (fst ++ args) h) _ = _
  rw [hn]; exact e
theorem getLast_at {L : List Int} (hn : L ≠ []) : L[L.length - 1]'(by have := List.length_pos_iff.2 hn; omega) = L.getLastD 0 := by
  rw [List.getLastD_eq_getLast?, List.getLast?_eq_getElem?, List.getElem?_eq_getElem (by have := List.length_pos_iff.2 hn; omega)]; rfl
theorem extP_succ {l : Int} {f : Nat} {L : List Int} {A : List Bool} : extP l (f + 1) L A = firstF (fun x => (takeAll x L A).bind fun B => extP l f (L ++ [x]) B) (L.getLastD 0 + 1) (l - L.getLastD 0).toNat := rfl
theorem f110_ret (k : CallsRu fs) {m : Nat} {l : Int} (hm7 : m ≤ 7) (hl : l ≤ 25) : ∀ (f : Nat) {h : H} {v : V} {L : List Int} {A : List Bool}, HC h → Sr iE h v L → MkOk L → L.getLastD 0 ≤ l → A.length = 26 → L.length + f = m → Ret fs f110 [.agg (grC v A (m : Int) l)] h fun r h' => Out h' r (extP l f L A) ∧ Grow h.nx.nat h h' := by
  intro f
  induction f with
  | zero =>
    intro h v L A hc hv hmk hle hA hf
    apply ret_of rfl
    show W fs none f110_c _ _ _
    unfold f110_c
    have g1 := Grow.new (Nat.le_refl h.nx.nat) (.cells 29 (grC v A (m : Int) l))
    have e1 : (h.new (.cells 29 (grC v A (m : Int) l))).get h.nx = .cells 29 (grC v A (m : Int) l) := get_new_same
    have hv1 := hv.grow hc g1
    have ld0 := gr_ld0 e1
    have ld27 := gr_ld27 hA e1
    have hLm : (L.length : Int) = (m : Int) := by omega
    have d0 : decide ((m : Int) > (m : Int)) = false := by simp
    simp (disch := omega) only [f110_r0, f110_r1, f110_r3, f110_r4, f110_rs, w_skip, w_reg, w_seq, w_cond, w_ret, seqK_n, seqK_r, ckB_b, cbB_b, true_and, retK_r, x_nil, x_as, x_box, x_ld, x_bin, x_fadr, x_len, kx, rvP_ok, okv_some, ev_t, ev_c, getV_some, putD_some, bin_eql, bin_gtr, onP_p, oGet_s, readRs_nil, readRs_t, retV_2, frame_1, Option.some.injEq, exists_eq_left', getK_set, Nat.reduceEqDiff, ↓reduceIte, Bool.false_eq_true, gr_cells hA, ld0, ld27, hv.len, hLm, d0, decide_true]
    exact ⟨⟨v, rfl, hv1, hmk.ne⟩, g1⟩
  | succ f ih =>
    intro h v L A hc hv hmk hle hA hf
    apply ret_of rfl
    show W fs none f110_c _ _ _
    unfold f110_c
    have n1 := nx_new h (.cells 29 (grC v A (m : Int) l))
    have g1 := Grow.new (Nat.le_refl h.nx.nat) (.cells 29 (grC v A (m : Int) l))
    have e1 : (h.new (.cells 29 (grC v A (m : Int) l))).get h.nx = .cells 29 (grC v A (m : Int) l) := get_new_same
    have hv1 := hv.grow hc g1
    have hc1 := g1.hc hc
    have ld0 := gr_ld0 e1
    have ld27 := gr_ld27 hA e1
    have ld28 := gr_ld28 hA e1
    have ldn := gr_ldn hA e1
    have d0 : decide ((L.length : Int) > (m : Int)) = false := by simp; omega
    have d1 : decide ((L.length : Int) = (m : Int)) = false := by simp; omega
    have hpos := List.length_pos_iff.2 hmk.ne
    obtain ⟨p, hp1, hp2, hp3⟩ := hv1.atb (L.length - 1) (by omega)
    rw [getLast_at hmk.ne] at hp2
    have hi : ((L.length - 1 : Nat) : Int) = (L.length : Int) - 1 := by omega
    rw [hi] at hp1
    have hlast : 0 ≤ L.getLastD 0 := by
      have := hmk.bd _ (List.getElem_mem (l := L) (n := L.length - 1) (by omega))
      rw [getLast_at hmk.ne] at this; omega
    have hvb := hv.beq
    have hgb := gr_beq (A := A) (m := (m : Int)) (l := l) hv.beq1
    simp (disch := omega) only [f110_r0, f110_r1, f110_r3, f110_r5, w_skip, w_reg, w_draw, w_seq, w_cond, seqK_n, ckB_b, cbB_b, true_and, x_nil, x_as, x_box, x_ld, x_bin, x_fadr, x_call, x_len, kx, kg, xg_nil, xg_ld, xg_ldn, xg_bin, xg_fadr, xg_iads, xg_len, xd_cons, fresh_nil, stK_s, stay_nil, rvP_ok, okv_some, ev_t, ev_c, evs_nil, evs_cons, getV_some, putD_some, bin_add, bin_sub, bin_eql, bin_gtr, onP_p, oGet_s, frame_1, of1, getK_set, Nat.reduceEqDiff, ↓reduceIte, Bool.false_eq_true, xg_mkbf, gr_cells hA, ld0, ld27, ld28, ldn, hv.len, d0, d1, hp1, hp2, iE, fw64]
    generalize h.new (.cells 29 (grC v A (m : Int) l)) = h0 at *
    refine (callP_0 (ef := f78) k.c78 rfl (f78_ret (g := fun x => (takeAll x L A).bind fun B => extP l f (L ++ [x]) B) (by omega) (by omega) (by omega) fun x hx1 hx2 h1 hg1 => ?_)).mono ?_
    · refine callP_bf (ef := f132) k.c132 rfl ?_
      have hcA := hg1.hc hc1
      refine f132_ret k (hv1.grow hc1 hg1) hcA hmk (by omega) (by omega) hA (by omega) fun h2 v2 B _ hc2 hv2 hB => ?_
      exact ih hc2 hv2 (hmk.snoc (by omega)) (by simp [List.getLastD_eq_getLast?]; omega) hB (by simp; omega)
    · rintro r h2 ⟨⟨w, rfl, hw⟩, hg2⟩
      have hbw : beqV w w = true := by
        revert hw
        generalize firstF _ _ _ = o
        cases o with
        | none => rintro rfl; rfl
        | some R => exact fun hw => hw.1.beq
      simp (disch := omega) only [f110_rs, w_ret, seqK_n, true_and, retK_r, x_nil, x_as, kx, kg, xg_nil, xg_ext, xd_cons, fresh_nil, stK_n, stK_s, stay_nil, rvP_ok, okv_some, ev_t, getV_some, putD_some, onTup_t, oGet_s, nth0, nth1, readRs_nil, readRs_t, retV_2, Option.some.injEq, exists_eq_left', getK_set, Nat.reduceEqDiff, ↓reduceIte]
      rw [show l + 1 - (L.getLastD 0 + 1) = l - L.getLastD 0 by omega] at *
      rw [extP_succ]
      exact ⟨⟨w, rfl, hw⟩, g1.trans (hg2.low g1.nx)⟩
theorem f77_ret (k : CallsRu fs) {m : Nat} {l x : Int} (hm7 : m ≤ 7) (hx : x ≤ 25) {h : H} {v : V} {L : List Int} {A : List Bool} (hc : HC h) (hv : Sr iE h v L) (hmk : MkOk L) (hle : L.getLastD 0 ≤ x) (hA : A.length = 26) (hL : L.length ≤ m) : Ret fs f77 [.agg (grC v A (m : Int) l), .i .i64 x] h fun r h' => Out h' r (extP x (m - L.length) L A) ∧ Grow h.nx.nat h h' := by
  apply ret_of rfl
  show W fs none f77_c _ _ _
  unfold f77_c
  have n1 := nx_new h (.cells 29 (grC v A (m : Int) l))
  have g1 := Grow.new (Nat.le_refl h.nx.nat) (.cells 29 (grC v A (m : Int) l))
  have e1 : (h.new (.cells 29 (grC v A (m : Int) l))).get h.nx = .cells 29 (grC v A (m : Int) l) := get_new_same
  have hst := gr_st28 (l' := x) hA e1
  have g2 := g1.trans (Grow.put (Nat.le_refl _) (show h.nx.nat < (h.new (.cells 29 (grC v A (m : Int) l))).nx.nat by omega) (.cells 29 (grC v A (m : Int) x)))
  have e2 : ((h.new (.cells 29 (grC v A (m : Int) l))).put h.nx (.cells 29 (grC v A (m : Int) x))).get h.nx = .cells 29 (grC v A (m : Int) x) := get_put_same
  simp (disch := omega) only [f77_r0, f77_r1, w_reg, w_seq, seqK_n, x_nil, x_mv, x_as, x_box, x_st, x_fadr, kx, rvP_ok, ev_t, ev_c, getV_some, putD_some, putD_none, onP_p, oGet_s, frame_2, getK_set, Nat.reduceEqDiff, ↓reduceIte, gr_cells hA, hst]
  generalize (h.new (.cells 29 (grC v A (m : Int) l))).put h.nx (.cells 29 (grC v A (m : Int) x)) = h2 at *
  have ldn := gr_ldn hA e2
  simp (disch := omega) only [f77_r2, x_ldn, x_call, kx, rvP_ok, ev_t, ev_c, evs_nil, evs_cons, getV_some, putD_some, getK_set, Nat.reduceEqDiff, ↓reduceIte, ldn]
  refine (callP_0 (ef := f110) k.c110 rfl (f110_ret k hm7 hx (m - L.length) (g2.hc hc) (hv.grow hc g2) hmk hle hA (by omega))).mono ?_
  rintro r h3 ⟨⟨w, rfl, hw⟩, hg3⟩
  simp (disch := omega) only [f77_rs, w_ret, seqK_n, retK_r, x_nil, x_as, x_ext, kx, rvP_ok, okv_some, ev_t, getV_some, putD_some, onTup_t, oGet_s, nth0, nth1, readRs_nil, readRs_t, retV_2, Option.some.injEq, exists_eq_left', getK_set, Nat.reduceEqDiff, ↓reduceIte]
  exact ⟨⟨w, rfl, hw⟩, g2.trans (hg3.low g2.nx)⟩
end
end Go.Ev
namespace Go.Ev
open Go Go.RowKit
noncomputable def f44_r0 : List EOper := [⟨(some (K.ofNat 2)), none, .as (.c (.b false))⟩]
noncomputable def f44_r1 : List EOper := [⟨(some (K.ofNat 6)), none, .mv (.t (K.ofNat 0))⟩, ⟨(some (K.ofNat 7)), none, .len (.t (K.ofNat 6))⟩, ⟨(some (K.ofNat 8)), none, .bin .lss (.t (K.ofNat 7)) (.c (.i .i64 (.ofNat 2)))⟩, ⟨(some (K.ofNat 9)), none, .mv (.t (K.ofNat 8))⟩, ⟨(some (K.ofNat 10)), (some ((K.ofNat 9), false)), .mv (.t (K.ofNat 0))⟩, ⟨(some (K.ofNat 11)), (some ((K.ofNat 9), false)), .len (.t (K.ofNat 10))⟩, ⟨(some (K.ofNat 12)), (some ((K.ofNat 9), false)), .bin .gtr (.t (K.ofNat 11)) (.c (.i .i64 (.ofNat 7)))⟩, ⟨(some (K.ofNat 13)), none, .pick (.t (K.ofNat 9)) (.c (.b true)) (.t (K.ofNat 12))⟩, ⟨(some (K.ofNat 14)), none, .mv (.t (K.ofNat 13))⟩, ⟨(some (K.ofNat 15)), (some ((K.ofNat 14), false)), .mv (.t (K.ofNat 0))⟩, ⟨(some (K.ofNat 16)), (some ((K.ofNat 14), false)), .iads 1 (.t (K.ofNat 15)) (.c (.i .i64 (.ofNat 0)))⟩, ⟨(some (K.ofNat 17)), (some ((K.ofNat 14), false)), .ld (.t (K.ofNat 16))⟩, ⟨(some (K.ofNat 18)), (some ((K.ofNat 14), false)), .bin .neq (.t (K.ofNat 17)) (.c (.i .i64 (.ofNat 0)))⟩, ⟨(some (K.ofNat 19)), none, .pick (.t (K.ofNat 14)) (.c (.b true)) (.t (K.ofNat 18))⟩]
noncomputable def f44_r2 : List EOper := [⟨(some (K.ofNat 2)), none, .as (.c (.b false))⟩]
noncomputable def f44_r3 : List EOper := [⟨(some (K.ofNat 3)), none, .alloc 26 (List.replicate 26 (.b false))⟩]
noncomputable def f44_r4 : List EOper := [⟨(some (K.ofNat 4)), none, .as (.c (.i .i64 (.ofNat 1)))⟩]
noncomputable def f44_r5 : List EOper := [⟨(some (K.ofNat 20)), none, .mv (.t (K.ofNat 4))⟩, ⟨(some (K.ofNat 21)), none, .mv (.t (K.ofNat 0))⟩, ⟨(some (K.ofNat 22)), none, .len (.t (K.ofNat 21))⟩, ⟨(some (K.ofNat 23)), none, .bin .lss (.t (K.ofNat 20)) (.t (K.ofNat 22))⟩]
noncomputable def f44_r6 : List Stage := [⟨[⟨(some (K.ofNat 26)), none, .mv (.t (K.ofNat 0))⟩, ⟨(some (K.ofNat 27)), none, .mv (.t (K.ofNat 4))⟩, ⟨(some (K.ofNat 28)), none, .iads 1 (.t (K.ofNat 26)) (.t (K.ofNat 27))⟩, ⟨(some (K.ofNat 29)), none, .ld (.t (K.ofNat 28))⟩, ⟨(some (K.ofNat 30)), none, .mv (.t (K.ofNat 0))⟩, ⟨(some (K.ofNat 31)), none, .mv (.t (K.ofNat 4))⟩, ⟨(some (K.ofNat 32)), none, .bin .sub (.t (K.ofNat 31)) (.c (.i .i64 (.ofNat 1)))⟩, ⟨(some (K.ofNat 33)), none, .iads 1 (.t (K.ofNat 30)) (.t (K.ofNat 32))⟩, ⟨(some (K.ofNat 34)), none, .ld (.t (K.ofNat 33))⟩, ⟨(some (K.ofNat 35)), none, .bin .leq (.t (K.ofNat 29)) (.t (K.ofNat 34))⟩, ⟨(some (K.ofNat 36)), none, .mv (.t (K.ofNat 35))⟩, ⟨(some (K.ofNat 37)), (some ((K.ofNat 36), false)), .mv (.t (K.ofNat 0))⟩, ⟨(some (K.ofNat 38)), (some ((K.ofNat 36), false)), .mv (.t (K.ofNat 4))⟩, ⟨(some (K.ofNat 39)), (some ((K.ofNat 36), false)), .iads 1 (.t (K.ofNat 37)) (.t (K.ofNat 38))⟩, ⟨(some (K.ofNat 40)), (some ((K.ofNat 36), false)), .ld (.t (K.ofNat 39))⟩, ⟨(some (K.ofNat 41)), (some ((K.ofNat 36), false)), .bin .gtr (.t (K.ofNat 40)) (.c (.i .i64 (.ofNat 25)))⟩, ⟨(some (K.ofNat 42)), none, .pick (.t (K.ofNat 36)) (.c (.b true)) (.t (K.ofNat 41))⟩], [], none, []⟩]
noncomputable def f44_r7 : List EOper := [⟨(some (K.ofNat 2)), none, .as (.c (.b false))⟩]
noncomputable def f44_r8 : List EOper := [⟨(some (K.ofNat 5)), none, .as (.c (.i .i64 (.ofNat 0)))⟩]
noncomputable def f44_r9 : List EOper := [⟨(some (K.ofNat 43)), none, .mv (.t (K.ofNat 5))⟩, ⟨(some (K.ofNat 44)), none, .mv (.t (K.ofNat 4))⟩, ⟨(some (K.ofNat 45)), none, .bin .lss (.t (K.ofNat 43)) (.t (K.ofNat 44))⟩]
noncomputable def f44_r10 : List Stage := [⟨[⟨(some (K.ofNat 48)), none, .mv (.t (K.ofNat 0))⟩, ⟨(some (K.ofNat 49)), none, .mv (.t (K.ofNat 4))⟩, ⟨(some (K.ofNat 50)), none, .iads 1 (.t (K.ofNat 48)) (.t (K.ofNat 49))⟩, ⟨(some (K.ofNat 51)), none, .ld (.t (K.ofNat 50))⟩, ⟨(some (K.ofNat 52)), none, .mv (.t (K.ofNat 0))⟩, ⟨(some (K.ofNat 53)), none, .mv (.t (K.ofNat 5))⟩, ⟨(some (K.ofNat 54)), none, .iads 1 (.t (K.ofNat 52)) (.t (K.ofNat 53))⟩, ⟨(some (K.ofNat 55)), none, .ld (.t (K.ofNat 54))⟩, ⟨(some (K.ofNat 56)), none, .bin .sub (.t (K.ofNat 51)) (.t (K.ofNat 55))⟩, ⟨(some (K.ofNat 57)), none, .iadr 26 1 (.t (K.ofNat 3)) (.t (K.ofNat 56))⟩, ⟨(some (K.ofNat 58)), none, .ld (.t (K.ofNat 57))⟩], [], none, []⟩]
noncomputable def f44_r11 : List EOper := [⟨(some (K.ofNat 2)), none, .as (.c (.b false))⟩]
noncomputable def f44_r12 : List Stage := [⟨[⟨(some (K.ofNat 59)), none, .mv (.t (K.ofNat 0))⟩, ⟨(some (K.ofNat 60)), none, .mv (.t (K.ofNat 4))⟩, ⟨(some (K.ofNat 61)), none, .iads 1 (.t (K.ofNat 59)) (.t (K.ofNat 60))⟩, ⟨(some (K.ofNat 62)), none, .ld (.t (K.ofNat 61))⟩, ⟨(some (K.ofNat 63)), none, .mv (.t (K.ofNat 0))⟩, ⟨(some (K.ofNat 64)), none, .mv (.t (K.ofNat 5))⟩, ⟨(some (K.ofNat 65)), none, .iads 1 (.t (K.ofNat 63)) (.t (K.ofNat 64))⟩, ⟨(some (K.ofNat 66)), none, .ld (.t (K.ofNat 65))⟩, ⟨(some (K.ofNat 67)), none, .bin .sub (.t (K.ofNat 62)) (.t (K.ofNat 66))⟩, ⟨(some (K.ofNat 68)), none, .iadr 26 1 (.t (K.ofNat 3)) (.t (K.ofNat 67))⟩], [], (some ⟨none, none, .st 1 (.t (K.ofNat 68)) (.c (.b true))⟩), []⟩, ⟨[], [], none, []⟩]
noncomputable def f44_r13 : List EOper := [⟨(some (K.ofNat 46)), none, .mv (.t (K.ofNat 5))⟩, ⟨(some (K.ofNat 47)), none, .bin .add (.t (K.ofNat 46)) (.c (.i .i64 (.ofNat 1)))⟩, ⟨(some (K.ofNat 5)), none, .as (.t (K.ofNat 47))⟩]
noncomputable def f44_l0 : EC := (.seq (.seq (.reg f44_r9) (.cond (.t (K.ofNat 45)) .skip (.exit 2))) (.seq (.block 3 (.seq (.seq (.draw f44_r10) (.cond (.t (K.ofNat 58)) (.seq (.reg f44_r11) .ret) .skip)) (.draw f44_r12))) (.reg f44_r13)))
noncomputable def f44_r14 : List EOper := [⟨(some (K.ofNat 24)), none, .mv (.t (K.ofNat 4))⟩, ⟨(some (K.ofNat 25)), none, .bin .add (.t (K.ofNat 24)) (.c (.i .i64 (.ofNat 1)))⟩, ⟨(some (K.ofNat 4)), none, .as (.t (K.ofNat 25))⟩]
noncomputable def f44_l1 : EC := (.seq (.seq (.reg f44_r5) (.cond (.t (K.ofNat 23)) .skip (.exit 0))) (.seq (.block 1 (.seq (.seq (.draw f44_r6) (.cond (.t (K.ofNat 42)) (.seq (.reg f44_r7) .ret) .skip)) (.seq (.reg f44_r8) (.block 2 (.loop f44_l0))))) (.reg f44_r14)))
noncomputable def f44_r15 : List EOper := [⟨(some (K.ofNat 2)), none, .as (.c (.b true))⟩]
noncomputable def f44_c : EC := (.seq (.reg f44_r0) (.seq (.seq (.reg f44_r1) (.cond (.t (K.ofNat 19)) (.seq (.reg f44_r2) .ret) .skip)) (.seq (.reg f44_r3) (.seq (.seq (.reg f44_r4) (.block 0 (.loop f44_l1))) (.seq (.reg f44_r15) .ret)))))
noncomputable def f44 : EF := ⟨69, [.tmp (K.ofNat 2)], f44_c, none⟩
theorem f44_rs : f44.rs = [.tmp (K.ofNat 2)] := of_eq_true (eq_self _)
/-- The differences of marks, one mark after the other. -/
def measA : List Int → List Int → List Bool → Option (List Bool)
  | _, [], A => some A
  | P, x :: R, A => if x ≤ P.getLastD 0 ∨ 25 < x then none else (takeAll x P A).bind fun B => measA (P ++ [x]) R B
def fls : List Bool := List.replicate 26 false
def rulB (L : List Int) : Bool := decide (2 ≤ L.length) && (decide (L.length ≤ 7) && (decide (L.headD 0 = 0) && (measA [L.headD 0] L.tail fls).isSome))
section
variable {fs : T EF} {ro : Option K} {h : H} {v : V} {L : List Int} {A : List Bool}
theorem last_take {L : List Int} {i : Nat} (h1 : 1 ≤ i) (h2 : i ≤ L.length) : (L.take i).getLastD 0 = L[i - 1]'(by omega) := by
  rw [List.getLastD_eq_getLast?, List.getLast?_eq_getElem?, List.length_take, Nat.min_eq_left h2, List.getElem?_take, if_pos (by omega), List.getElem?_eq_getElem (by omega)]; rfl
theorem drop_at {α : Type} {L : List α} {i : Nat} (hi : i < L.length) : L.drop i = L[i] :: L.drop (i + 1) := by rw [List.drop_eq_getElem_cons hi]
theorem take_at {α : Type} {L : List α} {i : Nat} (hi : i < L.length) : L.take (i + 1) = L.take i ++ [L[i]] := List.take_succ_eq_append_getElem hi
def f44_J (h : H) (v : V) (L : List Int) (idA : K) (i j : Nat) (A : List Bool) (fr : Fr) (h1 : H) : Prop :=
  j ≤ i ∧ Grow h.nx.nat h h1 ∧ idA.nat < h1.nx.nat ∧ (∃ B : List Bool, B.length = 26 ∧ takeAll (L.getD i 0) (L.take i) A = takeAll (L.getD i 0) ((L.take i).drop j) B ∧ Ar V.b h1 idA B) ∧ fr.get (K.ofNat 0) = some (v) ∧ fr.get (K.ofNat 3) = some (.p idA 0) ∧ fr.get (K.ofNat 4) = some (.i .i64 (i : Int)) ∧ fr.get (K.ofNat 5) = some (.i .i64 (j : Int))
def f44_I (h : H) (v : V) (L : List Int) (idA : K) (i : Nat) (fr : Fr) (h1 : H) : Prop :=
  1 ≤ i ∧ i ≤ L.length ∧ Grow h.nx.nat h h1 ∧ idA.nat < h1.nx.nat ∧ MkOk (L.take i) ∧ (∃ A : List Bool, A.length = 26 ∧ measA [L.headD 0] L.tail fls = measA (L.take i) (L.drop i) A ∧ Ar V.b h1 idA A) ∧ fr.get (K.ofNat 0) = some (v) ∧ fr.get (K.ofNat 3) = some (.p idA 0) ∧ fr.get (K.ofNat 4) = some (.i .i64 (i : Int))
theorem f44_ret (hv : Sr iE h v L) (hc : HC h) (hL : L.length ≤ 1000000) : Ret fs f44 [v] h fun r h' => r = .b (rulB L) ∧ Grow h.nx.nat h h' := by
  apply ret_of rfl
  show W fs none f44_c _ _ _
  unfold f44_c
  have hl := hv.len
  cases d1 : decide ((L.length : Int) < 2) with
  | true =>
    have e : rulB L = false := by
      have : ¬ 2 ≤ L.length := by have := of_decide_eq_true d1; omega
      simp [rulB, this]
    simp (disch := omega) only [f44_r0, f44_r1, f44_r2, f44_rs, w_reg, w_seq, w_cond, w_ret, seqK_n, seqK_r, ckB_b, cbB_b, okG_b, asG_f, true_and, retK_r, x_nil, x_g, x_mv, x_as, x_pick, x_bin, x_len, kx, rvP_ok, okv_some, ev_t, ev_c, getV_some, putD_some, bin_lss, pick_b, oGet_s, readRs_nil, readRs_t, retV_1, frame_1, of0, of2, Option.some.injEq, exists_eq_left', getK_set, Nat.reduceEqDiff, ↓reduceIte, Bool.false_eq_true, Bool.not_true, of7, hl, d1, e, true_and]
    exact Grow.refl _ _
  | false =>
  have h2 : 2 ≤ L.length := by have := of_decide_eq_false d1; omega
  obtain ⟨p, hp1, hp2⟩ := hv.at 0 (by omega)
  cases d2 : decide ((L.length : Int) > 7) with
  | true =>
    have e : rulB L = false := by
      have : ¬ L.length ≤ 7 := by have := of_decide_eq_true d2; omega
      simp [rulB, this]
    simp (disch := omega) only [f44_r0, f44_r1, f44_r2, f44_rs, w_reg, w_seq, w_cond, w_ret, seqK_n, seqK_r, ckB_b, cbB_b, okG_b, asG_f, true_and, retK_r, x_nil, x_g, x_mv, x_as, x_pick, x_bin, x_len, kx, rvP_ok, okv_some, ev_t, ev_c, getV_some, putD_some, bin_lss, bin_gtr, pick_b, oGet_s, readRs_nil, readRs_t, retV_1, frame_1, of0, of2, Option.some.injEq, exists_eq_left', getK_set, Nat.reduceEqDiff, ↓reduceIte, Bool.false_eq_true, Bool.not_true, Bool.not_false, of7, hl, d1, d2, e, true_and]
    exact Grow.refl _ _
  | false =>
  have h7 : L.length ≤ 7 := by have := of_decide_eq_false d2; omega
  have hh : L.headD 0 = L[0] := by cases L with
    | nil => simp at h2
    | cons a l => rfl
  simp only [Int.natCast_zero] at hp1
  cases d3 : decide (L[0] = 0) with
  | false =>
    have e : rulB L = false := by
      have : decide (L.headD 0 = 0) = false := by rw [hh]; exact d3
      simp only [rulB, this, Bool.false_and, Bool.and_false]
    have d3' : decide (L[0] ≠ 0) = true := by simpa using d3
    simp (disch := omega) only [f44_r0, f44_r1, f44_r2, f44_rs, w_reg, w_seq, w_cond, w_ret, seqK_n, seqK_r, ckB_b, cbB_b, okG_b, asG_f, true_and, retK_r, x_nil, x_g, x_mv, x_as, x_pick, x_ld, x_bin, x_iads, x_len, kx, rvP_ok, okv_some, ev_t, ev_c, getV_some, putD_some, bin_neq, bin_lss, bin_gtr, pick_b, oGet_s, readRs_nil, readRs_t, retV_1, frame_1, of0, of2, Option.some.injEq, exists_eq_left', getK_set, Nat.reduceEqDiff, ↓reduceIte, Bool.false_eq_true, Bool.not_false, of7, hl, d1, d2, hp1, hp2, iE, d3', e, true_and]
    exact Grow.refl _ _
  | true =>
  have h0 : L[0] = 0 := of_decide_eq_true d3
  have e : rulB L = (measA [L.headD 0] L.tail fls).isSome := by
    have : decide (L.headD 0 = 0) = true := by rw [hh]; exact d3
    simp only [rulB, decide_eq_true h2, decide_eq_true h7, this, Bool.true_and]
  have d3' : decide (L[0] ≠ 0) = false := by simpa using d3
  have n1 := nx_new h (.cells 26 (fls.map V.b))
  have g1 := Grow.new (Nat.le_refl h.nx.nat) (.cells 26 (fls.map V.b))
  have e1 : Ar V.b (h.new (.cells 26 (fls.map V.b))) h.nx fls := get_new_same
  simp (disch := omega) only [f44_r0, f44_r1, f44_r3, f44_r4, w_skip, w_reg, w_seq, w_cond, w_block, seqK_n, ckB_b, cbB_b, okG_b, asG_f, true_and, x_nil, x_g, x_mv, x_as, x_pick, x_alloc, x_ld, x_bin, x_iads, x_len, kx, rvP_ok, okv_some, ev_t, ev_c, getV_some, putD_some, bin_neq, bin_lss, bin_gtr, pick_b, frame_1, of0, of1, of2, getK_set, Nat.reduceEqDiff, ↓reduceIte, Bool.false_eq_true, Bool.not_false, of7, hl, d1, d2, hp1, hp2, iE, d3']
  have hfl : (List.replicate 26 (V.b false)) = fls.map V.b := rfl
  try rw [hfl]
  generalize h.new (.cells 26 (fls.map V.b)) = hm at *
  refine W_loop (f44_I h v L h.nx) (fun i => L.length - i) ?_ 1 ⟨by omega, by omega, g1, by omega, ?_, ⟨fls, rfl, ?_, e1⟩, by simp (disch := omega) only [getK_set, Nat.reduceEqDiff, ↓reduceIte, and_self, Int.natCast_one]⟩
  · rintro i fr h1 ⟨hi1, hi, hG, hnx, hmk, ⟨A, hA, hme, har⟩, g0, g3, g4⟩
    unfold f44_l1
    have hv1 := hv.grow hc hG
    by_cases hlt : i < L.length
    · have d0 : decide ((i : Int) < (L.length : Int)) = true := by simpa using hlt
      obtain ⟨q, hq1, hq2, hq3⟩ := hv1.atb i hlt
      obtain ⟨s, hs1, hs2, hs3⟩ := hv1.atb (i - 1) (by omega)
      have ei : ((i - 1 : Nat) : Int) = (i : Int) - 1 := by omega
      rw [ei] at hs1
      have hvb := hv1.beq
      rw [drop_at hlt] at hme
      have hme2 : measA (L.take i) (L[i] :: L.drop (i + 1)) A = if L[i] ≤ (L.take i).getLastD 0 ∨ 25 < L[i] then none else (takeAll L[i] (L.take i) A).bind fun B => measA (L.take i ++ [L[i]]) (L.drop (i + 1)) B := rfl
      rw [hme2, last_take hi1 hi] at hme
      cases d4 : decide (L[i] ≤ L[i - 1]) with
      | true =>
        rw [if_pos (.inl (of_decide_eq_true d4))] at hme
        rw [hme] at e
        simp (disch := omega) only [f44_r5, f44_r6, f44_r7, f44_rs, w_skip, w_reg, w_draw, w_seq, w_cond, w_block, w_ret, seqK_n, seqK_r, atK_r, loopK_r, ckB_b, cbB_b, okG_b, asG_f, true_and, retK_r, x_nil, x_mv, x_as, x_bin, x_len, kx, kg, xg_nil, xg_g, xg_mv, xg_pick, xg_ld, xg_bin, xg_iads, xd_cons, fresh_nil, stK_n, stay_nil, rvP_ok, okv_some, ev_t, ev_c, getV_some, putD_some, bin_sub, bin_lss, bin_leq, pick_b, oGet_s, readRs_nil, readRs_t, retV_1, of1, Option.some.injEq, exists_eq_left', getK_set, Nat.reduceEqDiff, ↓reduceIte, Bool.false_eq_true, Bool.not_true, of25, g0, g4, hl, d0, hq1, hq2, hs1, hs2, iE, d4, fw64, e, Option.isSome_none, true_and]
        exact hG
      | false =>
      have h4 := of_decide_eq_false d4
      cases d5 : decide (L[i] > 25) with
      | true =>
        rw [if_pos (.inr (of_decide_eq_true d5))] at hme
        rw [hme] at e
        simp (disch := omega) only [f44_r5, f44_r6, f44_r7, f44_rs, w_skip, w_reg, w_draw, w_seq, w_cond, w_block, w_ret, seqK_n, seqK_r, atK_r, loopK_r, ckB_b, cbB_b, okG_b, asG_f, true_and, retK_r, x_nil, x_mv, x_as, x_bin, x_len, kx, kg, xg_nil, xg_g, xg_mv, xg_pick, xg_ld, xg_bin, xg_iads, xd_cons, fresh_nil, stK_n, stay_nil, rvP_ok, okv_some, ev_t, ev_c, getV_some, putD_some, bin_sub, bin_lss, bin_leq, bin_gtr, pick_b, oGet_s, readRs_nil, readRs_t, retV_1, of1, Option.some.injEq, exists_eq_left', getK_set, Nat.reduceEqDiff, ↓reduceIte, Bool.false_eq_true, Bool.not_false, of25, g0, g4, hl, d0, hq1, hq2, hs1, hs2, iE, d4, d5, fw64, e, Option.isSome_none, true_and]
        exact hG
      | false =>
      have h5 := of_decide_eq_false d5
      rw [if_neg (by omega)] at hme
      simp (disch := omega) only [f44_r5, f44_r6, f44_r8, w_skip, w_reg, w_draw, w_seq, w_cond, w_block, seqK_n, ckB_b, cbB_b, okG_b, asG_f, true_and, x_nil, x_mv, x_as, x_bin, x_len, kx, kg, xg_nil, xg_g, xg_mv, xg_pick, xg_ld, xg_bin, xg_iads, xd_cons, fresh_nil, stK_n, stay_nil, rvP_ok, okv_some, ev_t, ev_c, getV_some, putD_some, bin_sub, bin_lss, bin_leq, bin_gtr, pick_b, of0, of1, getK_set, Nat.reduceEqDiff, ↓reduceIte, Bool.false_eq_true, Bool.not_false, of25, g0, g4, hl, d0, hq1, hq2, hs1, hs2, iE, d4, d5, fw64]
      have hgd : L.getD i 0 = L[i] := by simp [List.getD_eq_getElem?_getD, hlt]
      refine W_loop (fun j => f44_J h v L h.nx i j A) (fun j => i - j) ?_ 0 ⟨by omega, hG, hnx, ⟨A, hA, rfl, har⟩, by simp (disch := omega) only [getK_set, Nat.reduceEqDiff, ↓reduceIte, g0, g3, g4, and_self, Int.natCast_zero]⟩
      clear hG hnx har g0 g3 g4 hv1 hq1 hq2 hq3 hs1 hs2 hs3 hvb
      rintro j fr h1 ⟨hj, hG, hnx, ⟨B, hB, htk, har⟩, g0, g3, g4, g5⟩
      unfold f44_l0
      have hv1 := hv.grow hc hG
      have hvb := hv1.beq
      obtain ⟨q, hq1, hq2, hq3⟩ := hv1.atb i hlt
      rw [hgd] at htk
      by_cases hjl : j < i
      · have d6 : decide ((j : Int) < (i : Int)) = true := by simpa using hjl
        obtain ⟨s, hs1, hs2, hs3⟩ := hv1.atb j (by omega)
        have hjt : j < (L.take i).length := by simp; omega
        have hb := hmk.bd (L.take i)[j] (List.getElem_mem hjt)
        rw [last_take hi1 hi] at hb
        have hjj : (L.take i)[j] = L[j] := by simp
        rw [hjj] at hb
        rw [drop_at hjt, hjj] at htk
        have hd26 : (L[i] - L[j]).toNat < 26 := by omega
        have ix : ∀ f : Nat → RV, idxV (.i .i64 (L[i] - L[j])) 26 f = f (L[i] - L[j]).toNat := fun f => by
          have : L[i] - L[j] = (((L[i] - L[j]).toNat : Nat) : Int) := by omega
          rw [this]; exact idx_n hd26
        have hld := har.ld (i := (L[i] - L[j]).toNat) (by omega)
        have hst := (har.st (i := (L[i] - L[j]).toNat) (x := true) (c := .b true) (by omega) rfl rfl).1
        rw [hB] at hst
        have hgB : B.getD (L[i] - L[j]).toNat false = B[(L[i] - L[j]).toNat]'(by omega) := by simp [List.getD_eq_getElem?_getD, hB, hd26]
        have htk2 : takeAll L[i] (L[j] :: (L.take i).drop (j + 1)) B = if B.getD (L[i] - L[j]).toNat false = true then none else takeAll L[i] ((L.take i).drop (j + 1)) (B.set (L[i] - L[j]).toNat true) := rfl
        rw [htk2, hgB] at htk
        cases hbb : B[(L[i] - L[j]).toNat]'(by omega) with
        | true =>
          rw [hbb] at hld
          rw [hbb, if_pos rfl] at htk
          rw [hme, htk] at e
          simp (disch := omega) only [f44_r9, f44_r10, f44_r11, f44_rs, w_skip, w_reg, w_draw, w_seq, w_cond, w_block, w_ret, seqK_n, seqK_r, atK_r, loopK_r, ckB_b, cbB_b, true_and, retK_r, x_nil, x_mv, x_as, x_bin, kx, kg, xg_nil, xg_mv, xg_ld, xg_bin, xg_iadr, xg_iads, xd_cons, fresh_nil, stK_n, stay_nil, rvP_ok, okv_some, ev_t, ev_c, getV_some, putD_some, bin_sub, bin_lss, onP_p, oGet_s, readRs_nil, readRs_t, retV_1, Option.some.injEq, exists_eq_left', getK_set, Nat.reduceEqDiff, ↓reduceIte, g0, g3, g4, g5, d6, hq1, hq2, hs1, hs2, iE, fw64, ix, hld, e, Option.bind_none, Option.isSome_none, true_and]
          exact hG
        | false =>
          rw [hbb] at hld
          rw [hbb, if_neg (by simp)] at htk
          simp (disch := omega) only [f44_r9, f44_r10, f44_r12, f44_r13, w_skip, w_reg, w_draw, w_seq, w_cond, w_block, seqK_n, atK_n, loopK_n, ckB_b, cbB_b, true_and, x_nil, x_mv, x_as, x_st, x_bin, kx, kg, xg_nil, xg_mv, xg_ld, xg_bin, xg_iadr, xg_iads, xd_cons, fresh_nil, stK_n, stK_s, stay_nil, rvP_ok, okv_some, ev_t, ev_c, getV_some, putD_some, putD_none, bin_add, bin_sub, bin_lss, onP_p, of1, getK_set, Nat.reduceEqDiff, ↓reduceIte, Bool.false_eq_true, g0, g3, g4, g5, d6, hq1, hq2, hs1, hs2, iE, fw64, ix, hld, hst]
          refine ⟨j + 1, by omega, by omega, hG.trans (Grow.put (Nat.le_refl _) hnx _), hnx, ⟨B.set (L[i] - L[j]).toNat true, by simpa using hB, by rw [hgd]; exact htk, ?_⟩, by simp (disch := omega) only [getK_set, Nat.reduceEqDiff, ↓reduceIte, g0, g3, g4, and_self, Int.natCast_add, Int.natCast_one]⟩
          show (h1.put h.nx _).get h.nx = .cells (B.set _ true).length _
          rw [get_put_same, List.length_set, hB]
      · have d6 : decide ((j : Int) < (i : Int)) = false := by simpa using hjl
        have ej : j = i := by omega
        rw [ej, List.drop_eq_nil_of_le (by simp; omega)] at htk
        have htk2 : takeAll L[i] [] B = some B := rfl
        rw [htk, htk2] at hme
        have hme3 : measA [L.headD 0] L.tail fls = measA (L.take (i + 1)) (L.drop (i + 1)) B := by rw [hme, take_at hlt]; rfl
        simp (disch := omega) only [f44_r9, f44_r14, w_reg, w_seq, w_cond, w_exit, seqK_n, seqK_e, atK_n, atK_e, loopK_n, loopK_e, ckB_b, cbB_b, true_and, x_nil, x_mv, x_as, x_bin, kx, rvP_ok, okv_some, ev_t, ev_c, getV_some, putD_some, bin_add, bin_lss, of1, getK_set, Nat.reduceEqDiff, ↓reduceIte, Bool.false_eq_true, g4, g5, d6, fw64]
        refine ⟨i + 1, by omega, by omega, by omega, hG, hnx, ?_, ⟨B, hB, hme3, har⟩, by simp (disch := omega) only [getK_set, Nat.reduceEqDiff, ↓reduceIte, g0, g3, and_self, Int.natCast_add, Int.natCast_one]⟩
        rw [take_at hlt]
        exact hmk.snoc (by rw [last_take hi1 hi]; omega)
    · have d0 : decide ((i : Int) < (L.length : Int)) = false := by simpa using hlt
      have ei : i = L.length := by omega
      subst ei
      rw [List.drop_length] at hme
      have hme2 : measA (L.take L.length) [] A = some A := rfl
      rw [hme2] at hme
      rw [hme] at e
      simp (disch := omega) only [f44_r5, f44_r15, f44_rs, w_reg, w_seq, w_cond, w_exit, w_ret, seqK_n, seqK_e, atK_e, loopK_e, ckB_b, cbB_b, true_and, retK_r, x_nil, x_mv, x_as, x_bin, x_len, kx, rvP_ok, okv_some, ev_t, ev_c, getV_some, putD_some, bin_lss, oGet_s, readRs_nil, readRs_t, retV_1, Option.some.injEq, exists_eq_left', getK_set, Nat.reduceEqDiff, ↓reduceIte, Bool.false_eq_true, g0, g4, hl, d0, e, Option.isSome_some, true_and]
      exact hG
  · cases L with
    | nil => simp at h2
    | cons a l =>
      have ha : a = 0 := h0
      subst ha
      exact ⟨by simp, fun b hb => by
        have : b = 0 := by simpa using hb
        subst this; simp⟩
  · cases L with
    | nil => simp at h2
    | cons a l => rfl
end
end Go.Ev
namespace Go.Ev
open Go Go.RowKit
noncomputable def f45_r0 : List EOper := [⟨(some (K.ofNat 6)), none, .as (.c .sn)⟩]
noncomputable def f45_r1 : List EOper := [⟨(some (K.ofNat 10)), none, .mv (.t (K.ofNat 0))⟩, ⟨(some (K.ofNat 11)), none, .len (.t (K.ofNat 10))⟩, ⟨(some (K.ofNat 12)), none, .mv (.t (K.ofNat 1))⟩, ⟨(some (K.ofNat 13)), none, .bin .gtr (.t (K.ofNat 11)) (.t (K.ofNat 12))⟩, ⟨(some (K.ofNat 14)), none, .mv (.t (K.ofNat 13))⟩, ⟨(some (K.ofNat 15)), (some ((K.ofNat 14), false)), .mv (.t (K.ofNat 0))⟩, ⟨(some (K.ofNat 16)), (some ((K.ofNat 14), false)), .len (.t (K.ofNat 15))⟩, ⟨(some (K.ofNat 17)), (some ((K.ofNat 14), false)), .bin .geq (.t (K.ofNat 16)) (.c (.i .i64 (.ofNat 2)))⟩, ⟨(some (K.ofNat 18)), (some ((K.ofNat 14), false)), .mv (.t (K.ofNat 17))⟩, ⟨(some (K.ofNat 19)), (some ((K.ofNat 18), true)), .mv (.t (K.ofNat 0))⟩, ⟨(some (K.ofNat 20)), (some ((K.ofNat 18), true)), .call (.c (.fn (K.ofNat 44) [])) [(.t (K.ofNat 19))]⟩, ⟨(some (K.ofNat 21)), (some ((K.ofNat 18), true)), .not (.t (K.ofNat 20))⟩, ⟨(some (K.ofNat 22)), (some ((K.ofNat 14), false)), .pick (.t (K.ofNat 18)) (.t (K.ofNat 21)) (.c (.b false))⟩, ⟨(some (K.ofNat 23)), none, .pick (.t (K.ofNat 14)) (.c (.b true)) (.t (K.ofNat 22))⟩, ⟨(some (K.ofNat 24)), none, .mv (.t (K.ofNat 23))⟩, ⟨(some (K.ofNat 25)), (some ((K.ofNat 24), false)), .mv (.t (K.ofNat 0))⟩, ⟨(some (K.ofNat 26)), (some ((K.ofNat 24), false)), .mv (.t (K.ofNat 0))⟩, ⟨(some (K.ofNat 27)), (some ((K.ofNat 24), false)), .len (.t (K.ofNat 26))⟩, ⟨(some (K.ofNat 28)), (some ((K.ofNat 24), false)), .bin .sub (.t (K.ofNat 27)) (.c (.i .i64 (.ofNat 1)))⟩, ⟨(some (K.ofNat 29)), (some ((K.ofNat 24), false)), .iads 1 (.t (K.ofNat 25)) (.t (K.ofNat 28))⟩, ⟨(some (K.ofNat 30)), (some ((K.ofNat 24), false)), .ld (.t (K.ofNat 29))⟩, ⟨(some (K.ofNat 31)), (some ((K.ofNat 24), false)), .mv (.t (K.ofNat 2))⟩, ⟨(some (K.ofNat 32)), (some ((K.ofNat 24), false)), .bin .gtr (.t (K.ofNat 30)) (.t (K.ofNat 31))⟩, ⟨(some (K.ofNat 33)), none, .pick (.t (K.ofNat 24)) (.c (.b true)) (.t (K.ofNat 32))⟩]
noncomputable def f45_r2 : List EOper := [⟨(some (K.ofNat 6)), none, .as (.c .sn)⟩]
noncomputable def f45_r3 : List EOper := [⟨(some (K.ofNat 34)), none, .mv (.t (K.ofNat 0))⟩, ⟨(some (K.ofNat 35)), none, .len (.t (K.ofNat 34))⟩, ⟨(some (K.ofNat 36)), none, .mv (.t (K.ofNat 1))⟩, ⟨(some (K.ofNat 37)), none, .bin .eql (.t (K.ofNat 35)) (.t (K.ofNat 36))⟩]
noncomputable def f45_r4 : List EOper := [⟨(some (K.ofNat 38)), none, .mv (.t (K.ofNat 0))⟩, ⟨(some (K.ofNat 6)), none, .as (.t (K.ofNat 38))⟩]
noncomputable def f45_r5 : List EOper := [⟨(some (K.ofNat 39)), none, .mv (.t (K.ofNat 0))⟩, ⟨(some (K.ofNat 40)), none, .mv (.t (K.ofNat 0))⟩, ⟨(some (K.ofNat 41)), none, .len (.t (K.ofNat 40))⟩, ⟨(some (K.ofNat 42)), none, .bin .sub (.t (K.ofNat 41)) (.c (.i .i64 (.ofNat 1)))⟩, ⟨(some (K.ofNat 43)), none, .iads 1 (.t (K.ofNat 39)) (.t (K.ofNat 42))⟩, ⟨(some (K.ofNat 44)), none, .ld (.t (K.ofNat 43))⟩, ⟨(some (K.ofNat 45)), none, .bin .add (.t (K.ofNat 44)) (.c (.i .i64 (.ofNat 1)))⟩, ⟨(some (K.ofNat 7)), none, .as (.t (K.ofNat 45))⟩]
noncomputable def f45_r6 : List EOper := [⟨(some (K.ofNat 46)), none, .mv (.t (K.ofNat 7))⟩, ⟨(some (K.ofNat 47)), none, .mv (.t (K.ofNat 2))⟩, ⟨(some (K.ofNat 48)), none, .bin .leq (.t (K.ofNat 46)) (.t (K.ofNat 47))⟩]
noncomputable def f45_r7 : List EOper := [⟨(some (K.ofNat 8)), none, .as (.c .sn)⟩]
noncomputable def f45_r8 : List EOper := [⟨(some (K.ofNat 51)), none, .mv (.t (K.ofNat 8))⟩, ⟨(some (K.ofNat 52)), none, .mv (.t (K.ofNat 0))⟩, ⟨(some (K.ofNat 53)), none, .app 1 (.t (K.ofNat 51)) (.t (K.ofNat 52))⟩, ⟨(some (K.ofNat 8)), none, .as (.t (K.ofNat 53))⟩]
noncomputable def f45_r9 : List EOper := [⟨(some (K.ofNat 54)), none, .mv (.t (K.ofNat 8))⟩, ⟨(some (K.ofNat 55)), none, .mv (.t (K.ofNat 7))⟩, ⟨(some (K.ofNat 56)), none, .bslice 1 1 [(.i .i64 (.ofNat 0))] [(0, 1, (.t (K.ofNat 55)))]⟩, ⟨(some (K.ofNat 57)), none, .app 1 (.t (K.ofNat 54)) (.t (K.ofNat 56))⟩, ⟨(some (K.ofNat 58)), none, .mv (.t (K.ofNat 1))⟩, ⟨(some (K.ofNat 59)), none, .mv (.t (K.ofNat 2))⟩, ⟨(some (K.ofNat 60)), none, .call (.c (.fn (K.ofNat 45) [])) [(.t (K.ofNat 57)), (.t (K.ofNat 58)), (.t (K.ofNat 59))]⟩, ⟨(some (K.ofNat 9)), none, .as (.t (K.ofNat 60))⟩]
noncomputable def f45_r10 : List EOper := [⟨(some (K.ofNat 61)), none, .mv (.t (K.ofNat 9))⟩, ⟨(some (K.ofNat 62)), none, .isnil true (.t (K.ofNat 61))⟩]
noncomputable def f45_r11 : List EOper := [⟨(some (K.ofNat 63)), none, .mv (.t (K.ofNat 9))⟩, ⟨(some (K.ofNat 6)), none, .as (.t (K.ofNat 63))⟩]
noncomputable def f45_r12 : List EOper := [⟨(some (K.ofNat 49)), none, .mv (.t (K.ofNat 7))⟩, ⟨(some (K.ofNat 50)), none, .bin .add (.t (K.ofNat 49)) (.c (.i .i64 (.ofNat 1)))⟩, ⟨(some (K.ofNat 7)), none, .as (.t (K.ofNat 50))⟩]
noncomputable def f45_l0 : EC := (.seq (.seq (.reg f45_r6) (.cond (.t (K.ofNat 48)) .skip (.exit 0))) (.seq (.block 1 (.seq (.reg f45_r7) (.seq (.reg f45_r8) (.seq (.reg f45_r9) (.seq (.reg f45_r10) (.cond (.t (K.ofNat 62)) (.seq (.reg f45_r11) .ret) .skip)))))) (.reg f45_r12)))
noncomputable def f45_r13 : List EOper := [⟨(some (K.ofNat 6)), none, .as (.c .sn)⟩]
noncomputable def f45_c : EC := (.seq (.reg f45_r0) (.seq (.seq (.reg f45_r1) (.cond (.t (K.ofNat 33)) (.seq (.reg f45_r2) .ret) .skip)) (.seq (.seq (.reg f45_r3) (.cond (.t (K.ofNat 37)) (.seq (.reg f45_r4) .ret) .skip)) (.seq (.seq (.reg f45_r5) (.block 0 (.loop f45_l0))) (.seq (.reg f45_r13) .ret)))))
noncomputable def f45 : EF := ⟨64, [.tmp (K.ofNat 6)], f45_c, none⟩
theorem f45_rs : f45.rs = [.tmp (K.ofNat 6)] := of_eq_true (eq_self _)
def exB (l : Int) (L : List Int) : Bool := (decide (2 ≤ L.length) && !rulB L) || decide (l < L.getLastD 0)
def extR (l : Int) : Nat → List Int → Option (List Int)
  | 0, L => if exB l L = true then none else some L
  | f + 1, L => if exB l L = true then none else firstF (fun x => extR l f (L ++ [x])) (L.getLastD 0 + 1) (l - L.getLastD 0).toNat
theorem extR_succ {l : Int} {f : Nat} {L : List Int} : extR l (f + 1) L = if exB l L = true then none else firstF (fun x => extR l f (L ++ [x])) (L.getLastD 0 + 1) (l - L.getLastD 0).toNat := rfl
structure CallsRx (fs : T EF) : Prop where
  c44 : fs.get (K.ofNat 44) = some f44
  c45 : fs.get (K.ofNat 45) = some f45
section
variable {fs : T EF} {ro : Option K} {h : H} {v : V} {L : List Int}
theorem OSr.isnil {w : V} {o : Option (List Int)} (hw : OSr h w o) (h1 : H) : isnilV true w h1 = .ok (.b o.isSome) h1 := by
  cases o with
  | none => have : w = .sn := hw
            subst this; rfl
  | some R =>
    obtain ⟨id, off, k, cs, rfl, _⟩ := hw.1.sl_of hw.2
    rfl
def f45_I (h : H) (v : V) (L : List Int) (m l : Int) (g : Int → Option (List Int)) (j : Nat) (fr : Fr) (h1 : H) : Prop := (L.getLastD 0 + 1 + (j : Int)) ≤ l + 1 ∧ Grow h.nx.nat h h1 ∧ firstF g (L.getLastD 0 + 1) (l - L.getLastD 0).toNat = firstF g (L.getLastD 0 + 1 + j) ((l - L.getLastD 0).toNat - j) ∧ fr.get (K.ofNat 0) = some (v) ∧ fr.get (K.ofNat 1) = some (.i .i64 m) ∧ fr.get (K.ofNat 2) = some (.i .i64 l) ∧ fr.get (K.ofNat 7) = some (.i .i64 (L.getLastD 0 + 1 + (j : Int)))
noncomputable def f45_t : EC := .seq (.seq (.reg f45_r3) (.cond (.t (K.ofNat 37)) (.seq (.reg f45_r4) .ret) .skip)) (.seq (.seq (.reg f45_r5) (.block 0 (.loop f45_l0))) (.seq (.reg f45_r13) .ret))
theorem f45_step (k : CallsRx fs) {m : Nat} {l : Int} (hm7 : m ≤ 7) (hl0 : 0 ≤ l) (hl : l ≤ 25) (f : Nat)
    (ih : ∀ f', f = f' + 1 → ∀ {h : H} {v : V} {L : List Int}, HC h → Sr iE h v L → L ≠ [] → 0 ≤ L.getLastD 0 → L.getLastD 0 ≤ l → L.length + f' = m → Ret fs f45 [v, .i .i64 (m : Int), .i .i64 l] h fun r h' => OSr h' r (extR l f' L) ∧ Grow h.nx.nat h h')
    {h : H} {v : V} {L : List Int} (hc : HC h) (hv : Sr iE h v L) (hne : L ≠ []) (h0 : 0 ≤ L.getLastD 0) (hle : L.getLastD 0 ≤ l) (hf : L.length + f = m) : Ret fs f45 [v, .i .i64 (m : Int), .i .i64 l] h fun r h' => OSr h' r (extR l f L) ∧ Grow h.nx.nat h h' := by
  apply ret_of rfl
  show W fs none f45_c _ _ _
  unfold f45_c
  have hl1 := hv.len
  have hpos := List.length_pos_iff.2 hne
  have ei : ((L.length - 1 : Nat) : Int) = (L.length : Int) - 1 := by omega
  have d1 : decide ((L.length : Int) > (m : Int)) = false := by simp; omega
  have d4 : decide (L.getLastD 0 > l) = false := decide_eq_false (by omega)
  have d5 : decide (l < L.getLastD 0) = false := decide_eq_false (by omega)
  have tail : ∀ fr h1, Grow h.nx.nat h h1 → exB l L = false → fr.get (K.ofNat 0) = some (v) ∧ fr.get (K.ofNat 1) = some (.i .i64 (m : Int)) ∧ fr.get (K.ofNat 2) = some (.i .i64 l) → W fs none f45_t (retK f45 fun r h' => OSr h' r (extR l f L) ∧ Grow h.nx.nat h h') fr h1 := by
    rintro fr h1 hG hex ⟨g0, g1, g2⟩
    have hv1 := hv.grow hc hG
    unfold f45_t
    cases f with
    | zero =>
      have d6 : decide ((L.length : Int) = (m : Int)) = true := by simp; omega
      simp (disch := omega) only [f45_r3, f45_r4, f45_rs, w_reg, w_seq, w_cond, w_ret, seqK_n, seqK_r, ckB_b, cbB_b, true_and, retK_r, x_nil, x_mv, x_as, x_bin, x_len, kx, rvP_ok, okv_some, ev_t, getV_some, putD_some, bin_eql, oGet_s, readRs_nil, readRs_t, retV_1, Option.some.injEq, exists_eq_left', getK_set, Nat.reduceEqDiff, ↓reduceIte, g0, g1, hl1, d6]
      have e : extR l 0 L = some L := by unfold extR; rw [hex]; rfl
      rw [e]
      exact ⟨⟨hv1, hne⟩, hG⟩
    | succ f =>
      have ih := @ih f rfl
      have d6 : decide ((L.length : Int) = (m : Int)) = false := by simp; omega
      obtain ⟨p, hp1, hp2⟩ := hv1.at (L.length - 1) (by omega)
      rw [getLast_at hne] at hp2
      rw [ei] at hp1
      have e : extR l (f + 1) L = firstF (fun x => extR l f (L ++ [x])) (L.getLastD 0 + 1) (l - L.getLastD 0).toNat := by rw [extR_succ, hex]; rfl
      simp (disch := omega) only [f45_r3, f45_r5, w_skip, w_reg, w_seq, w_cond, w_block, seqK_n, ckB_b, cbB_b, true_and, x_nil, x_mv, x_as, x_ld, x_bin, x_iads, x_len, kx, rvP_ok, okv_some, ev_t, ev_c, getV_some, putD_some, bin_add, bin_sub, bin_eql, of1, getK_set, Nat.reduceEqDiff, ↓reduceIte, Bool.false_eq_true, g0, g1, hl1, d6, hp1, hp2, iE, fw64]
      refine W_loop (f45_I h v L (m : Int) l (fun x => extR l f (L ++ [x]))) (fun j => (l - L.getLastD 0).toNat - j) ?_ 0 ⟨by omega, hG, by simp, by simp (disch := omega) only [getK_set, Nat.reduceEqDiff, ↓reduceIte, g0, g1, g2, Int.natCast_zero, Int.add_zero, and_self]⟩
      clear hp1 hp2 g0 g1 g2 hG hv1
      rintro j fr h1 ⟨hj, hG, he, g0, g1, g2, g7⟩
      unfold f45_l0
      have hv1 := hv.grow hc hG
      have hc1 := hG.hc hc
      by_cases hlt : L.getLastD 0 + 1 + (j : Int) ≤ l
      · have d7 : decide (L.getLastD 0 + 1 + (j : Int) ≤ l) = true := by simpa using hlt
        obtain ⟨w1, h2, ha1, hs1, ho1, hg1, _⟩ := Sl.appR (e := iE) (b := h1.nx.nat) (h := h1) (v := .sn) (L := []) Sl.nil Own.sn (Nat.le_refl _) hv1 hc1 (by simp; omega)
        rw [List.nil_append] at hs1
        have hc2 := hg1.hc hc1
        obtain ⟨w2, h3, ha2, hs2, ho2, hg2, _⟩ := Sl.push (e := iE) (x := L.getLastD 0 + 1 + (j : Int)) (c := .i .i64 (L.getLastD 0 + 1 + (j : Int))) rfl hs1 ho1 hg1.nx hc2 (by omega)
        have hc3 := hg2.hc hc2
        simp (disch := omega) only [f45_r6, f45_r7, f45_r8, f45_r9, w_skip, w_reg, w_seq, w_cond, w_block, seqK_n, ckB_b, cbB_b, true_and, x_nil, x_mv, x_as, x_bslice, x_bin, x_call, x_app, kx, rvP_ok, okv_some, ev_t, ev_c, evs_nil, evs_cons, getV_some, putD_some, bin_leq, oGet_s, cells1_i, fill_1, set_1, of0, getK_set, Nat.reduceEqDiff, ↓reduceIte, g0, g1, g2, g7, d7, ha1, fill_1, set_1, ha2]
        have hlast : (L ++ [L.getLastD 0 + 1 + (j : Int)]).getLastD 0 = L.getLastD 0 + 1 + (j : Int) := by simp [List.getLastD_eq_getLast?]
        refine (callP_0 (ef := f45) k.c45 rfl (ih hc3 hs2.sr (by simp) (by rw [hlast]; omega) (by rw [hlast]; omega) (by simp; omega))).mono ?_
        rintro r h4 ⟨hr, hg4⟩
        have hG4 := hG.trans ((hg1.low hG.nx).trans ((hg2.low hG.nx).trans (hg4.low (by have := hg1.nx; have := hg2.nx; have := hG.nx; omega))))
        have hnil := hr.isnil h4
        have en : (l - L.getLastD 0).toNat - j = ((l - L.getLastD 0).toNat - (j + 1)) + 1 := by omega
        rw [en, firstF_succ] at he
        cases hgx : extR l f (L ++ [L.getLastD 0 + 1 + (j : Int)]) with
        | some R =>
          rw [hgx] at he hr hnil
          simp (disch := omega) only [f45_r10, f45_r11, f45_rs, w_reg, w_seq, w_cond, w_ret, seqK_n, seqK_r, atK_r, loopK_r, ckB_b, cbB_b, true_and, retK_r, x_nil, x_mv, x_as, x_isnil, kx, rvP_ok, ev_t, getV_some, putD_some, oGet_s, readRs_nil, readRs_t, retV_1, Option.some.injEq, exists_eq_left', getK_set, Nat.reduceEqDiff, ↓reduceIte, hnil, Option.isSome_some]
          rw [e, he]
          exact ⟨hr, hG4⟩
        | none =>
          rw [hgx] at he hr hnil
          simp (disch := omega) only [f45_r10, f45_r12, w_skip, w_reg, w_seq, w_cond, seqK_n, atK_n, loopK_n, ckB_b, cbB_b, true_and, x_nil, x_mv, x_as, x_bin, x_isnil, kx, rvP_ok, okv_some, ev_t, ev_c, getV_some, putD_some, bin_add, of1, getK_set, Nat.reduceEqDiff, ↓reduceIte, Bool.false_eq_true, g7, hnil, Option.isSome_none, fw64]
          refine ⟨j + 1, by omega, by omega, hG4, ?_, by simp (disch := omega) only [getK_set, Nat.reduceEqDiff, ↓reduceIte, g0, g1, g2, and_self, Int.natCast_add, Int.natCast_one, Int.add_assoc]⟩
          rw [he, show L.getLastD 0 + 1 + ((j + 1 : Nat) : Int) = L.getLastD 0 + 1 + j + 1 by omega]
      · have d7 : decide (L.getLastD 0 + 1 + (j : Int) ≤ l) = false := by simpa using hlt
        simp (disch := omega) only [f45_r6, f45_r13, f45_rs, w_reg, w_seq, w_cond, w_exit, w_ret, seqK_n, seqK_e, atK_e, loopK_e, ckB_b, cbB_b, true_and, retK_r, x_nil, x_mv, x_as, x_bin, kx, rvP_ok, okv_some, ev_t, ev_c, getV_some, putD_some, bin_leq, oGet_s, readRs_nil, readRs_t, retV_1, Option.some.injEq, exists_eq_left', getK_set, Nat.reduceEqDiff, ↓reduceIte, Bool.false_eq_true, g2, g7, d7]
        have en : (l - L.getLastD 0).toNat - j = 0 := by omega
        rw [e, he, en]
        exact ⟨rfl, hG⟩
  obtain ⟨p, hp1, hp2⟩ := hv.at (L.length - 1) (by omega)
  rw [getLast_at hne] at hp2
  rw [ei] at hp1
  cases d2 : decide ((L.length : Int) ≥ 2) with
  | false =>
    have hex : exB l L = false := by
      have : decide (2 ≤ L.length) = false := by have := of_decide_eq_false d2; simp; omega
      unfold exB; rw [this, d5]; rfl
    simp (disch := omega) only [f45_r0, f45_r1, w_skip, w_reg, w_seq, w_cond, seqK_n, ckB_b, cbB_b, okG_b, asG_t, asG_f, true_and, x_nil, x_g, x_mv, x_as, x_pick, x_ld, x_bin, x_iads, x_len, kx, rvP_ok, okv_some, ev_t, ev_c, getV_some, putD_some, bin_sub, bin_gtr, bin_geq, pick_b, frame_3, of1, of2, getK_set, Nat.reduceEqDiff, ↓reduceIte, Bool.false_eq_true, Bool.not_false, hl1, d1, d2, hp1, hp2, iE, d4, fw64]
    show W fs none f45_t _ _ _
    exact tail _ _ (Grow.refl _ _) hex (by simp (disch := omega) only [getK_set, Nat.reduceEqDiff, ↓reduceIte, and_self])
  | true =>
    have h2 : decide (2 ≤ L.length) = true := by have := of_decide_eq_true d2; simp; omega
    simp (disch := omega) only [f45_r0, f45_r1, w_reg, w_seq, seqK_n, okG_b, asG_t, asG_f, true_and, x_nil, x_g, x_mv, x_as, x_bin, x_call, x_len, kx, rvP_ok, okv_some, ev_t, ev_c, evs_nil, evs_cons, getV_some, putD_some, bin_gtr, bin_geq, frame_3, of1, of2, getK_set, Nat.reduceEqDiff, ↓reduceIte, Bool.not_false, hl1, d1, d2]
    refine (callP_0 (ef := f44) k.c44 rfl (f44_ret hv hc (by omega))).mono ?_
    rintro r h1 ⟨rfl, hG⟩
    have hv1 := hv.grow hc hG
    obtain ⟨p, hp1, hp2⟩ := hv1.at (L.length - 1) (by omega)
    rw [getLast_at hne] at hp2
    rw [ei] at hp1
    cases hr : rulB L with
    | true =>
      have hex : exB l L = false := by unfold exB; rw [hr, d5]; simp
      simp (disch := omega) only [w_skip, w_reg, w_seq, w_cond, seqK_n, ckB_b, cbB_b, okG_b, asG_t, asG_f, true_and, x_nil, x_g, x_mv, x_pick, x_ld, x_bin, x_not, x_iads, x_len, kx, rvP_ok, okv_some, ev_t, ev_c, getV_some, putD_some, bin_sub, bin_gtr, pick_b, onB_b, getK_set, Nat.reduceEqDiff, ↓reduceIte, Bool.false_eq_true, Bool.not_true, Bool.not_false, hl1, hp1, hp2, iE, d4, fw64, Bool.not_true]
      show W fs none f45_t _ _ _
      exact tail _ _ hG hex (by simp (disch := omega) only [getK_set, Nat.reduceEqDiff, ↓reduceIte, and_self])
    | false =>
      have hex : exB l L = true := by unfold exB; rw [hr, h2]; rfl
      simp (disch := omega) only [f45_r2, f45_rs, w_reg, w_seq, w_cond, w_ret, seqK_n, seqK_r, ckB_b, cbB_b, okG_b, asG_t, asG_f, true_and, retK_r, x_nil, x_g, x_mv, x_as, x_pick, x_not, kx, rvP_ok, ev_t, ev_c, getV_some, putD_some, pick_b, onB_b, oGet_s, readRs_nil, readRs_t, retV_1, Option.some.injEq, exists_eq_left', getK_set, Nat.reduceEqDiff, ↓reduceIte, Bool.false_eq_true, Bool.not_true, Bool.not_false, Bool.not_false]
      have e : extR l f L = none := by cases f <;> (unfold extR; rw [hex]; rfl)
      rw [e]
      exact ⟨rfl, hG⟩
theorem f45_ret (k : CallsRx fs) {m : Nat} {l : Int} (hm7 : m ≤ 7) (hl0 : 0 ≤ l) (hl : l ≤ 25) : ∀ (f : Nat) {h : H} {v : V} {L : List Int}, HC h → Sr iE h v L → L ≠ [] → 0 ≤ L.getLastD 0 → L.getLastD 0 ≤ l → L.length + f = m → Ret fs f45 [v, .i .i64 (m : Int), .i .i64 l] h fun r h' => OSr h' r (extR l f L) ∧ Grow h.nx.nat h h' := by
  intro f
  induction f with
  | zero => exact fun hc hv hne h0 hle hf => f45_step k hm7 hl0 hl 0 (fun f' e => by omega) hc hv hne h0 hle hf
  | succ f ih =>
    intro h v L hc hv hne h0 hle hf
    refine f45_step k hm7 hl0 hl (f + 1) (fun f' e => ?_) hc hv hne h0 hle hf
    have : f' = f := by omega
    rw [this]
    exact @ih
end
end Go.Ev
namespace Go.Ev
open Go Go.RowKit
/-! ### What is grown is what the reference grows -/
theorem firstF_congr {α : Type} {g g' : Int → Option α} : ∀ {n : Nat} {a : Int}, (∀ x, a ≤ x → x < a + n → g x = g' x) → firstF g a n = firstF g' a n
  | 0, _, _ => rfl
  | n + 1, a, hh => by
    rw [firstF_succ, firstF_succ, hh a (by omega) (by omega), firstF_congr fun x h1 h2 => hh x (by omega) (by omega)]
theorem firstF_some {α : Type} {g : Int → Option α} {r : α} : ∀ {n : Nat} {a : Int}, firstF g a n = some r → ∃ x, a ≤ x ∧ x < a + n ∧ g x = some r
  | 0, _, hh => by cases hh
  | n + 1, a, hh => by
    rw [firstF_succ] at hh
    cases hg : g a with
    | some r' => rw [hg] at hh; exact ⟨a, by omega, by omega, by rw [hg]; exact hh⟩
    | none =>
      rw [hg] at hh
      obtain ⟨x, h1, h2, h3⟩ := firstF_some (a := a + 1) hh
      exact ⟨x, by omega, by omega, h3⟩
theorem measA_cons {P R : List Int} {x : Int} {A : List Bool} : measA P (x :: R) A = if x ≤ P.getLastD 0 ∨ 25 < x then none else (takeAll x P A).bind fun B => measA (P ++ [x]) R B := rfl
theorem measA_snoc {x : Int} : ∀ {R P : List Int} {A : List Bool}, measA P (R ++ [x]) A = (measA P R A).bind fun B => if x ≤ (P ++ R).getLastD 0 ∨ 25 < x then none else takeAll x (P ++ R) B
  | [], P, A => by
    rw [List.nil_append, measA_cons, List.append_nil]
    show _ = (if x ≤ P.getLastD 0 ∨ 25 < x then none else takeAll x P A)
    split
    · rfl
    · cases takeAll x P A <;> rfl
  | y :: R, P, A => by
    rw [List.cons_append, measA_cons, measA_cons]
    split
    · rfl
    · cases hh : takeAll y P A with
      | none => rfl
      | some B =>
        show measA (P ++ [y]) (R ++ [x]) B = (measA (P ++ [y]) R B).bind _
        rw [measA_snoc, List.append_assoc]; rfl
structure Good (L : List Int) (A : List Bool) : Prop where
  tl : ∃ T, L = 0 :: T ∧ measA [0] T fls = some A
theorem last_snoc {L : List Int} {x : Int} : (L ++ [x]).getLastD 0 = x := by simp [List.getLastD_eq_getLast?]
theorem Good.rul {L : List Int} {A : List Bool} (h : Good L A) (h2 : 2 ≤ L.length) (h7 : L.length ≤ 7) : rulB L = true := by
  obtain ⟨T, rfl, hm⟩ := h.tl
  unfold rulB
  rw [decide_eq_true h2, decide_eq_true h7]
  show (measA [0] T fls).isSome = true
  rw [hm]; rfl
theorem Good.no {L : List Int} {A : List Bool} (h : Good L A) {x : Int} (hx : takeAll x L A = none) : rulB (L ++ [x]) = false := by
  obtain ⟨T, rfl, hm⟩ := h.tl
  have : measA [(0 :: (T ++ [x])).headD 0] (0 :: (T ++ [x])).tail fls = none := by
    show measA [0] (T ++ [x]) fls = none
    rw [measA_snoc, hm]
    show (if x ≤ ([0] ++ T).getLastD 0 ∨ 25 < x then none else takeAll x (0 :: T) A) = none
    rw [hx]; split <;> rfl
  unfold rulB
  rw [List.cons_append, this]
  simp only [Option.isSome_none, Bool.and_false]
theorem Good.snoc {L : List Int} {A B : List Bool} (h : Good L A) {x : Int} (h1 : L.getLastD 0 < x) (h2 : x ≤ 25) (hx : takeAll x L A = some B) : Good (L ++ [x]) B := by
  obtain ⟨T, rfl, hm⟩ := h.tl
  refine ⟨T ++ [x], rfl, ?_⟩
  rw [measA_snoc, hm]
  show (if x ≤ (0 :: T).getLastD 0 ∨ 25 < x then none else takeAll x (0 :: T) A) = some B
  rw [if_neg (by omega), hx]
theorem ext_eq {l : Int} (hl : l ≤ 25) : ∀ (f : Nat) {L : List Int} {A : List Bool}, Good L A → L.length + f ≤ 7 → L.getLastD 0 ≤ l → extP l f L A = extR l f L := by
  intro f
  induction f with
  | zero =>
    intro L A hg hL hle
    have e : exB l L = false := by
      unfold exB
      rw [decide_eq_false (by omega : ¬ l < L.getLastD 0)]
      by_cases h2 : 2 ≤ L.length
      · rw [hg.rul h2 (by omega)]; simp
      · rw [decide_eq_false h2]; rfl
    unfold extP extR
    rw [e]; rfl
  | succ f ih =>
    intro L A hg hL hle
    have e : exB l L = false := by
      unfold exB
      rw [decide_eq_false (by omega : ¬ l < L.getLastD 0)]
      by_cases h2 : 2 ≤ L.length
      · rw [hg.rul h2 (by omega)]; simp
      · rw [decide_eq_false h2]; rfl
    rw [extP_succ, extR_succ, e]
    show _ = firstF (fun x => extR l f (L ++ [x])) (L.getLastD 0 + 1) (l - L.getLastD 0).toNat
    refine firstF_congr fun x h1 h2 => ?_
    have hx : x ≤ l := by omega
    have hpos : 1 ≤ L.length := by obtain ⟨T, rfl, _⟩ := hg.tl; simp
    show (takeAll x L A).bind (fun B => extP l f (L ++ [x]) B) = extR l f (L ++ [x])
    cases ht : takeAll x L A with
    | none =>
      have e2 : exB l (L ++ [x]) = true := by
        unfold exB
        rw [hg.no ht, decide_eq_true (by simp; omega)]; rfl
      show none = _
      cases f <;> (unfold extR; rw [e2]; rfl)
    | some B => exact ih (hg.snoc (by omega) (by omega) ht) (by simp; omega) (by rw [last_snoc]; omega)
theorem ext_good {l : Int} (hl : l ≤ 25) : ∀ (f : Nat) {L R : List Int} {A : List Bool}, Good L A → extP l f L A = some R → R.length = L.length + f ∧ ∃ B, Good R B := by
  intro f
  induction f with
  | zero => intro L R A hg h; cases h; exact ⟨rfl, A, hg⟩
  | succ f ih =>
    intro L R A hg h
    rw [extP_succ] at h
    obtain ⟨x, h1, h2, h3⟩ := firstF_some h
    cases ht : takeAll x L A with
    | none => rw [ht] at h3; cases h3
    | some B =>
      rw [ht] at h3
      obtain ⟨e1, e2⟩ := ih (hg.snoc (by omega) (by omega) ht) h3
      exact ⟨by rw [e1]; simp; omega, e2⟩
end Go.Ev
namespace Go.Ev
open Go Go.RowKit
noncomputable def f30_r0 : List EOper := [⟨(some (K.ofNat 4)), none, .as (.c (.b false))⟩]
noncomputable def f30_r1 : List EOper := [⟨(some (K.ofNat 6)), none, .mv (.t (K.ofNat 0))⟩, ⟨(some (K.ofNat 7)), none, .len (.t (K.ofNat 6))⟩, ⟨(some (K.ofNat 8)), none, .mv (.t (K.ofNat 1))⟩, ⟨(some (K.ofNat 9)), none, .len (.t (K.ofNat 8))⟩, ⟨(some (K.ofNat 10)), none, .bin .neq (.t (K.ofNat 7)) (.t (K.ofNat 9))⟩]
noncomputable def f30_r2 : List EOper := [⟨(some (K.ofNat 4)), none, .as (.c (.b false))⟩]
noncomputable def f30_r3 : List EOper := [⟨(some (K.ofNat 5)), none, .as (.c (.i .i64 (.ofNat 0)))⟩]
noncomputable def f30_r4 : List EOper := [⟨(some (K.ofNat 11)), none, .mv (.t (K.ofNat 5))⟩, ⟨(some (K.ofNat 12)), none, .mv (.t (K.ofNat 0))⟩, ⟨(some (K.ofNat 13)), none, .len (.t (K.ofNat 12))⟩, ⟨(some (K.ofNat 14)), none, .bin .lss (.t (K.ofNat 11)) (.t (K.ofNat 13))⟩]
noncomputable def f30_r5 : List Stage := [⟨[⟨(some (K.ofNat 17)), none, .mv (.t (K.ofNat 0))⟩, ⟨(some (K.ofNat 18)), none, .mv (.t (K.ofNat 5))⟩, ⟨(some (K.ofNat 19)), none, .iads 1 (.t (K.ofNat 17)) (.t (K.ofNat 18))⟩, ⟨(some (K.ofNat 20)), none, .ld (.t (K.ofNat 19))⟩, ⟨(some (K.ofNat 21)), none, .mv (.t (K.ofNat 1))⟩, ⟨(some (K.ofNat 22)), none, .mv (.t (K.ofNat 5))⟩, ⟨(some (K.ofNat 23)), none, .iads 1 (.t (K.ofNat 21)) (.t (K.ofNat 22))⟩, ⟨(some (K.ofNat 24)), none, .ld (.t (K.ofNat 23))⟩, ⟨(some (K.ofNat 25)), none, .bin .neq (.t (K.ofNat 20)) (.t (K.ofNat 24))⟩], [], none, []⟩]
noncomputable def f30_r6 : List EOper := [⟨(some (K.ofNat 4)), none, .as (.c (.b false))⟩]
noncomputable def f30_r7 : List EOper := [⟨(some (K.ofNat 15)), none, .mv (.t (K.ofNat 5))⟩, ⟨(some (K.ofNat 16)), none, .bin .add (.t (K.ofNat 15)) (.c (.i .i64 (.ofNat 1)))⟩, ⟨(some (K.ofNat 5)), none, .as (.t (K.ofNat 16))⟩]
noncomputable def f30_l0 : EC := (.seq (.seq (.reg f30_r4) (.cond (.t (K.ofNat 14)) .skip (.exit 0))) (.seq (.block 1 (.seq (.draw f30_r5) (.cond (.t (K.ofNat 25)) (.seq (.reg f30_r6) .ret) .skip))) (.reg f30_r7)))
noncomputable def f30_r8 : List EOper := [⟨(some (K.ofNat 4)), none, .as (.c (.b true))⟩]
noncomputable def f30_c : EC := (.seq (.reg f30_r0) (.seq (.seq (.reg f30_r1) (.cond (.t (K.ofNat 10)) (.seq (.reg f30_r2) .ret) .skip)) (.seq (.seq (.reg f30_r3) (.block 0 (.loop f30_l0))) (.seq (.reg f30_r8) .ret))))
noncomputable def f30 : EF := ⟨26, [.tmp (K.ofNat 4)], f30_c, none⟩
theorem f30_rs : f30.rs = [.tmp (K.ofNat 4)] := of_eq_true (eq_self _)
section
variable {fs : T EF} {ro : Option K} {h : H} {v u : V} {L : List Int}
def f30_I (h : H) (v u : V) (L : List Int) (i : Nat) (fr : Fr) (h1 : H) : Prop := h1 = h ∧ i ≤ L.length ∧ fr.get (K.ofNat 0) = some (v) ∧ fr.get (K.ofNat 1) = some (u) ∧ fr.get (K.ofNat 5) = some (.i .i64 (i : Int))
theorem f30_same (hv : Sr iE h v L) (hu : Sr iE h u L) (hL : L.length ≤ 1000000) : Ret fs f30 [v, u] h fun r h' => r = .b true ∧ h' = h := by
  apply ret_of rfl
  show W fs none f30_c _ _ _
  unfold f30_c
  have hl1 := hv.len
  have hl2 := hu.len
  have d0 : decide ((L.length : Int) ≠ (L.length : Int)) = false := by simp
  simp (disch := omega) only [f30_r0, f30_r1, f30_r3, w_skip, w_reg, w_seq, w_cond, w_block, seqK_n, ckB_b, cbB_b, true_and, x_nil, x_mv, x_as, x_bin, x_len, kx, rvP_ok, okv_some, ev_t, ev_c, getV_some, putD_some, bin_neq, frame_2, of0, getK_set, Nat.reduceEqDiff, ↓reduceIte, Bool.false_eq_true, hl1, hl2, d0]
  refine W_loop (f30_I h v u L) (fun i => L.length - i) ?_ 0 ⟨rfl, by omega, by simp (disch := omega) only [getK_set, Nat.reduceEqDiff, ↓reduceIte, and_self, Int.natCast_zero]⟩
  rintro i fr h1 ⟨rfl, hi, g0, g1, g5⟩
  unfold f30_l0
  by_cases hlt : i < L.length
  · have d1 : decide ((i : Int) < (L.length : Int)) = true := by simpa using hlt
    obtain ⟨p, hp1, hp2, hp3⟩ := hv.atb i hlt
    obtain ⟨q, hq1, hq2, hq3⟩ := hu.atb i hlt
    have d2 : decide (L[i] ≠ L[i]) = false := by simp
    have hvb := hv.beq
    have hub := hu.beq
    simp (disch := omega) only [f30_r4, f30_r5, f30_r7, w_skip, w_reg, w_draw, w_seq, w_cond, w_block, seqK_n, atK_n, loopK_n, ckB_b, cbB_b, true_and, x_nil, x_mv, x_as, x_bin, x_len, kx, kg, xg_nil, xg_mv, xg_ld, xg_bin, xg_iads, xd_cons, fresh_nil, stK_n, stay_nil, rvP_ok, okv_some, ev_t, ev_c, getV_some, putD_some, bin_add, bin_neq, bin_lss, of1, getK_set, Nat.reduceEqDiff, ↓reduceIte, Bool.false_eq_true, g0, g1, g5, hl1, d1, hp1, hp2, hq1, hq2, iE, d2, fw64]
    exact ⟨i + 1, by omega, rfl, by omega, by simp (disch := omega) only [getK_set, Nat.reduceEqDiff, ↓reduceIte, g0, g1, and_self, Int.natCast_add, Int.natCast_one]⟩
  · have d1 : decide ((i : Int) < (L.length : Int)) = false := by simpa using hlt
    simp (disch := omega) only [f30_r4, f30_r8, f30_rs, w_reg, w_seq, w_cond, w_exit, w_ret, seqK_n, seqK_e, atK_e, loopK_e, ckB_b, cbB_b, retK_r, x_nil, x_mv, x_as, x_bin, x_len, kx, rvP_ok, okv_some, ev_t, ev_c, getV_some, putD_some, bin_lss, oGet_s, readRs_nil, readRs_t, retV_1, Option.some.injEq, exists_eq_left', getK_set, Nat.reduceEqDiff, ↓reduceIte, Bool.false_eq_true, g0, g5, hl1, d1, and_self]
theorem OSr.sr {w : V} {o : Option (List Int)} (hw : OSr h w o) : Sr iE h w (o.getD []) := by
  cases o with
  | none => have : w = .sn := hw
            subst this; exact Sr.nil
  | some R => exact hw.1
end
end Go.Ev
namespace Go.Ev
open Go Go.RowKit
noncomputable def f75_r0 : List EOper := [⟨(some (K.ofNat 2)), none, .alloc 26 (List.replicate 26 (.b false))⟩, ⟨(some (K.ofNat 3)), none, .as (.c (.b false))⟩]
noncomputable def f75_r1 : List EOper := [⟨(some (K.ofNat 4)), none, .alloc 26 (List.replicate 26 (.b false))⟩]
noncomputable def f75_r2 : List EOper := [⟨(some (K.ofNat 9)), none, .mv (.t (K.ofNat 0))⟩, ⟨(some (K.ofNat 10)), none, .len (.t (K.ofNat 9))⟩, ⟨(some (K.ofNat 11)), none, .bin .lss (.t (K.ofNat 10)) (.c (.i .i64 (.ofNat 2)))⟩, ⟨(some (K.ofNat 12)), none, .mv (.t (K.ofNat 11))⟩, ⟨(some (K.ofNat 13)), (some ((K.ofNat 12), false)), .mv (.t (K.ofNat 0))⟩, ⟨(some (K.ofNat 14)), (some ((K.ofNat 12), false)), .len (.t (K.ofNat 13))⟩, ⟨(some (K.ofNat 15)), (some ((K.ofNat 12), false)), .bin .gtr (.t (K.ofNat 14)) (.c (.i .i64 (.ofNat 7)))⟩, ⟨(some (K.ofNat 16)), none, .pick (.t (K.ofNat 12)) (.c (.b true)) (.t (K.ofNat 15))⟩, ⟨(some (K.ofNat 17)), none, .mv (.t (K.ofNat 16))⟩, ⟨(some (K.ofNat 18)), (some ((K.ofNat 17), false)), .mv (.t (K.ofNat 0))⟩, ⟨(some (K.ofNat 19)), (some ((K.ofNat 17), false)), .iads 1 (.t (K.ofNat 18)) (.c (.i .i64 (.ofNat 0)))⟩, ⟨(some (K.ofNat 20)), (some ((K.ofNat 17), false)), .ld (.t (K.ofNat 19))⟩, ⟨(some (K.ofNat 21)), (some ((K.ofNat 17), false)), .bin .neq (.t (K.ofNat 20)) (.c (.i .i64 (.ofNat 0)))⟩, ⟨(some (K.ofNat 22)), none, .pick (.t (K.ofNat 17)) (.c (.b true)) (.t (K.ofNat 21))⟩]
noncomputable def f75_r3 : List EOper := [⟨(some (K.ofNat 23)), none, .build (List.replicate 26 (.b false)) []⟩, ⟨none, none, .st 26 (.t (K.ofNat 2)) (.t (K.ofNat 23))⟩, ⟨(some (K.ofNat 3)), none, .as (.c (.b false))⟩]
noncomputable def f75_r4 : List EOper := [⟨(some (K.ofNat 24)), none, .mv (.t (K.ofNat 0))⟩, ⟨(some (K.ofNat 25)), none, .len (.t (K.ofNat 24))⟩, ⟨(some (K.ofNat 26)), none, .mv (.c (.i .i64 (.ofNat 0)))⟩]
noncomputable def f75_r5 : List EOper := [⟨(some (K.ofNat 27)), none, .bin .lss (.t (K.ofNat 26)) (.t (K.ofNat 25))⟩]
noncomputable def f75_r6 : List EOper := [⟨(some (K.ofNat 28)), none, .mv (.t (K.ofNat 26))⟩, ⟨(some (K.ofNat 29)), none, .iads 1 (.t (K.ofNat 24)) (.t (K.ofNat 26))⟩, ⟨(some (K.ofNat 30)), none, .ld (.t (K.ofNat 29))⟩, ⟨(some (K.ofNat 5)), none, .as (.t (K.ofNat 28))⟩, ⟨(some (K.ofNat 6)), none, .as (.t (K.ofNat 30))⟩]
noncomputable def f75_r7 : List EOper := [⟨(some (K.ofNat 31)), none, .mv (.t (K.ofNat 0))⟩, ⟨(some (K.ofNat 32)), none, .mv (.t (K.ofNat 5))⟩, ⟨(some (K.ofNat 33)), none, .slice 1 (.t (K.ofNat 31)) none (some (.t (K.ofNat 32))) none⟩, ⟨(some (K.ofNat 34)), none, .len (.t (K.ofNat 33))⟩, ⟨(some (K.ofNat 35)), none, .mv (.c (.i .i64 (.ofNat 0)))⟩]
noncomputable def f75_r8 : List EOper := [⟨(some (K.ofNat 36)), none, .bin .lss (.t (K.ofNat 35)) (.t (K.ofNat 34))⟩]
noncomputable def f75_r9 : List EOper := [⟨(some (K.ofNat 37)), none, .iads 1 (.t (K.ofNat 33)) (.t (K.ofNat 35))⟩, ⟨(some (K.ofNat 38)), none, .ld (.t (K.ofNat 37))⟩, ⟨(some (K.ofNat 8)), none, .as (.t (K.ofNat 38))⟩]
noncomputable def f75_r10 : List EOper := [⟨(some (K.ofNat 39)), none, .mv (.t (K.ofNat 6))⟩, ⟨(some (K.ofNat 40)), none, .mv (.t (K.ofNat 8))⟩, ⟨(some (K.ofNat 41)), none, .bin .leq (.t (K.ofNat 39)) (.t (K.ofNat 40))⟩, ⟨(some (K.ofNat 42)), none, .mv (.t (K.ofNat 41))⟩, ⟨(some (K.ofNat 43)), (some ((K.ofNat 42), false)), .mv (.t (K.ofNat 6))⟩, ⟨(some (K.ofNat 44)), (some ((K.ofNat 42), false)), .bin .gtr (.t (K.ofNat 43)) (.c (.i .i64 (.ofNat 25)))⟩, ⟨(some (K.ofNat 45)), none, .pick (.t (K.ofNat 42)) (.c (.b true)) (.t (K.ofNat 44))⟩, ⟨(some (K.ofNat 46)), none, .mv (.t (K.ofNat 45))⟩, ⟨(some (K.ofNat 47)), (some ((K.ofNat 46), false)), .mv (.t (K.ofNat 6))⟩, ⟨(some (K.ofNat 48)), (some ((K.ofNat 46), false)), .mv (.t (K.ofNat 8))⟩, ⟨(some (K.ofNat 49)), (some ((K.ofNat 46), false)), .bin .sub (.t (K.ofNat 47)) (.t (K.ofNat 48))⟩, ⟨(some (K.ofNat 50)), (some ((K.ofNat 46), false)), .call (.c (.fn (K.ofNat 100) [])) [(.t (K.ofNat 4)), (.t (K.ofNat 49))]⟩, ⟨(some (K.ofNat 51)), (some ((K.ofNat 46), false)), .not (.t (K.ofNat 50))⟩, ⟨(some (K.ofNat 52)), none, .pick (.t (K.ofNat 46)) (.c (.b true)) (.t (K.ofNat 51))⟩]
noncomputable def f75_r11 : List EOper := [⟨(some (K.ofNat 53)), none, .build (List.replicate 26 (.b false)) []⟩, ⟨none, none, .st 26 (.t (K.ofNat 2)) (.t (K.ofNat 53))⟩, ⟨(some (K.ofNat 3)), none, .as (.c (.b false))⟩]
noncomputable def f75_r12 : List EOper := [⟨(some (K.ofNat 54)), none, .bin .add (.t (K.ofNat 35)) (.c (.i .i64 (.ofNat 1)))⟩, ⟨(some (K.ofNat 35)), none, .mv (.t (K.ofNat 54))⟩]
noncomputable def f75_l0 : EC := (.seq (.reg f75_r8) (.seq (.cond (.t (K.ofNat 36)) .skip (.exit 2)) (.seq (.block 3 (.seq (.reg f75_r9) (.seq (.reg f75_r10) (.cond (.t (K.ofNat 52)) (.seq (.reg f75_r11) .ret) .skip)))) (.reg f75_r12))))
noncomputable def f75_r13 : List EOper := [⟨(some (K.ofNat 55)), none, .bin .add (.t (K.ofNat 26)) (.c (.i .i64 (.ofNat 1)))⟩, ⟨(some (K.ofNat 26)), none, .mv (.t (K.ofNat 55))⟩]
noncomputable def f75_l1 : EC := (.seq (.reg f75_r5) (.seq (.cond (.t (K.ofNat 27)) .skip (.exit 0)) (.seq (.block 1 (.seq (.reg f75_r6) (.seq (.reg f75_r7) (.block 2 (.loop f75_l0))))) (.reg f75_r13))))
noncomputable def f75_r14 : List EOper := [⟨(some (K.ofNat 56)), none, .ldn 26 (.t (K.ofNat 4))⟩, ⟨none, none, .st 26 (.t (K.ofNat 2)) (.t (K.ofNat 56))⟩, ⟨(some (K.ofNat 3)), none, .as (.c (.b true))⟩]
noncomputable def f75_c : EC := (.seq (.reg f75_r0) (.seq (.reg f75_r1) (.seq (.seq (.reg f75_r2) (.cond (.t (K.ofNat 22)) (.seq (.reg f75_r3) .ret) .skip)) (.seq (.seq (.reg f75_r4) (.block 0 (.loop f75_l1))) (.seq (.reg f75_r14) .ret)))))
noncomputable def f75 : EF := ⟨57, [.celln (K.ofNat 2) 26, .tmp (K.ofNat 3)], f75_c, none⟩
theorem f75_rs : f75.rs = [.celln (K.ofNat 2) 26, .tmp (K.ofNat 3)] := of_eq_true (eq_self _)
noncomputable def f42_r0 : List EOper := [⟨(some (K.ofNat 2)), none, .as (.c (.b false))⟩, ⟨(some (K.ofNat 3)), none, .as (.c (.i .i64 (.ofNat 0)))⟩]
noncomputable def f42_r1 : List EOper := [⟨(some (K.ofNat 7)), none, .mv (.t (K.ofNat 0))⟩, ⟨(some (K.ofNat 8)), none, .call (.c (.fn (K.ofNat 75) [])) [(.t (K.ofNat 7))]⟩, ⟨(some (K.ofNat 6)), none, .mv (.t (K.ofNat 8))⟩, ⟨(some (K.ofNat 9)), none, .ext (.t (K.ofNat 6)) 0⟩, ⟨(some (K.ofNat 10)), none, .ext (.t (K.ofNat 6)) 1⟩, ⟨(some (K.ofNat 4)), none, .alloc 26 (List.replicate 26 (.b false))⟩, ⟨none, none, .st 26 (.t (K.ofNat 4)) (.t (K.ofNat 9))⟩, ⟨(some (K.ofNat 5)), none, .as (.t (K.ofNat 10))⟩]
noncomputable def f42_r2 : List EOper := [⟨(some (K.ofNat 11)), none, .mv (.t (K.ofNat 5))⟩, ⟨(some (K.ofNat 2)), none, .as (.t (K.ofNat 11))⟩, ⟨(some (K.ofNat 3)), none, .as (.c (.i .i64 (.ofNat 0)))⟩]
noncomputable def f42_c : EC := (.seq (.reg f42_r0) (.seq (.reg f42_r1) (.seq (.reg f42_r2) .ret)))
noncomputable def f42 : EF := ⟨12, [.tmp (K.ofNat 2), .tmp (K.ofNat 3)], f42_c, none⟩
theorem f42_rs : f42.rs = [.tmp (K.ofNat 2), .tmp (K.ofNat 3)] := of_eq_true (eq_self _)
/-- The differences of a ruler. -/
def measO (L : List Int) : Option (List Bool) := if 2 ≤ L.length ∧ L.length ≤ 7 ∧ L.headD 0 = 0 then measA [L.headD 0] L.tail fls else none
theorem rulB_eq {L : List Int} : rulB L = (measO L).isSome := by
  unfold rulB measO
  by_cases h1 : 2 ≤ L.length
  · by_cases h2 : L.length ≤ 7
    · by_cases h3 : L.headD 0 = 0
      · rw [decide_eq_true h1, decide_eq_true h2, decide_eq_true h3, if_pos ⟨h1, h2, h3⟩]; rfl
      · rw [decide_eq_false h3, if_neg (fun h => h3 h.2.2)]; simp
    · rw [decide_eq_false h2, if_neg (fun h => h2 h.2.1)]; simp
  · rw [decide_eq_false h1, if_neg (fun h => h1 h.1)]; simp
theorem measA_len : ∀ {R P : List Int} {A B : List Bool}, measA P R A = some B → B.length = A.length
  | [], _, _, _, h => by cases h; rfl
  | x :: R, P, A, B, h => by
    rw [measA_cons] at h
    split at h
    · cases h
    · cases ht : takeAll x P A with
      | none => rw [ht] at h; cases h
      | some C => rw [ht] at h; exact (measA_len (show measA _ R C = some B from h)).trans (takeAll_len ht)
section
variable {fs : T EF} {ro : Option K} {h : H} {v : V} {L : List Int} {A : List Bool}
theorem rd26 {id : K} (hb : h.get id = .cells 26 (A.map V.b)) (hA : A.length = 26) : loadV h (.p id 0) (many? 26) = .ok (.agg (A.map V.b)) h := by
  rw [loadn_p hb (by omega), takeN_eq, dropN_eq, List.drop_zero, List.take_of_length_le (by simp [hA])]
theorem readP26 {id : K} (hb : h.get id = .cells 26 (A.map V.b)) (hA : A.length = 26) : readP h (.p id 0) (many? 26) = some (.agg (A.map V.b)) := by
  show (h.get id).onC none (fun m cs => many? 26 cs m 0) = _
  rw [hb]
  show (bif Nat.ble (0 + 26) 26 then some (V.agg (takeN 26 (dropN 0 (A.map V.b)))) else none) = _
  rw [takeN_eq, dropN_eq, List.drop_zero, List.take_of_length_le (by simp [hA])]; rfl
def f75_St (L : List Int) (i : Nat) (A : List Bool) : Prop := (i = 0 → A = fls) ∧ (1 ≤ i → MkOk (L.take i) ∧ measA [L.headD 0] L.tail fls = measA (L.take i) (L.drop i) A)
def f75_M (h h1 : H) (A : List Bool) : Prop := Grow h.nx.nat h h1 ∧ h1.nx.nat = h.nx.nat + 2 ∧ h1.get h.nx = .cells 26 (fls.map V.b) ∧ A.length = 26 ∧ Ar V.b h1 (h.new (.cells 26 (fls.map V.b))).nx A
def f75_J (h : H) (v v' : V) (L : List Int) (i : Nat) (A : List Bool) (j : Nat) (fr : Fr) (h1 : H) : Prop :=
  j ≤ i ∧ (∃ B, f75_M h h1 B ∧ takeAll (L.getD i 0) (L.take i) A = takeAll (L.getD i 0) ((L.take i).drop j) B ∧ (∀ q (hq : q < L.length), q < j → L[q] < L.getD i 0 ∧ L.getD i 0 ≤ 25)) ∧ fr.get (K.ofNat 0) = some (v) ∧ fr.get (K.ofNat 2) = some (.p h.nx 0) ∧ fr.get (K.ofNat 4) = some (.p (h.new (.cells 26 (fls.map V.b))).nx 0) ∧ fr.get (K.ofNat 6) = some (.i .i64 (L.getD i 0)) ∧ fr.get (K.ofNat 24) = some (v) ∧ fr.get (K.ofNat 25) = some (.i .i64 (L.length : Int)) ∧ fr.get (K.ofNat 26) = some (.i .i64 (i : Int)) ∧ fr.get (K.ofNat 33) = some (v') ∧ fr.get (K.ofNat 34) = some (.i .i64 (i : Int)) ∧ fr.get (K.ofNat 35) = some (.i .i64 (j : Int))
def f75_I (h : H) (v : V) (L : List Int) (i : Nat) (fr : Fr) (h1 : H) : Prop :=
  i ≤ L.length ∧ (∃ A, f75_M h h1 A ∧ f75_St L i A) ∧ fr.get (K.ofNat 0) = some (v) ∧ fr.get (K.ofNat 2) = some (.p h.nx 0) ∧ fr.get (K.ofNat 4) = some (.p (h.new (.cells 26 (fls.map V.b))).nx 0) ∧ fr.get (K.ofNat 24) = some (v) ∧ fr.get (K.ofNat 25) = some (.i .i64 (L.length : Int)) ∧ fr.get (K.ofNat 26) = some (.i .i64 (i : Int))
theorem f75_ret (c100 : fs.get (K.ofNat 100) = some f100) (hv : Sr iE h v L) (hc : HC h) (hL : L.length ≤ 1000000) : Ret fs f75 [v] h fun r h' => r = .tup [.agg (((measO L).getD fls).map V.b), .b (rulB L)] ∧ Grow h.nx.nat h h' := by
  apply ret_of rfl
  show W fs none f75_c _ _ _
  unfold f75_c
  have hl := hv.len
  have n1 := nx_new h (.cells 26 (fls.map V.b))
  have n2 := nx_new (h.new (.cells 26 (fls.map V.b))) (.cells 26 (fls.map V.b))
  have gA := (Grow.new (Nat.le_refl h.nx.nat) (.cells 26 (fls.map V.b))).trans (Grow.new (h := h.new (.cells 26 (fls.map V.b))) (by omega) (.cells 26 (fls.map V.b)))
  have eR : ((h.new (.cells 26 (fls.map V.b))).new (.cells 26 (fls.map V.b))).get h.nx = .cells 26 (fls.map V.b) := by rw [get_new_old (by omega), get_new_same]
  have eT : Ar V.b ((h.new (.cells 26 (fls.map V.b))).new (.cells 26 (fls.map V.b))) (h.new (.cells 26 (fls.map V.b))).nx fls := get_new_same
  have hfl : (List.replicate 26 (V.b false)) = fls.map V.b := rfl
  have hfe : ∀ fr : Fr, fillE fr (fls.map V.b) [] = some (fls.map V.b) := fun _ => rfl
  -- the error's path
  have bad : ∀ fr h1, Grow h.nx.nat h h1 → h.nx.nat < h1.nx.nat → h1.get h.nx = .cells 26 (fls.map V.b) → measO L = none → fr.get (K.ofNat 2) = some (.p h.nx 0) → W fs none (.seq (.reg f75_r3) .ret) (retK f75 fun r h' => r = .tup [.agg (((measO L).getD fls).map V.b), .b (rulB L)] ∧ Grow h.nx.nat h h') fr h1 := by
    rintro fr h1 hG hn hR hm g2
    have hst := st26 (A := fls) hR rfl rfl
    have hrd := readP26 (A := fls) (h := h1.put h.nx (.cells 26 (fls.map V.b))) (id := h.nx) get_put_same rfl
    have hr : rulB L = false := by rw [rulB_eq, hm]; rfl
    simp (disch := omega) only [f75_r3, f75_rs, w_reg, w_seq, w_ret, seqK_n, true_and, retK_r, x_nil, x_as, x_build, x_st, kx, rvP_ok, ev_t, ev_c, getV_some, putD_some, putD_none, oGet_s, readRs_nil, readRs_t, readRs_n, retV_2, Option.some.injEq, exists_eq_left', getK_set, Nat.reduceEqDiff, ↓reduceIte, g2, hfl, hfe, hst, hrd, hm, hr, Option.getD_none, true_and]
    exact hG.trans (Grow.put (Nat.le_refl _) hn _)
  have bad2 : ∀ fr h1, Grow h.nx.nat h h1 → h.nx.nat < h1.nx.nat → h1.get h.nx = .cells 26 (fls.map V.b) → measO L = none → fr.get (K.ofNat 2) = some (.p h.nx 0) → W fs none (.seq (.reg f75_r11) .ret) (retK f75 fun r h' => r = .tup [.agg (((measO L).getD fls).map V.b), .b (rulB L)] ∧ Grow h.nx.nat h h') fr h1 := by
    rintro fr h1 hG hn hR hm g2
    have hst := st26 (A := fls) hR rfl rfl
    have hrd := readP26 (A := fls) (h := h1.put h.nx (.cells 26 (fls.map V.b))) (id := h.nx) get_put_same rfl
    have hr : rulB L = false := by rw [rulB_eq, hm]; rfl
    simp (disch := omega) only [f75_r11, f75_rs, w_reg, w_seq, w_ret, seqK_n, true_and, retK_r, x_nil, x_as, x_build, x_st, kx, rvP_ok, ev_t, ev_c, getV_some, putD_some, putD_none, oGet_s, readRs_nil, readRs_t, readRs_n, retV_2, Option.some.injEq, exists_eq_left', getK_set, Nat.reduceEqDiff, ↓reduceIte, g2, hfl, hfe, hst, hrd, hm, hr, Option.getD_none, true_and]
    exact hG.trans (Grow.put (Nat.le_refl _) hn _)
  cases d1 : decide ((L.length : Int) < 2) with
  | true =>
    have hm : measO L = none := by
      have := of_decide_eq_true d1
      unfold measO; rw [if_neg (by omega)]
    simp (disch := omega) only [f75_r0, f75_r1, f75_r2, w_reg, w_seq, w_cond, seqK_n, ckB_b, cbB_b, okG_b, asG_f, true_and, x_nil, x_g, x_mv, x_as, x_pick, x_alloc, x_bin, x_len, kx, rvP_ok, okv_some, ev_t, ev_c, getV_some, putD_some, bin_lss, pick_b, frame_1, of0, of2, getK_set, Nat.reduceEqDiff, ↓reduceIte, Bool.false_eq_true, Bool.not_true, of7, hfl, hl, d1]
    show W fs none (.seq (.reg f75_r3) .ret) _ _ _
    exact bad _ _ gA (by omega) eR hm (by simp (disch := omega) only [getK_set, Nat.reduceEqDiff, ↓reduceIte])
  | false =>
  have h2 : 2 ≤ L.length := by have := of_decide_eq_false d1; omega
  obtain ⟨p, hp1, hp2⟩ := hv.at 0 (by omega)
  have hp2' := (hv.grow hc gA).at 0 (by omega)
  obtain ⟨p', hp1', hp2'⟩ := hp2'
  simp only [Int.natCast_zero] at hp1'
  cases d2 : decide ((L.length : Int) > 7) with
  | true =>
    have hm : measO L = none := by
      have := of_decide_eq_true d2
      unfold measO; rw [if_neg (by omega)]
    simp (disch := omega) only [f75_r0, f75_r1, f75_r2, w_reg, w_seq, w_cond, seqK_n, ckB_b, cbB_b, okG_b, asG_f, true_and, x_nil, x_g, x_mv, x_as, x_pick, x_alloc, x_bin, x_len, kx, rvP_ok, okv_some, ev_t, ev_c, getV_some, putD_some, bin_lss, bin_gtr, pick_b, frame_1, of0, of2, getK_set, Nat.reduceEqDiff, ↓reduceIte, Bool.false_eq_true, Bool.not_true, Bool.not_false, of7, hfl, hl, d1, d2]
    show W fs none (.seq (.reg f75_r3) .ret) _ _ _
    exact bad _ _ gA (by omega) eR hm (by simp (disch := omega) only [getK_set, Nat.reduceEqDiff, ↓reduceIte])
  | false =>
  have h7 : L.length ≤ 7 := by have := of_decide_eq_false d2; omega
  have hh : L.headD 0 = L[0] := by cases L with
    | nil => simp at h2
    | cons a l => rfl
  cases d3 : decide (L[0] = 0) with
  | false =>
    have hm : measO L = none := by
      have : ¬ L.headD 0 = 0 := by rw [hh]; exact of_decide_eq_false d3
      unfold measO; rw [if_neg (fun h => this h.2.2)]
    have d3' : decide (L[0] ≠ 0) = true := by simpa using d3
    simp (disch := omega) only [f75_r0, f75_r1, f75_r2, w_reg, w_seq, w_cond, seqK_n, ckB_b, cbB_b, okG_b, asG_f, true_and, x_nil, x_g, x_mv, x_as, x_pick, x_alloc, x_ld, x_bin, x_iads, x_len, kx, rvP_ok, okv_some, ev_t, ev_c, getV_some, putD_some, bin_neq, bin_lss, bin_gtr, pick_b, frame_1, of0, of2, getK_set, Nat.reduceEqDiff, ↓reduceIte, Bool.false_eq_true, Bool.not_false, of7, hfl, hl, d1, d2, hp1', hp2', iE, d3']
    show W fs none (.seq (.reg f75_r3) .ret) _ _ _
    exact bad _ _ gA (by omega) eR hm (by simp (disch := omega) only [getK_set, Nat.reduceEqDiff, ↓reduceIte])
  | true =>
  have h0 : L.headD 0 = 0 := by rw [hh]; exact of_decide_eq_true d3
  have hm : measO L = measA [L.headD 0] L.tail fls := by unfold measO; rw [if_pos ⟨h2, h7, h0⟩]
  have d3' : decide (L[0] ≠ 0) = false := by simpa using d3
  simp (disch := omega) only [f75_r0, f75_r1, f75_r2, f75_r4, w_skip, w_reg, w_seq, w_cond, w_block, seqK_n, ckB_b, cbB_b, okG_b, asG_f, true_and, x_nil, x_g, x_mv, x_as, x_pick, x_alloc, x_ld, x_bin, x_iads, x_len, kx, rvP_ok, okv_some, ev_t, ev_c, getV_some, putD_some, bin_neq, bin_lss, bin_gtr, pick_b, frame_1, of0, of2, getK_set, Nat.reduceEqDiff, ↓reduceIte, Bool.false_eq_true, Bool.not_false, of7, hfl, hl, d1, d2, hp1', hp2', iE, d3']
  refine W_loop (f75_I h v L) (fun i => L.length - i) ?_ 0 ⟨by omega, ⟨fls, ⟨gA, by omega, eR, rfl, eT⟩, fun _ => rfl, fun h => by omega⟩, by simp (disch := omega) only [getK_set, Nat.reduceEqDiff, ↓reduceIte, and_self, Int.natCast_zero]⟩
  clear eR eT hp1 hp2 hp1' hp2' p p'
  rintro i fr h1 ⟨hi, ⟨A, ⟨hG, hnx, hR, hA, hT⟩, hs0, hs1⟩, g0, g2, g4, g24, g25, g26⟩
  unfold f75_l1
  have hv1 := hv.grow hc hG
  by_cases hlt : i < L.length
  · have d0 : decide ((i : Int) < (L.length : Int)) = true := by simpa using hlt
    obtain ⟨q, hq1, hq2⟩ := hv1.at i hlt
    have hb0 : bnd (none : Option V) 0 = some 0 := rfl
    have hb1 : bnd (some (V.i .i64 (i : Int))) L.length = some i := rfl
    obtain ⟨v', hv'1, hv'2, _, _⟩ := hv.cut hb0 hb1 (Nat.zero_le _) (Nat.le_of_lt hlt)
    rw [List.drop_zero] at hv'2
    have hl' := hv'2.len
    have hli : (L.take i).length = i := by rw [List.length_take]; omega
    rw [hli] at hl'
    have hgd : L.getD i 0 = L[i] := by simp [List.getD_eq_getElem?_getD, hlt]
    simp (disch := omega) only [f75_r5, f75_r6, f75_r7, w_skip, w_reg, w_seq, w_cond, w_block, seqK_n, ckB_b, cbB_b, true_and, x_nil, x_mv, x_as, x_ld, x_bin, x_slice, sliceV_eq, Option.map_none, Option.map_some, x_iads, x_len, kx, rvP_ok, okv_some, ev_t, ev_c, getV_some, putD_some, bin_lss, of0, getK_set, Nat.reduceEqDiff, ↓reduceIte, g0, g24, g25, g26, d0, hq1, hq2, iE, sliceV_eq, Option.map_none, Option.map_some, hv'1, hl']
    refine W_loop (fun j => f75_J h v v' L i A j) (fun j => i - j) ?_ 0 ⟨by omega, ⟨A, ⟨hG, hnx, hR, hA, hT⟩, by rw [List.drop_zero], fun q hq hq2 => by omega⟩, by simp (disch := omega) only [getK_set, Nat.reduceEqDiff, ↓reduceIte, g0, g2, g4, g24, g25, g26, and_self, Int.natCast_zero, hgd]⟩
    clear hq1 hq2 hv'1 hl' g0 g2 g4 g24 g25 g26 d0
    rintro j fr h2 ⟨hj, ⟨B, ⟨hG2, hnx2, hR2, hB, hT2⟩, htk, hlow⟩, g0, g2, g4, g6, g24, g25, g26, g33, g34, g35⟩
    unfold f75_l0
    rw [hgd] at g6 htk hlow
    have hpre : 1 ≤ i → measO L = if L[i] ≤ (L.take i).getLastD 0 ∨ 25 < L[i] then none else (takeAll L[i] (L.take i) A).bind fun B => measA (L.take (i + 1)) (L.drop (i + 1)) B := fun h1i => by
      rw [hm, (hs1 h1i).2, drop_at hlt, measA_cons, ← take_at hlt]
    by_cases hjl : j < i
    · have d6 : decide ((j : Int) < (i : Int)) = true := by simpa using hjl
      have hpre := hpre (by omega)
      have hmk := (hs1 (by omega)).1
      have hjt : j < (L.take i).length := by omega
      obtain ⟨p, hp1, hp2⟩ := (hv'2.grow hc hG2).at j hjt
      have hjj : (L.take i)[j] = L[j] := by simp
      have hbd := hmk.bd (L.take i)[j] (List.getElem_mem hjt)
      rw [hjj] at hp2 hbd
      rw [drop_at hjt, hjj] at htk
      have htk2 : takeAll L[i] (L[j] :: (L.take i).drop (j + 1)) B = if B.getD (L[i] - L[j]).toNat false = true then none else takeAll L[i] ((L.take i).drop (j + 1)) (B.set (L[i] - L[j]).toNat true) := rfl
      rw [htk2] at htk
      cases d7 : decide (L[i] ≤ L[j]) with
      | true =>
        have h9 := of_decide_eq_true d7
        rw [if_pos (.inl (by omega))] at hpre
        simp (disch := omega) only [f75_r8, f75_r9, f75_r10, w_skip, w_reg, w_seq, w_cond, w_block, seqK_n, ckB_b, cbB_b, okG_b, asG_f, true_and, x_nil, x_g, x_mv, x_as, x_pick, x_ld, x_bin, x_iads, kx, rvP_ok, okv_some, ev_t, ev_c, getV_some, putD_some, bin_lss, bin_leq, pick_b, getK_set, Nat.reduceEqDiff, ↓reduceIte, Bool.false_eq_true, Bool.not_true, of25, g6, g33, g34, g35, d6, hp1, hp2, iE, d7]
        show W fs none (.seq (.reg f75_r11) .ret) _ _ _
        exact bad2 _ _ hG2 (by omega) hR2 hpre (by simp (disch := omega) only [getK_set, Nat.reduceEqDiff, ↓reduceIte, g2])
      | false =>
      have h9 := of_decide_eq_false d7
      cases d8 : decide (L[i] > 25) with
      | true =>
        have h10 := of_decide_eq_true d8
        rw [if_pos (.inr (by omega))] at hpre
        simp (disch := omega) only [f75_r8, f75_r9, f75_r10, w_skip, w_reg, w_seq, w_cond, w_block, seqK_n, ckB_b, cbB_b, okG_b, asG_f, true_and, x_nil, x_g, x_mv, x_as, x_pick, x_ld, x_bin, x_iads, kx, rvP_ok, okv_some, ev_t, ev_c, getV_some, putD_some, bin_lss, bin_leq, bin_gtr, pick_b, getK_set, Nat.reduceEqDiff, ↓reduceIte, Bool.false_eq_true, Bool.not_true, Bool.not_false, of25, g6, g33, g34, g35, d6, hp1, hp2, iE, d7, d8]
        show W fs none (.seq (.reg f75_r11) .ret) _ _ _
        exact bad2 _ _ hG2 (by omega) hR2 hpre (by simp (disch := omega) only [getK_set, Nat.reduceEqDiff, ↓reduceIte, g2])
      | false =>
      have h10 := of_decide_eq_false d8
      have hd26 : (L[i] - L[j]).toNat < 26 := by omega
      have hdd : L[i] - L[j] = (((L[i] - L[j]).toNat : Nat) : Int) := by omega
      have hgB : B.getD (L[i] - L[j]).toNat false = B[(L[i] - L[j]).toNat]'(by omega) := by simp [List.getD_eq_getElem?_getD, hB, hd26]
      rw [hgB] at htk
      simp (disch := omega) only [f75_r8, f75_r9, f75_r10, w_skip, w_reg, w_seq, w_cond, w_block, seqK_n, ckB_b, cbB_b, okG_b, asG_f, true_and, x_nil, x_g, x_mv, x_as, x_pick, x_ld, x_bin, x_iads, x_call, kx, rvP_ok, okv_some, ev_t, ev_c, evs_nil, evs_cons, getV_some, putD_some, bin_sub, bin_lss, bin_leq, bin_gtr, pick_b, getK_set, Nat.reduceEqDiff, ↓reduceIte, Bool.false_eq_true, Bool.not_false, of25, g4, g6, g33, g34, g35, d6, hp1, hp2, iE, d7, d8, fw64]
      rw [hdd]
      refine (callP_0 (ef := f100) c100 rfl (f100_ret hT2 hB hd26)).mono ?_
      rintro r h3 ⟨rfl, h3e⟩
      cases hbb : B[(L[i] - L[j]).toNat]'(by omega) with
      | true =>
        rw [hbb, if_pos rfl] at h3e
        rw [hbb, if_pos rfl] at htk
        subst h3e
        have hpre2 : measO L = none := by
          rw [hpre, htk]; split <;> rfl
        simp (disch := omega) only [w_reg, w_seq, w_cond, seqK_n, ckB_b, cbB_b, okG_b, asG_f, true_and, x_nil, x_g, x_pick, x_not, kx, rvP_ok, ev_t, ev_c, getV_some, putD_some, pick_b, onB_b, getK_set, Nat.reduceEqDiff, ↓reduceIte, Bool.false_eq_true, Bool.not_true, Bool.not_false, Bool.not_true, Bool.not_false]
        show W fs none (.seq (.reg f75_r11) .ret) _ _ _
        exact bad2 _ _ hG2 (by omega) hR2 hpre2 (by simp (disch := omega) only [getK_set, Nat.reduceEqDiff, ↓reduceIte, g2])
      | false =>
        rw [hbb, if_neg (by simp)] at h3e
        rw [hbb, if_neg (by simp)] at htk
        subst h3e
        simp (disch := omega) only [f75_r12, w_skip, w_reg, w_cond, seqK_n, atK_n, loopK_n, ckB_b, cbB_b, okG_b, asG_f, true_and, x_nil, x_g, x_mv, x_pick, x_bin, x_not, kx, rvP_ok, okv_some, ev_t, ev_c, getV_some, putD_some, bin_add, pick_b, onB_b, of1, getK_set, Nat.reduceEqDiff, ↓reduceIte, Bool.false_eq_true, Bool.not_true, Bool.not_false, g35, Bool.not_true, Bool.not_false, fw64]
        refine ⟨j + 1, by omega, by omega, ⟨B.set (L[i] - L[j]).toNat true, ⟨hG2.trans (Grow.put (by omega) (by omega) _), hnx2, ?_, by simpa using hB, ?_⟩, by rw [hgd]; exact htk, fun q hq hq2 => ?_⟩, by simp (disch := omega) only [getK_set, Nat.reduceEqDiff, ↓reduceIte, g0, g2, g4, g6, g24, g25, g26, g33, g34, and_self, Int.natCast_add, Int.natCast_one, hgd]⟩
        · rw [get_put_other (fun e => by have := congrArg K.nat e; omega)]; exact hR2
        · show (h2.put _ _).get _ = .cells (B.set _ true).length _
          rw [get_put_same, List.length_set, hB]
        · rw [hgd]
          by_cases e : q = j
          · subst e; omega
          · exact hlow q hq (by omega)
    · have d6 : decide ((j : Int) < (i : Int)) = false := by simpa using hjl
      have ej : j = i := by omega
      rw [ej, List.drop_eq_nil_of_le (by omega)] at htk
      have htk2 : takeAll L[i] [] B = some B := rfl
      rw [htk2] at htk
      simp (disch := omega) only [f75_r8, f75_r13, w_reg, w_seq, w_cond, w_exit, seqK_n, seqK_e, atK_n, atK_e, loopK_n, loopK_e, ckB_b, cbB_b, true_and, x_nil, x_mv, x_bin, kx, rvP_ok, okv_some, ev_t, ev_c, getV_some, putD_some, bin_add, bin_lss, of1, getK_set, Nat.reduceEqDiff, ↓reduceIte, Bool.false_eq_true, g26, g34, g35, d6, fw64]
      refine ⟨i + 1, by omega, by omega, ⟨B, ⟨hG2, hnx2, hR2, hB, hT2⟩, fun h => by omega, fun _ => ?_⟩, by simp (disch := omega) only [getK_set, Nat.reduceEqDiff, ↓reduceIte, g0, g2, g4, g24, g25, and_self, Int.natCast_add, Int.natCast_one]⟩
      by_cases hi0 : i = 0
      · subst hi0
        have hA0 := hs0 rfl
        rw [hA0] at htk
        have hB0 : fls = B := by simpa [takeAll] using htk
        rw [← hB0]
        cases L with
        | nil => simp at h2
        | cons a l => exact ⟨⟨by simp, fun b hb => by
            have e1 : b = a := by simpa using hb
            have e2 : a = 0 := h0
            rw [e1, e2]
            exact ⟨Int.le_refl _, by simp⟩⟩, rfl⟩
      · have hpre := hpre (by omega)
        have hlo := hlow (i - 1) (by omega) (by omega)
        have hmk := (hs1 (by omega)).1
        have hlt2 := last_take (L := L) (i := i) (by omega) (by omega)
        rw [if_neg (by rw [hlt2]; omega), htk, hm] at hpre
        refine ⟨?_, hpre⟩
        rw [take_at hlt]
        exact hmk.snoc (by rw [hlt2]; omega)
  · have d0 : decide ((i : Int) < (L.length : Int)) = false := by simpa using hlt
    have ei : i = L.length := by omega
    have hst := st26 (A := A) hR rfl hA
    have hrd := readP26 (A := A) (h := h1.put h.nx (.cells 26 (A.map V.b))) (id := h.nx) get_put_same hA
    have hT' : h1.get (h.new (.cells 26 (fls.map V.b))).nx = .cells 26 (A.map V.b) := by have h9 := hT; unfold Ar at h9; rw [hA] at h9; exact h9
    have hld := rd26 hT' hA
    have hme := (hs1 (by omega)).2
    rw [ei, List.drop_length] at hme
    have hme2 : measA (L.take L.length) [] A = some A := rfl
    rw [hme2, ← hm] at hme
    have hr : rulB L = true := by rw [rulB_eq, hme]; rfl
    simp (disch := omega) only [f75_r5, f75_r14, f75_rs, w_reg, w_seq, w_cond, w_exit, w_ret, seqK_n, seqK_e, atK_e, loopK_e, ckB_b, cbB_b, true_and, retK_r, x_nil, x_as, x_ldn, x_st, x_bin, kx, rvP_ok, okv_some, ev_t, ev_c, getV_some, putD_some, putD_none, bin_lss, oGet_s, readRs_nil, readRs_t, readRs_n, retV_2, Option.some.injEq, exists_eq_left', getK_set, Nat.reduceEqDiff, ↓reduceIte, Bool.false_eq_true, g2, g4, g25, g26, d0, hld, hst, hrd, hme, hr, Option.getD_some, true_and]
    exact hG.trans (Grow.put (Nat.le_refl _) (by omega) _)
theorem measO_len {B : List Bool} (hm : measO L = some B) : B.length = 26 := by
  unfold measO at hm
  split at hm
  · exact measA_len hm
  · cases hm
theorem measD_len : ((measO L).getD fls).length = 26 := by
  cases hm : measO L with
  | none => rfl
  | some B => exact measO_len hm
theorem f42_ret (c75 : fs.get (K.ofNat 75) = some f75) (c100 : fs.get (K.ofNat 100) = some f100) (hv : Sr iE h v L) (hc : HC h) (hL : L.length ≤ 1000000) : Ret fs f42 [v] h fun r h' => r = .tup [.b (rulB L), .i .i64 0] ∧ Grow h.nx.nat h h' := by
  apply ret_of rfl
  show W fs none f42_c _ _ _
  unfold f42_c
  simp (disch := omega) only [f42_r0, f42_r1, w_reg, w_seq, seqK_n, x_nil, x_mv, x_as, x_call, ev_t, ev_c, evs_nil, evs_cons, getV_some, putD_some, frame_1, of0, getK_set, Nat.reduceEqDiff, ↓reduceIte]
  refine (callP_0 (ef := f75) c75 rfl (f75_ret c100 hv hc hL)).mono ?_
  rintro r h1 ⟨rfl, hG⟩
  have hfl : (List.replicate 26 (V.b false)) = fls.map V.b := rfl
  have n1 := nx_new h1 (.cells 26 (fls.map V.b))
  have hst := st26 (A := (measO L).getD fls) (h := h1.new (.cells 26 (fls.map V.b))) (id := h1.nx) get_new_same rfl measD_len
  simp (disch := omega) only [f42_r2, f42_rs, w_reg, w_seq, w_ret, seqK_n, true_and, retK_r, x_nil, x_mv, x_as, x_alloc, x_st, x_ext, kx, rvP_ok, okv_some, ev_t, ev_c, getV_some, putD_some, putD_none, onTup_t, oGet_s, nth0, nth1, readRs_nil, readRs_t, retV_2, of0, Option.some.injEq, exists_eq_left', getK_set, Nat.reduceEqDiff, ↓reduceIte, hfl, hst, true_and]
  exact hG.trans ((Grow.new hG.nx _).trans (Grow.put hG.nx (by omega) _))
end
end Go.Ev
namespace Go.Ev
open Go Go.RowKit
noncomputable def f43_r0 : List EOper := [⟨(some (K.ofNat 4)), none, .as (.c .sn)⟩, ⟨(some (K.ofNat 5)), none, .as (.c (.b false))⟩, ⟨(some (K.ofNat 6)), none, .as (.c (.i .i64 (.ofNat 0)))⟩]
noncomputable def f43_r1 : List EOper := [⟨(some (K.ofNat 12)), none, .mv (.t (K.ofNat 0))⟩, ⟨(some (K.ofNat 13)), none, .call (.c (.fn (K.ofNat 75) [])) [(.t (K.ofNat 12))]⟩, ⟨(some (K.ofNat 11)), none, .mv (.t (K.ofNat 13))⟩, ⟨(some (K.ofNat 14)), none, .ext (.t (K.ofNat 11)) 0⟩, ⟨(some (K.ofNat 15)), none, .ext (.t (K.ofNat 11)) 1⟩, ⟨(some (K.ofNat 7)), none, .alloc 26 (List.replicate 26 (.b false))⟩, ⟨none, none, .st 26 (.t (K.ofNat 7)) (.t (K.ofNat 14))⟩, ⟨(some (K.ofNat 8)), none, .as (.t (K.ofNat 15))⟩]
noncomputable def f43_r2 : List EOper := [⟨(some (K.ofNat 16)), none, .mv (.t (K.ofNat 8))⟩, ⟨(some (K.ofNat 17)), none, .not (.t (K.ofNat 16))⟩, ⟨(some (K.ofNat 18)), none, .mv (.t (K.ofNat 17))⟩, ⟨(some (K.ofNat 19)), (some ((K.ofNat 18), false)), .mv (.t (K.ofNat 1))⟩, ⟨(some (K.ofNat 20)), (some ((K.ofNat 18), false)), .bin .lss (.t (K.ofNat 19)) (.c (.i .i64 (.ofNat 2)))⟩, ⟨(some (K.ofNat 21)), none, .pick (.t (K.ofNat 18)) (.c (.b true)) (.t (K.ofNat 20))⟩, ⟨(some (K.ofNat 22)), none, .mv (.t (K.ofNat 21))⟩, ⟨(some (K.ofNat 23)), (some ((K.ofNat 22), false)), .mv (.t (K.ofNat 1))⟩, ⟨(some (K.ofNat 24)), (some ((K.ofNat 22), false)), .bin .gtr (.t (K.ofNat 23)) (.c (.i .i64 (.ofNat 7)))⟩, ⟨(some (K.ofNat 25)), none, .pick (.t (K.ofNat 22)) (.c (.b true)) (.t (K.ofNat 24))⟩]
noncomputable def f43_r3 : List EOper := [⟨(some (K.ofNat 4)), none, .as (.c .sn)⟩, ⟨(some (K.ofNat 5)), none, .as (.c (.b false))⟩, ⟨(some (K.ofNat 6)), none, .as (.c (.i .i64 (.ofNat 1)))⟩]
noncomputable def f43_r4 : List Stage := [⟨[⟨(some (K.ofNat 26)), none, .mv (.t (K.ofNat 0))⟩, ⟨(some (K.ofNat 28)), none, .ldn 26 (.t (K.ofNat 7))⟩, ⟨(some (K.ofNat 29)), none, .mv (.t (K.ofNat 1))⟩, ⟨(some (K.ofNat 9)), none, .alloc 29 [.sn, (.b false), (.b false), (.b false), (.b false), (.b false), (.b false), (.b false), (.b false), (.b false), (.b false), (.b false), (.b false), (.b false), (.b false), (.b false), (.b false), (.b false), (.b false), (.b false), (.b false), (.b false), (.b false), (.b false), (.b false), (.b false), (.b false), (.i .i64 (.ofNat 0)), (.i .i64 (.ofNat 0))]⟩], [], (some ⟨(some (K.ofNat 27)), none, .call (.c (.fn (K.ofNat 76) [])) [(.t (K.ofNat 26))]⟩), [(K.ofNat 9)]⟩, ⟨[⟨(some (K.ofNat 30)), none, .build [.sn, (.b false), (.b false), (.b false), (.b false), (.b false), (.b false), (.b false), (.b false), (.b false), (.b false), (.b false), (.b false), (.b false), (.b false), (.b false), (.b false), (.b false), (.b false), (.b false), (.b false), (.b false), (.b false), (.b false), (.b false), (.b false), (.b false), (.i .i64 (.ofNat 0)), (.i .i64 (.ofNat 0))] [(0, 1, (.t (K.ofNat 27))), (1, 26, (.t (K.ofNat 28))), (27, 1, (.t (K.ofNat 29)))]⟩], [⟨(some (K.ofNat 28)), none, .ldn 26 (.t (K.ofNat 7))⟩, ⟨(some (K.ofNat 29)), none, .mv (.t (K.ofNat 1))⟩, ⟨(some (K.ofNat 9)), none, .alloc 29 [.sn, (.b false), (.b false), (.b false), (.b false), (.b false), (.b false), (.b false), (.b false), (.b false), (.b false), (.b false), (.b false), (.b false), (.b false), (.b false), (.b false), (.b false), (.b false), (.b false), (.b false), (.b false), (.b false), (.b false), (.b false), (.b false), (.b false), (.i .i64 (.ofNat 0)), (.i .i64 (.ofNat 0))]⟩], (some ⟨none, none, .st 29 (.t (K.ofNat 9)) (.t (K.ofNat 30))⟩), []⟩, ⟨[], [], none, []⟩]
noncomputable def f43_r5 : List EOper := [⟨(some (K.ofNat 32)), none, .ldn 29 (.t (K.ofNat 9))⟩, ⟨(some (K.ofNat 33)), none, .call (.c (.fn (K.ofNat 77) [])) [(.t (K.ofNat 32)), (.c (.i .i64 (.ofNat 25)))]⟩, ⟨(some (K.ofNat 31)), none, .mv (.t (K.ofNat 33))⟩, ⟨(some (K.ofNat 34)), none, .ext (.t (K.ofNat 31)) 0⟩, ⟨(some (K.ofNat 35)), none, .ext (.t (K.ofNat 31)) 1⟩, ⟨(some (K.ofNat 10)), none, .as (.t (K.ofNat 34))⟩, ⟨(some (K.ofNat 8)), none, .as (.t (K.ofNat 35))⟩]
noncomputable def f43_r6 : List EOper := [⟨(some (K.ofNat 36)), none, .mv (.t (K.ofNat 10))⟩, ⟨(some (K.ofNat 37)), none, .mv (.t (K.ofNat 8))⟩, ⟨(some (K.ofNat 4)), none, .as (.t (K.ofNat 36))⟩, ⟨(some (K.ofNat 5)), none, .as (.t (K.ofNat 37))⟩, ⟨(some (K.ofNat 6)), none, .as (.c (.i .i64 (.ofNat 0)))⟩]
noncomputable def f43_c : EC := (.seq (.reg f43_r0) (.seq (.reg f43_r1) (.seq (.seq (.reg f43_r2) (.cond (.t (K.ofNat 25)) (.seq (.reg f43_r3) .ret) .skip)) (.seq (.draw f43_r4) (.seq (.reg f43_r5) (.seq (.reg f43_r6) .ret))))))
noncomputable def f43 : EF := ⟨38, [.tmp (K.ofNat 4), .tmp (K.ofNat 5), .tmp (K.ofNat 6)], f43_c, none⟩
theorem f43_rs : f43.rs = [.tmp (K.ofNat 4), .tmp (K.ofNat 5), .tmp (K.ofNat 6)] := of_eq_true (eq_self _)
noncomputable def f15_r0 : List EOper := [⟨(some (K.ofNat 4)), none, .as (.c .sn)⟩]
noncomputable def f15_r1 : List EOper := [⟨(some (K.ofNat 5)), none, .as (.c .sn)⟩]
noncomputable def f15_r2 : List EOper := [⟨(some (K.ofNat 6)), none, .mv (.t (K.ofNat 5))⟩, ⟨(some (K.ofNat 7)), none, .mv (.t (K.ofNat 0))⟩, ⟨(some (K.ofNat 8)), none, .mv (.t (K.ofNat 0))⟩, ⟨(some (K.ofNat 9)), none, .len (.t (K.ofNat 8))⟩, ⟨(some (K.ofNat 10)), none, .mv (.t (K.ofNat 1))⟩, ⟨(some (K.ofNat 11)), none, .min (.t (K.ofNat 9)) (.t (K.ofNat 10))⟩, ⟨(some (K.ofNat 12)), none, .slice 1 (.t (K.ofNat 7)) none (some (.t (K.ofNat 11))) none⟩, ⟨(some (K.ofNat 13)), none, .app 1 (.t (K.ofNat 6)) (.t (K.ofNat 12))⟩, ⟨(some (K.ofNat 4)), none, .as (.t (K.ofNat 13))⟩]
noncomputable def f15_c : EC := (.seq (.reg f15_r0) (.seq (.reg f15_r1) (.seq (.reg f15_r2) .ret)))
noncomputable def f15 : EF := ⟨14, [.tmp (K.ofNat 4)], f15_c, none⟩
theorem f15_rs : f15.rs = [.tmp (K.ofNat 4)] := of_eq_true (eq_self _)
theorem bmap_cells {A : List Bool} (hA : A.length = 26) : cellsN 26 (.agg (A.map V.b)) = some (A.map V.b) := by
  show (bif Nat.beq (lenL (A.map V.b)) 26 then some (A.map V.b) else none) = _
  rw [lenL_eq, List.length_map, hA]; rfl
section
variable {fs : T EF} {ro : Option K} {h : H} {v : V} {L : List Int} {A : List Bool} {m l : Int}
theorem f15_sr {m : Nat} (hv : Sr iE h v L) (hc : HC h) (hm : m ≤ 1000000) : Ret fs f15 [v, .i .i64 (m : Int)] h fun u h' => Sl iE h' u (L.take m) ∧ Own h.nx.nat u ∧ Grow h.nx.nat h h' := by
  apply ret_of rfl
  show W fs none f15_c _ _ _
  unfold f15_c
  have hmin : min (L.length : Int) (m : Int) = ((min L.length m : Nat) : Int) := by omega
  obtain ⟨v', p1, p2, _⟩ := hv.cut (lo := none) (hi := some (.i .i64 ((min L.length m : Nat) : Int))) (l := 0) (u := min L.length m) bnd_none bnd_i (by omega) (by omega)
  rw [List.drop_zero, show L.take (min L.length m) = L.take m by rw [Nat.min_comm, List.take_eq_take_iff]; omega] at p2
  obtain ⟨v2, h2, q1, q2, q3, q4, _⟩ := Sl.appR (e := iE) (b := h.nx.nat) (v := .sn) (L := []) Sl.nil Own.sn (Nat.le_refl _) p2 hc (by simp; omega)
  simp (disch := omega) only [f15_r0, f15_r1, f15_r2, f15_rs, w_reg, w_seq, w_ret, seqK_n, retK_r, x_nil, x_mv, x_as, x_slice, sliceV_eq, Option.map_none, Option.map_some, x_len, x_app, x_min, kx, rvP_ok, ev_t, ev_c, getV_some, putD_some, oGet_s, min_ii, readRs_nil, readRs_t, retV_1, frame_2, Option.some.injEq, exists_eq_left', getK_set, Nat.reduceEqDiff, ↓reduceIte, hv.len, hmin, p1, q1]
  exact ⟨by simpa using q2, q3, q4⟩
/-! ### More marks than are wanted -/
theorem f110_over (hA : A.length = 26) (hv : Sr iE h v L) (_ : HC h) (hL : m < (L.length : Int)) : Ret fs f110 [.agg (grC v A m l)] h fun r h' => r = .tup [.sn, .b false] ∧ Grow h.nx.nat h h' := by
  apply ret_of rfl
  show W fs none f110_c _ _ _
  unfold f110_c
  have g1 := Grow.new (Nat.le_refl h.nx.nat) (.cells 29 (grC v A m l))
  have e1 : (h.new (.cells 29 (grC v A m l))).get h.nx = .cells 29 (grC v A m l) := get_new_same
  have ld0 := gr_ld0 e1
  have ld27 := gr_ld27 hA e1
  have d0 : decide ((L.length : Int) > m) = true := by simp; omega
  simp (disch := omega) only [f110_r0, f110_r1, f110_r2, f110_rs, w_reg, w_seq, w_cond, w_ret, seqK_n, seqK_r, ckB_b, cbB_b, true_and, retK_r, x_nil, x_as, x_box, x_ld, x_bin, x_fadr, x_len, kx, rvP_ok, okv_some, ev_t, ev_c, getV_some, putD_some, bin_gtr, onP_p, oGet_s, readRs_nil, readRs_t, retV_2, frame_1, Option.some.injEq, exists_eq_left', getK_set, Nat.reduceEqDiff, ↓reduceIte, gr_cells hA, ld0, ld27, hv.len, d0, true_and]
  exact g1
theorem f77_over (k : CallsRu fs) {x : Int} (hA : A.length = 26) (hv : Sr iE h v L) (hc : HC h) (hL : m < (L.length : Int)) : Ret fs f77 [.agg (grC v A m l), .i .i64 x] h fun r h' => r = .tup [.sn, .b false] ∧ Grow h.nx.nat h h' := by
  apply ret_of rfl
  show W fs none f77_c _ _ _
  unfold f77_c
  have n1 := nx_new h (.cells 29 (grC v A m l))
  have g1 := Grow.new (Nat.le_refl h.nx.nat) (.cells 29 (grC v A m l))
  have e1 : (h.new (.cells 29 (grC v A m l))).get h.nx = .cells 29 (grC v A m l) := get_new_same
  have hst := gr_st28 (l' := x) hA e1
  have g2 := g1.trans (Grow.put (Nat.le_refl _) (show h.nx.nat < (h.new (.cells 29 (grC v A m l))).nx.nat by omega) (.cells 29 (grC v A m x)))
  have e2 : ((h.new (.cells 29 (grC v A m l))).put h.nx (.cells 29 (grC v A m x))).get h.nx = .cells 29 (grC v A m x) := get_put_same
  simp (disch := omega) only [f77_r0, f77_r1, w_reg, w_seq, seqK_n, x_nil, x_mv, x_as, x_box, x_st, x_fadr, kx, rvP_ok, ev_t, ev_c, getV_some, putD_some, putD_none, onP_p, oGet_s, frame_2, getK_set, Nat.reduceEqDiff, ↓reduceIte, gr_cells hA, hst]
  generalize (h.new (.cells 29 (grC v A m l))).put h.nx (.cells 29 (grC v A m x)) = h2 at *
  have ldn := gr_ldn hA e2
  simp (disch := omega) only [f77_r2, x_ldn, x_call, kx, rvP_ok, ev_t, ev_c, evs_nil, evs_cons, getV_some, putD_some, getK_set, Nat.reduceEqDiff, ↓reduceIte, ldn]
  refine (callP_0 (ef := f110) k.c110 rfl (f110_over hA (hv.grow hc g2) (g2.hc hc) hL)).mono ?_
  rintro r h3 ⟨rfl, hg3⟩
  simp (disch := omega) only [f77_rs, w_ret, seqK_n, true_and, retK_r, x_nil, x_as, x_ext, kx, rvP_ok, okv_some, ev_t, getV_some, putD_some, onTup_t, oGet_s, nth0, nth1, readRs_nil, readRs_t, retV_2, Option.some.injEq, exists_eq_left', getK_set, Nat.reduceEqDiff, ↓reduceIte, true_and]
  exact g2.trans (hg3.low g2.nx)
theorem f45_over {m : Int} (hv : Sr iE h v L) (hL : m < (L.length : Int)) : Ret fs f45 [v, .i .i64 m, .i .i64 l] h fun r h' => r = .sn ∧ h' = h := by
  apply ret_of rfl
  show W fs none f45_c _ _ _
  unfold f45_c
  have hl := hv.len
  have d0 : decide ((L.length : Int) > m) = true := by simp; omega
  simp (disch := omega) only [f45_r0, f45_r1, f45_r2, f45_rs, w_reg, w_seq, w_cond, w_ret, seqK_n, seqK_r, ckB_b, cbB_b, okG_b, okG_u, asG_f, asG_u, retK_r, x_nil, x_g, x_mv, x_as, x_pick, x_bin, x_len, kx, rvP_ok, okv_some, ev_t, ev_c, getV_some, putD_some, bin_gtr, pick_b, oGet_s, readRs_nil, readRs_t, retV_1, frame_3, of1, of2, Option.some.injEq, exists_eq_left', getK_set, Nat.reduceEqDiff, ↓reduceIte, Bool.false_eq_true, Bool.not_true, hl, d0, and_self]
/-- What Extend gives. -/
def extN (m : Nat) (L : List Int) : Option (List Int) := if m < L.length then none else extR 25 (m - L.length) L
theorem measA_bd : ∀ {R P : List Int} {A B : List Bool}, measA P R A = some B → MkOk P → P.getLastD 0 ≤ 25 → MkOk (P ++ R) ∧ (P ++ R).getLastD 0 ≤ 25
  | [], P, _, _, _, hp, hl => by rw [List.append_nil]; exact ⟨hp, hl⟩
  | x :: R, P, A, B, h, hp, hl => by
    rw [measA_cons] at h
    split at h
    · cases h
    · rename_i hx
      cases ht : takeAll x P A with
      | none => rw [ht] at h; cases h
      | some C =>
        rw [ht] at h
        have := measA_bd (show measA (P ++ [x]) R C = some B from h) (hp.snoc (by omega)) (by rw [last_snoc]; omega)
        rw [List.append_assoc] at this
        exact this
theorem rul_good (hr : rulB L = true) : ∃ B, measO L = some B ∧ Good L B ∧ MkOk L ∧ L.getLastD 0 ≤ 25 ∧ 2 ≤ L.length ∧ L.length ≤ 7 := by
  rw [rulB_eq] at hr
  cases hm : measO L with
  | none => rw [hm] at hr; cases hr
  | some B =>
    have hm2 := hm
    unfold measO at hm2
    split at hm2
    · rename_i h3
      obtain ⟨h1, h2, h3⟩ := h3
      cases L with
      | nil => simp at h1
      | cons a T =>
        have ha : a = 0 := h3
        subst ha
        have hm3 : measA [0] T fls = some B := hm2
        have := measA_bd hm3 ⟨by simp, fun b hb => by
          have : b = 0 := by simpa using hb
          subst this; simp⟩ (by simp)
        exact ⟨B, rfl, ⟨T, rfl, hm3⟩, this.1, this.2, h1, h2⟩
    · cases hm2
theorem stay_alloc {fr : Fr} {k : K} {n : Nat} {zs : List V} : (stays fs goNo fr h ⟨some k, none, .alloc n zs⟩ = true) = (newOk h n zs (getV (fr.get k)) = true) := of_eq_true (eq_self _)
theorem fill_gr3 {fr : Fr} {x y z : EO} {u : V} {m : Int} (hx : cellsN 1 (ev fr x) = some [u]) (hA : A.length = 26) (hy : ev fr y = .agg (A.map V.b)) (hz : ev fr z = .i .i64 m) : fillE fr [.sn, .b false, .b false, .b false, .b false, .b false, .b false, .b false, .b false, .b false, .b false, .b false, .b false, .b false, .b false, .b false, .b false, .b false, .b false, .b false, .b false, .b false, .b false, .b false, .b false, .b false, .b false, .i .i64 0, .i .i64 0] [(0, 1, x), (1, 26, y), (27, 1, z)] = some (grC u A m 0) := by
  show oGet (cellsN 1 (ev fr x)) none (fun cs => oGet (cellsN 26 (ev fr y)) none fun ds => oGet (cellsN 1 (ev fr z)) none fun es => some (setMany (setMany (setMany [.sn, .b false, .b false, .b false, .b false, .b false, .b false, .b false, .b false, .b false, .b false, .b false, .b false, .b false, .b false, .b false, .b false, .b false, .b false, .b false, .b false, .b false, .b false, .b false, .b false, .b false, .b false, .i .i64 0, .i .i64 0] 0 cs) 1 ds) 27 es)) = _
  rw [hx, hy, hz, bmap_cells hA]
  show some (setMany (u :: setMany [.b false, .b false, .b false, .b false, .b false, .b false, .b false, .b false, .b false, .b false, .b false, .b false, .b false, .b false, .b false, .b false, .b false, .b false, .b false, .b false, .b false, .b false, .b false, .b false, .b false, .b false, .i .i64 0, .i .i64 0] 0 (A.map V.b)) 27 [.i .i64 m]) = _
  rw [setMany_eq _ 0 _ (by simp [hA])]
  simp only [List.length_map, hA, Nat.zero_add, List.take_zero, List.nil_append]
  show some (setMany (u :: (A.map V.b ++ [.i .i64 0, .i .i64 0])) 27 [.i .i64 m]) = _
  rw [setMany_eq _ _ _ (by simp [hA])]
  simp [grC, hA, List.drop_append, List.drop_eq_nil_of_le]
structure CallsEx (fs : T EF) : Prop extends CallsRu fs where
  c75 : fs.get (K.ofNat 75) = some f75
  c76 : fs.get (K.ofNat 76) = some f76
theorem f43_err {n : Int} (k : CallsEx fs) (hv : Sr iE h v L) (hc : HC h) (hL : L.length ≤ 1000000) (hn : rulB L = false ∨ n < 2 ∨ 7 < n) : Ret fs f43 [v, .i .i64 n] h fun r h' => r = .tup [.sn, .b false, .i .i64 1] ∧ Grow h.nx.nat h h' := by
  apply ret_of rfl
  show W fs none f43_c _ _ _
  unfold f43_c
  simp (disch := omega) only [f43_r0, f43_r1, w_reg, w_seq, seqK_n, x_nil, x_mv, x_as, x_call, ev_t, ev_c, evs_nil, evs_cons, getV_some, putD_some, frame_2, of0, getK_set, Nat.reduceEqDiff, ↓reduceIte]
  refine (callP_0 (ef := f75) k.c75 rfl (f75_ret k.c100 hv hc hL)).mono ?_
  rintro r h1 ⟨rfl, hG⟩
  have hfl : (List.replicate 26 (V.b false)) = fls.map V.b := rfl
  have n1 := nx_new h1 (.cells 26 (fls.map V.b))
  have hst := st26 (A := (measO L).getD fls) (h := h1.new (.cells 26 (fls.map V.b))) (id := h1.nx) get_new_same rfl measD_len
  have hG2 := hG.trans ((Grow.new hG.nx (.cells 26 (fls.map V.b))).trans (Grow.put (k := h1.nx) hG.nx (by omega) (.cells 26 (((measO L).getD fls).map V.b))))
  cases hr : rulB L with
  | false =>
    simp (disch := omega) only [f43_r2, f43_r3, f43_rs, w_reg, w_seq, w_cond, w_ret, seqK_n, seqK_r, ckB_b, cbB_b, okG_b, asG_f, true_and, retK_r, x_nil, x_g, x_mv, x_as, x_pick, x_alloc, x_st, x_not, x_ext, kx, rvP_ok, okv_some, ev_t, ev_c, getV_some, putD_some, putD_none, pick_b, onB_b, onTup_t, oGet_s, nth0, nth1, readRs_nil, readRs_t, retV_2, of1, of2, Option.some.injEq, exists_eq_left', getK_set, Nat.reduceEqDiff, ↓reduceIte, Bool.false_eq_true, Bool.not_true, Bool.not_false, of7, hfl, hst, Bool.not_false, true_and]
    exact hG2
  | true =>
  rw [hr] at hn
  cases d1 : decide (n < 2) with
  | true =>
    simp (disch := omega) only [f43_r2, f43_r3, f43_rs, w_reg, w_seq, w_cond, w_ret, seqK_n, seqK_r, ckB_b, cbB_b, okG_b, asG_f, true_and, retK_r, x_nil, x_g, x_mv, x_as, x_pick, x_alloc, x_st, x_bin, x_not, x_ext, kx, rvP_ok, okv_some, ev_t, ev_c, getV_some, putD_some, putD_none, bin_lss, pick_b, onB_b, onTup_t, oGet_s, nth0, nth1, readRs_nil, readRs_t, retV_2, of1, of2, Option.some.injEq, exists_eq_left', getK_set, Nat.reduceEqDiff, ↓reduceIte, Bool.false_eq_true, Bool.not_true, Bool.not_false, of7, hfl, hst, d1, Bool.not_true, true_and]
    exact hG2
  | false =>
  have d2 : decide (n > 7) = true := by
    have := of_decide_eq_false d1
    rcases hn with hn | hn | hn
    · cases hn
    · omega
    · simpa using hn
  simp (disch := omega) only [f43_r2, f43_r3, f43_rs, w_reg, w_seq, w_cond, w_ret, seqK_n, seqK_r, ckB_b, cbB_b, okG_b, asG_f, true_and, retK_r, x_nil, x_g, x_mv, x_as, x_pick, x_alloc, x_st, x_bin, x_not, x_ext, kx, rvP_ok, okv_some, ev_t, ev_c, getV_some, putD_some, putD_none, bin_lss, bin_gtr, pick_b, onB_b, onTup_t, oGet_s, nth0, nth1, readRs_nil, readRs_t, retV_2, of1, of2, Option.some.injEq, exists_eq_left', getK_set, Nat.reduceEqDiff, ↓reduceIte, Bool.false_eq_true, Bool.not_true, Bool.not_false, of7, hfl, hst, d1, d2, Bool.not_true, true_and]
  exact hG2
theorem f43_ok {m : Nat} (k : CallsEx fs) (hv : Sr iE h v L) (hc : HC h) (hr : rulB L = true) (h2 : 2 ≤ m) (h7 : m ≤ 7) : Ret fs f43 [v, .i .i64 (m : Int)] h fun r h' => ∃ w, r = .tup [w, .b (extN m L).isSome, .i .i64 0] ∧ OSr h' w (extN m L) ∧ Grow h.nx.nat h h' := by
  obtain ⟨B, hm, hgood, hmk, hl25, hl2, hl7⟩ := rul_good hr
  have hBl := measO_len hm
  apply ret_of rfl
  show W fs none f43_c _ _ _
  unfold f43_c
  simp (disch := omega) only [f43_r0, f43_r1, w_reg, w_seq, seqK_n, x_nil, x_mv, x_as, x_call, ev_t, ev_c, evs_nil, evs_cons, getV_some, putD_some, frame_2, of0, getK_set, Nat.reduceEqDiff, ↓reduceIte]
  refine (callP_0 (ef := f75) k.c75 rfl (f75_ret k.c100 hv hc (by omega))).mono ?_
  rintro r h1 ⟨rfl, hG⟩
  rw [hm, hr]
  have hfl : (List.replicate 26 (V.b false)) = fls.map V.b := rfl
  have n1 := nx_new h1 (.cells 26 (fls.map V.b))
  have hst := st26 (A := B) (h := h1.new (.cells 26 (fls.map V.b))) (id := h1.nx) get_new_same rfl hBl
  have hG2 := hG.trans ((Grow.new hG.nx (.cells 26 (fls.map V.b))).trans (Grow.put (k := h1.nx) hG.nx (by omega) (.cells 26 (B.map V.b))))
  have e2 : ((h1.new (.cells 26 (fls.map V.b))).put h1.nx (.cells 26 (B.map V.b))).get h1.nx = .cells 26 (B.map V.b) := get_put_same
  have n2 : ((h1.new (.cells 26 (fls.map V.b))).put h1.nx (.cells 26 (B.map V.b))).nx.nat = h1.nx.nat + 1 := n1
  have d1 : decide ((m : Int) < 2) = false := by simp; omega
  have d2 : decide ((m : Int) > 7) = false := by simp; omega
  simp (disch := omega) only [f43_r2, w_skip, w_reg, w_draw, w_seq, w_cond, seqK_n, ckB_b, cbB_b, okG_b, asG_f, true_and, x_nil, x_g, x_mv, x_as, x_pick, x_alloc, x_st, x_bin, x_not, x_ext, kx, rvP_ok, okv_some, ev_t, ev_c, getV_some, putD_some, putD_none, bin_lss, bin_gtr, pick_b, onB_b, onTup_t, nth0, nth1, of2, getK_set, Nat.reduceEqDiff, ↓reduceIte, Bool.false_eq_true, Bool.not_true, Bool.not_false, of7, hfl, hst, d1, d2, Option.getD_some, Bool.not_true]
  generalize (h1.new (.cells 26 (fls.map V.b))).put h1.nx (.cells 26 (B.map V.b)) = hx at *
  have hcx := hG2.hc hc
  have hvx := hv.grow hc hG2
  have ldB := rd26 e2 hBl
  simp (disch := omega) only [f43_r4, true_and, x_call, kg, xg_nil, xg_mv, xg_ldn, xd_cons, stK_s, stay_nil, rvP_ok, ev_t, ev_c, evs_nil, evs_cons, getV_some, putD_some, of0, getK_set, Nat.reduceEqDiff, ↓reduceIte, xg_alloc, ldB, hcx.dead, true_and]
  have nz := nx_new hx (.cells 29 [.sn, .b false, .b false, .b false, .b false, .b false, .b false, .b false, .b false, .b false, .b false, .b false, .b false, .b false, .b false, .b false, .b false, .b false, .b false, .b false, .b false, .b false, .b false, .b false, .b false, .b false, .b false, .i .i64 0, .i .i64 0])
  have gz := Grow.new (Nat.le_refl hx.nx.nat) (.cells 29 [.sn, .b false, .b false, .b false, .b false, .b false, .b false, .b false, .b false, .b false, .b false, .b false, .b false, .b false, .b false, .b false, .b false, .b false, .b false, .b false, .b false, .b false, .b false, .b false, .b false, .b false, .b false, .i .i64 0, .i .i64 0])
  have ez : (hx.new (.cells 29 [.sn, .b false, .b false, .b false, .b false, .b false, .b false, .b false, .b false, .b false, .b false, .b false, .b false, .b false, .b false, .b false, .b false, .b false, .b false, .b false, .b false, .b false, .b false, .b false, .b false, .b false, .b false, .i .i64 0, .i .i64 0])).get hx.nx = .cells 29 [.sn, .b false, .b false, .b false, .b false, .b false, .b false, .b false, .b false, .b false, .b false, .b false, .b false, .b false, .b false, .b false, .b false, .b false, .b false, .b false, .b false, .b false, .b false, .b false, .b false, .b false, .b false, .i .i64 0, .i .i64 0] := get_new_same
  have hvz := hvx.grow hcx gz
  have hcz := gz.hc hcx
  refine ⟨fresh_p (by simp (disch := omega) only [getK_set, ↓reduceIte]), ?_⟩
  refine (callP_0 (ef := f76) k.c76 rfl (f76_ret hvz hcz (by omega))).mono ?_
  rintro w h3 ⟨hs3, ho3, hg3⟩
  have ez3 : h3.get hx.nx = .cells 29 [.sn, .b false, .b false, .b false, .b false, .b false, .b false, .b false, .b false, .b false, .b false, .b false, .b false, .b false, .b false, .b false, .b false, .b false, .b false, .b false, .b false, .b false, .b false, .b false, .b false, .b false, .b false, .i .i64 0, .i .i64 0] := (hg3.old _ (by omega)).trans ez
  have eB3 : h3.get h1.nx = .cells 26 (B.map V.b) := by rw [hg3.old _ (by omega), gz.old _ (by omega), e2]
  have ldB3 := rd26 eB3 hBl
  have hnew : newOk h3 29 [.sn, .b false, .b false, .b false, .b false, .b false, .b false, .b false, .b false, .b false, .b false, .b false, .b false, .b false, .b false, .b false, .b false, .b false, .b false, .b false, .b false, .b false, .b false, .b false, .b false, .b false, .b false, .i .i64 0, .i .i64 0] (.p hx.nx 0) = true := by
    show (Nat.beq 0 0 && (h3.get hx.nx).onW false fun m cs => Nat.beq m 29 && beqL cs [.sn, .b false, .b false, .b false, .b false, .b false, .b false, .b false, .b false, .b false, .b false, .b false, .b false, .b false, .b false, .b false, .b false, .b false, .b false, .b false, .b false, .b false, .b false, .b false, .b false, .b false, .b false, .i .i64 0, .i .i64 0]) = true
    rw [ez3]; rfl
  have hbB : beqL (B.map V.b) (B.map V.b) = true := beqL_self fun x hx => by
    obtain ⟨b, _, rfl⟩ := List.mem_map.1 hx
    cases b <;> rfl
  have hbB2 : beqV (.agg (B.map V.b)) (.agg (B.map V.b)) = true := hbB
  have hcw : cellsN 1 w = some [w] := hs3.one
  have hn3 := hg3.nx
  have hf1 := fun (fr : Fr) (x y z : EO) (a : cellsN 1 (ev fr x) = some [w]) (b : ev fr y = .agg (B.map V.b)) (c : ev fr z = .i .i64 (m : Int)) => fill_gr3 (fr := fr) (x := x) (y := y) (z := z) (m := (m : Int)) a hBl b c
  have hst3 : storeV h3 29 (.p hx.nx 0) (.agg (grC w B (m : Int) 0)) = .ok undefV (h3.put hx.nx (.cells 29 (grC w B (m : Int) 0))) := by
    rw [store_p ez3 (gr_cells hBl) (by omega), setMany_eq _ _ _ (by rw [grC_len hBl]; simp)]
    simp [grC_len hBl, List.drop_eq_nil_of_le]
  simp (disch := omega) only [x_nil, kx, xg_build, xd_cons, putD_some]
  rw [hf1 _ _ _ _ (by simp (disch := omega) only [ev_t, getV_some, getK_set, ↓reduceIte, hcw]) (by simp (disch := omega) only [ev_t, getV_some, getK_set, Nat.reduceEqDiff, ↓reduceIte]) (by simp (disch := omega) only [ev_t, getV_some, getK_set, Nat.reduceEqDiff, ↓reduceIte])]
  simp (disch := omega) only [w_reg, w_seq, seqK_n, true_and, x_nil, x_st, kx, kg, xg_nil, xd_cons, fresh_nil, stK_n, stK_s, stay_nil, stay_cons, again_ok, stay_mv, beq_i, rvP_ok, ev_t, getV_some, putD_some, putD_none, oGet_s, getK_set, Nat.reduceEqDiff, ↓reduceIte, stay_ldn, ldB3, hbB2, stay_alloc, hnew, hst3]
  have gp := Grow.put (b := h.nx.nat) (h := h3) (k := hx.nx) (by have := hG2.nx; omega) (by omega) (.cells 29 (grC w B (m : Int) 0))
  have hG4 := hG2.trans ((gz.low hG2.nx).trans ((hg3.low (by have := hG2.nx; omega)).trans gp))
  have e4 : (h3.put hx.nx (.cells 29 (grC w B (m : Int) 0))).get hx.nx = .cells 29 (grC w B (m : Int) 0) := get_put_same
  have hs4 := (hs3.put (id := hx.nx) (fun off n sz e => by have := ho3 _ _ _ _ e; omega) (.cells 29 (grC w B (m : Int) 0))).sr
  generalize h3.put hx.nx (.cells 29 (grC w B (m : Int) 0)) = h4 at *
  have hc4 := hG4.hc hc
  have ld4 := gr_ldn hBl e4
  simp (disch := omega) only [f43_r5, x_ldn, x_call, kx, rvP_ok, ev_t, ev_c, evs_nil, evs_cons, getV_some, putD_some, getK_set, Nat.reduceEqDiff, ↓reduceIte, of25, ld4]
  by_cases hml : m < L.length
  · have eN : extN m L = none := by unfold extN; rw [if_pos hml]
    refine (callP_0 (ef := f77) k.c77 rfl (f77_over k.toCallsRu hBl hs4 hc4 (by omega))).mono ?_
    rintro r h5 ⟨rfl, hG5⟩
    simp (disch := omega) only [f43_r6, f43_rs, w_reg, w_seq, w_ret, seqK_n, retK_r, x_nil, x_mv, x_as, x_ext, kx, rvP_ok, okv_some, ev_t, ev_c, getV_some, putD_some, onTup_t, oGet_s, nth0, nth1, readRs_nil, readRs_t, retV_2, of0, Option.some.injEq, exists_eq_left', getK_set, Nat.reduceEqDiff, ↓reduceIte]
    rw [eN]
    exact ⟨.sn, rfl, rfl, hG4.trans (hG5.low hG4.nx)⟩
  · have eN : extN m L = extP 25 (m - L.length) L B := by
      unfold extN
      rw [if_neg hml, ext_eq (Int.le_refl _) _ hgood (by omega) hl25]
    refine (callP_0 (ef := f77) k.c77 rfl (f77_ret k.toCallsRu h7 (Int.le_refl _) hc4 hs4 hmk hl25 hBl (by omega))).mono ?_
    rintro r h5 ⟨⟨w5, rfl, hw5⟩, hG5⟩
    simp (disch := omega) only [f43_r6, f43_rs, w_reg, w_seq, w_ret, seqK_n, retK_r, x_nil, x_mv, x_as, x_ext, kx, rvP_ok, okv_some, ev_t, ev_c, getV_some, putD_some, onTup_t, oGet_s, nth0, nth1, readRs_nil, readRs_t, retV_2, of0, Option.some.injEq, exists_eq_left', getK_set, Nat.reduceEqDiff, ↓reduceIte]
    rw [eN]
    exact ⟨w5, rfl, hw5, hG4.trans (hG5.low hG4.nx)⟩
end
end Go.Ev
namespace Go.Ev
open Go Go.RowKit
noncomputable def f9_r0 : List EOper := [⟨(some (K.ofNat 4)), none, .as (.c (.b false))⟩]
noncomputable def f9_r1 : List EOper := [⟨(some (K.ofNat 17)), none, .mv (.t (K.ofNat 0))⟩, ⟨(some (K.ofNat 18)), none, .call (.c (.fn (K.ofNat 15) [])) [(.t (K.ofNat 17)), (.c (.i .i64 (.ofNat 9)))]⟩, ⟨(some (K.ofNat 5)), none, .as (.t (K.ofNat 18))⟩]
noncomputable def f9_r2 : List EOper := [⟨(some (K.ofNat 6)), none, .as (.c (.i .i64 (.ofNat 0)))⟩]
noncomputable def f9_r3 : List EOper := [⟨(some (K.ofNat 19)), none, .mv (.t (K.ofNat 6))⟩, ⟨(some (K.ofNat 20)), none, .bin .lss (.t (K.ofNat 19)) (.c (.i .i64 (.ofNat 2)))⟩]
noncomputable def f9_r4 : List EOper := [⟨(some (K.ofNat 24)), none, .mv (.t (K.ofNat 5))⟩, ⟨(some (K.ofNat 25)), none, .call (.c (.fn (K.ofNat 42) [])) [(.t (K.ofNat 24))]⟩, ⟨(some (K.ofNat 23)), none, .mv (.t (K.ofNat 25))⟩, ⟨(some (K.ofNat 26)), none, .ext (.t (K.ofNat 23)) 0⟩, ⟨(some (K.ofNat 27)), none, .ext (.t (K.ofNat 23)) 1⟩, ⟨(some (K.ofNat 7)), none, .as (.t (K.ofNat 26))⟩, ⟨(some (K.ofNat 8)), none, .as (.t (K.ofNat 27))⟩]
noncomputable def f9_r5 : List EOper := [⟨(some (K.ofNat 29)), none, .mv (.t (K.ofNat 5))⟩, ⟨(some (K.ofNat 30)), none, .mv (.t (K.ofNat 1))⟩, ⟨(some (K.ofNat 31)), none, .call (.c (.fn (K.ofNat 43) [])) [(.t (K.ofNat 29)), (.t (K.ofNat 30))]⟩, ⟨(some (K.ofNat 28)), none, .mv (.t (K.ofNat 31))⟩, ⟨(some (K.ofNat 32)), none, .ext (.t (K.ofNat 28)) 0⟩, ⟨(some (K.ofNat 33)), none, .ext (.t (K.ofNat 28)) 1⟩, ⟨(some (K.ofNat 34)), none, .ext (.t (K.ofNat 28)) 2⟩, ⟨(some (K.ofNat 9)), none, .as (.t (K.ofNat 32))⟩, ⟨(some (K.ofNat 10)), none, .as (.t (K.ofNat 33))⟩, ⟨(some (K.ofNat 11)), none, .as (.t (K.ofNat 34))⟩]
noncomputable def f9_r6 : List EOper := [⟨(some (K.ofNat 35)), none, .mv (.t (K.ofNat 5))⟩, ⟨(some (K.ofNat 36)), none, .call (.c (.fn (K.ofNat 44) [])) [(.t (K.ofNat 35))]⟩, ⟨(some (K.ofNat 12)), none, .as (.t (K.ofNat 36))⟩]
noncomputable def f9_r7 : List EOper := [⟨(some (K.ofNat 37)), none, .mv (.t (K.ofNat 8))⟩, ⟨(some (K.ofNat 38)), none, .bin .neq (.t (K.ofNat 37)) (.c (.i .i64 (.ofNat 0)))⟩, ⟨(some (K.ofNat 39)), none, .mv (.t (K.ofNat 38))⟩, ⟨(some (K.ofNat 40)), (some ((K.ofNat 39), false)), .mv (.t (K.ofNat 7))⟩, ⟨(some (K.ofNat 41)), (some ((K.ofNat 39), false)), .mv (.t (K.ofNat 12))⟩, ⟨(some (K.ofNat 42)), (some ((K.ofNat 39), false)), .eqk (.one none) true (.t (K.ofNat 40)) (.t (K.ofNat 41))⟩, ⟨(some (K.ofNat 43)), none, .pick (.t (K.ofNat 39)) (.c (.b true)) (.t (K.ofNat 42))⟩]
noncomputable def f9_r8 : List EOper := [⟨(some (K.ofNat 4)), none, .as (.c (.b false))⟩]
noncomputable def f9_r9 : List EOper := [⟨(some (K.ofNat 44)), none, .mv (.t (K.ofNat 12))⟩, ⟨(some (K.ofNat 45)), none, .not (.t (K.ofNat 44))⟩, ⟨(some (K.ofNat 46)), none, .mv (.t (K.ofNat 45))⟩, ⟨(some (K.ofNat 47)), (some ((K.ofNat 46), false)), .mv (.t (K.ofNat 1))⟩, ⟨(some (K.ofNat 48)), (some ((K.ofNat 46), false)), .bin .lss (.t (K.ofNat 47)) (.c (.i .i64 (.ofNat 2)))⟩, ⟨(some (K.ofNat 49)), none, .pick (.t (K.ofNat 46)) (.c (.b true)) (.t (K.ofNat 48))⟩, ⟨(some (K.ofNat 50)), none, .mv (.t (K.ofNat 49))⟩, ⟨(some (K.ofNat 51)), (some ((K.ofNat 50), false)), .mv (.t (K.ofNat 1))⟩, ⟨(some (K.ofNat 52)), (some ((K.ofNat 50), false)), .bin .gtr (.t (K.ofNat 51)) (.c (.i .i64 (.ofNat 7)))⟩, ⟨(some (K.ofNat 53)), none, .pick (.t (K.ofNat 50)) (.c (.b true)) (.t (K.ofNat 52))⟩]
noncomputable def f9_r10 : List EOper := [⟨(some (K.ofNat 54)), none, .mv (.t (K.ofNat 11))⟩, ⟨(some (K.ofNat 55)), none, .bin .neq (.t (K.ofNat 54)) (.c (.i .i64 (.ofNat 1)))⟩, ⟨(some (K.ofNat 56)), none, .mv (.t (K.ofNat 55))⟩, ⟨(some (K.ofNat 57)), (some ((K.ofNat 56), false)), .mv (.t (K.ofNat 10))⟩, ⟨(some (K.ofNat 58)), none, .pick (.t (K.ofNat 56)) (.c (.b true)) (.t (K.ofNat 57))⟩, ⟨(some (K.ofNat 59)), none, .mv (.t (K.ofNat 58))⟩, ⟨(some (K.ofNat 60)), (some ((K.ofNat 59), false)), .mv (.t (K.ofNat 9))⟩, ⟨(some (K.ofNat 61)), (some ((K.ofNat 59), false)), .len (.t (K.ofNat 60))⟩, ⟨(some (K.ofNat 62)), (some ((K.ofNat 59), false)), .bin .neq (.t (K.ofNat 61)) (.c (.i .i64 (.ofNat 0)))⟩, ⟨(some (K.ofNat 63)), none, .pick (.t (K.ofNat 59)) (.c (.b true)) (.t (K.ofNat 62))⟩]
noncomputable def f9_r11 : List EOper := [⟨(some (K.ofNat 4)), none, .as (.c (.b false))⟩]
noncomputable def f9_r12 : List EOper := [⟨(some (K.ofNat 64)), none, .mv (.t (K.ofNat 5))⟩, ⟨(some (K.ofNat 65)), none, .mv (.t (K.ofNat 1))⟩, ⟨(some (K.ofNat 66)), none, .call (.c (.fn (K.ofNat 45) [])) [(.t (K.ofNat 64)), (.t (K.ofNat 65)), (.c (.i .i64 (.ofNat 25)))]⟩, ⟨(some (K.ofNat 13)), none, .as (.t (K.ofNat 66))⟩]
noncomputable def f9_r13 : List EOper := [⟨(some (K.ofNat 67)), none, .mv (.t (K.ofNat 11))⟩, ⟨(some (K.ofNat 68)), none, .bin .neq (.t (K.ofNat 67)) (.c (.i .i64 (.ofNat 0)))⟩, ⟨(some (K.ofNat 69)), none, .mv (.t (K.ofNat 68))⟩, ⟨(some (K.ofNat 70)), (some ((K.ofNat 69), false)), .mv (.t (K.ofNat 10))⟩, ⟨(some (K.ofNat 71)), (some ((K.ofNat 69), false)), .mv (.t (K.ofNat 13))⟩, ⟨(some (K.ofNat 72)), (some ((K.ofNat 69), false)), .isnil true (.t (K.ofNat 71))⟩, ⟨(some (K.ofNat 73)), (some ((K.ofNat 69), false)), .eqk (.one none) true (.t (K.ofNat 70)) (.t (K.ofNat 72))⟩, ⟨(some (K.ofNat 74)), none, .pick (.t (K.ofNat 69)) (.c (.b true)) (.t (K.ofNat 73))⟩, ⟨(some (K.ofNat 75)), none, .mv (.t (K.ofNat 74))⟩, ⟨(some (K.ofNat 76)), (some ((K.ofNat 75), false)), .mv (.t (K.ofNat 9))⟩, ⟨(some (K.ofNat 77)), (some ((K.ofNat 75), false)), .mv (.t (K.ofNat 13))⟩, ⟨(some (K.ofNat 78)), (some ((K.ofNat 75), false)), .call (.c (.fn (K.ofNat 30) [])) [(.t (K.ofNat 76)), (.t (K.ofNat 77))]⟩, ⟨(some (K.ofNat 79)), (some ((K.ofNat 75), false)), .not (.t (K.ofNat 78))⟩, ⟨(some (K.ofNat 80)), none, .pick (.t (K.ofNat 75)) (.c (.b true)) (.t (K.ofNat 79))⟩]
noncomputable def f9_r14 : List EOper := [⟨(some (K.ofNat 4)), none, .as (.c (.b false))⟩]
noncomputable def f9_r15 : List EOper := [⟨(some (K.ofNat 81)), none, .bslice 1 1 [(.i .i64 (.ofNat 0))] [(0, 1, (.c (.i .i64 (.ofNat 0))))]⟩, ⟨(some (K.ofNat 14)), none, .as (.t (K.ofNat 81))⟩]
noncomputable def f9_r16 : List EOper := [⟨(some (K.ofNat 15)), none, .as (.c (.i .i64 (.ofNat 0)))⟩]
noncomputable def f9_r17 : List EOper := [⟨(some (K.ofNat 82)), none, .mv (.t (K.ofNat 15))⟩, ⟨(some (K.ofNat 83)), none, .mv (.t (K.ofNat 5))⟩, ⟨(some (K.ofNat 84)), none, .len (.t (K.ofNat 83))⟩, ⟨(some (K.ofNat 85)), none, .bin .lss (.t (K.ofNat 82)) (.t (K.ofNat 84))⟩, ⟨(some (K.ofNat 86)), none, .mv (.t (K.ofNat 85))⟩, ⟨(some (K.ofNat 87)), (some ((K.ofNat 86), true)), .mv (.t (K.ofNat 14))⟩, ⟨(some (K.ofNat 88)), (some ((K.ofNat 86), true)), .len (.t (K.ofNat 87))⟩, ⟨(some (K.ofNat 89)), (some ((K.ofNat 86), true)), .bin .lss (.t (K.ofNat 88)) (.c (.i .i64 (.ofNat 6)))⟩, ⟨(some (K.ofNat 90)), none, .pick (.t (K.ofNat 86)) (.t (K.ofNat 89)) (.c (.b false))⟩]
noncomputable def f9_r18 : List EOper := [⟨(some (K.ofNat 16)), none, .as (.c .sn)⟩]
noncomputable def f9_r19 : List EOper := [⟨(some (K.ofNat 93)), none, .mv (.t (K.ofNat 16))⟩, ⟨(some (K.ofNat 94)), none, .mv (.t (K.ofNat 14))⟩, ⟨(some (K.ofNat 95)), none, .app 1 (.t (K.ofNat 93)) (.t (K.ofNat 94))⟩, ⟨(some (K.ofNat 16)), none, .as (.t (K.ofNat 95))⟩]
noncomputable def f9_r20 : List Stage := [⟨[⟨(some (K.ofNat 96)), none, .mv (.t (K.ofNat 16))⟩, ⟨(some (K.ofNat 97)), none, .mv (.t (K.ofNat 14))⟩, ⟨(some (K.ofNat 98)), none, .mv (.t (K.ofNat 14))⟩, ⟨(some (K.ofNat 99)), none, .len (.t (K.ofNat 98))⟩, ⟨(some (K.ofNat 100)), none, .bin .sub (.t (K.ofNat 99)) (.c (.i .i64 (.ofNat 1)))⟩, ⟨(some (K.ofNat 101)), none, .iads 1 (.t (K.ofNat 97)) (.t (K.ofNat 100))⟩, ⟨(some (K.ofNat 102)), none, .ld (.t (K.ofNat 101))⟩, ⟨(some (K.ofNat 103)), none, .bin .add (.t (K.ofNat 102)) (.c (.i .i64 (.ofNat 1)))⟩, ⟨(some (K.ofNat 104)), none, .mv (.t (K.ofNat 5))⟩, ⟨(some (K.ofNat 105)), none, .mv (.t (K.ofNat 15))⟩, ⟨(some (K.ofNat 106)), none, .iads 1 (.t (K.ofNat 104)) (.t (K.ofNat 105))⟩, ⟨(some (K.ofNat 107)), none, .ld (.t (K.ofNat 106))⟩, ⟨(some (K.ofNat 108)), none, .conv .u64 (.t (K.ofNat 107))⟩, ⟨(some (K.ofNat 109)), none, .bin .rem (.t (K.ofNat 108)) (.c (.i .u64 (.ofNat 7)))⟩, ⟨(some (K.ofNat 110)), none, .conv .i64 (.t (K.ofNat 109))⟩, ⟨(some (K.ofNat 111)), none, .bin .add (.t (K.ofNat 103)) (.t (K.ofNat 110))⟩, ⟨(some (K.ofNat 112)), none, .bslice 1 1 [(.i .i64 (.ofNat 0))] [(0, 1, (.t (K.ofNat 111)))]⟩], [], (some ⟨(some (K.ofNat 113)), none, .app 1 (.t (K.ofNat 96)) (.t (K.ofNat 112))⟩), [(K.ofNat 112)]⟩, ⟨[], [], (some ⟨(some (K.ofNat 16)), none, .as (.t (K.ofNat 113))⟩), []⟩, ⟨[], [], none, []⟩]
noncomputable def f9_r21 : List EOper := [⟨(some (K.ofNat 114)), none, .mv (.t (K.ofNat 16))⟩, ⟨(some (K.ofNat 115)), none, .call (.c (.fn (K.ofNat 44) [])) [(.t (K.ofNat 114))]⟩]
noncomputable def f9_r22 : List EOper := [⟨(some (K.ofNat 116)), none, .mv (.t (K.ofNat 16))⟩, ⟨(some (K.ofNat 14)), none, .as (.t (K.ofNat 116))⟩]
noncomputable def f9_r23 : List EOper := [⟨(some (K.ofNat 91)), none, .mv (.t (K.ofNat 15))⟩, ⟨(some (K.ofNat 92)), none, .bin .add (.t (K.ofNat 91)) (.c (.i .i64 (.ofNat 1)))⟩, ⟨(some (K.ofNat 15)), none, .as (.t (K.ofNat 92))⟩]
noncomputable def f9_l0 : EC := (.seq (.seq (.reg f9_r17) (.cond (.t (K.ofNat 90)) .skip (.exit 2))) (.seq (.block 3 (.seq (.reg f9_r18) (.seq (.reg f9_r19) (.seq (.draw f9_r20) (.seq (.reg f9_r21) (.cond (.t (K.ofNat 115)) (.reg f9_r22) .skip)))))) (.reg f9_r23)))
noncomputable def f9_r24 : List EOper := [⟨(some (K.ofNat 117)), none, .mv (.t (K.ofNat 14))⟩, ⟨(some (K.ofNat 118)), none, .len (.t (K.ofNat 117))⟩, ⟨(some (K.ofNat 119)), none, .bin .lss (.t (K.ofNat 118)) (.c (.i .i64 (.ofNat 2)))⟩]
noncomputable def f9_r25 : List EOper := [⟨(some (K.ofNat 120)), none, .mv (.t (K.ofNat 14))⟩, ⟨(some (K.ofNat 121)), none, .bslice 1 1 [(.i .i64 (.ofNat 0))] [(0, 1, (.c (.i .i64 (.ofNat 1))))]⟩, ⟨(some (K.ofNat 122)), none, .app 1 (.t (K.ofNat 120)) (.t (K.ofNat 121))⟩, ⟨(some (K.ofNat 14)), none, .as (.t (K.ofNat 122))⟩]
noncomputable def f9_r26 : List EOper := [⟨(some (K.ofNat 123)), none, .mv (.t (K.ofNat 14))⟩, ⟨(some (K.ofNat 5)), none, .as (.t (K.ofNat 123))⟩]
noncomputable def f9_r27 : List EOper := [⟨(some (K.ofNat 124)), none, .mv (.t (K.ofNat 1))⟩, ⟨(some (K.ofNat 125)), none, .conv .u64 (.t (K.ofNat 124))⟩, ⟨(some (K.ofNat 126)), none, .bin .rem (.t (K.ofNat 125)) (.c (.i .u64 (.ofNat 6)))⟩, ⟨(some (K.ofNat 127)), none, .conv .i64 (.t (K.ofNat 126))⟩, ⟨(some (K.ofNat 128)), none, .bin .add (.c (.i .i64 (.ofNat 2))) (.t (K.ofNat 127))⟩, ⟨(some (K.ofNat 1)), none, .as (.t (K.ofNat 128))⟩]
noncomputable def f9_r28 : List EOper := [⟨(some (K.ofNat 21)), none, .mv (.t (K.ofNat 6))⟩, ⟨(some (K.ofNat 22)), none, .bin .add (.t (K.ofNat 21)) (.c (.i .i64 (.ofNat 1)))⟩, ⟨(some (K.ofNat 6)), none, .as (.t (K.ofNat 22))⟩]
noncomputable def f9_l1 : EC := (.seq (.seq (.reg f9_r3) (.cond (.t (K.ofNat 20)) .skip (.exit 0))) (.seq (.block 1 (.seq (.reg f9_r4) (.seq (.reg f9_r5) (.seq (.reg f9_r6) (.seq (.seq (.reg f9_r7) (.cond (.t (K.ofNat 43)) (.seq (.reg f9_r8) .ret) .skip)) (.seq (.seq (.reg f9_r9) (.cond (.t (K.ofNat 53)) (.seq (.reg f9_r10) (.cond (.t (K.ofNat 63)) (.seq (.reg f9_r11) .ret) .skip)) (.seq (.reg f9_r12) (.seq (.reg f9_r13) (.cond (.t (K.ofNat 80)) (.seq (.reg f9_r14) .ret) .skip))))) (.seq (.reg f9_r15) (.seq (.seq (.reg f9_r16) (.block 2 (.loop f9_l0))) (.seq (.seq (.reg f9_r24) (.cond (.t (K.ofNat 119)) (.reg f9_r25) .skip)) (.seq (.reg f9_r26) (.reg f9_r27))))))))))) (.reg f9_r28)))
noncomputable def f9_r29 : List EOper := [⟨(some (K.ofNat 129)), none, .call (.c (.fn (K.ofNat 23) [])) []⟩, ⟨(some (K.ofNat 4)), none, .as (.t (K.ofNat 129))⟩]
noncomputable def f9_c : EC := (.seq (.reg f9_r0) (.seq (.reg f9_r1) (.seq (.seq (.reg f9_r2) (.block 0 (.loop f9_l1))) (.seq (.reg f9_r29) .ret))))
noncomputable def f9 : EF := ⟨130, [.tmp (K.ofNat 4)], f9_c, none⟩
theorem f9_rs : f9.rs = [.tmp (K.ofNat 4)] := of_eq_true (eq_self _)
theorem rem_k (x : Int) {k : Nat} (hk : 0 < k) (hk2 : k ≤ 1000) : ∃ q : Nat, q < k ∧ fw .i64 ((fw .u64 x).tmod (k : Int)) = (q : Int) := by
  have h0 : 0 ≤ fw .u64 x := by rw [fw_eq]; exact Int.emod_nonneg _ (by decide)
  obtain ⟨m, hm⟩ := Int.eq_ofNat_of_zero_le h0
  have h1 : (fw .u64 x).tmod (k : Int) = ((m % k : Nat) : Int) := by rw [hm]; rfl
  have h2 : m % k < k := Nat.mod_lt _ hk
  exact ⟨m % k, by omega, by rw [h1, fw64 (by omega) (by omega)]⟩
structure CallsRs (fs : T EF) : Prop extends CallsEx fs, CallsRx fs where
  c15 : fs.get (K.ofNat 15) = some f15
  c30 : fs.get (K.ofNat 30) = some f30
  c42 : fs.get (K.ofNat 42) = some f42
  c43 : fs.get (K.ofNat 43) = some f43
  aw : ∀ h P, CallP fs (.fn (K.ofNat 23) []) [] h P = P (.b true) h
section
variable {fs : T EF} {ro : Option K}
def NxOk (N : List Int) : Prop := (N = [0] ∨ rulB N = true) ∧ N.length ≤ 6
theorem NxOk.bd {N : List Int} (h : NxOk N) : N ≠ [] ∧ 0 ≤ N.getLastD 0 ∧ N.getLastD 0 ≤ 25 := by
  rcases h.1 with rfl | hr
  · exact ⟨by simp, by simp, by simp⟩
  · obtain ⟨B, _, _, hmk, hl, h2, _⟩ := rul_good hr
    refine ⟨hmk.ne, ?_, hl⟩
    have := hmk.bd _ (List.getElem_mem (l := N) (n := N.length - 1) (by omega))
    rw [getLast_at hmk.ne] at this; omega
def f9_J (h0 : H) (w : V) (X : List Int) (n rd : Int) (i : Nat) (fr : Fr) (h1 : H) : Prop := i ≤ X.length ∧ ∃ u N, NxOk N ∧ Sl iE h1 u N ∧ Own h0.nx.nat u ∧ Grow h0.nx.nat h0 h1 ∧ fr.get (K.ofNat 1) = some (.i .i64 n) ∧ fr.get (K.ofNat 5) = some (w) ∧ fr.get (K.ofNat 6) = some (.i .i64 rd) ∧ fr.get (K.ofNat 14) = some (u) ∧ fr.get (K.ofNat 15) = some (.i .i64 (i : Int))
theorem f9_inner {C : Ex → Fr → H → Prop} {h0 hs : H} {w : V} {X : List Int} {n rd : Int} {fr : Fr} (c44 : fs.get (K.ofNat 44) = some f44) (hw : Sr iE h0 w X) (hc : HC h0) (hX : X.length ≤ 9)
    (hi : f9_J h0 w X n rd 0 fr hs)
    (hq : ∀ fr h1 u N, NxOk N → Sl iE h1 u N → Own h0.nx.nat u → Grow h0.nx.nat h0 h1 → fr.get (K.ofNat 1) = some (.i .i64 n) ∧ fr.get (K.ofNat 5) = some (w) ∧ fr.get (K.ofNat 6) = some (.i .i64 rd) ∧ fr.get (K.ofNat 14) = some (u) → C (.exit 2) fr h1) : W fs ro (.loop f9_l0) C fr hs := by
  refine W_loop (f9_J h0 w X n rd) (fun i => X.length - i) ?_ 0 hi
  clear hi fr hs
  rintro i fr h1 ⟨hi, u, N, hN, hsu, hou, hG, g1, g5, g6, g14, g15⟩
  have hc1 := hG.hc hc
  have hw1 := hw.grow hc hG
  obtain ⟨hne, hl0, hl25⟩ := hN.bd
  have hpos := List.length_pos_iff.2 hne
  have hN6 := hN.2
  unfold f9_l0
  by_cases hlt : i < X.length
  · have d0 : decide ((i : Int) < (X.length : Int)) = true := by simpa using hlt
    by_cases h6 : N.length < 6
    · have d1 : decide ((N.length : Int) < 6) = true := by simp; omega
      obtain ⟨v1, h2, a1, s1, o1, gr1, kp1⟩ := Sl.appR (e := iE) (b := h0.nx.nat) (h := h1) (v := .sn) (L := []) Sl.nil Own.sn hG.nx hsu.sr hc1 (by simp; omega)
      rw [List.nil_append] at s1
      have hG2 := hG.trans gr1
      have hc2 := gr1.hc hc1
      have hw2 := hw.grow hc hG2
      have hsu2 : Sl iE h2 u N := hsu.same fun id off n sz e => (kp1 id (hsu.lt hc1 _ _ _ _ e) NotIn.sn).1
      obtain ⟨p, hp1, hp2, hp3⟩ := hsu2.atb (N.length - 1) (by omega)
      rw [getLast_at hne] at hp2
      have ei : ((N.length - 1 : Nat) : Int) = (N.length : Int) - 1 := by omega
      rw [ei] at hp1
      obtain ⟨q, hq1, hq2, hq3⟩ := hw2.atb i hlt
      obtain ⟨r, hr7, hre⟩ := rem_k X[i] (k := 7) (by omega) (by omega)
      have hre : fw .i64 ((fw .u64 X[i]).tmod 7) = (r : Int) := hre
      obtain ⟨v3, h3, a3, s3, o3, gr3, kp3⟩ := Sl.push (e := iE) (x := N.getLastD 0 + 1 + (r : Int)) (c := .i .i64 (N.getLastD 0 + 1 + (r : Int))) rfl s1 o1 hG2.nx hc2 (by omega)
      have hub := hsu.sr.beq
      have hwb := hw.beq
      have h1b := s1.sr.beq
      simp (disch := omega) only [f9_r17, f9_r18, f9_r19, f9_r20, w_skip, w_reg, w_draw, w_seq, w_cond, w_block, seqK_n, ckB_b, cbB_b, okG_b, asG_t, true_and, x_nil, x_g, x_mv, x_as, x_pick, x_bin, x_len, x_app, kx, kg, xg_nil, xg_mv, xg_ld, xg_bin, xg_conv, xg_iads, xg_len, xg_bslice, xd_cons, fresh_nil, stK_n, stK_s, stay_nil, rvP_ok, okv_some, ev_t, ev_c, getV_some, putD_some, bin_add, bin_sub, bin_lss, bin_rem, pick_b, onI_i, oGet_s, cells1_i, fill_1, set_1, of0, of1, of6, Option.some.injEq, exists_eq_left', getK_set, Nat.reduceEqDiff, ↓reduceIte, of7, g5, g14, g15, hw1.len, hsu.sr.len, d0, d1, a1, hp1, hp2, hq1, hq2, iE, fw64, hre, hc2.dead, fill_1, set_1, a3]
      refine ⟨fresh_one (n := 1) (sz := 1) (by simp (disch := omega) only [getK_set, ↓reduceIte]), ?_⟩
      have hG3 := hG2.trans gr3
      have hc3 := gr3.hc hc2
      have hsu3 : Sl iE h3 u N := hsu2.same fun id off n sz e => (kp3 id (by have := hsu.lt hc1 _ _ _ _ e; have := gr1.nx; omega) (kp1 id (hsu.lt hc1 _ _ _ _ e) NotIn.sn).2).1
      simp (disch := omega) only [f9_r21, x_mv, x_call, ev_t, ev_c, evs_nil, evs_cons, getV_some, putD_some, getK_set, ↓reduceIte]
      refine (callP_0 (ef := f44) c44 rfl (f44_ret s3.sr hc3 (by simp; omega))).mono ?_
      rintro r4 h4 ⟨rfl, hG4⟩
      have hG5 := hG3.trans (hG4.low hG3.nx)
      have hs34 := s3.grow hc3 hG4
      have hsu4 := hsu3.grow hc3 hG4
      cases hr : rulB (N ++ [N.getLastD 0 + 1 + (r : Int)]) with
      | true =>
        simp (disch := omega) only [f9_r22, f9_r23, w_reg, w_cond, seqK_n, atK_n, loopK_n, ckB_b, cbB_b, true_and, x_nil, x_mv, x_as, x_bin, kx, rvP_ok, okv_some, ev_t, ev_c, getV_some, putD_some, bin_add, of1, getK_set, Nat.reduceEqDiff, ↓reduceIte, g15, fw64]
        exact ⟨i + 1, by omega, hlt, v3, _, ⟨.inr hr, by simp; omega⟩, hs34, o3, hG5, by simp (disch := omega) only [getK_set, Nat.reduceEqDiff, ↓reduceIte, g1, g5, g6, and_self, Int.natCast_add, Int.natCast_one]⟩
      | false =>
        simp (disch := omega) only [f9_r23, w_skip, w_reg, w_cond, seqK_n, atK_n, loopK_n, ckB_b, cbB_b, true_and, x_nil, x_mv, x_as, x_bin, kx, rvP_ok, okv_some, ev_t, ev_c, getV_some, putD_some, bin_add, of1, getK_set, Nat.reduceEqDiff, ↓reduceIte, Bool.false_eq_true, g15, fw64]
        exact ⟨i + 1, by omega, hlt, u, N, hN, hsu4, hou, hG5, by simp (disch := omega) only [getK_set, Nat.reduceEqDiff, ↓reduceIte, g1, g5, g6, g14, and_self, Int.natCast_add, Int.natCast_one]⟩
    · have d1 : decide ((N.length : Int) < 6) = false := by simp; omega
      simp (disch := omega) only [f9_r17, w_reg, w_seq, w_cond, w_exit, seqK_n, seqK_e, loopK_e, ckB_b, cbB_b, okG_b, asG_t, true_and, x_nil, x_g, x_mv, x_pick, x_bin, x_len, kx, rvP_ok, okv_some, ev_t, ev_c, getV_some, putD_some, bin_lss, pick_b, of6, getK_set, Nat.reduceEqDiff, ↓reduceIte, Bool.false_eq_true, g5, g14, g15, hw1.len, hsu.sr.len, d0, d1]
      exact hq _ _ u N hN hsu hou hG (by simp (disch := omega) only [getK_set, Nat.reduceEqDiff, ↓reduceIte, g1, g5, g6, g14, and_self])
  · have d0 : decide ((i : Int) < (X.length : Int)) = false := by simpa using hlt
    simp (disch := omega) only [f9_r17, w_reg, w_seq, w_cond, w_exit, seqK_n, seqK_e, loopK_e, ckB_b, cbB_b, okG_b, asG_t, true_and, x_nil, x_g, x_mv, x_pick, x_bin, x_len, kx, rvP_ok, okv_some, ev_t, ev_c, getV_some, putD_some, bin_lss, pick_b, of6, getK_set, Nat.reduceEqDiff, ↓reduceIte, Bool.false_eq_true, g5, g15, hw1.len, d0]
    exact hq _ _ u N hN hsu hou hG (by simp (disch := omega) only [getK_set, Nat.reduceEqDiff, ↓reduceIte, g1, g5, g6, g14, and_self])
def f9_I (h : H) (i : Nat) (fr : Fr) (h1 : H) : Prop := i ≤ 2 ∧ ∃ w X n, Sr iE h1 w X ∧ X.length ≤ 9 ∧ Grow h.nx.nat h h1 ∧ fr.get (K.ofNat 1) = some (.i .i64 n) ∧ fr.get (K.ofNat 5) = some (w) ∧ fr.get (K.ofNat 6) = some (.i .i64 (i : Int))
noncomputable def f9_t : EC := .seq (.reg f9_r15) (.seq (.seq (.reg f9_r16) (.block 2 (.loop f9_l0))) (.seq (.seq (.reg f9_r24) (.cond (.t (K.ofNat 119)) (.reg f9_r25) .skip)) (.seq (.reg f9_r26) (.reg f9_r27))))
theorem f9_ret {h : H} {v : V} {L : List Int} {n : Int} (k : CallsRs fs) (hv : Sr iE h v L) (hc : HC h) : Ret fs f9 [v, .i .i64 n] h fun r h' => r = .b true ∧ Grow h.nx.nat h h' := by
  have aw := k.aw
  apply ret_of rfl
  show W fs none f9_c _ _ _
  unfold f9_c
  simp (disch := omega) only [f9_r0, f9_r1, w_reg, w_seq, seqK_n, x_nil, x_mv, x_as, x_call, ev_t, ev_c, evs_nil, evs_cons, getV_some, putD_some, frame_2, getK_set, Nat.reduceEqDiff, ↓reduceIte, of9]
  refine (callP_0 (ef := f15) k.c15 rfl (f15_sr (m := 9) hv hc (by omega))).mono ?_
  rintro w h1 ⟨hsw, _, hG1⟩
  simp (disch := omega) only [f9_r2, w_reg, w_seq, w_block, seqK_n, x_nil, x_as, kx, ev_t, ev_c, getV_some, putD_some, of0, getK_set, ↓reduceIte]
  refine W_loop (f9_I h) (fun i => 2 - i) ?_ 0 ⟨by omega, w, _, n, hsw.sr, by simp; omega, hG1, by simp (disch := omega) only [getK_set, Nat.reduceEqDiff, ↓reduceIte, and_self, Int.natCast_zero]⟩
  clear hsw hG1
  rintro i fr h1 ⟨hi, w, X, n, hw, hX, hG, g1, g5, g6⟩
  have hc1 := hG.hc hc
  unfold f9_l1
  by_cases hlt : i < 2
  · have d0 : decide ((i : Int) < 2) = true := by simp; omega
    have ne0 : decide ((0 : Int) ≠ 0) = false := rfl
    have ne1 : decide ((1 : Int) ≠ 1) = false := rfl
    have kb : ∀ a b, keyEq (.one none) (.b a) (.b b) = some (a == b) := fun _ _ => rfl
    have bb : ∀ a : Bool, (a == a) = true := fun a => by cases a <;> rfl
    have rest : ∀ fr h3, Grow h.nx.nat h h3 → Sr iE h3 w X → fr.get (K.ofNat 1) = some (.i .i64 n) ∧ fr.get (K.ofNat 5) = some (w) ∧ fr.get (K.ofNat 6) = some (.i .i64 (i : Int)) →
        W fs none f9_t (atK 1 (seqK (W fs none (.reg f9_r28)) (loopK (f9_I h) (fun i => 2 - i) i (atK 0 (seqK (W fs none (.seq (.reg f9_r29) .ret)) (retK f9 fun u h' => u = .b true ∧ Grow h.nx.nat h h')))))) fr h3 := by
      clear g1 g5 g6 fr
      rintro fr h3 hG3 hw3 ⟨g1, g5, g6⟩
      have hc3 := hG3.hc hc
      unfold f9_t
      have hs0 := Sl.lit (e := iE) (x := 0) (h := h3)
      have gl := Grow.new (Nat.le_refl h3.nx.nat) (.cells (1 * 1) [.i .i64 0])
      simp (disch := omega) only [f9_r15, f9_r16, w_reg, w_seq, w_block, seqK_n, x_nil, x_as, x_bslice, kx, rvP_ok, ev_t, ev_c, getV_some, putD_some, oGet_s, cells1_i, fill_1, set_1, of0, getK_set, ↓reduceIte, fill_1, set_1]
      refine f9_inner (h0 := h3) (X := X) (n := n) (rd := (i : Int)) k.c44 hw3 hc3 hX ⟨by omega, _, [0], ⟨.inl rfl, by simp⟩, hs0, fun _ _ _ _ e => by cases e; exact Nat.le_refl _, gl, by simp (disch := omega) only [getK_set, Nat.reduceEqDiff, ↓reduceIte, g1, g5, g6, and_self, Int.natCast_zero]⟩ ?_
      clear g1 g5 g6 fr hs0 gl
      rintro fr h4 u N hN hsu hou hG4 ⟨g1, g5, g6, g14⟩
      have hG5 := hG3.trans (hG4.low hG3.nx)
      have hc4 := hG4.hc hc3
      obtain ⟨hne, hl0, hl25⟩ := hN.bd
      have hN6 := hN.2
      obtain ⟨q, hq6, hqe⟩ := rem_k n (k := 6) (by omega) (by omega)
      have hqe : fw .i64 ((fw .u64 n).tmod 6) = (q : Int) := hqe
      have e28 : ∀ (fr : Fr) (h5 : H) (u : V) (M : List Int), M.length ≤ 9 → Sr iE h5 u M → Grow h.nx.nat h h5 → fr.get (K.ofNat 1) = some (.i .i64 (2 + (q : Int))) ∧ fr.get (K.ofNat 5) = some (u) ∧ fr.get (K.ofNat 6) = some (.i .i64 (i : Int)) → Go.Ev.X fs f9_r28 (loopK (f9_I h) (fun i => 2 - i) i (atK 0 (seqK (W fs none (.seq (.reg f9_r29) .ret)) (retK f9 fun u h' => u = .b true ∧ Grow h.nx.nat h h'))) .normal) fr h5 := by
        rintro fr h5 u M hM hsM hGM ⟨g1, g5, g6⟩
        simp (disch := omega) only [f9_r28, loopK_n, x_nil, x_mv, x_as, x_bin, kx, rvP_ok, okv_some, ev_t, ev_c, getV_some, putD_some, bin_add, of1, getK_set, ↓reduceIte, g6, fw64]
        exact ⟨i + 1, by omega, by omega, u, M, 2 + (q : Int), hsM, hM, hGM, by simp (disch := omega) only [getK_set, Nat.reduceEqDiff, ↓reduceIte, g1, g5, and_self, Int.natCast_add, Int.natCast_one]⟩
      by_cases h2 : N.length < 2
      · have d1 : decide ((N.length : Int) < 2) = true := by simp; omega
        obtain ⟨v3, h5, a3, s3, o3, gr3, _⟩ := Sl.push (e := iE) (x := 1) (c := .i .i64 1) rfl hsu hou hG4.nx hc4 (by omega)
        simp (disch := omega) only [f9_r24, f9_r25, f9_r26, f9_r27, w_reg, w_seq, w_cond, seqK_n, atK_n, atK_e, ckB_b, cbB_b, true_and, x_nil, x_mv, x_as, x_bslice, x_bin, x_conv, x_len, x_app, kx, rvP_ok, okv_some, ev_t, ev_c, getV_some, putD_some, bin_add, bin_lss, bin_rem, onI_i, oGet_s, cells1_i, fill_1, set_1, of0, of1, of2, of6, getK_set, Nat.reduceEqDiff, ↓reduceIte, g1, g14, hsu.sr.len, d1, fill_1, set_1, a3, fw64, hqe]
        exact e28 _ _ v3 _ (by simp; omega) s3.sr (hG3.trans ((hG4.trans gr3).low hG3.nx)) (by simp (disch := omega) only [getK_set, Nat.reduceEqDiff, ↓reduceIte, g6, and_self])
      · have d1 : decide ((N.length : Int) < 2) = false := by simp; omega
        simp (disch := omega) only [f9_r24, f9_r26, f9_r27, w_skip, w_reg, w_seq, w_cond, seqK_n, atK_n, atK_e, ckB_b, cbB_b, true_and, x_nil, x_mv, x_as, x_bin, x_conv, x_len, kx, rvP_ok, okv_some, ev_t, ev_c, getV_some, putD_some, bin_add, bin_lss, bin_rem, onI_i, of2, of6, getK_set, Nat.reduceEqDiff, ↓reduceIte, Bool.false_eq_true, g1, g14, hsu.sr.len, d1, fw64, hqe]
        exact e28 _ _ u N (by omega) hsu.sr hG5 (by simp (disch := omega) only [getK_set, Nat.reduceEqDiff, ↓reduceIte, g6, and_self])
    simp (disch := omega) only [f9_r3, f9_r4, w_skip, w_reg, w_seq, w_cond, w_block, seqK_n, ckB_b, cbB_b, true_and, x_nil, x_mv, x_bin, x_call, kx, rvP_ok, okv_some, ev_t, ev_c, evs_nil, evs_cons, getV_some, putD_some, bin_lss, of2, getK_set, Nat.reduceEqDiff, ↓reduceIte, g5, g6, d0]
    refine (callP_0 (ef := f42) k.c42 rfl (f42_ret k.c75 k.c100 hw hc1 (by omega))).mono ?_
    rintro r h2 ⟨rfl, hG2⟩
    have hGb := hG.trans (hG2.low hG.nx)
    have hc2 := hG2.hc hc1
    have hw2 := hw.grow hc1 hG2
    simp (disch := omega) only [f9_r5, w_reg, w_seq, seqK_n, x_nil, x_mv, x_as, x_ext, x_call, kx, rvP_ok, okv_some, ev_t, ev_c, evs_nil, evs_cons, getV_some, putD_some, onTup_t, nth0, nth1, getK_set, Nat.reduceEqDiff, ↓reduceIte, g1, g5]
    by_cases hcase : rulB X = false ∨ n < 2 ∨ 7 < n
    · refine (callP_0 (ef := f43) k.c43 rfl (f43_err k.toCallsEx hw2 hc2 (by omega) hcase)).mono ?_
      rintro r h3 ⟨rfl, hG3⟩
      have hGc := hGb.trans (hG3.low hGb.nx)
      have hc3 := hG3.hc hc2
      have hw3 := hw2.grow hc2 hG3
      simp (disch := omega) only [f9_r6, w_reg, w_seq, seqK_n, x_nil, x_mv, x_as, x_ext, x_call, kx, rvP_ok, okv_some, ev_t, ev_c, evs_nil, evs_cons, getV_some, putD_some, onTup_t, nth0, nth1, nth2, getK_set, Nat.reduceEqDiff, ↓reduceIte, g5]
      refine (callP_0 (ef := f44) k.c44 rfl (f44_ret hw3 hc3 (by omega))).mono ?_
      rintro r h4 ⟨rfl, hG4⟩
      have hGd := hGc.trans (hG4.low hGc.nx)
      have hw4 := hw3.grow hc3 hG4
      have l0 : ∀ h1, lenV .sn h1 = .ok (.i .i64 0) h1 := fun _ => rfl
      cases hr : rulB X with
      | false =>
        simp (disch := omega) only [f9_r7, f9_r9, f9_r10, w_skip, w_reg, w_seq, w_cond, seqK_n, ckB_b, cbB_b, okG_b, asG_f, true_and, x_nil, x_g, x_mv, x_as, x_pick, x_bin, x_eqk, x_not, x_len, kx, rvP_ok, okv_some, ev_t, ev_c, getV_some, putD_some, bin_neq, pick_b, onB_b, oGet_s, of0, of1, of2, getK_set, Nat.reduceEqDiff, ↓reduceIte, Bool.false_eq_true, Bool.not_true, Bool.not_false, of7, ne0, ne1, kb, bb, cond_true, Bool.not_false, l0]
        show W fs none f9_t _ _ _
        exact rest _ _ hGd hw4 (by simp (disch := omega) only [getK_set, Nat.reduceEqDiff, ↓reduceIte, g1, g5, g6, and_self])
      | true =>
        cases d1 : decide (n < 2) with
        | true =>
          simp (disch := omega) only [f9_r7, f9_r9, f9_r10, w_skip, w_reg, w_seq, w_cond, seqK_n, ckB_b, cbB_b, okG_b, asG_f, true_and, x_nil, x_g, x_mv, x_as, x_pick, x_bin, x_eqk, x_not, x_len, kx, rvP_ok, okv_some, ev_t, ev_c, getV_some, putD_some, bin_neq, bin_lss, pick_b, onB_b, oGet_s, of0, of1, of2, getK_set, Nat.reduceEqDiff, ↓reduceIte, Bool.false_eq_true, Bool.not_true, Bool.not_false, of7, g1, ne0, ne1, kb, bb, cond_true, Bool.not_true, d1, l0]
          show W fs none f9_t _ _ _
          exact rest _ _ hGd hw4 (by simp (disch := omega) only [getK_set, Nat.reduceEqDiff, ↓reduceIte, g1, g5, g6, and_self])
        | false =>
          have d2 : decide (n > 7) = true := by
            have := of_decide_eq_false d1
            rcases hcase with hn | hn | hn
            · rw [hr] at hn; cases hn
            · omega
            · simpa using hn
          simp (disch := omega) only [f9_r7, f9_r9, f9_r10, w_skip, w_reg, w_seq, w_cond, seqK_n, ckB_b, cbB_b, okG_b, asG_f, true_and, x_nil, x_g, x_mv, x_as, x_pick, x_bin, x_eqk, x_not, x_len, kx, rvP_ok, okv_some, ev_t, ev_c, getV_some, putD_some, bin_neq, bin_lss, bin_gtr, pick_b, onB_b, oGet_s, of0, of1, of2, getK_set, Nat.reduceEqDiff, ↓reduceIte, Bool.false_eq_true, Bool.not_true, Bool.not_false, of7, g1, ne0, ne1, kb, bb, cond_true, Bool.not_true, d1, d2, l0]
          show W fs none f9_t _ _ _
          exact rest _ _ hGd hw4 (by simp (disch := omega) only [getK_set, Nat.reduceEqDiff, ↓reduceIte, g1, g5, g6, and_self])
    · have hr : rulB X = true := by
        cases hr : rulB X with
        | true => rfl
        | false => exact absurd (.inl hr) hcase
      obtain ⟨m, rfl⟩ : ∃ m : Nat, n = (m : Int) := ⟨n.toNat, by omega⟩
      have h2 : 2 ≤ m := by omega
      have h7 : m ≤ 7 := by omega
      have d1 : decide ((m : Int) < 2) = false := by simp; omega
      have d2 : decide ((m : Int) > 7) = false := by simp; omega
      obtain ⟨B, _, hgood, hmk, hl25, hl2, hl7⟩ := rul_good hr
      have hl0 : 0 ≤ X.getLastD 0 := by
        have := hmk.bd _ (List.getElem_mem (l := X) (n := X.length - 1) (by omega))
        rw [getLast_at hmk.ne] at this; omega
      refine (callP_0 (ef := f43) k.c43 rfl (f43_ok k.toCallsEx hw2 hc2 hr h2 h7)).mono ?_
      rintro r h3 ⟨y, rfl, hy, hG3⟩
      have hGc := hGb.trans (hG3.low hGb.nx)
      have hc3 := hG3.hc hc2
      have hw3 := hw2.grow hc2 hG3
      simp (disch := omega) only [f9_r6, w_reg, w_seq, seqK_n, x_nil, x_mv, x_as, x_ext, x_call, kx, rvP_ok, okv_some, ev_t, ev_c, evs_nil, evs_cons, getV_some, putD_some, onTup_t, nth0, nth1, nth2, getK_set, Nat.reduceEqDiff, ↓reduceIte, g5]
      refine (callP_0 (ef := f44) k.c44 rfl (f44_ret hw3 hc3 (by omega))).mono ?_
      rintro r h4 ⟨rfl, hG4⟩
      have hGd := hGc.trans (hG4.low hGc.nx)
      have hc4 := hG4.hc hc3
      have hw4 := hw3.grow hc3 hG4
      have hy4 := hy.sr.grow hc3 hG4
      rw [hr]
      simp (disch := omega) only [f9_r7, f9_r9, f9_r12, w_skip, w_reg, w_seq, w_cond, seqK_n, ckB_b, cbB_b, okG_b, asG_f, true_and, x_nil, x_g, x_mv, x_as, x_pick, x_bin, x_eqk, x_not, x_call, kx, rvP_ok, okv_some, ev_t, ev_c, evs_nil, evs_cons, getV_some, putD_some, bin_neq, bin_lss, bin_gtr, pick_b, onB_b, oGet_s, of0, of2, getK_set, Nat.reduceEqDiff, ↓reduceIte, Bool.false_eq_true, Bool.not_true, Bool.not_false, of7, of25, g1, g5, ne0, kb, bb, cond_true, Bool.not_true, d1, d2]
      have hcall : CallP fs (.fn (K.ofNat 45) []) [w, .i .i64 (m : Int), .i .i64 25] h4 fun z h' => OSr h' z (extN m X) ∧ Grow h4.nx.nat h4 h' := by
        by_cases hml : m < X.length
        · refine (callP_0 (ef := f45) k.c45 rfl (f45_over hw4 (by omega))).mono ?_
          rintro z h' ⟨rfl, rfl⟩
          have eN : extN m X = none := by unfold extN; rw [if_pos hml]
          rw [eN]
          exact ⟨rfl, Grow.refl _ _⟩
        · have eN : extN m X = extR 25 (m - X.length) X := by unfold extN; rw [if_neg hml]
          rw [eN]
          exact callP_0 (ef := f45) k.c45 rfl (f45_ret k.toCallsRx h7 (by omega) (Int.le_refl _) (m - X.length) hc4 hw4 hmk.ne hl0 hl25 (by omega))
      refine hcall.mono ?_
      rintro z h5 ⟨hz, hG5⟩
      have hGe := hGd.trans (hG5.low hGd.nx)
      have hc5 := hG5.hc hc4
      have hw5 := hw4.grow hc4 hG5
      have hnil := hz.isnil h5
      have hlen : ((extN m X).getD []).length ≤ 1000000 := by
        cases hE : extN m X with
        | none => simp
        | some R =>
          unfold extN at hE
          split at hE
          · cases hE
          · rw [← ext_eq (Int.le_refl _) _ hgood (by omega) hl25] at hE
            have e1 := (ext_good (Int.le_refl _) _ hgood hE).1
            show R.length ≤ 1000000
            omega
      simp (disch := omega) only [f9_r13, w_reg, w_seq, seqK_n, okG_b, asG_f, true_and, x_nil, x_g, x_mv, x_as, x_pick, x_bin, x_eqk, x_call, x_isnil, kx, rvP_ok, okv_some, ev_t, ev_c, evs_nil, evs_cons, getV_some, putD_some, bin_neq, pick_b, oGet_s, of0, getK_set, Nat.reduceEqDiff, ↓reduceIte, Bool.false_eq_true, Bool.not_true, Bool.not_false, ne0, kb, bb, cond_true, hnil]
      refine (callP_0 (ef := f30) k.c30 rfl (f30_same (hy4.grow hc4 hG5) hz.sr hlen)).mono ?_
      rintro r h6 ⟨rfl, rfl⟩
      simp (disch := omega) only [w_skip, w_reg, w_seq, w_cond, seqK_n, ckB_b, cbB_b, okG_b, asG_f, true_and, x_nil, x_g, x_pick, x_not, kx, rvP_ok, ev_t, ev_c, getV_some, putD_some, pick_b, onB_b, getK_set, Nat.reduceEqDiff, ↓reduceIte, Bool.false_eq_true, Bool.not_true, Bool.not_false, Bool.not_true]
      show W fs none f9_t _ _ _
      exact rest _ _ hGe hw5 (by simp (disch := omega) only [getK_set, Nat.reduceEqDiff, ↓reduceIte, g1, g5, g6, and_self])
  · have d0 : decide ((i : Int) < 2) = false := by simp; omega
    simp (disch := omega) only [f9_r3, f9_r29, f9_rs, w_reg, w_seq, w_cond, w_exit, w_ret, seqK_n, seqK_e, atK_e, loopK_e, ckB_b, cbB_b, true_and, retK_r, x_nil, x_mv, x_as, x_bin, x_call, kx, rvP_ok, okv_some, ev_t, ev_c, evs_nil, getV_some, putD_some, bin_lss, oGet_s, readRs_nil, readRs_t, retV_1, of2, Option.some.injEq, exists_eq_left', getK_set, ↓reduceIte, Bool.false_eq_true, g6, d0, aw, true_and]
    exact hG
end
end Go.Ev
