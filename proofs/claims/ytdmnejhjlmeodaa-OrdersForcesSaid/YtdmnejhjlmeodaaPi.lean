/-
  Orders: Forces, Class of any pair, the reference's Arrow.
  Orders: the law OrdersForces.
  A law's argument that is an array of two pairs.
-/
import Derived.Test.YtdmnejhjlmeodaaPh
import Derived.Test.YtdmnejhjlmeodaaPd
namespace Go.Ev
open Go Go.RowKit
noncomputable def f17_r0 : List EOper := [⟨(some (K.ofNat 6)), none, .box 2 (.t (K.ofNat 2))⟩, ⟨(some (K.ofNat 7)), none, .box 2 (.t (K.ofNat 3))⟩, ⟨(some (K.ofNat 8)), none, .as (.c (.b false))⟩, ⟨(some (K.ofNat 9)), none, .as (.c (.i .i64 (.ofNat 0)))⟩]
noncomputable def f17_r1 : List EOper := [⟨(some (K.ofNat 11)), none, .mv (.t (K.ofNat 0))⟩, ⟨(some (K.ofNat 12)), none, .mv (.t (K.ofNat 1))⟩, ⟨(some (K.ofNat 13)), none, .ldn 2 (.t (K.ofNat 6))⟩, ⟨(some (K.ofNat 14)), none, .ldn 2 (.t (K.ofNat 7))⟩, ⟨(some (K.ofNat 15)), none, .bslice 2 2 [(.i .i64 (.ofNat 0)), (.i .i64 (.ofNat 0)), (.i .i64 (.ofNat 0)), (.i .i64 (.ofNat 0))] [(0, 2, (.t (K.ofNat 13))), (2, 2, (.t (K.ofNat 14)))]⟩, ⟨(some (K.ofNat 16)), none, .call (.c (.fn (K.ofNat 54) [])) [(.t (K.ofNat 11)), (.t (K.ofNat 12)), (.t (K.ofNat 15))]⟩, ⟨(some (K.ofNat 10)), none, .as (.t (K.ofNat 16))⟩]
noncomputable def f17_r2 : List EOper := [⟨(some (K.ofNat 17)), none, .mv (.t (K.ofNat 10))⟩, ⟨(some (K.ofNat 18)), none, .bin .neq (.t (K.ofNat 17)) (.c (.i .i64 (.ofNat 0)))⟩]
noncomputable def f17_r3 : List EOper := [⟨(some (K.ofNat 19)), none, .mv (.t (K.ofNat 10))⟩, ⟨(some (K.ofNat 8)), none, .as (.c (.b false))⟩, ⟨(some (K.ofNat 9)), none, .as (.t (K.ofNat 19))⟩]
noncomputable def f17_r4 : List Stage := [⟨[⟨(some (K.ofNat 20)), none, .mv (.t (K.ofNat 1))⟩, ⟨(some (K.ofNat 22)), none, .ldn 2 (.t (K.ofNat 6))⟩, ⟨(some (K.ofNat 24)), none, .ldn 2 (.t (K.ofNat 7))⟩], [], (some ⟨(some (K.ofNat 21)), none, .call (.c (.fn (K.ofNat 48) [])) [(.t (K.ofNat 20))]⟩), []⟩, ⟨[], [⟨(some (K.ofNat 22)), none, .ldn 2 (.t (K.ofNat 6))⟩, ⟨(some (K.ofNat 24)), none, .ldn 2 (.t (K.ofNat 7))⟩], (some ⟨(some (K.ofNat 23)), none, .call (.c (.fn (K.ofNat 56) [])) [(.t (K.ofNat 22))]⟩), []⟩, ⟨[], [⟨(some (K.ofNat 24)), none, .ldn 2 (.t (K.ofNat 7))⟩], (some ⟨(some (K.ofNat 25)), none, .call (.c (.fn (K.ofNat 56) [])) [(.t (K.ofNat 24))]⟩), []⟩, ⟨[], [], (some ⟨(some (K.ofNat 26)), none, .call (.c (.fn (K.ofNat 55) [])) [(.t (K.ofNat 21)), (.t (K.ofNat 23)), (.t (K.ofNat 25))]⟩), []⟩, ⟨[], [], (some ⟨(some (K.ofNat 8)), none, .as (.t (K.ofNat 26))⟩), []⟩, ⟨[], [], (some ⟨(some (K.ofNat 9)), none, .as (.c (.i .i64 (.ofNat 0)))⟩), []⟩, ⟨[], [], none, []⟩]
noncomputable def f17_c : EC := (.seq (.reg f17_r0) (.seq (.seq (.reg f17_r1) (.seq (.reg f17_r2) (.cond (.t (K.ofNat 18)) (.seq (.reg f17_r3) .ret) .skip))) (.seq (.draw f17_r4) .ret)))
noncomputable def f17 : EF := ⟨27, [.tmp (K.ofNat 8), .tmp (K.ofNat 9)], f17_c, none⟩
theorem f17_rs : f17.rs = [.tmp (K.ofNat 8), .tmp (K.ofNat 9)] := of_eq_true (eq_self _)
noncomputable def f19_r0 : List EOper := [⟨(some (K.ofNat 5)), none, .box 2 (.t (K.ofNat 2))⟩, ⟨(some (K.ofNat 6)), none, .as (.c (.b false))⟩]
noncomputable def f19_r1 : List EOper := [⟨(some (K.ofNat 7)), none, .iadr 2 1 (.t (K.ofNat 5)) (.c (.i .i64 (.ofNat 0)))⟩, ⟨(some (K.ofNat 8)), none, .ld (.t (K.ofNat 7))⟩, ⟨(some (K.ofNat 9)), none, .bin .geq (.t (K.ofNat 8)) (.c (.i .i64 (.ofNat 0)))⟩, ⟨(some (K.ofNat 10)), none, .mv (.t (K.ofNat 9))⟩, ⟨(some (K.ofNat 11)), (some ((K.ofNat 10), true)), .iadr 2 1 (.t (K.ofNat 5)) (.c (.i .i64 (.ofNat 1)))⟩, ⟨(some (K.ofNat 12)), (some ((K.ofNat 10), true)), .ld (.t (K.ofNat 11))⟩, ⟨(some (K.ofNat 13)), (some ((K.ofNat 10), true)), .bin .geq (.t (K.ofNat 12)) (.c (.i .i64 (.ofNat 0)))⟩, ⟨(some (K.ofNat 14)), none, .pick (.t (K.ofNat 10)) (.t (K.ofNat 13)) (.c (.b false))⟩, ⟨(some (K.ofNat 15)), none, .mv (.t (K.ofNat 14))⟩, ⟨(some (K.ofNat 16)), (some ((K.ofNat 15), true)), .iadr 2 1 (.t (K.ofNat 5)) (.c (.i .i64 (.ofNat 0)))⟩, ⟨(some (K.ofNat 17)), (some ((K.ofNat 15), true)), .ld (.t (K.ofNat 16))⟩, ⟨(some (K.ofNat 18)), (some ((K.ofNat 15), true)), .mv (.t (K.ofNat 0))⟩, ⟨(some (K.ofNat 19)), (some ((K.ofNat 15), true)), .bin .lss (.t (K.ofNat 17)) (.t (K.ofNat 18))⟩, ⟨(some (K.ofNat 20)), none, .pick (.t (K.ofNat 15)) (.t (K.ofNat 19)) (.c (.b false))⟩, ⟨(some (K.ofNat 21)), none, .mv (.t (K.ofNat 20))⟩, ⟨(some (K.ofNat 22)), (some ((K.ofNat 21), true)), .iadr 2 1 (.t (K.ofNat 5)) (.c (.i .i64 (.ofNat 1)))⟩, ⟨(some (K.ofNat 23)), (some ((K.ofNat 21), true)), .ld (.t (K.ofNat 22))⟩, ⟨(some (K.ofNat 24)), (some ((K.ofNat 21), true)), .mv (.t (K.ofNat 0))⟩, ⟨(some (K.ofNat 25)), (some ((K.ofNat 21), true)), .bin .lss (.t (K.ofNat 23)) (.t (K.ofNat 24))⟩, ⟨(some (K.ofNat 26)), none, .pick (.t (K.ofNat 21)) (.t (K.ofNat 25)) (.c (.b false))⟩, ⟨(some (K.ofNat 27)), none, .mv (.t (K.ofNat 26))⟩, ⟨(some (K.ofNat 28)), (some ((K.ofNat 27), true)), .iadr 2 1 (.t (K.ofNat 5)) (.c (.i .i64 (.ofNat 0)))⟩, ⟨(some (K.ofNat 29)), (some ((K.ofNat 27), true)), .ld (.t (K.ofNat 28))⟩, ⟨(some (K.ofNat 30)), (some ((K.ofNat 27), true)), .iadr 2 1 (.t (K.ofNat 5)) (.c (.i .i64 (.ofNat 1)))⟩, ⟨(some (K.ofNat 31)), (some ((K.ofNat 27), true)), .ld (.t (K.ofNat 30))⟩, ⟨(some (K.ofNat 32)), (some ((K.ofNat 27), true)), .bin .neq (.t (K.ofNat 29)) (.t (K.ofNat 31))⟩, ⟨(some (K.ofNat 33)), none, .pick (.t (K.ofNat 27)) (.t (K.ofNat 32)) (.c (.b false))⟩, ⟨(some (K.ofNat 34)), none, .mv (.t (K.ofNat 33))⟩, ⟨(some (K.ofNat 35)), (some ((K.ofNat 34), true)), .mv (.t (K.ofNat 1))⟩, ⟨(some (K.ofNat 36)), (some ((K.ofNat 34), true)), .iadr 2 1 (.t (K.ofNat 5)) (.c (.i .i64 (.ofNat 0)))⟩, ⟨(some (K.ofNat 37)), (some ((K.ofNat 34), true)), .ld (.t (K.ofNat 36))⟩, ⟨(some (K.ofNat 38)), (some ((K.ofNat 34), true)), .iadr 2 1 (.t (K.ofNat 5)) (.c (.i .i64 (.ofNat 1)))⟩, ⟨(some (K.ofNat 39)), (some ((K.ofNat 34), true)), .ld (.t (K.ofNat 38))⟩, ⟨(some (K.ofNat 40)), (some ((K.ofNat 34), true)), .call (.c (.fn (K.ofNat 52) [])) [(.t (K.ofNat 35)), (.t (K.ofNat 37)), (.t (K.ofNat 39))]⟩, ⟨(some (K.ofNat 41)), none, .pick (.t (K.ofNat 34)) (.t (K.ofNat 40)) (.c (.b false))⟩, ⟨(some (K.ofNat 6)), none, .as (.t (K.ofNat 41))⟩]
noncomputable def f19_c : EC := (.seq (.reg f19_r0) (.seq (.reg f19_r1) .ret))
noncomputable def f19 : EF := ⟨42, [.tmp (K.ofNat 6)], f19_c, none⟩
theorem f19_rs : f19.rs = [.tmp (K.ofNat 6)] := of_eq_true (eq_self _)
section
variable {fs : T EF} {h h' : H}
def f54g_I (h0 : H) (id8 : K) (w : V) (ps : List (Int × Int)) (L : List Bool) (i : Nat) (fr : Fr) (h1 : H) : Prop := i ≤ ps.length ∧ (∀ j (hj : j < ps.length), j < i → hasR L ps[j] = true) ∧ Grow h0.nx.nat h0 h1 ∧ fr.get (K.ofNat 8) = some (.p id8 0) ∧ fr.get (K.ofNat 19) = some (w) ∧ fr.get (K.ofNat 20) = some (.i .i64 (ps.length : Int)) ∧ fr.get (K.ofNat 21) = some (.i .i64 (i : Int))
theorem f54g_ret {n : Nat} {v w : V} {g : Nat → Nat → Bool} {ps : List (Int × Int)} (k : CallsCl fs) (hg : Gph n g) (hv : Srp h v (arI g)) (hw : Srp h w ps) (hps : ps.length ≤ 1000) (hc : HC h) : Ret fs f54 [.i .i64 (n : Int), v, w] h fun r h' => r = .i .i64 (if ps.all (hasR (gR (arI g))) = true then 0 else 1) ∧ Grow h.nx.nat h h' := by
  have hlb := arI_len (g := g)
  apply ret_of rfl
  show W fs none f54_c _ _ _
  unfold f54_c
  simp (disch := omega) only [f54_r0, f54_r1, w_reg, w_seq, seqK_n, x_nil, x_mv, x_as, x_call, ev_t, ev_c, evs_nil, evs_cons, getV_some, putD_some, frame_3, of0, getK_set, Nat.reduceEqDiff, ↓reduceIte]
  refine (callP_0 (ef := f47) k.c47 rfl (f47_ret k.toCallsCk hv (by omega) hc)).mono ?_
  rintro r h1 ⟨rfl, gr1⟩
  rw [chkG_g hg]
  have ne0 : decide ((0 : Int) ≠ 0) = false := rfl
  simp (disch := omega) only [f54_r2, f54_r4, w_skip, w_reg, w_seq, w_cond, seqK_n, ckB_b, cbB_b, true_and, x_nil, x_mv, x_as, x_bin, x_call, kx, rvP_ok, okv_some, ev_t, ev_c, evs_nil, evs_cons, getV_some, putD_some, bin_neq, of0, getK_set, Nat.reduceEqDiff, ↓reduceIte, Bool.false_eq_true, ne0]
  have hc1 := gr1.hc hc
  refine (callP_0 (ef := f48) k.c48 rfl (f48_ret k.toNat2 (hv.grow hc gr1) nd_arI (by omega) hc1)).mono ?_
  rintro r h2 ⟨rfl, gr2⟩
  have hc2 := gr2.hc hc1
  have hL : (gR (arI g)).length = 49 := gR_len
  generalize gR (arI g) = L at *
  have s2 := rC_stn hL rl_len (M := rl fun _ _ => false) (h := h2.new (.cells 49 (List.replicate 49 (.b false)))) (id := h2.nx) (by rw [rl_false]; exact get_new_same)
  have n3 := nx_new h2 (.cells 49 (List.replicate 49 (.b false)))
  have gr3 : Grow h2.nx.nat h2 ((h2.new (.cells 49 (List.replicate 49 (.b false)))).put h2.nx (rC L)) := (Grow.new (Nat.le_refl _) _).trans (Grow.put (Nat.le_refl _) (by omega) _)
  have e3 : ((h2.new (.cells 49 (List.replicate 49 (.b false)))).put h2.nx (rC L)).get h2.nx = rC L := get_put_same
  have n3' : ((h2.new (.cells 49 (List.replicate 49 (.b false)))).put h2.nx (rC L)).nx.nat = h2.nx.nat + 1 := n3
  have hlen := hw.len
  simp (disch := omega) only [f54_r5, w_reg, w_seq, w_block, seqK_n, x_nil, x_mv, x_alloc, x_st, x_len, kx, rvP_ok, ev_t, ev_c, getV_some, putD_some, putD_none, of0, getK_set, Nat.reduceEqDiff, ↓reduceIte, s2, hlen]
  generalize (h2.new (.cells 49 (List.replicate 49 (.b false)))).put h2.nx (rC L) = h3 at *
  have hc3 := gr3.hc hc2
  have gA : Grow h.nx.nat h h3 := gr1.trans ((gr2.low gr1.nx).trans (gr3.low (by have := gr1.nx; have := gr2.nx; omega)))
  have hw3 := hw.grow hc gA
  refine W_loop (f54g_I h3 h2.nx w ps L) (fun i => ps.length - i) ?_ 0 ⟨by omega, fun j hj h => by omega, Grow.refl _ _, by simp (disch := omega) only [getK_set, Nat.reduceEqDiff, ↓reduceIte, and_self, Int.natCast_zero]⟩
  rintro i fr h4 ⟨hi, hyes, hG, g8, g19, g20, g21⟩
  have hc4 := hG.hc hc3
  unfold f54_l0
  by_cases hlt : i < ps.length
  · have d0 : decide ((i : Int) < (ps.length : Int)) = true := decide_eq_true (by omega)
    obtain ⟨id, q, p1, p2, _⟩ := (hw3.grow hc3 hG).at2 (i := i) hlt
    obtain ⟨x, hx⟩ : ∃ x, ps[i] = x := ⟨_, rfl⟩
    rw [hx] at p2
    have p2 : loadV h4 (.p id q) (many? 2) = .ok (pV x) h4 := p2
    have s5 : storeV (h4.new (.cells 2 [.i .i64 0, .i .i64 0])) 2 (.p h4.nx 0) (pV x) = .ok undefV ((h4.new (.cells 2 [.i .i64 0, .i .i64 0])).put h4.nx (.cells 2 [.i .i64 x.1, .i .i64 x.2])) := st2 get_new_same
    have n5 := nx_new h4 (.cells 2 [.i .i64 0, .i .i64 0])
    have g5 : Grow h4.nx.nat h4 ((h4.new (.cells 2 [.i .i64 0, .i .i64 0])).put h4.nx (.cells 2 [.i .i64 x.1, .i .i64 x.2])) := (Grow.new (Nat.le_refl _) _).trans (Grow.put (Nat.le_refl _) (by omega) _)
    have e5 : ((h4.new (.cells 2 [.i .i64 0, .i .i64 0])).put h4.nx (.cells 2 [.i .i64 x.1, .i .i64 x.2])).get h4.nx = .cells 2 [.i .i64 x.1, .i .i64 x.2] := get_put_same
    simp (disch := omega) only [f54_r6, f54_r7, w_skip, w_reg, w_draw, w_seq, w_cond, w_block, seqK_n, ckB_b, cbB_b, true_and, x_nil, x_alloc, x_ldn, x_st, x_bin, x_iads, kx, rvP_ok, okv_some, ev_t, getV_some, putD_some, putD_none, bin_lss, of0, getK_set, Nat.reduceEqDiff, ↓reduceIte, g19, g20, g21, d0, p1, p2, s5]
    generalize (h4.new (.cells 2 [.i .i64 0, .i .i64 0])).put h4.nx (.cells 2 [.i .i64 x.1, .i .i64 x.2]) = h5 at *
    have l5 := ldn2 e5
    have hav : V.agg [.i .i64 x.1, .i .i64 x.2] = pV x := rfl
    have hGn := hG.nx
    have l8 := rC_ldn hL ((g5.old h2.nx (by omega)).trans ((hG.old h2.nx (by omega)).trans e3))
    cases hh : hasR L x with
    | true =>
      simp (disch := omega) only [f54_r8, f54_r10, w_skip, w_reg, w_cond, seqK_n, atK_n, loopK_n, ckB_b, cbB_b, true_and, x_nil, x_mv, x_bin, x_call, kx, kg, xg_nil, xg_ldn, xg_not, xd_cons, fresh_nil, stK_n, stK_s, stay_nil, stay_cons, again_ok, rvP_ok, okv_some, ev_t, ev_c, evs_nil, evs_cons, getV_some, putD_some, bin_add, onB_b, of1, getK_set, Nat.reduceEqDiff, ↓reduceIte, Bool.false_eq_true, Bool.not_true, stay_ldn, g8, g21, l5, hav, l8, beq_rV, k.n56, k.n85 _ _ _ _ hL, hh, fw64]
      refine ⟨i + 1, by omega, by omega, fun j hj hji => ?_, hG.trans (g5.low hGn), by simp (disch := omega) only [getK_set, Nat.reduceEqDiff, ↓reduceIte, g8, g19, g20, and_self, Int.natCast_add, Int.natCast_one]⟩
      by_cases e : j = i
      · subst e; rw [hx]; exact hh
      · exact hyes j hj (by omega)
    | false =>
      simp (disch := omega) only [f54_r8, f54_r9, f54_rs, w_reg, w_seq, w_cond, w_ret, seqK_n, seqK_r, atK_r, loopK_r, ckB_b, cbB_b, true_and, retK_r, x_nil, x_as, x_call, kx, kg, xg_nil, xg_ldn, xg_not, xd_cons, fresh_nil, stK_n, stK_s, stay_nil, stay_cons, again_ok, rvP_ok, ev_t, ev_c, evs_nil, evs_cons, getV_some, putD_some, onB_b, oGet_s, readRs_nil, readRs_t, retV_1, of1, Option.some.injEq, exists_eq_left', getK_set, Nat.reduceEqDiff, ↓reduceIte, Bool.not_false, stay_ldn, g8, l5, hav, l8, beq_rV, k.n56, k.n85 _ _ _ _ hL, hh]
      have hna : ¬ ps.all (hasR L) = true := fun h => by
        have := List.all_eq_true.1 h ps[i] (List.getElem_mem hlt)
        rw [hx, hh] at this; cases this
      rw [if_neg hna]
      exact ⟨rfl, gA.trans ((hG.trans (g5.low hGn)).low gA.nx)⟩
  · have d0 : decide ((i : Int) < (ps.length : Int)) = false := decide_eq_false (by omega)
    simp (disch := omega) only [f54_r6, f54_r11, f54_rs, w_reg, w_seq, w_cond, w_exit, w_ret, seqK_n, seqK_e, atK_e, loopK_e, ckB_b, cbB_b, true_and, retK_r, x_nil, x_as, x_bin, kx, rvP_ok, okv_some, ev_t, ev_c, getV_some, putD_some, bin_lss, oGet_s, readRs_nil, readRs_t, retV_1, of0, Option.some.injEq, exists_eq_left', getK_set, ↓reduceIte, Bool.false_eq_true, g20, g21, d0]
    rw [if_pos (List.all_eq_true.2 fun x hx => by obtain ⟨j, hj, rfl⟩ := List.getElem_of_mem hx; exact hyes j hj (by omega))]
    exact ⟨rfl, gA.trans (hG.low gA.nx)⟩
theorem hasR_arr {L : List Bool} {x : Int × Int} (h : hasR L x = true) : ∃ y : Nat × Nat, x = toI y ∧ in7 y ∧ rat L y.1 y.2 = true := by
  unfold hasR nodeB at h
  simp only [Bool.and_eq_true, decide_eq_true_eq] at h
  exact ⟨(x.1.toNat, x.2.toNat), Prod.ext (show x.1 = (x.1.toNat : Int) by omega) (show x.2 = (x.2.toNat : Int) by omega), ⟨by show x.1.toNat < 7; omega, by show x.2.toNat < 7; omega⟩, h.2.2⟩
theorem Sk.lit4o {x y : Int × Int} : Sk 2 qE (h.new (.cells (2 * 2) [.i .i64 x.1, .i .i64 x.2, .i .i64 y.1, .i .i64 y.2])) (.sl h.nx 0 2 2) [x, y] := .inr ⟨h.nx, 0, 2 * 2, _, rfl, get_new_same, rfl, by simp, rfl⟩
theorem fcY_frcB {G : List Bool} (sy : SymR G) {x y : Nat × Nat} (hy : rat G y.1 y.2 = true) : decide (y ∈ fcY G x.1 x.2) = frcB G x y := by
  rw [Bool.eq_iff_iff, decide_eq_true_eq, mem_fcY]
  unfold frcB fcA fcB
  simp only [Bool.and_eq_true, Bool.or_eq_true, Bool.not_eq_true', decide_eq_true_eq]
  have hirr : ∀ a, rat G a a = false := fun a => by
    cases e : rat G a a with
    | false => rfl
    | true => exact absurd e (sy.gr.irr a)
  constructor
  · rintro (⟨h1, h2, h3⟩ | ⟨h1, h2, h3, h4⟩)
    · right
      rw [if_pos h1.symm]
      simpa using h3
    · right
      rw [if_neg (fun e => h2 e.symm)]
      simp only [Bool.and_eq_true, decide_eq_true_eq, Bool.not_eq_true']
      refine ⟨h1.symm, ?_⟩
      cases e : rat G x.1 y.1 with
      | false => rfl
      | true => have := sy.gr.sym _ _ e; have this : rat G y.1 x.1 = true := this; rw [h4] at this; cases this
  · rintro (rfl | h)
    · exact .inl ⟨rfl, hy, hirr _⟩
    · by_cases e : x.1 = y.1
      · rw [if_pos e] at h
        exact .inl ⟨e.symm, by rw [e]; exact hy, by simpa using h⟩
      · rw [if_neg e] at h
        simp only [Bool.and_eq_true, decide_eq_true_eq, Bool.not_eq_true'] at h
        refine .inr ⟨h.1.symm, fun e2 => e e2.symm, by rw [h.1]; exact hy, ?_⟩
        cases e2 : rat G y.1 x.1 with
        | false => rfl
        | true => have := sy.gr.sym _ _ e2; have this : rat G x.1 y.1 = true := this; rw [h.2] at this; cases this
theorem f17_ret {n : Nat} {v : V} {g : Nat → Nat → Bool} {x y : Int × Int} (k : CallsCl fs) (h54 : fs.get (K.ofNat 54) = some f54) (hg : Gph n g) (hv : Srp h v (arI g)) (hc : HC h) : Ret fs f17 [.i .i64 (n : Int), v, pV x, pV y] h fun r h' => Grow h.nx.nat h h' ∧
    ((hasR (gR (arI g)) x && hasR (gR (arI g)) y) = false → r = .tup [.b false, .i .i64 1]) ∧ (∀ x' y' : Nat × Nat, x = toI x' → y = toI y' → rat (gR (arI g)) x'.1 x'.2 = true → rat (gR (arI g)) y'.1 y'.2 = true → r = .tup [.b (frcB (gR (arI g)) x' y'), .i .i64 0]) := by
  have hlb := arI_len (g := g)
  apply ret_of rfl
  show W fs none f17_c _ _ _
  unfold f17_c
  have cx : cellsN 2 (pV x) = some [.i .i64 x.1, .i .i64 x.2] := rfl
  have cy : cellsN 2 (pV y) = some [.i .i64 y.1, .i .i64 y.2] := rfl
  have n1 := nx_new h (.cells 2 [.i .i64 x.1, .i .i64 x.2])
  have g1 : Grow h.nx.nat h (h.new (.cells 2 [.i .i64 x.1, .i .i64 x.2])) := Grow.new (Nat.le_refl _) _
  have e1 : (h.new (.cells 2 [.i .i64 x.1, .i .i64 x.2])).get h.nx = .cells 2 [.i .i64 x.1, .i .i64 x.2] := get_new_same
  simp (disch := omega) only [f17_r0, w_reg, w_seq, seqK_n, x_nil, x_as, x_box, kx, rvP_ok, ev_t, ev_c, getV_some, putD_some, oGet_s, frame_4, of0, getK_set, Nat.reduceEqDiff, ↓reduceIte, cx, cy]
  generalize h.new (.cells 2 [.i .i64 x.1, .i .i64 x.2]) = h1 at *
  have n2 := nx_new h1 (.cells 2 [.i .i64 y.1, .i .i64 y.2])
  have g2 : Grow h1.nx.nat h1 (h1.new (.cells 2 [.i .i64 y.1, .i .i64 y.2])) := Grow.new (Nat.le_refl _) _
  have e2 : (h1.new (.cells 2 [.i .i64 y.1, .i .i64 y.2])).get h1.nx = .cells 2 [.i .i64 y.1, .i .i64 y.2] := get_new_same
  generalize h1.new (.cells 2 [.i .i64 y.1, .i .i64 y.2]) = h2 at *
  have a1 := (g2.old h.nx (by omega)).trans e1
  have l1 := ldn2 a1
  have l2 := ldn2 e2
  have gA : Grow h.nx.nat h h2 := g1.trans (g2.low (by omega))
  have hc2 := gA.hc hc
  have hax : V.agg [.i .i64 x.1, .i .i64 x.2] = pV x := rfl
  have hay : V.agg [.i .i64 y.1, .i .i64 y.2] = pV y := rfl
  have sx : setMany [V.i .i64 0, V.i .i64 0, V.i .i64 0, V.i .i64 0] 0 [V.i .i64 x.1, V.i .i64 x.2] = [V.i .i64 x.1, V.i .i64 x.2, V.i .i64 0, V.i .i64 0] := rfl
  have sy_ : setMany [V.i .i64 x.1, V.i .i64 x.2, V.i .i64 0, V.i .i64 0] 2 [V.i .i64 y.1, V.i .i64 y.2] = [V.i .i64 x.1, V.i .i64 x.2, V.i .i64 y.1, V.i .i64 y.2] := rfl
  have n3 := nx_new h2 (.cells (2 * 2) [.i .i64 x.1, .i .i64 x.2, .i .i64 y.1, .i .i64 y.2])
  have g3 : Grow h2.nx.nat h2 (h2.new (.cells (2 * 2) [.i .i64 x.1, .i .i64 x.2, .i .i64 y.1, .i .i64 y.2])) := Grow.new (Nat.le_refl _) _
  have k3 : Sk 2 qE (h2.new (.cells (2 * 2) [.i .i64 x.1, .i .i64 x.2, .i .i64 y.1, .i .i64 y.2])) (.sl h2.nx 0 2 2) [x, y] := Sk.lit4o
  simp (disch := omega) only [f17_r1, x_mv, x_bslice, x_ldn, x_call, kx, rvP_ok, ev_t, ev_c, evs_nil, evs_cons, getV_some, putD_some, oGet_s, of0, getK_set, Nat.reduceEqDiff, ↓reduceIte, fill_0, l1, l2, hax, hay, fill_c, cx, cy, sx, sy_]
  generalize h2.new (.cells (2 * 2) [.i .i64 x.1, .i .i64 x.2, .i .i64 y.1, .i .i64 y.2]) = h3 at *
  have hc3 := g3.hc hc2
  have gB : Grow h.nx.nat h h3 := gA.trans (g3.low gA.nx)
  refine (callP_0 (ef := f54) h54 rfl (f54g_ret k hg (hv.grow hc gB) k3.srpo (by simp) hc3)).mono ?_
  rintro r h4 ⟨rfl, g4⟩
  have hc4 := g4.hc hc3
  have gC := gB.trans (g4.low gB.nx)
  have hall : [x, y].all (hasR (gR (arI g))) = (hasR (gR (arI g)) x && hasR (gR (arI g)) y) := by simp
  rw [hall]
  have ne0 : decide ((0 : Int) ≠ 0) = false := rfl
  have ne1 : decide ((1 : Int) ≠ 0) = true := rfl
  cases hb : (hasR (gR (arI g)) x && hasR (gR (arI g)) y) with
  | false =>
    rw [if_neg (by simp)]
    simp (disch := omega) only [f17_r2, f17_r3, f17_rs, w_reg, w_seq, w_cond, w_ret, seqK_n, seqK_r, ckB_b, cbB_b, true_and, retK_r, x_nil, x_mv, x_as, x_bin, kx, rvP_ok, okv_some, ev_t, ev_c, getV_some, putD_some, bin_neq, oGet_s, readRs_nil, readRs_t, retV_2, of0, Option.some.injEq, exists_eq_left', getK_set, Nat.reduceEqDiff, ↓reduceIte, ne1]
    refine ⟨gC, fun _ => trivial, fun x' y' ex ey hx' hy' => ?_⟩
    exfalso
    have l7 := rat_lt hx'
    have l8 := rat_lt hy'
    have q1 : hasR (gR (arI g)) x = true := by rw [ex]; unfold toI; rw [hasR_nat l7.1 l7.2]; exact hx'
    have q2 : hasR (gR (arI g)) y = true := by rw [ey]; unfold toI; rw [hasR_nat l8.1 l8.2]; exact hy'
    rw [q1, q2] at hb; cases hb
  | true =>
    rw [if_pos rfl]
    rw [Bool.and_eq_true] at hb
    obtain ⟨x', rfl, hx7, hx'⟩ := hasR_arr hb.1
    obtain ⟨y', rfl, hy7, hy'⟩ := hasR_arr hb.2
    have l1' := ldn2 ((g4.old h.nx (by omega)).trans ((g3.old h.nx (by omega)).trans a1))
    have l2' := ldn2 ((g4.old h1.nx (by omega)).trans ((g3.old h1.nx (by omega)).trans e2))
    have b1 : beqV (pV (toI x')) (pV (toI x')) = true := beq_2
    have b2 : beqV (pV (toI y')) (pV (toI y')) = true := beq_2
    simp (disch := omega) only [f17_r2, f17_r4, w_skip, w_reg, w_draw, w_seq, w_cond, seqK_n, ckB_b, cbB_b, true_and, x_nil, x_mv, x_as, x_bin, x_call, kx, kg, xg_nil, xg_mv, xg_ldn, xd_cons, fresh_nil, stK_s, stay_nil, rvP_ok, okv_some, ev_t, ev_c, evs_nil, evs_cons, getV_some, putD_some, bin_neq, of0, getK_set, Nat.reduceEqDiff, ↓reduceIte, Bool.false_eq_true, ne0, l1', l2', hax, hay]
    refine (callP_0 (ef := f48) k.c48 rfl (f48_ret k.toNat2 (hv.grow hc gC) nd_arI (by omega) hc4)).mono ?_
    rintro r h5 ⟨rfl, g5⟩
    have gD := gC.trans (g5.low gC.nx)
    have g4n := g4.nx
    have l1'' := ldn2 ((g5.old h.nx (by omega)).trans ((g4.old h.nx (by omega)).trans ((g3.old h.nx (by omega)).trans a1)))
    have l2'' := ldn2 ((g5.old h1.nx (by omega)).trans ((g4.old h1.nx (by omega)).trans ((g3.old h1.nx (by omega)).trans e2)))
    have hL : (gR (arI g)).length = 49 := gR_len
    have k55 : ∀ h P, CallP fs (.fn (K.ofNat 55) []) [rV (gR (arI g)), pV (toI x'), pV (toI y')] h P = P (.b (decide (y' ∈ fcY (gR (arI g)) x'.1 x'.2))) h := fun h P => k.n55 (gR (arI g)) x' y' h P hL hx7 hy7
    simp (disch := omega) only [f17_rs, w_ret, seqK_n, true_and, retK_r, x_nil, x_as, x_call, kx, xg_nil, xd_cons, fresh_nil, stK_n, stK_s, stay_nil, stay_cons, again_ok, ev_t, ev_c, evs_nil, evs_cons, getV_some, putD_some, oGet_s, readRs_nil, readRs_t, retV_2, Option.some.injEq, exists_eq_left', getK_set, Nat.reduceEqDiff, ↓reduceIte, stay_ldn, l1'', l2'', hax, hay, b1, b2, k.n56, k55]
    refine ⟨gD, (fun h => by cases h), fun x2 y2 ex ey hx2 hy2 => ?_⟩
    have inj : ∀ {a b : Nat × Nat}, toI a = toI b → a = b := fun {a b} e => by
      unfold toI at e
      injection e with e1 e2
      exact Prod.ext (by omega) (by omega)
    obtain rfl := inj ex
    obtain rfl := inj ey
    rw [fcY_frcB (symR_g hg) hy']
theorem f18e_ret {n : Nat} {v : V} {g : Nat → Nat → Bool} {x : Int × Int} (k : CallsCl fs) (h54 : fs.get (K.ofNat 54) = some f54) (hg : Gph n g) (hv : Srp h v (arI g)) (hx : hasR (gR (arI g)) x = false) (hc : HC h) : Ret fs f18 [.i .i64 (n : Int), v, pV x] h fun r h' => r = .tup [.sn, .i .i64 1] ∧ Grow h.nx.nat h h' := by
  have hlb := arI_len (g := g)
  apply ret_of rfl
  show W fs none f18_c _ _ _
  unfold f18_c
  have c2 : cellsN 2 (pV x) = some [.i .i64 x.1, .i .i64 x.2] := rfl
  have n1 := nx_new h (.cells 2 [.i .i64 x.1, .i .i64 x.2])
  have gr1 : Grow h.nx.nat h (h.new (.cells 2 [.i .i64 x.1, .i .i64 x.2])) := Grow.new (Nat.le_refl _) _
  have e1 : (h.new (.cells 2 [.i .i64 x.1, .i .i64 x.2])).get h.nx = .cells 2 [.i .i64 x.1, .i .i64 x.2] := get_new_same
  simp (disch := omega) only [f18_r0, w_reg, w_seq, seqK_n, x_nil, x_as, x_box, kx, rvP_ok, ev_t, ev_c, getV_some, putD_some, oGet_s, frame_3, of0, getK_set, ↓reduceIte, c2]
  generalize h.new (.cells 2 [.i .i64 x.1, .i .i64 x.2]) = h1 at *
  have hc1 := gr1.hc hc
  have hav : V.agg [.i .i64 x.1, .i .i64 x.2] = pV x := rfl
  have sp : setMany [V.i .i64 0, V.i .i64 0] 0 [V.i .i64 x.1, V.i .i64 x.2] = [V.i .i64 x.1, V.i .i64 x.2] := rfl
  have l1 := ldn2 e1
  have n2 := nx_new h1 (.cells (1 * 2) [.i .i64 x.1, .i .i64 x.2])
  have gr2 : Grow h1.nx.nat h1 (h1.new (.cells (1 * 2) [.i .i64 x.1, .i .i64 x.2])) := Grow.new (Nat.le_refl _) _
  have k2 : Sk 2 qE (h1.new (.cells (1 * 2) [.i .i64 x.1, .i .i64 x.2])) (.sl h1.nx 0 1 2) [x] := Sk.lit2o
  simp (disch := omega) only [f18_r1, x_mv, x_bslice, x_ldn, x_call, kx, rvP_ok, ev_t, ev_c, evs_nil, evs_cons, getV_some, putD_some, oGet_s, of0, getK_set, Nat.reduceEqDiff, ↓reduceIte, fill_0, l1, hav, fill_c, c2, sp]
  generalize h1.new (.cells (1 * 2) [.i .i64 x.1, .i .i64 x.2]) = h2 at *
  have hc2 := gr2.hc hc1
  have gA : Grow h.nx.nat h h2 := gr1.trans (gr2.low (by omega))
  refine (callP_0 (ef := f54) h54 rfl (f54_ret k hg (hv.grow hc gA) k2.srpo hc2)).mono ?_
  rintro r h3 ⟨rfl, gr3⟩
  have gB := gA.trans (gr3.low gA.nx)
  rw [if_neg (by rw [hx]; simp)]
  have ne1 : decide ((1 : Int) ≠ 0) = true := rfl
  simp (disch := omega) only [f18_r2, f18_r3, f18_rs, w_reg, w_seq, w_cond, w_ret, seqK_n, seqK_r, ckB_b, cbB_b, true_and, retK_r, x_nil, x_mv, x_as, x_bin, kx, rvP_ok, okv_some, ev_t, ev_c, getV_some, putD_some, bin_neq, oGet_s, readRs_nil, readRs_t, retV_2, of0, Option.some.injEq, exists_eq_left', getK_set, Nat.reduceEqDiff, ↓reduceIte, ne1, true_and]
  exact gB
theorem hasR_lt {n : Nat} {g : Nat → Nat → Bool} (hg : Gph n g) {x : Int × Int} : hasR (gR (arI g)) x = true ↔ 0 ≤ x.1 ∧ 0 ≤ x.2 ∧ x.1 < n ∧ x.2 < n ∧ x.1 ≠ x.2 ∧ rat (gR (arI g)) x.1.toNat x.2.toNat = true := by
  have h7 := hg.n7
  constructor
  · intro h
    obtain ⟨y, rfl, _, hy⟩ := hasR_arr h
    have := Er_lt hg hy
    unfold toI
    refine ⟨by simp only; omega, by simp only; omega, by simp only; omega, by simp only; omega, by simp only; omega, hy⟩
  · rintro ⟨h1, h2, h3, h4, _, h6⟩
    unfold hasR nodeB
    simp only [Bool.and_eq_true, decide_eq_true_eq]
    exact ⟨by omega, by omega, h6⟩
theorem f19_ret {n : Nat} {v : V} {g : Nat → Nat → Bool} {x : Int × Int} (k : CallsJn fs) (hg : Gph n g) (hv : Srp h v (arI g)) (hc : HC h) : Ret fs f19 [.i .i64 (n : Int), v, pV x] h fun r h' => r = .b (hasR (gR (arI g)) x) ∧ Grow h.nx.nat h h' := by
  have hlb := arI_len (g := g)
  have hn7 := hg.n7
  apply ret_of rfl
  show W fs none f19_c _ _ _
  unfold f19_c
  have c2 : cellsN 2 (pV x) = some [.i .i64 x.1, .i .i64 x.2] := rfl
  have gr1 : Grow h.nx.nat h (h.new (.cells 2 [.i .i64 x.1, .i .i64 x.2])) := Grow.new (Nat.le_refl _) _
  have e1 : (h.new (.cells 2 [.i .i64 x.1, .i .i64 x.2])).get h.nx = .cells 2 [.i .i64 x.1, .i .i64 x.2] := get_new_same
  simp (disch := omega) only [f19_r0, w_reg, w_seq, seqK_n, x_nil, x_as, x_box, kx, rvP_ok, ev_t, ev_c, getV_some, putD_some, oGet_s, frame_3, getK_set, ↓reduceIte, c2]
  generalize h.new (.cells 2 [.i .i64 x.1, .i .i64 x.2]) = h1 at *
  have hc1 := gr1.hc hc
  have l0 := ld20 e1
  have l1 := ld21 e1
  have hno : (¬ (0 ≤ x.1 ∧ 0 ≤ x.2 ∧ x.1 < n ∧ x.2 < n ∧ x.1 ≠ x.2)) → hasR (gR (arI g)) x = false := fun h => by
    cases e : hasR (gR (arI g)) x with
    | false => rfl
    | true => have := (hasR_lt hg).1 e; exact absurd ⟨this.1, this.2.1, this.2.2.1, this.2.2.2.1, this.2.2.2.2.1⟩ h
  cases d1 : decide (x.1 ≥ (0 : Int)) with
  | false =>
    have d1' := of_decide_eq_false d1
    rw [hno (by omega)]
    simp (disch := omega) only [f19_r1, f19_rs, w_ret, seqK_n, okG_b, asG_t, true_and, retK_r, x_nil, x_g, x_mv, x_as, x_pick, x_ld, x_bin, x_iadr, kx, rvP_ok, okv_some, ev_t, ev_c, getV_some, putD_some, bin_geq, pick_b, onP_p, oGet_s, readRs_nil, readRs_t, retV_1, of0, of1, Option.some.injEq, exists_eq_left', getK_set, Nat.reduceEqDiff, ↓reduceIte, Bool.false_eq_true, ix2_0, l0, d1, true_and]
    exact gr1
  | true =>
  cases d2 : decide (x.2 ≥ (0 : Int)) with
  | false =>
    have d2' := of_decide_eq_false d2
    rw [hno (by omega)]
    simp (disch := omega) only [f19_r1, f19_rs, w_ret, seqK_n, okG_b, asG_t, true_and, retK_r, x_nil, x_g, x_mv, x_as, x_pick, x_ld, x_bin, x_iadr, kx, rvP_ok, okv_some, ev_t, ev_c, getV_some, putD_some, bin_geq, pick_b, onP_p, oGet_s, readRs_nil, readRs_t, retV_1, of0, of1, Option.some.injEq, exists_eq_left', getK_set, Nat.reduceEqDiff, ↓reduceIte, Bool.false_eq_true, ix2_0, ix2_1, l0, l1, d1, d2, true_and]
    exact gr1
  | true =>
  cases d3 : decide (x.1 < (n : Int)) with
  | false =>
    have d3' := of_decide_eq_false d3
    rw [hno (by omega)]
    simp (disch := omega) only [f19_r1, f19_rs, w_ret, seqK_n, okG_b, asG_t, true_and, retK_r, x_nil, x_g, x_mv, x_as, x_pick, x_ld, x_bin, x_iadr, kx, rvP_ok, okv_some, ev_t, ev_c, getV_some, putD_some, bin_lss, bin_geq, pick_b, onP_p, oGet_s, readRs_nil, readRs_t, retV_1, of0, of1, Option.some.injEq, exists_eq_left', getK_set, Nat.reduceEqDiff, ↓reduceIte, Bool.false_eq_true, ix2_0, ix2_1, l0, l1, d1, d2, d3, true_and]
    exact gr1
  | true =>
  cases d4 : decide (x.2 < (n : Int)) with
  | false =>
    have d4' := of_decide_eq_false d4
    rw [hno (by omega)]
    simp (disch := omega) only [f19_r1, f19_rs, w_ret, seqK_n, okG_b, asG_t, true_and, retK_r, x_nil, x_g, x_mv, x_as, x_pick, x_ld, x_bin, x_iadr, kx, rvP_ok, okv_some, ev_t, ev_c, getV_some, putD_some, bin_lss, bin_geq, pick_b, onP_p, oGet_s, readRs_nil, readRs_t, retV_1, of0, of1, Option.some.injEq, exists_eq_left', getK_set, Nat.reduceEqDiff, ↓reduceIte, Bool.false_eq_true, ix2_0, ix2_1, l0, l1, d1, d2, d3, d4, true_and]
    exact gr1
  | true =>
  cases d5 : decide (x.1 ≠ x.2) with
  | false =>
    have d5' := of_decide_eq_false d5
    rw [hno (by omega)]
    simp (disch := omega) only [f19_r1, f19_rs, w_ret, seqK_n, okG_b, asG_t, true_and, retK_r, x_nil, x_g, x_mv, x_as, x_pick, x_ld, x_bin, x_iadr, kx, rvP_ok, okv_some, ev_t, ev_c, getV_some, putD_some, bin_neq, bin_lss, bin_geq, pick_b, onP_p, oGet_s, readRs_nil, readRs_t, retV_1, of0, of1, Option.some.injEq, exists_eq_left', getK_set, Nat.reduceEqDiff, ↓reduceIte, Bool.false_eq_true, ix2_0, ix2_1, l0, l1, d1, d2, d3, d4, d5, true_and]
    exact gr1
  | true =>
    have q1 := of_decide_eq_true d1
    have q2 := of_decide_eq_true d2
    have q3 := of_decide_eq_true d3
    have q4 := of_decide_eq_true d4
    have q5 := of_decide_eq_true d5
    obtain ⟨a, ha⟩ : ∃ a : Nat, x.1 = (a : Int) := ⟨x.1.toNat, by omega⟩
    obtain ⟨b, hb⟩ : ∃ b : Nat, x.2 = (b : Int) := ⟨x.2.toNat, by omega⟩
    rw [ha] at l0 d1 d3 d5 q1 q3
    rw [hb] at l1 d2 d4 d5 q2 q4
    have hxe : x = ((a : Int), (b : Int)) := Prod.ext ha hb
    simp (disch := omega) only [f19_r1, okG_b, asG_t, true_and, x_g, x_mv, x_pick, x_ld, x_bin, x_iadr, x_call, kx, rvP_ok, okv_some, ev_t, ev_c, evs_nil, evs_cons, getV_some, putD_some, bin_neq, bin_lss, bin_geq, pick_b, onP_p, of0, of1, getK_set, Nat.reduceEqDiff, ↓reduceIte, ix2_0, ix2_1, l0, l1, d1, d2, d3, d4, d5]
    refine (callP_0 (ef := f52) k.c52 rfl (f52_ret k.c40 (hv.grow hc gr1) inI_arI (inI_mm (by omega) (by omega)) (by omega) hc1)).mono ?_
    rintro r h2 ⟨rfl, g2⟩
    rw [jn_sy hg]
    simp (disch := omega) only [f19_rs, w_ret, seqK_n, retK_r, x_nil, x_as, x_pick, kx, rvP_ok, ev_t, ev_c, getV_some, putD_some, pick_b, oGet_s, readRs_nil, readRs_t, retV_1, Option.some.injEq, exists_eq_left', getK_set, Nat.reduceEqDiff, ↓reduceIte]
    refine ⟨?_, gr1.trans (g2.low gr1.nx)⟩
    rw [hxe, hasR_nat (by omega) (by omega)]
end
end Go.Ev
namespace Go.Ev
open Go Go.RowKit
noncomputable def f3_r0 : List EOper := [⟨(some (K.ofNat 5)), none, .box 4 (.t (K.ofNat 2))⟩, ⟨(some (K.ofNat 6)), none, .as (.c (.b false))⟩]
noncomputable def f3_r1 : List EOper := [⟨(some (K.ofNat 25)), none, .mv (.t (K.ofNat 0))⟩, ⟨(some (K.ofNat 26)), none, .mv (.t (K.ofNat 1))⟩, ⟨(some (K.ofNat 27)), none, .call (.c (.fn (K.ofNat 11) [])) [(.t (K.ofNat 25)), (.t (K.ofNat 26)), (.c (.i .i64 (.ofNat 7)))]⟩, ⟨(some (K.ofNat 24)), none, .mv (.t (K.ofNat 27))⟩, ⟨(some (K.ofNat 28)), none, .ext (.t (K.ofNat 24)) 0⟩, ⟨(some (K.ofNat 29)), none, .ext (.t (K.ofNat 24)) 1⟩, ⟨(some (K.ofNat 7)), none, .as (.t (K.ofNat 28))⟩, ⟨(some (K.ofNat 8)), none, .as (.t (K.ofNat 29))⟩]
noncomputable def f3_r2 : List Stage := [⟨[⟨(some (K.ofNat 30)), none, .iadr 2 2 (.t (K.ofNat 5)) (.c (.i .i64 (.ofNat 0)))⟩, ⟨(some (K.ofNat 31)), none, .ldn 2 (.t (K.ofNat 30))⟩, ⟨(some (K.ofNat 32)), none, .iadr 2 2 (.t (K.ofNat 5)) (.c (.i .i64 (.ofNat 1)))⟩, ⟨(some (K.ofNat 33)), none, .ldn 2 (.t (K.ofNat 32))⟩, ⟨(some (K.ofNat 9)), none, .alloc 2 [(.i .i64 (.ofNat 0)), (.i .i64 (.ofNat 0))]⟩, ⟨(some (K.ofNat 10)), none, .alloc 2 [(.i .i64 (.ofNat 0)), (.i .i64 (.ofNat 0))]⟩], [], (some ⟨none, none, .st 2 (.t (K.ofNat 9)) (.t (K.ofNat 31))⟩), [(K.ofNat 9), (K.ofNat 10)]⟩, ⟨[], [⟨(some (K.ofNat 32)), none, .iadr 2 2 (.t (K.ofNat 5)) (.c (.i .i64 (.ofNat 1)))⟩, ⟨(some (K.ofNat 33)), none, .ldn 2 (.t (K.ofNat 32))⟩], (some ⟨none, none, .st 2 (.t (K.ofNat 10)) (.t (K.ofNat 33))⟩), []⟩, ⟨[], [], none, []⟩]
noncomputable def f3_r3 : List EOper := [⟨(some (K.ofNat 35)), none, .mv (.t (K.ofNat 7))⟩, ⟨(some (K.ofNat 36)), none, .mv (.t (K.ofNat 8))⟩, ⟨(some (K.ofNat 37)), none, .call (.c (.fn (K.ofNat 12) [])) [(.t (K.ofNat 35)), (.t (K.ofNat 36))]⟩, ⟨(some (K.ofNat 34)), none, .mv (.t (K.ofNat 37))⟩, ⟨(some (K.ofNat 38)), none, .ext (.t (K.ofNat 34)) 0⟩, ⟨(some (K.ofNat 39)), none, .ext (.t (K.ofNat 34)) 1⟩, ⟨(some (K.ofNat 11)), none, .as (.t (K.ofNat 38))⟩, ⟨(some (K.ofNat 12)), none, .as (.t (K.ofNat 39))⟩]
noncomputable def f3_r4 : List EOper := [⟨(some (K.ofNat 41)), none, .mv (.t (K.ofNat 7))⟩, ⟨(some (K.ofNat 42)), none, .mv (.t (K.ofNat 8))⟩, ⟨(some (K.ofNat 43)), none, .call (.c (.fn (K.ofNat 13) [])) [(.t (K.ofNat 41)), (.t (K.ofNat 42))]⟩, ⟨(some (K.ofNat 40)), none, .mv (.t (K.ofNat 43))⟩, ⟨(some (K.ofNat 44)), none, .ext (.t (K.ofNat 40)) 0⟩, ⟨(some (K.ofNat 45)), none, .ext (.t (K.ofNat 40)) 1⟩, ⟨(some (K.ofNat 13)), none, .as (.t (K.ofNat 44))⟩, ⟨(some (K.ofNat 14)), none, .as (.t (K.ofNat 45))⟩]
noncomputable def f3_r5 : List EOper := [⟨(some (K.ofNat 46)), none, .mv (.t (K.ofNat 12))⟩, ⟨(some (K.ofNat 47)), none, .bin .neq (.t (K.ofNat 46)) (.c (.i .i64 (.ofNat 0)))⟩, ⟨(some (K.ofNat 48)), none, .mv (.t (K.ofNat 47))⟩, ⟨(some (K.ofNat 49)), (some ((K.ofNat 48), false)), .mv (.t (K.ofNat 11))⟩, ⟨(some (K.ofNat 50)), (some ((K.ofNat 48), false)), .mv (.t (K.ofNat 7))⟩, ⟨(some (K.ofNat 51)), (some ((K.ofNat 48), false)), .mv (.t (K.ofNat 8))⟩, ⟨(some (K.ofNat 52)), (some ((K.ofNat 48), false)), .call (.c (.fn (K.ofNat 15) [])) [(.t (K.ofNat 50)), (.t (K.ofNat 51))]⟩, ⟨(some (K.ofNat 53)), (some ((K.ofNat 48), false)), .call (.c (.fn (K.ofNat 14) [])) [(.t (K.ofNat 49)), (.t (K.ofNat 52))]⟩, ⟨(some (K.ofNat 54)), (some ((K.ofNat 48), false)), .not (.t (K.ofNat 53))⟩, ⟨(some (K.ofNat 55)), none, .pick (.t (K.ofNat 48)) (.c (.b true)) (.t (K.ofNat 54))⟩, ⟨(some (K.ofNat 56)), none, .mv (.t (K.ofNat 55))⟩, ⟨(some (K.ofNat 57)), (some ((K.ofNat 56), false)), .mv (.t (K.ofNat 14))⟩, ⟨(some (K.ofNat 58)), (some ((K.ofNat 56), false)), .bin .neq (.t (K.ofNat 57)) (.c (.i .i64 (.ofNat 0)))⟩, ⟨(some (K.ofNat 59)), none, .pick (.t (K.ofNat 56)) (.c (.b true)) (.t (K.ofNat 58))⟩, ⟨(some (K.ofNat 60)), none, .mv (.t (K.ofNat 59))⟩, ⟨(some (K.ofNat 61)), (some ((K.ofNat 60), false)), .mv (.t (K.ofNat 13))⟩, ⟨(some (K.ofNat 62)), (some ((K.ofNat 60), false)), .mv (.t (K.ofNat 7))⟩, ⟨(some (K.ofNat 63)), (some ((K.ofNat 60), false)), .mv (.t (K.ofNat 8))⟩, ⟨(some (K.ofNat 64)), (some ((K.ofNat 60), false)), .call (.c (.fn (K.ofNat 16) [])) [(.t (K.ofNat 62)), (.t (K.ofNat 63))]⟩, ⟨(some (K.ofNat 65)), (some ((K.ofNat 60), false)), .bin .neq (.t (K.ofNat 61)) (.t (K.ofNat 64))⟩, ⟨(some (K.ofNat 66)), none, .pick (.t (K.ofNat 60)) (.c (.b true)) (.t (K.ofNat 65))⟩]
noncomputable def f3_r6 : List EOper := [⟨(some (K.ofNat 6)), none, .as (.c (.b false))⟩]
noncomputable def f3_r7 : List EOper := [⟨(some (K.ofNat 15)), none, .as (.c (.i .i64 (.ofNat 0)))⟩]
noncomputable def f3_r8 : List EOper := [⟨(some (K.ofNat 67)), none, .mv (.t (K.ofNat 15))⟩, ⟨(some (K.ofNat 68)), none, .bin .lss (.t (K.ofNat 67)) (.c (.i .i64 (.ofNat 2)))⟩]
noncomputable def f3_r9 : List EOper := [⟨(some (K.ofNat 72)), none, .mv (.t (K.ofNat 7))⟩, ⟨(some (K.ofNat 73)), none, .mv (.t (K.ofNat 8))⟩, ⟨(some (K.ofNat 74)), none, .ldn 2 (.t (K.ofNat 9))⟩, ⟨(some (K.ofNat 75)), none, .ldn 2 (.t (K.ofNat 10))⟩, ⟨(some (K.ofNat 76)), none, .call (.c (.fn (K.ofNat 17) [])) [(.t (K.ofNat 72)), (.t (K.ofNat 73)), (.t (K.ofNat 74)), (.t (K.ofNat 75))]⟩, ⟨(some (K.ofNat 71)), none, .mv (.t (K.ofNat 76))⟩, ⟨(some (K.ofNat 77)), none, .ext (.t (K.ofNat 71)) 0⟩, ⟨(some (K.ofNat 78)), none, .ext (.t (K.ofNat 71)) 1⟩, ⟨(some (K.ofNat 16)), none, .as (.t (K.ofNat 77))⟩, ⟨(some (K.ofNat 17)), none, .as (.t (K.ofNat 78))⟩]
noncomputable def f3_r10 : List EOper := [⟨(some (K.ofNat 80)), none, .mv (.t (K.ofNat 7))⟩, ⟨(some (K.ofNat 81)), none, .mv (.t (K.ofNat 8))⟩, ⟨(some (K.ofNat 82)), none, .ldn 2 (.t (K.ofNat 9))⟩, ⟨(some (K.ofNat 83)), none, .call (.c (.fn (K.ofNat 18) [])) [(.t (K.ofNat 80)), (.t (K.ofNat 81)), (.t (K.ofNat 82))]⟩, ⟨(some (K.ofNat 79)), none, .mv (.t (K.ofNat 83))⟩, ⟨(some (K.ofNat 84)), none, .ext (.t (K.ofNat 79)) 0⟩, ⟨(some (K.ofNat 85)), none, .ext (.t (K.ofNat 79)) 1⟩, ⟨(some (K.ofNat 18)), none, .as (.t (K.ofNat 84))⟩, ⟨(some (K.ofNat 19)), none, .as (.t (K.ofNat 85))⟩]
noncomputable def f3_r11 : List Stage := [⟨[⟨(some (K.ofNat 86)), none, .mv (.t (K.ofNat 7))⟩, ⟨(some (K.ofNat 87)), none, .mv (.t (K.ofNat 8))⟩, ⟨(some (K.ofNat 88)), none, .ldn 2 (.t (K.ofNat 9))⟩, ⟨(some (K.ofNat 90)), none, .mv (.t (K.ofNat 7))⟩, ⟨(some (K.ofNat 91)), none, .mv (.t (K.ofNat 8))⟩, ⟨(some (K.ofNat 92)), none, .ldn 2 (.t (K.ofNat 9))⟩], [], (some ⟨(some (K.ofNat 89)), none, .call (.c (.fn (K.ofNat 19) [])) [(.t (K.ofNat 86)), (.t (K.ofNat 87)), (.t (K.ofNat 88))]⟩), []⟩, ⟨[], [⟨(some (K.ofNat 90)), none, .mv (.t (K.ofNat 7))⟩, ⟨(some (K.ofNat 91)), none, .mv (.t (K.ofNat 8))⟩, ⟨(some (K.ofNat 92)), none, .ldn 2 (.t (K.ofNat 9))⟩], (some ⟨(some (K.ofNat 93)), none, .call (.c (.fn (K.ofNat 19) [])) [(.t (K.ofNat 90)), (.t (K.ofNat 91)), (.t (K.ofNat 92))]⟩), []⟩, ⟨[⟨(some (K.ofNat 94)), none, .mv (.t (K.ofNat 93))⟩, ⟨(some (K.ofNat 95)), (some ((K.ofNat 94), true)), .mv (.t (K.ofNat 7))⟩, ⟨(some (K.ofNat 96)), (some ((K.ofNat 94), true)), .mv (.t (K.ofNat 8))⟩, ⟨(some (K.ofNat 97)), (some ((K.ofNat 94), true)), .ldn 2 (.t (K.ofNat 10))⟩], [], (some ⟨(some (K.ofNat 98)), (some ((K.ofNat 94), true)), .call (.c (.fn (K.ofNat 19) [])) [(.t (K.ofNat 95)), (.t (K.ofNat 96)), (.t (K.ofNat 97))]⟩), []⟩, ⟨[⟨(some (K.ofNat 99)), none, .pick (.t (K.ofNat 94)) (.t (K.ofNat 98)) (.c (.b false))⟩], [], (some ⟨(some (K.ofNat 20)), none, .as (.t (K.ofNat 89))⟩), []⟩, ⟨[], [⟨(some (K.ofNat 99)), none, .pick (.t (K.ofNat 94)) (.t (K.ofNat 98)) (.c (.b false))⟩], (some ⟨(some (K.ofNat 21)), none, .as (.t (K.ofNat 99))⟩), []⟩, ⟨[], [], none, []⟩]
noncomputable def f3_r12 : List EOper := [⟨(some (K.ofNat 100)), none, .mv (.t (K.ofNat 21))⟩, ⟨(some (K.ofNat 101)), none, .not (.t (K.ofNat 100))⟩, ⟨(some (K.ofNat 102)), none, .mv (.t (K.ofNat 101))⟩, ⟨(some (K.ofNat 103)), (some ((K.ofNat 102), true)), .mv (.t (K.ofNat 17))⟩, ⟨(some (K.ofNat 104)), (some ((K.ofNat 102), true)), .bin .neq (.t (K.ofNat 103)) (.c (.i .i64 (.ofNat 1)))⟩, ⟨(some (K.ofNat 105)), (some ((K.ofNat 102), true)), .mv (.t (K.ofNat 104))⟩, ⟨(some (K.ofNat 106)), (some ((K.ofNat 105), false)), .mv (.t (K.ofNat 16))⟩, ⟨(some (K.ofNat 107)), (some ((K.ofNat 102), true)), .pick (.t (K.ofNat 105)) (.c (.b true)) (.t (K.ofNat 106))⟩, ⟨(some (K.ofNat 108)), none, .pick (.t (K.ofNat 102)) (.t (K.ofNat 107)) (.c (.b false))⟩, ⟨(some (K.ofNat 109)), none, .mv (.t (K.ofNat 108))⟩, ⟨(some (K.ofNat 110)), (some ((K.ofNat 109), false)), .mv (.t (K.ofNat 21))⟩, ⟨(some (K.ofNat 111)), (some ((K.ofNat 109), false)), .mv (.t (K.ofNat 110))⟩, ⟨(some (K.ofNat 112)), (some ((K.ofNat 111), true)), .mv (.t (K.ofNat 17))⟩, ⟨(some (K.ofNat 113)), (some ((K.ofNat 111), true)), .bin .neq (.t (K.ofNat 112)) (.c (.i .i64 (.ofNat 0)))⟩, ⟨(some (K.ofNat 114)), (some ((K.ofNat 111), true)), .mv (.t (K.ofNat 113))⟩, ⟨(some (K.ofNat 115)), (some ((K.ofNat 114), false)), .mv (.t (K.ofNat 16))⟩, ⟨(some (K.ofNat 116)), (some ((K.ofNat 114), false)), .mv (.t (K.ofNat 8))⟩, ⟨(some (K.ofNat 117)), (some ((K.ofNat 114), false)), .ldn 2 (.t (K.ofNat 9))⟩, ⟨(some (K.ofNat 118)), (some ((K.ofNat 114), false)), .ldn 2 (.t (K.ofNat 10))⟩, ⟨(some (K.ofNat 119)), (some ((K.ofNat 114), false)), .call (.c (.fn (K.ofNat 20) [])) [(.t (K.ofNat 116)), (.t (K.ofNat 117)), (.t (K.ofNat 118))]⟩, ⟨(some (K.ofNat 120)), (some ((K.ofNat 114), false)), .eqk (.one none) true (.t (K.ofNat 115)) (.t (K.ofNat 119))⟩, ⟨(some (K.ofNat 121)), (some ((K.ofNat 111), true)), .pick (.t (K.ofNat 114)) (.c (.b true)) (.t (K.ofNat 120))⟩, ⟨(some (K.ofNat 122)), (some ((K.ofNat 109), false)), .pick (.t (K.ofNat 111)) (.t (K.ofNat 121)) (.c (.b false))⟩, ⟨(some (K.ofNat 123)), none, .pick (.t (K.ofNat 109)) (.c (.b true)) (.t (K.ofNat 122))⟩]
noncomputable def f3_r13 : List EOper := [⟨(some (K.ofNat 6)), none, .as (.c (.b false))⟩]
noncomputable def f3_r14 : List EOper := [⟨(some (K.ofNat 124)), none, .mv (.t (K.ofNat 20))⟩, ⟨(some (K.ofNat 125)), none, .not (.t (K.ofNat 124))⟩]
noncomputable def f3_r15 : List EOper := [⟨(some (K.ofNat 126)), none, .mv (.t (K.ofNat 19))⟩, ⟨(some (K.ofNat 127)), none, .bin .neq (.t (K.ofNat 126)) (.c (.i .i64 (.ofNat 1)))⟩, ⟨(some (K.ofNat 128)), none, .mv (.t (K.ofNat 127))⟩, ⟨(some (K.ofNat 129)), (some ((K.ofNat 128), false)), .mv (.t (K.ofNat 18))⟩, ⟨(some (K.ofNat 130)), (some ((K.ofNat 128), false)), .len (.t (K.ofNat 129))⟩, ⟨(some (K.ofNat 131)), (some ((K.ofNat 128), false)), .bin .neq (.t (K.ofNat 130)) (.c (.i .i64 (.ofNat 0)))⟩, ⟨(some (K.ofNat 132)), none, .pick (.t (K.ofNat 128)) (.c (.b true)) (.t (K.ofNat 131))⟩]
noncomputable def f3_r16 : List EOper := [⟨(some (K.ofNat 6)), none, .as (.c (.b false))⟩]
noncomputable def f3_r17 : List EOper := [⟨(some (K.ofNat 134)), none, .mv (.t (K.ofNat 7))⟩, ⟨(some (K.ofNat 135)), none, .mv (.t (K.ofNat 8))⟩, ⟨(some (K.ofNat 136)), none, .ldn 2 (.t (K.ofNat 9))⟩, ⟨(some (K.ofNat 137)), none, .call (.c (.fn (K.ofNat 21) [])) [(.t (K.ofNat 134)), (.t (K.ofNat 135)), (.t (K.ofNat 136))]⟩, ⟨(some (K.ofNat 133)), none, .mv (.t (K.ofNat 137))⟩, ⟨(some (K.ofNat 138)), none, .ext (.t (K.ofNat 133)) 0⟩, ⟨(some (K.ofNat 139)), none, .ext (.t (K.ofNat 133)) 1⟩, ⟨(some (K.ofNat 22)), none, .as (.t (K.ofNat 138))⟩, ⟨(some (K.ofNat 23)), none, .as (.t (K.ofNat 139))⟩]
noncomputable def f3_r18 : List EOper := [⟨(some (K.ofNat 140)), none, .mv (.t (K.ofNat 19))⟩, ⟨(some (K.ofNat 141)), none, .bin .neq (.t (K.ofNat 140)) (.c (.i .i64 (.ofNat 0)))⟩, ⟨(some (K.ofNat 142)), none, .mv (.t (K.ofNat 141))⟩, ⟨(some (K.ofNat 143)), (some ((K.ofNat 142), false)), .mv (.t (K.ofNat 18))⟩, ⟨(some (K.ofNat 144)), (some ((K.ofNat 142), false)), .mv (.t (K.ofNat 22))⟩, ⟨(some (K.ofNat 145)), (some ((K.ofNat 142), false)), .call (.c (.fn (K.ofNat 14) [])) [(.t (K.ofNat 143)), (.t (K.ofNat 144))]⟩, ⟨(some (K.ofNat 146)), (some ((K.ofNat 142), false)), .not (.t (K.ofNat 145))⟩, ⟨(some (K.ofNat 147)), none, .pick (.t (K.ofNat 142)) (.c (.b true)) (.t (K.ofNat 146))⟩]
noncomputable def f3_r19 : List EOper := [⟨(some (K.ofNat 6)), none, .as (.c (.b false))⟩]
noncomputable def f3_r20 : List EOper := [⟨(some (K.ofNat 148)), none, .mv (.t (K.ofNat 8))⟩, ⟨(some (K.ofNat 149)), none, .len (.t (K.ofNat 148))⟩, ⟨(some (K.ofNat 150)), none, .bin .eql (.t (K.ofNat 149)) (.c (.i .i64 (.ofNat 0)))⟩]
noncomputable def f3_r21 : List EOper := [⟨(some (K.ofNat 151)), none, .mv (.t (K.ofNat 8))⟩, ⟨(some (K.ofNat 152)), none, .iadr 2 1 (.t (K.ofNat 9)) (.c (.i .i64 (.ofNat 0)))⟩, ⟨(some (K.ofNat 153)), none, .ld (.t (K.ofNat 152))⟩, ⟨(some (K.ofNat 154)), none, .conv .u64 (.t (K.ofNat 153))⟩, ⟨(some (K.ofNat 155)), none, .mv (.t (K.ofNat 8))⟩, ⟨(some (K.ofNat 156)), none, .len (.t (K.ofNat 155))⟩, ⟨(some (K.ofNat 157)), none, .conv .u64 (.t (K.ofNat 156))⟩, ⟨(some (K.ofNat 158)), none, .bin .rem (.t (K.ofNat 154)) (.t (K.ofNat 157))⟩, ⟨(some (K.ofNat 159)), none, .conv .i64 (.t (K.ofNat 158))⟩, ⟨(some (K.ofNat 160)), none, .iads 2 (.t (K.ofNat 151)) (.t (K.ofNat 159))⟩, ⟨(some (K.ofNat 161)), none, .ldn 2 (.t (K.ofNat 160))⟩, ⟨none, none, .st 2 (.t (K.ofNat 9)) (.t (K.ofNat 161))⟩]
noncomputable def f3_r22 : List EOper := [⟨(some (K.ofNat 162)), none, .mv (.t (K.ofNat 8))⟩, ⟨(some (K.ofNat 163)), none, .iadr 2 1 (.t (K.ofNat 10)) (.c (.i .i64 (.ofNat 1)))⟩, ⟨(some (K.ofNat 164)), none, .ld (.t (K.ofNat 163))⟩, ⟨(some (K.ofNat 165)), none, .conv .u64 (.t (K.ofNat 164))⟩, ⟨(some (K.ofNat 166)), none, .mv (.t (K.ofNat 8))⟩, ⟨(some (K.ofNat 167)), none, .len (.t (K.ofNat 166))⟩, ⟨(some (K.ofNat 168)), none, .conv .u64 (.t (K.ofNat 167))⟩, ⟨(some (K.ofNat 169)), none, .bin .rem (.t (K.ofNat 165)) (.t (K.ofNat 168))⟩, ⟨(some (K.ofNat 170)), none, .conv .i64 (.t (K.ofNat 169))⟩, ⟨(some (K.ofNat 171)), none, .iads 2 (.t (K.ofNat 162)) (.t (K.ofNat 170))⟩, ⟨(some (K.ofNat 172)), none, .ldn 2 (.t (K.ofNat 171))⟩, ⟨none, none, .st 2 (.t (K.ofNat 10)) (.t (K.ofNat 172))⟩]
noncomputable def f3_r23 : List EOper := [⟨(some (K.ofNat 173)), none, .iadr 2 2 (.t (K.ofNat 5)) (.c (.i .i64 (.ofNat 0)))⟩, ⟨(some (K.ofNat 174)), none, .iadr 2 1 (.t (K.ofNat 173)) (.c (.i .i64 (.ofNat 1)))⟩, ⟨(some (K.ofNat 175)), none, .ld (.t (K.ofNat 174))⟩, ⟨(some (K.ofNat 176)), none, .bin .rem (.t (K.ofNat 175)) (.c (.i .i64 (.ofNat 2)))⟩, ⟨(some (K.ofNat 177)), none, .bin .eql (.t (K.ofNat 176)) (.c (.i .i64 (.ofNat 0)))⟩]
noncomputable def f3_r24 : List EOper := [⟨(some (K.ofNat 178)), none, .iadr 2 1 (.t (K.ofNat 10)) (.c (.i .i64 (.ofNat 1)))⟩, ⟨(some (K.ofNat 179)), none, .ld (.t (K.ofNat 178))⟩, ⟨(some (K.ofNat 180)), none, .iadr 2 1 (.t (K.ofNat 10)) (.c (.i .i64 (.ofNat 0)))⟩, ⟨(some (K.ofNat 181)), none, .ld (.t (K.ofNat 180))⟩, ⟨(some (K.ofNat 182)), none, .build [(.i .i64 (.ofNat 0)), (.i .i64 (.ofNat 0))] [(0, 1, (.t (K.ofNat 179))), (1, 1, (.t (K.ofNat 181)))]⟩, ⟨none, none, .st 2 (.t (K.ofNat 10)) (.t (K.ofNat 182))⟩]
noncomputable def f3_r25 : List EOper := [⟨(some (K.ofNat 69)), none, .mv (.t (K.ofNat 15))⟩, ⟨(some (K.ofNat 70)), none, .bin .add (.t (K.ofNat 69)) (.c (.i .i64 (.ofNat 1)))⟩, ⟨(some (K.ofNat 15)), none, .as (.t (K.ofNat 70))⟩]
noncomputable def f3_l0 : EC := (.seq (.seq (.reg f3_r8) (.cond (.t (K.ofNat 68)) .skip (.exit 0))) (.seq (.block 1 (.seq (.reg f3_r9) (.seq (.reg f3_r10) (.seq (.draw f3_r11) (.seq (.seq (.reg f3_r12) (.cond (.t (K.ofNat 123)) (.seq (.reg f3_r13) .ret) .skip)) (.seq (.seq (.reg f3_r14) (.cond (.t (K.ofNat 125)) (.seq (.reg f3_r15) (.cond (.t (K.ofNat 132)) (.seq (.reg f3_r16) .ret) .skip)) (.seq (.reg f3_r17) (.seq (.reg f3_r18) (.cond (.t (K.ofNat 147)) (.seq (.reg f3_r19) .ret) .skip))))) (.seq (.seq (.reg f3_r20) (.cond (.t (K.ofNat 150)) (.exit 0) .skip)) (.seq (.reg f3_r21) (.seq (.reg f3_r22) (.seq (.reg f3_r23) (.cond (.t (K.ofNat 177)) (.reg f3_r24) .skip))))))))))) (.reg f3_r25)))
noncomputable def f3_r26 : List EOper := [⟨(some (K.ofNat 183)), none, .call (.c (.fn (K.ofNat 22) [])) []⟩, ⟨(some (K.ofNat 6)), none, .as (.t (K.ofNat 183))⟩]
noncomputable def f3_c : EC := (.seq (.reg f3_r0) (.seq (.reg f3_r1) (.seq (.draw f3_r2) (.seq (.reg f3_r3) (.seq (.reg f3_r4) (.seq (.seq (.reg f3_r5) (.cond (.t (K.ofNat 66)) (.seq (.reg f3_r6) .ret) .skip)) (.seq (.seq (.reg f3_r7) (.block 0 (.loop f3_l0))) (.seq (.reg f3_r26) .ret))))))))
noncomputable def f3 : EF := ⟨184, [.tmp (K.ofNat 6)], f3_c, none⟩
theorem f3_rs : f3.rs = [.tmp (K.ofNat 6)] := of_eq_true (eq_self _)
section
variable {fs : T EF} {h h' : H}
theorem fresh_pp {h0 : H} {fr : Fr} {k1 k2 : K} {x y : Blk} (hg : fr.get k1 = some (.p h0.nx 0)) (hg2 : fr.get k2 = some (.p (h0.new x).nx 0)) : isFresh h0 ((h0.new x).new y) fr [k1, k2] = true := by
  have n1 : (h0.new x).nx.nat = h0.nx.nat + 1 := nx_new h0 x
  have n2 : ((h0.new x).new y).nx.nat = (h0.new x).nx.nat + 1 := nx_new _ y
  show freshL h0.nx.nat ((h0.new x).new y).nx.nat (oGet (slId (getV (fr.get k1))) (idsOf fr [k2]) fun id => id :: idsOf fr [k2]) = true
  rw [hg]
  show freshL h0.nx.nat ((h0.new x).new y).nx.nat (h0.nx :: (oGet (slId (getV (fr.get k2))) [] fun id => [id])) = true
  rw [hg2]
  show (Nat.ble h0.nx.nat h0.nx.nat && Nat.blt h0.nx.nat ((h0.new x).new y).nx.nat && (!(h0.nx.beq (h0.new x).nx) && true) && (Nat.ble h0.nx.nat (h0.new x).nx.nat && Nat.blt (h0.new x).nx.nat ((h0.new x).new y).nx.nat && true && true)) = true
  have hne : h0.nx.beq (h0.new x).nx = false := by
    cases e : h0.nx.beq (h0.new x).nx with
    | false => rfl
    | true => have := congrArg K.nat (K.beq_eq e); omega
  rw [hne, Nat.ble_eq_true_of_le (Nat.le_refl _), show Nat.blt h0.nx.nat ((h0.new x).new y).nx.nat = true from Nat.ble_eq_true_of_le (by omega), Nat.ble_eq_true_of_le (show h0.nx.nat ≤ (h0.new x).nx.nat by omega), show Nat.blt (h0.new x).nx.nat ((h0.new x).new y).nx.nat = true from Nat.ble_eq_true_of_le (by omega)]
  rfl
structure CallsFo (fs : T EF) : Prop extends CallsCl fs, CallsCn fs, CallsEd fs where
  c11 : fs.get (K.ofNat 11) = some f11
  c12 : fs.get (K.ofNat 12) = some f12
  c13 : fs.get (K.ofNat 13) = some f13
  c14 : fs.get (K.ofNat 14) = some f14
  c15 : fs.get (K.ofNat 15) = some f15
  c16 : fs.get (K.ofNat 16) = some f16
  c17 : fs.get (K.ofNat 17) = some f17
  c18 : fs.get (K.ofNat 18) = some f18
  c19 : fs.get (K.ofNat 19) = some f19
  c54 : fs.get (K.ofNat 54) = some f54
  aw : ∀ h P, CallP fs (.fn (K.ofNat 22) []) [] h P = P (.b true) h
def cP (x : Int × Int) : Blk := .cells 2 [.i .i64 x.1, .i .i64 x.2]
structure FoI (h0 : H) (id9 id10 : K) (x y : Int × Int) (h1 : H) : Prop where
  gr : Grow h0.nx.nat h0 h1
  hc : HC h1
  c9 : h1.get id9 = cP x
  c10 : h1.get id10 = cP y
theorem FoI.grow {h0 h1 h2 : H} {id9 id10 : K} {x y : Int × Int} (k : FoI h0 id9 id10 x y h1) (g : Grow h1.nx.nat h1 h2) : FoI h0 id9 id10 x y h2 :=
  ⟨k.gr.trans (g.low k.gr.nx), g.hc k.hc, (g.old _ (k.hc.cells k.c9)).trans k.c9, (g.old _ (k.hc.cells k.c10)).trans k.c10⟩
def f3_I (h0 : H) (m : Nat) (id5 id9 id10 : K) (e : V) (z : Nat × ((Int × Int) × (Int × Int))) (fr : Fr) (h1 : H) : Prop := z.1 ≤ 2 ∧ FoI h0 id9 id10 z.2.1 z.2.2 h1 ∧ fr.get (K.ofNat 5) = some (.p id5 0) ∧ fr.get (K.ofNat 7) = some (.i .i64 (m : Int)) ∧ fr.get (K.ofNat 8) = some (e) ∧ fr.get (K.ofNat 9) = some (.p id9 0) ∧ fr.get (K.ofNat 10) = some (.p id10 0) ∧ fr.get (K.ofNat 15) = some (.i .i64 (z.1 : Int))
theorem f3_ret {n o1 o2 o3 o4 : Int} {v : V} {l : List (Int × Int)} (k : CallsFo fs) (hv : Srp h v l) (hc : HC h) : Ret fs f3 [.i .i64 n, v, .agg [.i .i64 o1, .i .i64 o2, .i .i64 o3, .i .i64 o4]] h fun r h' => r = .b true ∧ Grow h.nx.nat h h' := by
  apply ret_of rfl
  show W fs none f3_c _ _ _
  unfold f3_c
  have o7 : Int.ofNat 7 = ((7 : Nat) : Int) := rfl
  have c4 : cellsN 4 (.agg [.i .i64 o1, .i .i64 o2, .i .i64 o3, .i .i64 o4]) = some [.i .i64 o1, .i .i64 o2, .i .i64 o3, .i .i64 o4] := rfl
  have n1 := nx_new h (.cells 4 [.i .i64 o1, .i .i64 o2, .i .i64 o3, .i .i64 o4])
  have g1_ : Grow h.nx.nat h (h.new (.cells 4 [.i .i64 o1, .i .i64 o2, .i .i64 o3, .i .i64 o4])) := Grow.new (Nat.le_refl _) _
  have e1 : (h.new (.cells 4 [.i .i64 o1, .i .i64 o2, .i .i64 o3, .i .i64 o4])).get h.nx = .cells 4 [.i .i64 o1, .i .i64 o2, .i .i64 o3, .i .i64 o4] := get_new_same
  simp (disch := omega) only [f3_r0, f3_r1, w_reg, w_seq, seqK_n, x_nil, x_mv, x_as, x_box, x_call, kx, rvP_ok, ev_t, ev_c, evs_nil, evs_cons, getV_some, putD_some, oGet_s, frame_3, getK_set, Nat.reduceEqDiff, ↓reduceIte, of7, c4]
  generalize h.new (.cells 4 [.i .i64 o1, .i .i64 o2, .i .i64 o3, .i .i64 o4]) = h1 at *
  have hc1 := g1_.hc hc
  refine (callP_0 (ef := f11) k.c11 rfl (f11_ret (n := n) (w := 7) (hv.grow hc g1_) (by omega) (by omega) hc1)).mono ?_
  rintro r h2 ⟨m, e, g, rfl, hm7, hg, he, hoe, gr2⟩
  have hc2 := gr2.hc hc1
  have gA : Grow h.nx.nat h h2 := g1_.trans (gr2.low (by omega))
  have gr2n := gr2.nx
  have z0 : ∀ ff : Nat → RV, idxV (.i .i64 0) 2 ff = ff 0 := fun _ => rfl
  have z1 : ∀ ff : Nat → RV, idxV (.i .i64 1) 2 ff = ff 1 := fun _ => rfl
  have b5 : ∀ {hh : H}, Grow h2.nx.nat h2 hh → hh.get h.nx = .cells 4 [.i .i64 o1, .i .i64 o2, .i .i64 o3, .i .i64 o4] := fun {hh} g => (g.old h.nx (by omega)).trans ((gr2.old h.nx (by omega)).trans e1)
  have l0 : ∀ {hh : H}, Grow h2.nx.nat h2 hh → loadV hh (.p h.nx (0 + 0 * 2)) (many? 2) = .ok (.agg [.i .i64 o1, .i .i64 o2]) hh := fun {hh} g => loadn_p (b5 g) (by omega)
  have l1 : ∀ {hh : H}, Grow h2.nx.nat h2 hh → loadV hh (.p h.nx (0 + 1 * 2)) (many? 2) = .ok (.agg [.i .i64 o3, .i .i64 o4]) hh := fun {hh} g => loadn_p (b5 g) (by omega)
  have n3 := nx_new h2 (.cells 2 [.i .i64 0, .i .i64 0])
  have g3 : Grow h2.nx.nat h2 (h2.new (.cells 2 [.i .i64 0, .i .i64 0])) := Grow.new (Nat.le_refl _) _
  have n4 := nx_new (h2.new (.cells 2 [.i .i64 0, .i .i64 0])) (.cells 2 [.i .i64 0, .i .i64 0])
  have g4 : Grow (h2.new (.cells 2 [.i .i64 0, .i .i64 0])).nx.nat (h2.new (.cells 2 [.i .i64 0, .i .i64 0])) ((h2.new (.cells 2 [.i .i64 0, .i .i64 0])).new (.cells 2 [.i .i64 0, .i .i64 0])) := Grow.new (Nat.le_refl _) _
  have a9 : ((h2.new (.cells 2 [.i .i64 0, .i .i64 0])).new (.cells 2 [.i .i64 0, .i .i64 0])).get h2.nx = .cells 2 [.i .i64 0, .i .i64 0] := (g4.old h2.nx (by omega)).trans get_new_same
  have a10 : ((h2.new (.cells 2 [.i .i64 0, .i .i64 0])).new (.cells 2 [.i .i64 0, .i .i64 0])).get (h2.new (.cells 2 [.i .i64 0, .i .i64 0])).nx = .cells 2 [.i .i64 0, .i .i64 0] := get_new_same
  have d3 := (g3.hc hc2).dead
  simp (disch := omega) only [f3_r2, w_draw, w_seq, seqK_n, true_and, x_nil, x_mv, x_as, x_st, x_ext, kx, kg, xg_nil, xg_ldn, xg_iadr, xd_cons, stK_s, stay_nil, rvP_ok, okv_some, ev_t, ev_c, getV_some, putD_some, onTup_t, onP_p, nth0, nth1, of0, of1, getK_set, Nat.reduceEqDiff, ↓reduceIte, xg_alloc, z0, z1, l0 (Grow.refl _ _), l1 (Grow.refl _ _), hc2.dead, d3]
  refine ⟨fresh_pp (by simp (disch := omega) only [getK_set, Nat.reduceEqDiff, ↓reduceIte]) (by simp (disch := omega) only [getK_set, ↓reduceIte]), ?_⟩
  have hne9 : h2.nx ≠ (h2.new (.cells 2 [.i .i64 0, .i .i64 0])).nx := kNe (by omega)
  have g24 : Grow h2.nx.nat h2 ((h2.new (.cells 2 [.i .i64 0, .i .i64 0])).new (.cells 2 [.i .i64 0, .i .i64 0])) := g3.trans (g4.low (by omega))
  generalize hn10 : (h2.new (.cells 2 [.i .i64 0, .i .i64 0])).nx = id10 at *
  generalize (h2.new (.cells 2 [.i .i64 0, .i .i64 0])).new (.cells 2 [.i .i64 0, .i .i64 0]) = h4 at *
  have s9 : storeV h4 2 (.p h2.nx 0) (.agg [.i .i64 o1, .i .i64 o2]) = .ok undefV (h4.put h2.nx (cP (o1, o2))) := st2 a9
  have g9 : Grow h2.nx.nat h4 (h4.put h2.nx (cP (o1, o2))) := Grow.put (Nat.le_refl _) (by omega) _
  have a10' : (h4.put h2.nx (cP (o1, o2))).get id10 = .cells 2 [.i .i64 0, .i .i64 0] := (get_put_other hne9.symm).trans a10
  have s10 : storeV (h4.put h2.nx (cP (o1, o2))) 2 (.p id10 0) (.agg [.i .i64 o3, .i .i64 o4]) = .ok undefV ((h4.put h2.nx (cP (o1, o2))).put id10 (cP (o3, o4))) := st2 a10'
  have bq : beqV (.agg [.i .i64 o3, .i .i64 o4]) (.agg [.i .i64 o3, .i .i64 o4]) = true := beq_2
  have bp : beqV (.p h.nx (0 + 1 * 2)) (.p h.nx (0 + 1 * 2)) = true := beq_p
  have f0 : FoI h2 h2.nx id10 (o1, o2) (o3, o4) ((h4.put h2.nx (cP (o1, o2))).put id10 (cP (o3, o4))) := by
    have gg : Grow h2.nx.nat h4 ((h4.put h2.nx (cP (o1, o2))).put id10 (cP (o3, o4))) := g9.trans (Grow.put (by omega) (by rw [nx_put]; omega) _)
    exact ⟨g24.trans gg, gg.hc (g24.hc hc2), (get_put_other hne9).trans get_put_same, get_put_same⟩
  simp (disch := omega) only [f3_r3, w_reg, w_seq, seqK_n, true_and, x_nil, x_mv, x_st, x_call, kx, xg_nil, xd_cons, fresh_nil, stK_n, stK_s, stay_nil, stay_cons, again_ok, rvP_ok, ev_t, ev_c, evs_nil, evs_cons, getV_some, putD_some, putD_none, onP_p, getK_set, Nat.reduceEqDiff, ↓reduceIte, stay_ldn, stay_iadr, s9, s10, z1, l1 (g24.trans g9), bq, bp]
  clear s9 g9 a10' s10 a9 a10 g24 n4
  generalize (h4.put h2.nx (cP (o1, o2))).put id10 (cP (o3, o4)) = h5 at *
  have he5 := he.grow hc2 f0.gr
  have oo := oth_gph hg
  refine (callP_0 (ef := f12) k.c12 rfl (f12_ret k.toCallsEd hg he5.srpo f0.hc)).mono ?_
  rintro r h6 ⟨u1, rfl, hu1, _, gr6⟩
  have f6 := f0.grow gr6
  have he6 := he5.grow f0.hc gr6
  simp (disch := omega) only [f3_r4, w_reg, w_seq, seqK_n, x_nil, x_mv, x_as, x_ext, x_call, kx, rvP_ok, okv_some, ev_t, ev_c, evs_nil, evs_cons, getV_some, putD_some, onTup_t, nth0, nth1, getK_set, Nat.reduceEqDiff, ↓reduceIte]
  refine (callP_0 (ef := f13) k.c13 rfl (f13_ret k.toCallsCn hg he6.srpo f6.hc)).mono ?_
  rintro r h7 ⟨rfl, gr7⟩
  have f7 := f6.grow gr7
  have he7 := he6.grow f6.hc gr7
  have hu7 := hu1.grow f6.hc gr7
  have ne0 : decide ((0 : Int) ≠ 0) = false := rfl
  have ne1 : decide ((1 : Int) ≠ 1) = false := rfl
  simp (disch := omega) only [f3_r5, w_reg, w_seq, seqK_n, okG_b, asG_f, true_and, x_nil, x_g, x_mv, x_as, x_bin, x_ext, x_call, kx, rvP_ok, okv_some, ev_t, ev_c, evs_nil, evs_cons, getV_some, putD_some, bin_neq, onTup_t, nth0, nth1, of0, getK_set, Nat.reduceEqDiff, ↓reduceIte, Bool.not_false, ne0]
  refine (callP_0 (ef := f15) k.c15 rfl (f15_ret k.toCallsJn hg he7.srpo f7.hc)).mono ?_
  rintro u2 h8 ⟨hu2, _, gr8⟩
  have f8 := f7.grow gr8
  have he8 := he7.grow f7.hc gr8
  have hu8 := hu7.grow f7.hc gr8
  have hob := arI_len (g := oth m g)
  simp (disch := omega) only [okG_b, asG_f, true_and, x_g, x_call, kx, ev_t, ev_c, evs_nil, evs_cons, getV_some, putD_some, getK_set, Nat.reduceEqDiff, ↓reduceIte, Bool.not_false]
  refine (callP_0 (ef := f14) k.c14 rfl (f14_ret hu8.srpo hu2.srpo inI_arI (by omega))).mono ?_
  rintro r h8' ⟨rfl, rfl⟩
  simp (disch := omega) only [okG_b, asG_f, true_and, x_g, x_mv, x_pick, x_bin, x_not, x_call, kx, rvP_ok, okv_some, ev_t, ev_c, evs_nil, evs_cons, getV_some, putD_some, bin_neq, pick_b, onB_b, getK_set, Nat.reduceEqDiff, ↓reduceIte, Bool.false_eq_true, Bool.not_true, Bool.not_false, ne0]
  refine (callP_0 (ef := f16) k.c16 rfl (f16_ret k.toCallsCn hg he8.srpo f8.hc)).mono ?_
  rintro r h9 ⟨rfl, gr9⟩
  have f9_ := f8.grow gr9
  have cne : decide ((cnN (gR (arI g)) (arw (rat (gR (arI g)))).length : Int) ≠ (cnN (gR (arI g)) (arw (rat (gR (arI g)))).length : Int)) = false := by simp
  simp (disch := omega) only [f3_r7, w_skip, w_reg, w_seq, w_cond, w_block, seqK_n, ckB_b, cbB_b, okG_b, asG_f, true_and, x_nil, x_g, x_as, x_pick, x_bin, kx, rvP_ok, okv_some, ev_t, ev_c, getV_some, putD_some, bin_neq, pick_b, of0, getK_set, Nat.reduceEqDiff, ↓reduceIte, Bool.false_eq_true, Bool.not_false, cne]
  have sy := symR_g hg
  have hlb := arI_len (g := g)
  have hlenE : ∀ h1, lenV e h1 = .ok (.i .i64 ((arI g).length : Int)) h1 := he.len
  have id10n : id10.nat = h2.nx.nat + 1 := n3
  have heb := he.beq
  refine W_loop (f3_I h2 m h.nx h2.nx id10 e) (fun z => 2 - z.1) ?_ (0, ((o1, o2), (o3, o4))) ⟨by simp, f9_, by simp (disch := omega) only [getK_set, Nat.reduceEqDiff, ↓reduceIte, and_self, Int.natCast_zero]⟩
  clear f9_ f8 f7 f6 f0 he8 he7 he6 he5 hu8 hu7 hu2 hu1 gr9 gr8 gr7 gr6 cne
  rintro ⟨kk, x, y⟩ fr hA ⟨hkk, fo, g5, g7, g8, g9, g10, g15⟩
  have hkk : kk ≤ 2 := hkk
  have fo : FoI h2 h2.nx id10 x y hA := fo
  replace g15 : fr.get (K.ofNat 15) = some (.i .i64 (kk : Int)) := g15
  have heA := he.grow hc2 fo.gr
  unfold f3_l0
  by_cases hk2 : kk < 2
  · have d0 : decide ((kk : Int) < 2) = true := decide_eq_true (by omega)
    have hax : V.agg [.i .i64 x.1, .i .i64 x.2] = pV x := rfl
    have hay : V.agg [.i .i64 y.1, .i .i64 y.2] = pV y := rfl
    have lx : ∀ {hh : H}, FoI h2 h2.nx id10 x y hh → loadV hh (.p h2.nx 0) (many? 2) = .ok (.agg [.i .i64 x.1, .i .i64 x.2]) hh := fun {hh} f => ldn2 f.c9
    have ly : ∀ {hh : H}, FoI h2 h2.nx id10 x y hh → loadV hh (.p id10 0) (many? 2) = .ok (.agg [.i .i64 y.1, .i .i64 y.2]) hh := fun {hh} f => ldn2 f.c10
    -- the next two
    have tail : ∀ (fr : Fr) (hh : H), FoI h2 h2.nx id10 x y hh → fr.get (K.ofNat 5) = some (.p h.nx 0) ∧ fr.get (K.ofNat 7) = some (.i .i64 (m : Int)) ∧ fr.get (K.ofNat 8) = some (e) ∧ fr.get (K.ofNat 9) = some (.p h2.nx 0) ∧ fr.get (K.ofNat 10) = some (.p id10 0) ∧ fr.get (K.ofNat 15) = some (.i .i64 (kk : Int)) →
        W fs none (.reg f3_r20) (seqK (W fs none (.cond (.t (K.ofNat 150)) (.exit 0) .skip)) (seqK (W fs none (.seq (.reg f3_r21) (.seq (.reg f3_r22) (.seq (.reg f3_r23) (.cond (.t (K.ofNat 177)) (.reg f3_r24) .skip)))))
          (atK 1 (seqK (W fs none (.reg f3_r25)) (loopK (f3_I h2 m h.nx h2.nx id10 e) (fun z => 2 - z.1) (kk, x, y) (atK 0 (seqK (W fs none (.seq (.reg f3_r26) .ret)) (retK f3 fun r h' => r = .b true ∧ Grow h.nx.nat h h')))))))) fr hh := by
      clear g5 g7 g8 g9 g10 g15 fr
      rintro fr hh f ⟨g5, g7, g8, g9, g10, g15⟩
      have heh := he.grow hc2 f.gr
      by_cases hE : (arI g).length = 0
      · have d1 : decide (((arI g).length : Int) = 0) = true := decide_eq_true (by omega)
        simp (disch := omega) only [f3_r20, f3_r26, f3_rs, w_reg, w_seq, w_cond, w_exit, w_ret, seqK_n, seqK_e, atK_e, loopK_e, ckB_b, cbB_b, true_and, retK_r, x_nil, x_mv, x_as, x_bin, x_call, x_len, kx, rvP_ok, okv_some, ev_t, ev_c, evs_nil, getV_some, putD_some, bin_eql, oGet_s, readRs_nil, readRs_t, retV_1, of0, Option.some.injEq, exists_eq_left', getK_set, Nat.reduceEqDiff, ↓reduceIte, g8, hlenE, d1, k.aw, true_and]
        exact gA.trans (f.gr.low gA.nx)
      · have d1 : decide (((arI g).length : Int) = 0) = false := decide_eq_false (by omega)
        obtain ⟨q1, hq1, hqe1⟩ := rem_kO x.1 (k := (arI g).length) (by omega) (by omega)
        obtain ⟨q2, hq2, hqe2⟩ := rem_kO y.2 (k := (arI g).length) (by omega) (by omega)
        have hww : fw .u64 ((arI g).length : Int) = ((arI g).length : Int) := fwu64 (by omega) (by omega)
        have hrw : ∀ a, binV .rem (.i .u64 a) (.i .u64 ((arI g).length : Int)) = some (.i .u64 (a.tmod ((arI g).length : Int))) := fun a => bin_rem (by omega)
        have lx0 : loadV hh (.p h2.nx 0) one? = .ok (.i .i64 x.1) hh := ld20 f.c9
        obtain ⟨p1, pa1, pb1⟩ := heh.at2 hq1
        obtain ⟨w, hw⟩ : ∃ w, (arI g)[q1] = w := ⟨_, rfl⟩
        rw [hw] at pb1
        have sx : storeV hh 2 (.p h2.nx 0) (.agg [.i .i64 w.1, .i .i64 w.2]) = .ok undefV (hh.put h2.nx (cP w)) := st2 f.c9
        have l9 := f.hc.cells f.c9
        have l10 := f.hc.cells f.c10
        have f2 : FoI h2 h2.nx id10 w y (hh.put h2.nx (cP w)) := by
          have gg : Grow h2.nx.nat hh (hh.put h2.nx (cP w)) := Grow.put (Nat.le_refl _) l9 _
          exact ⟨f.gr.trans gg, gg.hc f.hc, get_put_same, (get_put_other (fun e => by have := congrArg K.nat e; omega)).trans f.c10⟩
        have ly1 : loadV (hh.put h2.nx (cP w)) (.p id10 1) one? = .ok (.i .i64 y.2) _ := ld21 f2.c10
        obtain ⟨p2, pa2, pb2⟩ := (he.grow hc2 f2.gr).at2 hq2
        obtain ⟨u, hu⟩ : ∃ u, (arI g)[q2] = u := ⟨_, rfl⟩
        rw [hu] at pb2
        have sy2 : storeV (hh.put h2.nx (cP w)) 2 (.p id10 0) (.agg [.i .i64 u.1, .i .i64 u.2]) = .ok undefV ((hh.put h2.nx (cP w)).put id10 (cP u)) := st2 f2.c10
        have f3_ : FoI h2 h2.nx id10 w u ((hh.put h2.nx (cP w)).put id10 (cP u)) := by
          have gg : Grow h2.nx.nat (hh.put h2.nx (cP w)) ((hh.put h2.nx (cP w)).put id10 (cP u)) := Grow.put (by omega) (by rw [nx_put]; exact l10) _
          exact ⟨f2.gr.trans gg, gg.hc f2.hc, (get_put_other (fun e => by have := congrArg K.nat e; omega)).trans f2.c9, get_put_same⟩
        generalize (hh.put h2.nx (cP w)).put id10 (cP u) = hz at *
        have lo : loadV hz (.p h.nx (0 + 0 * 2 + 1 * 1)) one? = .ok (.i .i64 o2) hz := load_p (b5 f3_.gr) rfl
        have hr2 : binV .rem (.i .i64 o2) (.i .i64 2) = some (.i .i64 (o2.tmod 2)) := bin_rem (by omega)
        cases d2 : decide (o2.tmod 2 = 0) with
        | false =>
          simp (disch := omega) only [f3_r20, f3_r21, f3_r22, f3_r23, f3_r25, w_skip, w_reg, w_seq, w_cond, seqK_n, atK_n, loopK_n, ckB_b, cbB_b, true_and, x_nil, x_mv, x_as, x_ld, x_ldn, x_st, x_bin, x_conv, x_iadr, x_iads, x_len, kx, rvP_ok, okv_some, ev_t, ev_c, getV_some, putD_some, putD_none, bin_add, bin_eql, onI_i, onP_p, of0, of1, of2, getK_set, Nat.reduceEqDiff, ↓reduceIte, Bool.false_eq_true, g5, g8, g9, g10, g15, hlenE, d1, z0, z1, lx0, hww, hrw, hqe1, pa1, pb1, sx, ly1, hqe2, pa2, pb2, sy2, lo, hr2, d2, fw64]
          exact ⟨(kk + 1, w, u), by simp only; omega, by simp only; omega, f3_, by simp (disch := omega) only [getK_set, Nat.reduceEqDiff, ↓reduceIte, g5, g7, g8, g9, g10, and_self, Int.natCast_add, Int.natCast_one]⟩
        | true =>
          have lu0 : loadV hz (.p id10 0) one? = .ok (.i .i64 u.1) hz := ld20 f3_.c10
          have lu1 : loadV hz (.p id10 1) one? = .ok (.i .i64 u.2) hz := ld21 f3_.c10
          have sw : storeV hz 2 (.p id10 0) (.agg [.i .i64 u.2, .i .i64 u.1]) = .ok undefV (hz.put id10 (cP (u.2, u.1))) := st2 f3_.c10
          have l10z := f3_.hc.cells f3_.c10
          have f4_ : FoI h2 h2.nx id10 w (u.2, u.1) (hz.put id10 (cP (u.2, u.1))) := by
            have gg : Grow h2.nx.nat hz (hz.put id10 (cP (u.2, u.1))) := Grow.put (by omega) l10z _
            exact ⟨f3_.gr.trans gg, gg.hc f3_.hc, (get_put_other (fun e => by have := congrArg K.nat e; omega)).trans f3_.c9, get_put_same⟩
          simp (disch := omega) only [f3_r20, f3_r21, f3_r22, f3_r23, f3_r24, f3_r25, w_skip, w_reg, w_seq, w_cond, seqK_n, atK_n, loopK_n, ckB_b, cbB_b, true_and, x_nil, x_mv, x_as, x_build, x_ld, x_ldn, x_st, x_bin, x_conv, x_iadr, x_iads, x_len, kx, rvP_ok, okv_some, ev_t, ev_c, getV_some, putD_some, putD_none, bin_add, bin_eql, onI_i, onP_p, oGet_s, cells1_i, of0, of1, of2, getK_set, Nat.reduceEqDiff, ↓reduceIte, Bool.false_eq_true, fill_2, set_2, g5, g8, g9, g10, g15, hlenE, d1, z0, z1, lx0, hww, hrw, hqe1, pa1, pb1, sx, ly1, hqe2, pa2, pb2, sy2, lo, hr2, d2, lu0, lu1, fill_2, set_2, sw, fw64]
          exact ⟨(kk + 1, w, (u.2, u.1)), by simp only; omega, by simp only; omega, f4_, by simp (disch := omega) only [getK_set, Nat.reduceEqDiff, ↓reduceIte, g5, g7, g8, g9, g10, and_self, Int.natCast_add, Int.natCast_one]⟩
    simp (disch := omega) only [f3_r8, f3_r9, w_skip, w_reg, w_seq, w_cond, w_block, seqK_n, ckB_b, cbB_b, true_and, x_nil, x_mv, x_ldn, x_bin, x_call, kx, rvP_ok, okv_some, ev_t, ev_c, evs_nil, evs_cons, getV_some, putD_some, bin_lss, of2, getK_set, Nat.reduceEqDiff, ↓reduceIte, g7, g8, g9, g10, g15, d0, lx fo, ly fo, hax, hay]
    refine (callP_0 (ef := f17) k.c17 rfl (f17_ret (x := x) (y := y) k.toCallsCl k.c54 hg heA.srpo fo.hc)).mono ?_
    rintro r hB ⟨grB, hr17, hr17b⟩
    have fB := fo.grow grB
    have heB := he.grow hc2 fB.gr
    have bx : beqV (pV x) (pV x) = true := beq_2
    have byy : beqV (pV y) (pV y) = true := beq_2
    have t1 : decide ((1 : Int) ≠ 0) = true := rfl
    cases hxb : hasR (gR (arI g)) x with
    | false =>
      obtain rfl := hr17 (by rw [hxb]; rfl)
      simp (disch := omega) only [f3_r10, w_reg, w_seq, seqK_n, x_nil, x_mv, x_as, x_ldn, x_ext, x_call, kx, rvP_ok, okv_some, ev_t, ev_c, evs_nil, evs_cons, getV_some, putD_some, onTup_t, nth0, nth1, getK_set, Nat.reduceEqDiff, ↓reduceIte, g7, g8, g9, lx fB, hax]
      refine (callP_0 (ef := f18) k.c18 rfl (f18e_ret k.toCallsCl k.c54 hg heB.srpo hxb fB.hc)).mono ?_
      rintro r hC ⟨rfl, grC⟩
      have fC := fB.grow grC
      have heC := he.grow hc2 fC.gr
      simp (disch := omega) only [f3_r11, w_draw, w_seq, seqK_n, true_and, x_nil, x_mv, x_as, x_ext, x_call, kx, kg, xg_nil, xg_mv, xg_ldn, xd_cons, fresh_nil, stK_s, stay_nil, rvP_ok, okv_some, ev_t, ev_c, evs_nil, evs_cons, getV_some, putD_some, onTup_t, nth0, nth1, getK_set, Nat.reduceEqDiff, ↓reduceIte, g7, g8, g9, lx fC, hax]
      refine (callP_0 (ef := f19) k.c19 rfl (f19_ret (x := x) k.toCallsJn hg heC.srpo fC.hc)).mono ?_
      rintro r hD ⟨rfl, grD⟩
      rw [hxb]
      have fD := fC.grow grD
      have heD := he.grow hc2 fD.gr
      simp (disch := omega) only [true_and, x_nil, x_call, kx, xg_nil, xd_cons, fresh_nil, stK_s, stay_nil, stay_cons, again_ok, stay_mv, beq_i, ev_t, ev_c, evs_nil, evs_cons, getV_some, putD_some, getK_set, Nat.reduceEqDiff, ↓reduceIte, stay_ldn, g7, g8, g9, lx fD, hax, bx, heb]
      refine (callP_0 (ef := f19) k.c19 rfl (f19_ret (x := x) k.toCallsJn hg heD.srpo fD.hc)).mono ?_
      rintro r hE ⟨rfl, grE⟩
      rw [hxb]
      have fE := fD.grow grE
      simp (disch := omega) only [f3_r12, f3_r14, f3_r15, w_skip, w_reg, w_seq, w_cond, seqK_n, ckB_b, cbB_b, okG_b, okG_u, asG_t, asG_f, asG_u, true_and, x_nil, x_g, x_mv, x_as, x_pick, x_bin, x_not, x_len, kx, kg, xg_nil, xg_g, xg_mv, xg_pick, xd_cons, fresh_nil, stK_n, stK_s, stay_nil, stay_cons, again_ok, beq_b, rvP_ok, okv_some, ev_t, ev_c, getV_some, putD_some, bin_neq, pick_b, onB_b, len_sn, of0, of1, getK_set, Nat.reduceEqDiff, ↓reduceIte, Bool.false_eq_true, Bool.not_false, stay_pick, ne1, ne0]
      exact tail _ _ fE (by simp (disch := omega) only [getK_set, Nat.reduceEqDiff, ↓reduceIte, g5, g7, g8, g9, g10, g15, and_self])
    | true =>
      obtain ⟨x', rfl, hx7, hxG⟩ := hasR_arr hxb
      have haxx : pV (toI x') = aV x' := rfl
      cases hyb : hasR (gR (arI g)) y with
      | false =>
        obtain rfl := hr17 (by rw [hxb, hyb]; rfl)
        simp (disch := omega) only [f3_r10, w_reg, w_seq, seqK_n, x_nil, x_mv, x_as, x_ldn, x_ext, x_call, kx, rvP_ok, okv_some, ev_t, ev_c, evs_nil, evs_cons, getV_some, putD_some, onTup_t, nth0, nth1, getK_set, Nat.reduceEqDiff, ↓reduceIte, g7, g8, g9, lx fB, hax]
        refine (callP_0 (ef := f18) k.c18 rfl (f18_ret (x := x') k.toCallsCl k.c54 hg heB.srpo hxG fB.hc)).mono ?_
        rintro r hC ⟨uc, rfl, huc, _, grC⟩
        have fC := fB.grow grC
        have heC := he.grow hc2 fC.gr
        simp (disch := omega) only [f3_r11, w_draw, w_seq, seqK_n, true_and, x_nil, x_mv, x_as, x_ext, x_call, kx, kg, xg_nil, xg_mv, xg_ldn, xd_cons, fresh_nil, stK_s, stay_nil, rvP_ok, okv_some, ev_t, ev_c, evs_nil, evs_cons, getV_some, putD_some, onTup_t, nth0, nth1, getK_set, Nat.reduceEqDiff, ↓reduceIte, g7, g8, g9, lx fC, hax]
        refine (callP_0 (ef := f19) k.c19 rfl (f19_ret (x := toI x') k.toCallsJn hg heC.srpo fC.hc)).mono ?_
        rintro r hD ⟨rfl, grD⟩
        rw [hxb]
        have fD := fC.grow grD
        have heD := he.grow hc2 fD.gr
        simp (disch := omega) only [true_and, x_nil, x_call, kx, xg_nil, xd_cons, fresh_nil, stK_s, stay_nil, stay_cons, again_ok, stay_mv, beq_i, ev_t, ev_c, evs_nil, evs_cons, getV_some, putD_some, getK_set, Nat.reduceEqDiff, ↓reduceIte, stay_ldn, g7, g8, g9, lx fD, hax, bx, heb]
        refine (callP_0 (ef := f19) k.c19 rfl (f19_ret (x := toI x') k.toCallsJn hg heD.srpo fD.hc)).mono ?_
        rintro r hE ⟨rfl, grE⟩
        rw [hxb]
        have fE := fD.grow grE
        have heE := he.grow hc2 fE.gr
        simp (disch := omega) only [okG_b, asG_t, true_and, x_nil, x_g, x_call, kx, kg, xg_nil, xg_g, xg_mv, xg_ldn, xd_cons, fresh_nil, stK_s, stay_nil, rvP_ok, ev_t, ev_c, evs_nil, evs_cons, getV_some, putD_some, getK_set, Nat.reduceEqDiff, ↓reduceIte, g7, g8, g10, ly fE, hay]
        refine (callP_0 (ef := f19) k.c19 rfl (f19_ret (x := y) k.toCallsJn hg heE.srpo fE.hc)).mono ?_
        rintro r hF ⟨rfl, grF⟩
        rw [hyb]
        have fF := fE.grow grF
        have heF := he.grow hc2 fF.gr
        simp (disch := omega) only [f3_r12, f3_r14, f3_r17, w_skip, w_reg, w_seq, w_cond, seqK_n, ckB_b, cbB_b, okG_b, okG_u, asG_t, asG_f, asG_u, true_and, x_nil, x_g, x_mv, x_as, x_pick, x_ldn, x_bin, x_not, x_call, kx, kg, xg_nil, xg_pick, xd_cons, fresh_nil, stK_n, stK_s, stay_nil, stay_cons, again_ok, beq_b, rvP_ok, okv_some, ev_t, ev_c, evs_nil, evs_cons, getV_some, putD_some, bin_neq, pick_b, onB_b, of0, of1, getK_set, Nat.reduceEqDiff, ↓reduceIte, Bool.false_eq_true, Bool.not_true, Bool.not_false, stay_pick, g7, g8, g9, ne1, lx fF, hax]
        refine (callP_0 (ef := f21) k.c21 rfl (f21_ret (s := x') k.toCallsCs hg heF.srpo hxG fF.hc)).mono ?_
        rintro r hG ⟨u22, w23, M, rfl, _, hu22, _, _, _, grG⟩
        have fG := fF.grow grG
        have grCG : Grow hC.nx.nat hC hG := grD.trans ((grE.low grD.nx).trans ((grF.low (by have := grD.nx; have := grE.nx; omega)).trans (grG.low (by have := grD.nx; have := grE.nx; have := grF.nx; omega))))
        have huG := huc.grow fC.hc grCG
        have hcb := arI_len (g := rat (clsR (gR (arI g)) x'))
        simp (disch := omega) only [f3_r18, w_reg, w_seq, seqK_n, okG_b, asG_f, true_and, x_nil, x_g, x_mv, x_as, x_bin, x_ext, x_call, kx, rvP_ok, okv_some, ev_t, ev_c, evs_nil, evs_cons, getV_some, putD_some, bin_neq, onTup_t, nth0, nth1, of0, getK_set, Nat.reduceEqDiff, ↓reduceIte, Bool.not_false, ne0]
        refine (callP_0 (ef := f14) k.c14 rfl (f14_ret huG.srpo hu22.srpo inI_arI (by omega))).mono ?_
        rintro r hG' ⟨rfl, rfl⟩
        simp (disch := omega) only [w_skip, w_reg, w_seq, w_cond, seqK_n, ckB_b, cbB_b, okG_b, asG_f, true_and, x_nil, x_g, x_pick, x_not, kx, rvP_ok, ev_t, ev_c, getV_some, putD_some, pick_b, onB_b, getK_set, Nat.reduceEqDiff, ↓reduceIte, Bool.false_eq_true, Bool.not_true, Bool.not_false]
        exact tail _ _ fG (by simp (disch := omega) only [getK_set, Nat.reduceEqDiff, ↓reduceIte, g5, g7, g8, g9, g10, g15, and_self])
      | true =>
        obtain ⟨y', rfl, hy7, hyG⟩ := hasR_arr hyb
        obtain rfl := hr17b x' y' rfl rfl hxG hyG
        simp (disch := omega) only [f3_r10, w_reg, w_seq, seqK_n, x_nil, x_mv, x_as, x_ldn, x_ext, x_call, kx, rvP_ok, okv_some, ev_t, ev_c, evs_nil, evs_cons, getV_some, putD_some, onTup_t, nth0, nth1, getK_set, Nat.reduceEqDiff, ↓reduceIte, g7, g8, g9, lx fB, hax]
        refine (callP_0 (ef := f18) k.c18 rfl (f18_ret (x := x') k.toCallsCl k.c54 hg heB.srpo hxG fB.hc)).mono ?_
        rintro r hC ⟨uc, rfl, huc, _, grC⟩
        have fC := fB.grow grC
        have heC := he.grow hc2 fC.gr
        simp (disch := omega) only [f3_r11, w_draw, w_seq, seqK_n, true_and, x_nil, x_mv, x_as, x_ext, x_call, kx, kg, xg_nil, xg_mv, xg_ldn, xd_cons, fresh_nil, stK_s, stay_nil, rvP_ok, okv_some, ev_t, ev_c, evs_nil, evs_cons, getV_some, putD_some, onTup_t, nth0, nth1, getK_set, Nat.reduceEqDiff, ↓reduceIte, g7, g8, g9, lx fC, hax]
        refine (callP_0 (ef := f19) k.c19 rfl (f19_ret (x := toI x') k.toCallsJn hg heC.srpo fC.hc)).mono ?_
        rintro r hD ⟨rfl, grD⟩
        rw [hxb]
        have fD := fC.grow grD
        have heD := he.grow hc2 fD.gr
        simp (disch := omega) only [true_and, x_nil, x_call, kx, xg_nil, xd_cons, fresh_nil, stK_s, stay_nil, stay_cons, again_ok, stay_mv, beq_i, ev_t, ev_c, evs_nil, evs_cons, getV_some, putD_some, getK_set, Nat.reduceEqDiff, ↓reduceIte, stay_ldn, g7, g8, g9, lx fD, hax, bx, heb]
        refine (callP_0 (ef := f19) k.c19 rfl (f19_ret (x := toI x') k.toCallsJn hg heD.srpo fD.hc)).mono ?_
        rintro r hE ⟨rfl, grE⟩
        rw [hxb]
        have fE := fD.grow grE
        have heE := he.grow hc2 fE.gr
        simp (disch := omega) only [okG_b, asG_t, true_and, x_nil, x_g, x_call, kx, kg, xg_nil, xg_g, xg_mv, xg_ldn, xd_cons, fresh_nil, stK_s, stay_nil, rvP_ok, ev_t, ev_c, evs_nil, evs_cons, getV_some, putD_some, getK_set, Nat.reduceEqDiff, ↓reduceIte, g7, g8, g10, ly fE, hay]
        refine (callP_0 (ef := f19) k.c19 rfl (f19_ret (x := toI y') k.toCallsJn hg heE.srpo fE.hc)).mono ?_
        rintro r hF0 ⟨rfl, grF0⟩
        rw [hyb]
        have fF0 := fE.grow grF0
        have heF0 := he.grow hc2 fF0.gr
        simp (disch := omega) only [f3_r12, w_reg, w_seq, seqK_n, okG_b, okG_u, asG_t, asG_f, asG_u, true_and, x_nil, x_g, x_mv, x_as, x_pick, x_ldn, x_bin, x_not, x_call, kx, kg, xg_nil, xg_pick, xd_cons, fresh_nil, stK_n, stK_s, stay_nil, stay_cons, again_ok, beq_b, rvP_ok, okv_some, ev_t, ev_c, evs_nil, evs_cons, getV_some, putD_some, bin_neq, pick_b, onB_b, of0, of1, getK_set, Nat.reduceEqDiff, ↓reduceIte, Bool.false_eq_true, Bool.not_true, Bool.not_false, stay_pick, g8, g9, g10, ne0, lx fF0, ly fF0, hax, hay]
        refine (callP_0 (ef := f20) k.c20 rfl (f20_ret (x := x') (y := y') k.toCallsJn hg heF0.srpo hx7 hy7 fF0.hc)).mono ?_
        rintro r hF ⟨rfl, grF1⟩
        have fF := fF0.grow grF1
        have heF := he.grow hc2 fF.gr
        have grF : Grow hE.nx.nat hE hF := grF0.trans (grF1.low grF0.nx)
        have kq : keyEq (.one none) (.b (frcB (gR (arI g)) x' y')) (.b (frcB (gR (arI g)) x' y')) = some true := by cases frcB (gR (arI g)) x' y' <;> rfl
        simp (disch := omega) only [f3_r14, f3_r17, w_skip, w_reg, w_seq, w_cond, seqK_n, ckB_b, cbB_b, okG_b, asG_t, asG_f, true_and, x_nil, x_g, x_mv, x_pick, x_ldn, x_eqk, x_not, x_call, kx, rvP_ok, okv_some, ev_t, ev_c, evs_nil, evs_cons, getV_some, putD_some, pick_b, onB_b, oGet_s, getK_set, Nat.reduceEqDiff, ↓reduceIte, Bool.false_eq_true, Bool.not_true, Bool.not_false, g7, g8, g9, kq, cond_true, lx fF, hax]
        refine (callP_0 (ef := f21) k.c21 rfl (f21_ret (s := x') k.toCallsCs hg heF.srpo hxG fF.hc)).mono ?_
        rintro r hG ⟨u22, w23, M, rfl, _, hu22, _, _, _, grG⟩
        have fG := fF.grow grG
        have grCG : Grow hC.nx.nat hC hG := grD.trans ((grE.low grD.nx).trans ((grF.low (by have := grD.nx; have := grE.nx; omega)).trans (grG.low (by have := grD.nx; have := grE.nx; have := grF.nx; omega))))
        have huG := huc.grow fC.hc grCG
        have hcb := arI_len (g := rat (clsR (gR (arI g)) x'))
        simp (disch := omega) only [f3_r18, w_reg, w_seq, seqK_n, okG_b, asG_f, true_and, x_nil, x_g, x_mv, x_as, x_bin, x_ext, x_call, kx, rvP_ok, okv_some, ev_t, ev_c, evs_nil, evs_cons, getV_some, putD_some, bin_neq, onTup_t, nth0, nth1, of0, getK_set, Nat.reduceEqDiff, ↓reduceIte, Bool.not_false, ne0]
        refine (callP_0 (ef := f14) k.c14 rfl (f14_ret huG.srpo hu22.srpo inI_arI (by omega))).mono ?_
        rintro r hG' ⟨rfl, rfl⟩
        simp (disch := omega) only [w_skip, w_reg, w_seq, w_cond, seqK_n, ckB_b, cbB_b, okG_b, asG_f, true_and, x_nil, x_g, x_pick, x_not, kx, rvP_ok, ev_t, ev_c, getV_some, putD_some, pick_b, onB_b, getK_set, Nat.reduceEqDiff, ↓reduceIte, Bool.false_eq_true, Bool.not_true, Bool.not_false]
        exact tail _ _ fG (by simp (disch := omega) only [getK_set, Nat.reduceEqDiff, ↓reduceIte, g5, g7, g8, g9, g10, g15, and_self])
  · have d0 : decide ((kk : Int) < 2) = false := decide_eq_false (by omega)
    simp (disch := omega) only [f3_r8, f3_r26, f3_rs, w_reg, w_seq, w_cond, w_exit, w_ret, seqK_n, seqK_e, atK_e, loopK_e, ckB_b, cbB_b, true_and, retK_r, x_nil, x_mv, x_as, x_bin, x_call, kx, rvP_ok, okv_some, ev_t, ev_c, evs_nil, getV_some, putD_some, bin_lss, oGet_s, readRs_nil, readRs_t, retV_1, of2, Option.some.injEq, exists_eq_left', getK_set, ↓reduceIte, Bool.false_eq_true, g15, d0, k.aw, true_and]
    exact gA.trans (fo.gr.low gA.nx)
end
end Go.Ev
namespace Go.Ev
open Go Go.RowKit
theorem VR.a4 {ι : Io} (a b c d : Int) : VR ι (.agg [.i .i64 a, .i .i64 b, .i .i64 c, .i .i64 d]) (.agg #[.int .i64 a, .int .i64 b, .int .i64 c, .int .i64 d]) :=
  VR.aggs (cs := [.i .i64 a, .i .i64 b, .i .i64 c, .i .i64 d]) (vs := [.int .i64 a, .int .i64 b, .int .i64 c, .int .i64 d]) (.cons (.i _ _) (.cons (.i _ _) (.cons (.i _ _) (.cons (.i _ _) .nil)))) fun x hx => by
    simp only [List.mem_cons, List.not_mem_nil, or_false] at hx
    rcases hx with rfl | rfl | rfl | rfl <;> rfl
theorem trod_array22 {H : Type} {enc : TypeId × Value → H} {P : Program} {w : World} {base : Nat} {spare : Nat → Bool} {held : Bool} {t e : TypeId} {fuel : Nat} {c0 c1 c2 c3 : Value} {x : DataW H × List MemPlace} (ht : P.underlying t = some (.array 2 e)) (hce : P.cellsOf e = 2)
    (h : DataW.trod enc P w base spare held fuel t [c0, c1, c2, c3] = some x) : ∃ y0 y1 n, DataW.trod enc P w base spare held n e [c0, c1] = some y0 ∧ DataW.trod enc P w base spare held n e [c2, c3] = some y1 := by
  cases fuel with
  | zero => simp [DataW.trod] at h
  | succ n =>
    unfold DataW.trod at h
    rw [ht] at h
    have r2 : List.range 2 = [0, 1] := rfl
    simp [r2, hce] at h
    obtain ⟨_, h⟩ := h
    cases h0 : DataW.trod enc P w base spare held n e [c0, c1] with
    | none => simp [h0] at h
    | some y0 =>
      cases h1 : DataW.trod enc P w base spare held n e [c2, c3] with
      | none => simp [h0, h1] at h
      | some y1 => exact ⟨y0, y1, n, h0, h1⟩
theorem open_a22 {H : Type} {enc : TypeId × Value → H} {P : Program} {w : World} {t e i : TypeId} {b0 : Nat} {r : Reach} {v : Value} {d : DataW H} {ps : List MemPlace} (ht : P.underlying t = some (.array 2 e)) (he : P.underlying e = some (.array 2 i)) (hi : P.underlying i = some (.int .i64)) (hci : P.cellsOf i = 1) (hce : P.cellsOf e = 2) (hct : P.cellsOf t = 4)
    (hval : Value.okWide P w r b0 t v) (hd : DataW.Trod enc P w 0 (fun _ => true) true t v d ps) : ∃ a b c f : Int, v = .agg #[.int .i64 a, .int .i64 b, .int .i64 c, .int .i64 f] := by
  unfold Value.okWide at hval
  rw [ht] at hval
  obtain ⟨cs, rfl, hsz, _⟩ := hval
  rw [hct] at hsz
  obtain ⟨fuel, hf⟩ := hd
  obtain ⟨l⟩ := cs
  have hl : l.length = 4 := hsz
  match l, hl with
  | [c0, c1, c2, c3], _ =>
    have hf : DataW.trod enc P w 0 (fun _ => true) true fuel t [c0, c1, c2, c3] = some (d, ps) := hf
    obtain ⟨y0, y1, n, h0, h1⟩ := trod_array22 ht hce hf
    obtain ⟨_, _, _, p0, p1⟩ := trod_array2 he hci h0
    obtain ⟨_, _, _, p2, p3⟩ := trod_array2 he hci h1
    obtain ⟨a, rfl, _⟩ := trod_iw hi p0
    obtain ⟨b, rfl, _⟩ := trod_iw hi p1
    obtain ⟨c, rfl, _⟩ := trod_iw hi p2
    obtain ⟨f, rfl, _⟩ := trod_iw hi p3
    exact ⟨a, b, c, f, rfl⟩
end Go.Ev
