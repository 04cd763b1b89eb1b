/-
  Orders: Others; the reference's Others, Same.
  Orders: the reference's search of a class (Class).
  Orders (plain): the number of orders.
  Orders: the number of orders of a graph, counted (countOrders, Count).
  Orders: how many classes there are.
  Orders: findClash, Clash.
  Orders: checkArrows of one pair, Class.
  Orders: Classes, run.
-/
import Derived.Test.YtdmnejhjlmeodaaPg
namespace Go.Ev
open Go Go.RowKit
section
variable {fs : T EF} {h h' : H} {b : Nat}
theorem otR_g {n : Nat} {g : Nat → Nat → Bool} (hg : Gph n g) : (arI fun a b => rat (otR n (gR (arI g))) a b && decide (a ≤ b)) = arI (oth n g) := by
  have h7 := hg.n7
  refine arI_congr fun a b ha hb => ?_
  have hgr : rat (gR (arI g)) a b = true ↔ g a b = true ∨ g b a = true := by rw [gR_arI hg]; unfold sy; rw [Bool.or_eq_true]
  unfold oth otR
  rw [Bool.eq_iff_iff, Bool.and_eq_true, woR_iff, rat_rl, hgr]
  simp only [Bool.and_eq_true, decide_eq_true_eq, Bool.not_eq_true']
  constructor
  · rintro ⟨⟨⟨_, ⟨h1, h2⟩, h3⟩, h4⟩, h5⟩
    exact ⟨⟨by omega, h2⟩, by
      cases e : g a b with
      | false => rfl
      | true => exact absurd (.inl e) h4⟩
  · rintro ⟨⟨h1, h2⟩, h3⟩
    refine ⟨⟨⟨⟨ha, hb⟩, ⟨by omega, h2⟩, by omega⟩, ?_⟩, by omega⟩
    rintro (h | h)
    · rw [h3] at h; cases h
    · have := hg.up _ _ h; omega
theorem f12_ret {n : Nat} {v : V} {g : Nat → Nat → Bool} (k : CallsEd fs) (hg : Gph n g) (hv : Srp h v (arI g)) (hc : HC h) : Ret fs f12 [.i .i64 (n : Int), v] h fun r h' => ∃ u, r = .tup [u, .i .i64 0] ∧ Sk 2 qE h' u (arI (oth n g)) ∧ Own h.nx.nat u ∧ Grow h.nx.nat h h' := by
  have hlb := arI_len (g := g)
  apply ret_of rfl
  show W fs none f12_c _ _ _
  unfold f12_c
  simp (disch := omega) only [f12_r0, f12_r1, w_reg, w_seq, seqK_n, x_nil, x_mv, x_as, x_call, ev_t, ev_c, evs_nil, evs_cons, getV_some, putD_some, frame_2, of0, getK_set, Nat.reduceEqDiff, ↓reduceIte]
  refine (callP_0 (ef := f47) k.c47 rfl (f47_ret k.toCallsCk hv (by omega) hc)).mono ?_
  rintro r h1 ⟨rfl, gr1⟩
  rw [chkG_g hg]
  have ne0 : decide ((0 : Int) ≠ 0) = false := rfl
  have hc1 := gr1.hc hc
  simp (disch := omega) only [f12_r2, f12_r4, w_skip, w_reg, w_seq, w_cond, seqK_n, ckB_b, cbB_b, true_and, x_nil, x_mv, x_as, x_bin, x_call, kx, rvP_ok, okv_some, ev_t, ev_c, evs_nil, evs_cons, getV_some, putD_some, bin_neq, of0, getK_set, Nat.reduceEqDiff, ↓reduceIte, Bool.false_eq_true, ne0]
  refine (callP_0 (ef := f48) k.c48 rfl (f48_ret k.toNat2 (hv.grow hc gr1) nd_arI (by omega) hc1)).mono ?_
  rintro r h2 ⟨rfl, gr2⟩
  have hc2 := gr2.hc hc1
  have gA := gr1.trans (gr2.low gr1.nx)
  have hL : (gR (arI g)).length = 49 := gR_len
  have hO : (otR n (gR (arI g))).length = 49 := otR_len
  have k49 := k.n49 (gR (arI g)) n
  simp (disch := omega) only [x_mv, x_call, kx, ev_t, ev_c, evs_nil, evs_cons, getV_some, putD_some, getK_set, Nat.reduceEqDiff, ↓reduceIte, k49 _ _ hL hg.n7]
  refine (callP_0 (ef := f50) k.c50 rfl (f50_ret k hO hc2)).mono ?_
  rintro u h3 ⟨hs, ho, gr3⟩
  rw [otR_g hg] at hs
  simp (disch := omega) only [f12_rs, w_ret, seqK_n, retK_r, x_nil, x_as, kx, ev_t, ev_c, getV_some, putD_some, oGet_s, readRs_nil, readRs_t, retV_2, Option.some.injEq, exists_eq_left', getK_set, Nat.reduceEqDiff, ↓reduceIte]
  exact ⟨u, rfl, hs, ho.low gA.nx, gA.trans (gr3.low gA.nx)⟩
def f15_A (h0 : H) (n : Nat) (v : V) (G : Nat → Nat → Bool) (a : Nat) (fr : Fr) (h1 : H) : Prop := a ≤ n ∧ ∃ u, Sk 2 qE h1 u (arP G (7 * a)) ∧ Own h0.nx.nat u ∧ Grow h0.nx.nat h0 h1 ∧ fr.get (K.ofNat 0) = some (.i .i64 (n : Int)) ∧ fr.get (K.ofNat 1) = some (v) ∧ fr.get (K.ofNat 5) = some (u) ∧ fr.get (K.ofNat 6) = some (.i .i64 (a : Int))
def f15_B (h0 : H) (n : Nat) (v : V) (G : Nat → Nat → Bool) (a : Nat) (b : Nat) (fr : Fr) (h1 : H) : Prop := a + 1 ≤ b ∧ b ≤ n ∧ ∃ u, Sk 2 qE h1 u (arP G (7 * a + b)) ∧ Own h0.nx.nat u ∧ Grow h0.nx.nat h0 h1 ∧ fr.get (K.ofNat 0) = some (.i .i64 (n : Int)) ∧ fr.get (K.ofNat 1) = some (v) ∧ fr.get (K.ofNat 5) = some (u) ∧ fr.get (K.ofNat 6) = some (.i .i64 (a : Int)) ∧ fr.get (K.ofNat 7) = some (.i .i64 (b : Int))
theorem f15_ret {n : Nat} {v : V} {g : Nat → Nat → Bool} (k : CallsJn fs) (hg : Gph n g) (hv : Srp h v (arI g)) (hc : HC h) : Ret fs f15 [.i .i64 (n : Int), v] h fun r h' => Sk 2 qE h' r (arI (oth n g)) ∧ Own h.nx.nat r ∧ Grow h.nx.nat h h' := by
  have hlb := arI_len (g := g)
  have hn7 := hg.n7
  have og := oth_gph hg
  apply ret_of rfl
  show W fs none f15_c _ _ _
  unfold f15_c
  simp (disch := omega) only [f15_r0, f15_r1, f15_r2, w_reg, w_seq, w_block, seqK_n, x_nil, x_as, ev_c, putD_some, frame_2, of0]
  refine W_loop (f15_A h n v (oth n g)) (fun a => n - a) ?_ 0 ⟨by omega, .sn, Sk.nil, Own.sn, Grow.refl _ _, by simp (disch := omega) only [getK_set, Nat.reduceEqDiff, ↓reduceIte, and_self, Int.natCast_zero]⟩
  rintro a fr h1 ⟨ha, u, hs, ho, hG, g0, g1, g5, g6⟩
  unfold f15_l1
  by_cases hlt : a < n
  · have d0 : decide ((a : Int) < (n : Int)) = true := decide_eq_true (by omega)
    have e0 : arP (oth n g) (7 * a + (a + 1)) = arP (oth n g) (7 * a) := by
      have := arP_skip (g := oth n g) (a := a) (b := 0) (c := a + 1) (by omega) (by omega) (fun d _ hd => by
        cases e : oth n g a d with
        | false => rfl
        | true => have := (og.up _ _ e).1; omega)
      rw [this, Nat.add_zero]
    simp (disch := omega) only [f15_r3, f15_r4, w_skip, w_reg, w_seq, w_cond, w_block, seqK_n, ckB_b, cbB_b, true_and, x_nil, x_mv, x_as, x_bin, kx, rvP_ok, okv_some, ev_t, ev_c, getV_some, putD_some, bin_add, bin_lss, of1, getK_set, Nat.reduceEqDiff, ↓reduceIte, g0, g6, d0, fw64]
    refine W_loop (f15_B h n v (oth n g) a) (fun b => n + 1 - b) ?_ (a + 1) ⟨by omega, by omega, u, by rw [e0]; exact hs, ho, hG, by simp (disch := omega) only [getK_set, Nat.reduceEqDiff, ↓reduceIte, g0, g1, g5, g6, and_self, Int.natCast_add, Int.natCast_one]⟩
    clear hs ho hG g0 g1 g5 g6 fr
    rintro b fr h2 ⟨hab, hb, u, hs, ho, hG, g0, g1, g5, g6, g7⟩
    have hc2 := hG.hc hc
    have hv2 := hv.grow hc hG
    unfold f15_l0
    by_cases hlt2 : b < n
    · have d1 : decide ((b : Int) < (n : Int)) = true := decide_eq_true (by omega)
      have hsu := arP_succ (g := oth n g) (a := a) (b := b) (by omega)
      simp (disch := omega) only [f15_r5, f15_r6, w_skip, w_reg, w_seq, w_cond, w_block, seqK_n, ckB_b, cbB_b, true_and, x_nil, x_mv, x_bin, x_call, kx, rvP_ok, okv_some, ev_t, ev_c, evs_nil, evs_cons, getV_some, putD_some, bin_lss, getK_set, Nat.reduceEqDiff, ↓reduceIte, g0, g1, g6, g7, d1]
      refine (callP_0 (ef := f52) k.c52 rfl (f52_ret k.c40 hv2 inI_arI (inI_mm (by omega) (by omega)) (by omega) hc2)).mono ?_
      rintro r h3 ⟨rfl, g3⟩
      rw [jn_sy hg]
      have hc3 := g3.hc hc2
      have hs3 := hs.grow hc2 g3
      have gB := hG.trans (g3.low hG.nx)
      have hgr : rat (gR (arI g)) a b = g a b := by
        rw [Bool.eq_iff_iff, gR_arI hg]
        unfold sy
        rw [Bool.or_eq_true]
        exact ⟨fun h => h.elim id fun h => by have := hg.up _ _ h; omega, .inl⟩
      rw [hgr]
      cases hr : g a b with
      | true =>
        rw [if_neg (by unfold oth; rw [hr]; simp), List.append_nil] at hsu
        simp (disch := omega) only [f15_r8, w_skip, w_reg, w_cond, seqK_n, atK_n, loopK_n, ckB_b, cbB_b, true_and, x_nil, x_mv, x_as, x_bin, x_not, kx, rvP_ok, okv_some, ev_t, ev_c, getV_some, putD_some, bin_add, onB_b, of1, getK_set, Nat.reduceEqDiff, ↓reduceIte, Bool.false_eq_true, Bool.not_true, g7, fw64]
        exact ⟨b + 1, by omega, by omega, by omega, u, by rw [hsu]; exact hs3, ho, gB, by simp (disch := omega) only [getK_set, Nat.reduceEqDiff, ↓reduceIte, g0, g1, g5, g6, and_self, Int.natCast_add, Int.natCast_one]⟩
      | false =>
        rw [if_pos (by unfold oth; rw [hr, decide_eq_true (show a < b ∧ b < n by omega)]; rfl)] at hsu
        have hl := arP_len (g := oth n g) (i := 7 * a + b)
        obtain ⟨u', h4, a1, s1, o1, gr1, _⟩ := Sk.push qE_len (by omega) (x := ((a : Int), (b : Int))) hs3 ho gB.nx hc3 (by omega)
        have a1' : appV 2 (h3.new (.cells (1 * 2) [.i .i64 (a : Int), .i .i64 (b : Int)])) u (.sl h3.nx 0 1 2) = .ok u' h4 := a1
        have cp : cellsN 2 (.agg [.i .i64 (a : Int), .i .i64 (b : Int)]) = some [.i .i64 (a : Int), .i .i64 (b : Int)] := rfl
        have sp : setMany [V.i .i64 0, V.i .i64 0] 0 [V.i .i64 (a : Int), V.i .i64 (b : Int)] = [V.i .i64 (a : Int), V.i .i64 (b : Int)] := rfl
        simp (disch := omega) only [f15_r7, f15_r8, w_reg, w_cond, seqK_n, atK_n, loopK_n, ckB_b, cbB_b, true_and, x_nil, x_mv, x_as, x_build, x_bslice, x_bin, x_not, x_app, kx, rvP_ok, okv_some, ev_t, ev_c, getV_some, putD_some, bin_add, onB_b, oGet_s, cells1_i, of0, of1, getK_set, Nat.reduceEqDiff, ↓reduceIte, Bool.not_false, set_2, fill_0, g5, g6, g7, set_2, fill_c, cp, sp, a1', fw64]
        exact ⟨b + 1, by omega, by omega, by omega, u', by rw [hsu]; exact s1, o1, gB.trans gr1, by simp (disch := omega) only [getK_set, Nat.reduceEqDiff, ↓reduceIte, g0, g1, g6, and_self, Int.natCast_add, Int.natCast_one]⟩
    · have d1 : decide ((b : Int) < (n : Int)) = false := decide_eq_false (by omega)
      have eb : b = n := by omega
      have e1 : arP (oth n g) (7 * (a + 1)) = arP (oth n g) (7 * a + b) := arP_row (by omega) (fun d hd _ => by
        cases e : oth n g a d with
        | false => rfl
        | true => have := (og.up _ _ e).2; omega)
      simp (disch := omega) only [f15_r5, f15_r9, w_reg, w_seq, w_cond, w_exit, seqK_n, seqK_e, atK_n, atK_e, loopK_n, loopK_e, ckB_b, cbB_b, true_and, x_nil, x_mv, x_as, x_bin, kx, rvP_ok, okv_some, ev_t, ev_c, getV_some, putD_some, bin_add, bin_lss, of1, getK_set, Nat.reduceEqDiff, ↓reduceIte, Bool.false_eq_true, g0, g6, g7, d1, fw64]
      exact ⟨a + 1, by omega, by omega, u, by rw [e1]; exact hs, ho, hG, by simp (disch := omega) only [getK_set, Nat.reduceEqDiff, ↓reduceIte, g0, g1, g5, and_self, Int.natCast_add, Int.natCast_one]⟩
  · have d0 : decide ((a : Int) < (n : Int)) = false := decide_eq_false (by omega)
    have ea : a = n := by omega
    have e1 : arP (oth n g) (7 * a) = arI (oth n g) := arP_end (by omega) (fun x d hx _ hd => by
      cases e : oth n g x d with
      | false => rfl
      | true => have := og.up _ _ e; omega)
    rw [e1] at hs
    simp (disch := omega) only [f15_r3, f15_r10, f15_rs, w_reg, w_seq, w_cond, w_exit, w_ret, seqK_n, seqK_e, atK_e, loopK_e, ckB_b, cbB_b, true_and, retK_r, x_nil, x_mv, x_as, x_bin, kx, rvP_ok, okv_some, ev_t, getV_some, putD_some, bin_lss, oGet_s, readRs_nil, readRs_t, retV_1, Option.some.injEq, exists_eq_left', getK_set, Nat.reduceEqDiff, ↓reduceIte, Bool.false_eq_true, g0, g5, g6, d0]
    exact ⟨hs, ho, hG⟩
def f14_I (h0 : H) (v w : V) (A : List (Int × Int)) (i : Nat) (fr : Fr) (h1 : H) : Prop := i ≤ A.length ∧ h1 = h0 ∧ fr.get (K.ofNat 0) = some (v) ∧ fr.get (K.ofNat 1) = some (w) ∧ fr.get (K.ofNat 5) = some (.i .i64 (i : Int))
/-- Same, of two lists that are the same. -/
theorem f14_ret {v w : V} {A : List (Int × Int)} (hv : Srp h v A) (hw : Srp h w A) (hA : ∀ x ∈ A, inI x) (hl : A.length ≤ 1000000) : Ret fs f14 [v, w] h fun r h' => r = .b true ∧ h' = h := by
  apply ret_of rfl
  show W fs none f14_c _ _ _
  unfold f14_c
  have hlv := hv.len
  have hlw := hw.len
  have nel : decide ((A.length : Int) ≠ (A.length : Int)) = false := by simp
  simp (disch := omega) only [f14_r0, f14_r1, f14_r3, w_skip, w_reg, w_seq, w_cond, w_block, seqK_n, ckB_b, cbB_b, true_and, x_nil, x_mv, x_as, x_bin, x_len, kx, rvP_ok, okv_some, ev_t, ev_c, getV_some, putD_some, bin_neq, frame_2, of0, getK_set, Nat.reduceEqDiff, ↓reduceIte, Bool.false_eq_true, hlv, hlw, nel]
  refine W_loop (f14_I h v w A) (fun i => A.length - i) ?_ 0 ⟨by omega, rfl, by simp (disch := omega) only [getK_set, Nat.reduceEqDiff, ↓reduceIte, and_self, Int.natCast_zero]⟩
  rintro i fr h1 ⟨hi, rfl, g0, g1, g5⟩
  unfold f14_l0
  by_cases hlt : i < A.length
  · have d0 : decide ((i : Int) < (A.length : Int)) = true := decide_eq_true (by omega)
    obtain ⟨id, q, p1, p2, _⟩ := hv.at2 hlt
    obtain ⟨id2, q2, w1, w2, _⟩ := hw.at2 hlt
    have hav : V.agg [.i .i64 A[i].1, .i .i64 A[i].2] = pV A[i] := rfl
    have hq := keyEq_pVO (hA _ (List.getElem_mem hlt)) (hA _ (List.getElem_mem hlt))
    have dt : decide (A[i] = A[i]) = true := by simp
    rw [dt] at hq
    have hvb := hv.beq
    have hwb := hw.beq
    simp (disch := omega) only [f14_r4, f14_r5, f14_r7, w_skip, w_reg, w_draw, w_seq, w_cond, w_block, seqK_n, atK_n, loopK_n, ckB_b, cbB_b, true_and, x_nil, x_mv, x_as, x_bin, x_len, kx, kg, xg_nil, xg_mv, xg_ldn, xg_eqk, xg_iads, xd_cons, fresh_nil, stK_n, stay_nil, rvP_ok, okv_some, ev_t, ev_c, getV_some, putD_some, bin_add, bin_lss, oGet_s, of1, getK_set, Nat.reduceEqDiff, ↓reduceIte, Bool.false_eq_true, Bool.not_true, g0, g1, g5, hlv, d0, p1, p2, w1, w2, hav, hq, cond_true, fw64]
    exact ⟨i + 1, by omega, hlt, rfl, by simp (disch := omega) only [getK_set, Nat.reduceEqDiff, ↓reduceIte, g0, g1, and_self, Int.natCast_add, Int.natCast_one]⟩
  · have d0 : decide ((i : Int) < (A.length : Int)) = false := decide_eq_false (by omega)
    simp (disch := omega) only [f14_r4, f14_r8, f14_rs, w_reg, w_seq, w_cond, w_exit, w_ret, seqK_n, seqK_e, atK_e, loopK_e, ckB_b, cbB_b, retK_r, x_nil, x_mv, x_as, x_bin, x_len, kx, rvP_ok, okv_some, ev_t, ev_c, getV_some, putD_some, bin_lss, oGet_s, readRs_nil, readRs_t, retV_1, Option.some.injEq, exists_eq_left', getK_set, Nat.reduceEqDiff, ↓reduceIte, Bool.false_eq_true, g0, g5, hlv, d0, and_self]
end
end Go.Ev
namespace Go.Ev
open Go Go.RowKit
noncomputable def f21_r0 : List EOper := [⟨(some (K.ofNat 5)), none, .box 2 (.t (K.ofNat 2))⟩, ⟨(some (K.ofNat 6)), none, .as (.c .sn)⟩, ⟨(some (K.ofNat 7)), none, .as (.c .sn)⟩]
noncomputable def f21_r1 : List EOper := [⟨(some (K.ofNat 20)), none, .mv (.t (K.ofNat 0))⟩, ⟨(some (K.ofNat 21)), none, .mv (.t (K.ofNat 1))⟩, ⟨(some (K.ofNat 22)), none, .call (.c (.fn (K.ofNat 53) [])) [(.t (K.ofNat 20)), (.t (K.ofNat 21))]⟩, ⟨(some (K.ofNat 8)), none, .as (.t (K.ofNat 22))⟩]
noncomputable def f21_r2 : List EOper := [⟨(some (K.ofNat 23)), none, .mkmap 23⟩, ⟨(some (K.ofNat 24)), none, .ldn 2 (.t (K.ofNat 5))⟩, ⟨none, none, .mupd 23 (.many [(some .i64), (some .i64)]) (.t (K.ofNat 23)) (.t (K.ofNat 24)) (.c (.i .i64 (.ofNat 0)))⟩, ⟨(some (K.ofNat 25)), none, .mv (.t (K.ofNat 23))⟩, ⟨(some (K.ofNat 9)), none, .as (.t (K.ofNat 25))⟩]
noncomputable def f21_r3 : List EOper := [⟨(some (K.ofNat 26)), none, .ldn 2 (.t (K.ofNat 5))⟩, ⟨(some (K.ofNat 27)), none, .bslice 1 2 [(.i .i64 (.ofNat 0)), (.i .i64 (.ofNat 0))] [(0, 2, (.t (K.ofNat 26)))]⟩, ⟨(some (K.ofNat 10)), none, .as (.t (K.ofNat 27))⟩]
noncomputable def f21_r4 : List EOper := [⟨(some (K.ofNat 11)), none, .as (.c (.i .i64 (.ofNat 0)))⟩]
noncomputable def f21_r5 : List EOper := [⟨(some (K.ofNat 28)), none, .mv (.t (K.ofNat 11))⟩, ⟨(some (K.ofNat 29)), none, .mv (.t (K.ofNat 10))⟩, ⟨(some (K.ofNat 30)), none, .len (.t (K.ofNat 29))⟩, ⟨(some (K.ofNat 31)), none, .bin .lss (.t (K.ofNat 28)) (.t (K.ofNat 30))⟩]
noncomputable def f21_r6 : List EOper := [⟨(some (K.ofNat 12)), none, .as (.c (.i .i64 (.ofNat 0)))⟩]
noncomputable def f21_r7 : List EOper := [⟨(some (K.ofNat 34)), none, .mv (.t (K.ofNat 12))⟩, ⟨(some (K.ofNat 35)), none, .mv (.t (K.ofNat 8))⟩, ⟨(some (K.ofNat 36)), none, .len (.t (K.ofNat 35))⟩, ⟨(some (K.ofNat 37)), none, .bin .lss (.t (K.ofNat 34)) (.t (K.ofNat 36))⟩]
noncomputable def f21_r8 : List EOper := [⟨(some (K.ofNat 41)), none, .mv (.t (K.ofNat 9))⟩, ⟨(some (K.ofNat 42)), none, .mv (.t (K.ofNat 8))⟩, ⟨(some (K.ofNat 43)), none, .mv (.t (K.ofNat 12))⟩, ⟨(some (K.ofNat 44)), none, .iads 2 (.t (K.ofNat 42)) (.t (K.ofNat 43))⟩, ⟨(some (K.ofNat 45)), none, .ldn 2 (.t (K.ofNat 44))⟩, ⟨(some (K.ofNat 46)), none, .look 23 (.many [(some .i64), (some .i64)]) (.i .i64 (.ofNat 0)) (.t (K.ofNat 41)) (.t (K.ofNat 45)) true⟩, ⟨(some (K.ofNat 40)), none, .mv (.t (K.ofNat 46))⟩, ⟨(some (K.ofNat 47)), none, .ext (.t (K.ofNat 40)) 0⟩, ⟨(some (K.ofNat 48)), none, .ext (.t (K.ofNat 40)) 1⟩, ⟨(some (K.ofNat 13)), none, .as (.t (K.ofNat 47))⟩, ⟨(some (K.ofNat 14)), none, .as (.t (K.ofNat 48))⟩]
noncomputable def f21_r9 : List Stage := [⟨[⟨(some (K.ofNat 49)), none, .mv (.t (K.ofNat 14))⟩, ⟨(some (K.ofNat 50)), none, .not (.t (K.ofNat 49))⟩, ⟨(some (K.ofNat 51)), none, .mv (.t (K.ofNat 50))⟩, ⟨(some (K.ofNat 52)), (some ((K.ofNat 51), true)), .mv (.t (K.ofNat 1))⟩, ⟨(some (K.ofNat 53)), (some ((K.ofNat 51), true)), .mv (.t (K.ofNat 10))⟩, ⟨(some (K.ofNat 54)), (some ((K.ofNat 51), true)), .mv (.t (K.ofNat 11))⟩, ⟨(some (K.ofNat 55)), (some ((K.ofNat 51), true)), .iads 2 (.t (K.ofNat 53)) (.t (K.ofNat 54))⟩, ⟨(some (K.ofNat 56)), (some ((K.ofNat 51), true)), .ldn 2 (.t (K.ofNat 55))⟩, ⟨(some (K.ofNat 57)), (some ((K.ofNat 51), true)), .mv (.t (K.ofNat 8))⟩, ⟨(some (K.ofNat 58)), (some ((K.ofNat 51), true)), .mv (.t (K.ofNat 12))⟩, ⟨(some (K.ofNat 59)), (some ((K.ofNat 51), true)), .iads 2 (.t (K.ofNat 57)) (.t (K.ofNat 58))⟩, ⟨(some (K.ofNat 60)), (some ((K.ofNat 51), true)), .ldn 2 (.t (K.ofNat 59))⟩], [], (some ⟨(some (K.ofNat 61)), (some ((K.ofNat 51), true)), .call (.c (.fn (K.ofNat 20) [])) [(.t (K.ofNat 52)), (.t (K.ofNat 56)), (.t (K.ofNat 60))]⟩), []⟩, ⟨[⟨(some (K.ofNat 62)), none, .pick (.t (K.ofNat 51)) (.t (K.ofNat 61)) (.c (.b false))⟩], [], none, []⟩]
noncomputable def f21_r10 : List Stage := [⟨[⟨(some (K.ofNat 63)), none, .mv (.t (K.ofNat 9))⟩, ⟨(some (K.ofNat 64)), none, .mv (.t (K.ofNat 8))⟩, ⟨(some (K.ofNat 65)), none, .mv (.t (K.ofNat 12))⟩, ⟨(some (K.ofNat 66)), none, .iads 2 (.t (K.ofNat 64)) (.t (K.ofNat 65))⟩, ⟨(some (K.ofNat 67)), none, .ldn 2 (.t (K.ofNat 66))⟩, ⟨(some (K.ofNat 68)), none, .mv (.t (K.ofNat 9))⟩, ⟨(some (K.ofNat 69)), none, .mv (.t (K.ofNat 10))⟩, ⟨(some (K.ofNat 70)), none, .mv (.t (K.ofNat 11))⟩, ⟨(some (K.ofNat 71)), none, .iads 2 (.t (K.ofNat 69)) (.t (K.ofNat 70))⟩, ⟨(some (K.ofNat 72)), none, .ldn 2 (.t (K.ofNat 71))⟩, ⟨(some (K.ofNat 73)), none, .look 23 (.many [(some .i64), (some .i64)]) (.i .i64 (.ofNat 0)) (.t (K.ofNat 68)) (.t (K.ofNat 72)) false⟩, ⟨(some (K.ofNat 74)), none, .bin .add (.t (K.ofNat 73)) (.c (.i .i64 (.ofNat 1)))⟩], [], (some ⟨none, none, .mupd 23 (.many [(some .i64), (some .i64)]) (.t (K.ofNat 63)) (.t (K.ofNat 67)) (.t (K.ofNat 74))⟩), []⟩, ⟨[], [], none, []⟩]
noncomputable def f21_r11 : List EOper := [⟨(some (K.ofNat 75)), none, .mv (.t (K.ofNat 10))⟩, ⟨(some (K.ofNat 76)), none, .mv (.t (K.ofNat 8))⟩, ⟨(some (K.ofNat 77)), none, .mv (.t (K.ofNat 12))⟩, ⟨(some (K.ofNat 78)), none, .iads 2 (.t (K.ofNat 76)) (.t (K.ofNat 77))⟩, ⟨(some (K.ofNat 79)), none, .ldn 2 (.t (K.ofNat 78))⟩, ⟨(some (K.ofNat 80)), none, .bslice 1 2 [(.i .i64 (.ofNat 0)), (.i .i64 (.ofNat 0))] [(0, 2, (.t (K.ofNat 79)))]⟩, ⟨(some (K.ofNat 81)), none, .app 2 (.t (K.ofNat 75)) (.t (K.ofNat 80))⟩, ⟨(some (K.ofNat 10)), none, .as (.t (K.ofNat 81))⟩]
noncomputable def f21_r12 : List EOper := [⟨(some (K.ofNat 38)), none, .mv (.t (K.ofNat 12))⟩, ⟨(some (K.ofNat 39)), none, .bin .add (.t (K.ofNat 38)) (.c (.i .i64 (.ofNat 1)))⟩, ⟨(some (K.ofNat 12)), none, .as (.t (K.ofNat 39))⟩]
noncomputable def f21_l0 : EC := (.seq (.seq (.reg f21_r7) (.cond (.t (K.ofNat 37)) .skip (.exit 2))) (.seq (.block 3 (.seq (.reg f21_r8) (.seq (.draw f21_r9) (.cond (.t (K.ofNat 62)) (.seq (.draw f21_r10) (.reg f21_r11)) .skip)))) (.reg f21_r12)))
noncomputable def f21_r13 : List EOper := [⟨(some (K.ofNat 32)), none, .mv (.t (K.ofNat 11))⟩, ⟨(some (K.ofNat 33)), none, .bin .add (.t (K.ofNat 32)) (.c (.i .i64 (.ofNat 1)))⟩, ⟨(some (K.ofNat 11)), none, .as (.t (K.ofNat 33))⟩]
noncomputable def f21_l1 : EC := (.seq (.seq (.reg f21_r5) (.cond (.t (K.ofNat 31)) .skip (.exit 0))) (.seq (.block 1 (.seq (.reg f21_r6) (.block 2 (.loop f21_l0)))) (.reg f21_r13)))
noncomputable def f21_r14 : List EOper := [⟨(some (K.ofNat 15)), none, .as (.c .sn)⟩]
noncomputable def f21_r15 : List EOper := [⟨(some (K.ofNat 16)), none, .as (.c .sn)⟩]
noncomputable def f21_r16 : List EOper := [⟨(some (K.ofNat 17)), none, .as (.c (.i .i64 (.ofNat 0)))⟩]
noncomputable def f21_r17 : List EOper := [⟨(some (K.ofNat 82)), none, .mv (.t (K.ofNat 17))⟩, ⟨(some (K.ofNat 83)), none, .mv (.t (K.ofNat 8))⟩, ⟨(some (K.ofNat 84)), none, .len (.t (K.ofNat 83))⟩, ⟨(some (K.ofNat 85)), none, .bin .lss (.t (K.ofNat 82)) (.t (K.ofNat 84))⟩]
noncomputable def f21_r18 : List EOper := [⟨(some (K.ofNat 89)), none, .mv (.t (K.ofNat 9))⟩, ⟨(some (K.ofNat 90)), none, .mv (.t (K.ofNat 8))⟩, ⟨(some (K.ofNat 91)), none, .mv (.t (K.ofNat 17))⟩, ⟨(some (K.ofNat 92)), none, .iads 2 (.t (K.ofNat 90)) (.t (K.ofNat 91))⟩, ⟨(some (K.ofNat 93)), none, .ldn 2 (.t (K.ofNat 92))⟩, ⟨(some (K.ofNat 94)), none, .look 23 (.many [(some .i64), (some .i64)]) (.i .i64 (.ofNat 0)) (.t (K.ofNat 89)) (.t (K.ofNat 93)) true⟩, ⟨(some (K.ofNat 88)), none, .mv (.t (K.ofNat 94))⟩, ⟨(some (K.ofNat 95)), none, .ext (.t (K.ofNat 88)) 0⟩, ⟨(some (K.ofNat 96)), none, .ext (.t (K.ofNat 88)) 1⟩, ⟨(some (K.ofNat 18)), none, .as (.t (K.ofNat 95))⟩, ⟨(some (K.ofNat 19)), none, .as (.t (K.ofNat 96))⟩]
noncomputable def f21_r19 : List EOper := [⟨(some (K.ofNat 97)), none, .mv (.t (K.ofNat 19))⟩]
noncomputable def f21_r20 : List EOper := [⟨(some (K.ofNat 98)), none, .mv (.t (K.ofNat 15))⟩, ⟨(some (K.ofNat 99)), none, .mv (.t (K.ofNat 8))⟩, ⟨(some (K.ofNat 100)), none, .mv (.t (K.ofNat 17))⟩, ⟨(some (K.ofNat 101)), none, .iads 2 (.t (K.ofNat 99)) (.t (K.ofNat 100))⟩, ⟨(some (K.ofNat 102)), none, .ldn 2 (.t (K.ofNat 101))⟩, ⟨(some (K.ofNat 103)), none, .bslice 1 2 [(.i .i64 (.ofNat 0)), (.i .i64 (.ofNat 0))] [(0, 2, (.t (K.ofNat 102)))]⟩, ⟨(some (K.ofNat 104)), none, .app 2 (.t (K.ofNat 98)) (.t (K.ofNat 103))⟩, ⟨(some (K.ofNat 15)), none, .as (.t (K.ofNat 104))⟩]
noncomputable def f21_r21 : List EOper := [⟨(some (K.ofNat 105)), none, .mv (.t (K.ofNat 16))⟩, ⟨(some (K.ofNat 106)), none, .mv (.t (K.ofNat 18))⟩, ⟨(some (K.ofNat 107)), none, .bslice 1 1 [(.i .i64 (.ofNat 0))] [(0, 1, (.t (K.ofNat 106)))]⟩, ⟨(some (K.ofNat 108)), none, .app 1 (.t (K.ofNat 105)) (.t (K.ofNat 107))⟩, ⟨(some (K.ofNat 16)), none, .as (.t (K.ofNat 108))⟩]
noncomputable def f21_r22 : List EOper := [⟨(some (K.ofNat 86)), none, .mv (.t (K.ofNat 17))⟩, ⟨(some (K.ofNat 87)), none, .bin .add (.t (K.ofNat 86)) (.c (.i .i64 (.ofNat 1)))⟩, ⟨(some (K.ofNat 17)), none, .as (.t (K.ofNat 87))⟩]
noncomputable def f21_l2 : EC := (.seq (.seq (.reg f21_r17) (.cond (.t (K.ofNat 85)) .skip (.exit 4))) (.seq (.block 5 (.seq (.reg f21_r18) (.seq (.reg f21_r19) (.cond (.t (K.ofNat 97)) (.seq (.reg f21_r20) (.reg f21_r21)) .skip)))) (.reg f21_r22)))
noncomputable def f21_r23 : List EOper := [⟨(some (K.ofNat 109)), none, .mv (.t (K.ofNat 15))⟩, ⟨(some (K.ofNat 110)), none, .mv (.t (K.ofNat 16))⟩, ⟨(some (K.ofNat 6)), none, .as (.t (K.ofNat 109))⟩, ⟨(some (K.ofNat 7)), none, .as (.t (K.ofNat 110))⟩]
noncomputable def f21_c : EC := (.seq (.reg f21_r0) (.seq (.reg f21_r1) (.seq (.reg f21_r2) (.seq (.reg f21_r3) (.seq (.seq (.reg f21_r4) (.block 0 (.loop f21_l1))) (.seq (.reg f21_r14) (.seq (.reg f21_r15) (.seq (.seq (.reg f21_r16) (.block 4 (.loop f21_l2))) (.seq (.reg f21_r23) .ret)))))))))
noncomputable def f21 : EF := ⟨111, [.tmp (K.ofNat 6), .tmp (K.ofNat 7)], f21_c, none⟩
theorem f21_rs : f21.rs = [.tmp (K.ofNat 6), .tmp (K.ofNat 7)] := of_eq_true (eq_self _)
/-! ### Plain -/
abbrev DM := List ((Nat × Nat) × Nat)
def kyD (M : DM) : List (Nat × Nat) := M.map Prod.fst
def lkD : DM → Nat × Nat → Option Nat
  | [], _ => none
  | e :: M, x => if x = e.1 then some e.2 else lkD M x
/-- The states of the search: the place in the list, the arrow that is looked at, what is known. -/
inductive BfsR (G : List Bool) (s : Nat × Nat) : Nat → Nat → DM → Prop where
  | start : BfsR G s 0 0 [(s, 0)]
  | skip {i k : Nat} {M : DM} {x p : Nat × Nat} {d : Nat} : BfsR G s i k M → M[i]? = some (x, d) → (arw (rat G))[k]? = some p → (p ∈ kyD M ∨ frcB G x p = false) → BfsR G s i (k + 1) M
  | add {i k : Nat} {M : DM} {x p : Nat × Nat} {d : Nat} : BfsR G s i k M → M[i]? = some (x, d) → (arw (rat G))[k]? = some p → p ∉ kyD M → frcB G x p = true → BfsR G s i (k + 1) (M ++ [(p, d + 1)])
  | next {i : Nat} {M : DM} : BfsR G s i (arw (rat G)).length M → i < M.length → BfsR G s (i + 1) 0 M
structure BfsI (G : List Bool) (s : Nat × Nat) (i k : Nat) (M : DM) : Prop where
  nd : (kyD M).Nodup
  arr : ∀ p ∈ kyD M, rat G p.1 p.2 = true ∧ Rch (Er G) s.1 s.2 p.1 p.2
  beg : M[0]? = some (s, 0)
  dl : ∀ e ∈ M, e.2 + 1 ≤ M.length
  clo : ∀ (j : Nat) (x : Nat × Nat) (d : Nat), j < i → M[j]? = some (x, d) → ∀ p, rat G p.1 p.2 = true → frcB G x p = true → p ∈ kyD M
  cur : ∀ (j : Nat) (x p : Nat × Nat) (d : Nat), j < k → M[i]? = some (x, d) → (arw (rat G))[j]? = some p → frcB G x p = true → p ∈ kyD M
theorem frcB_rch {G : List Bool} (sy : SymR G) {x p : Nat × Nat} (hp : rat G p.1 p.2 = true) (h : frcB G x p = true) {a b : Nat} (k : Rch (Er G) a b x.1 x.2) : Rch (Er G) a b p.1 p.2 := by
  unfold frcB at h
  rcases Bool.or_eq_true _ _ ▸ h with h | h
  · rw [← of_decide_eq_true h]; exact k
  · by_cases e : x.1 = p.1
    · rw [if_pos e] at h
      rw [← e] at hp ⊢
      exact k.out hp (fun h2 => by have h2 : rat G x.2 p.2 = true := h2; rw [h2] at h; cases h)
    · rw [if_neg e] at h
      simp only [Bool.and_eq_true, decide_eq_true_eq] at h
      rw [← h.1] at hp ⊢
      exact k.inn hp (fun h2 => by
        have h2 : rat G x.1 p.1 = true := sy.gr.sym _ _ h2
        rw [h2] at h; exact absurd h.2 (by simp))
theorem at_app {α : Type} {M : List α} {x y : α} {j : Nat} (h : (M ++ [y])[j]? = some x) (hj : j < M.length) : M[j]? = some x := by
  rw [List.getElem?_append_left hj] at h; exact h
theorem get_lt {α : Type} {M : List α} {x : α} {j : Nat} (h : M[j]? = some x) : j < M.length := by
  by_cases e : j < M.length
  · exact e
  · rw [List.getElem?_eq_none (by omega)] at h; cases h
theorem BfsR.inv {G : List Bool} (sy : SymR G) {s : Nat × Nat} (hs : rat G s.1 s.2 = true) {i k : Nat} {M : DM} (r : BfsR G s i k M) : BfsI G s i k M := by
  induction r with
  | start =>
    exact ⟨by simp [kyD], fun p hp => by simp [kyD] at hp; rw [hp]; exact ⟨hs, .refl⟩, rfl, fun e he => by simp at he; rw [he]; simp, fun j x d hj => by omega, fun j x p d hj => by omega⟩
  | @skip i k M x p d _ h1 h2 h3 ih =>
    refine ⟨ih.nd, ih.arr, ih.beg, ih.dl, ih.clo, fun j x' p' d' hj h1' h2' h3' => ?_⟩
    by_cases e : j = k
    · subst e
      rw [h1] at h1'; cases h1'
      rw [h2] at h2'; cases h2'
      rcases h3 with h3 | h3
      · exact h3
      · rw [h3] at h3'; cases h3'
    · exact ih.cur j x' p' d' (by omega) h1' h2' h3'
  | @add i k M x p d _ h1 h2 h3 h4 ih =>
    have hil := get_lt h1
    have hpG : rat G p.1 p.2 = true := (arw_lt (List.mem_of_getElem? h2)).2.2
    have hk : kyD (M ++ [(p, d + 1)]) = kyD M ++ [p] := by unfold kyD; simp
    have hxm : x ∈ kyD M := List.mem_map.2 ⟨(x, d), List.mem_of_getElem? h1, rfl⟩
    have up : ∀ {q}, q ∈ kyD M → q ∈ kyD (M ++ [(p, d + 1)]) := fun h => by rw [hk]; exact List.mem_append_left _ h
    refine ⟨?_, fun q hq => ?_, ?_, fun e he => ?_, fun j y e hj hy q hq hf => up (ih.clo j y e hj (at_app hy (by omega)) q hq hf), fun j y q e hj hy hq hf => ?_⟩
    · rw [hk, List.nodup_append]
      refine ⟨ih.nd, by simp, fun a ha b hb e => h3 ?_⟩
      rw [List.mem_singleton] at hb
      rw [← hb, ← e]; exact ha
    · rw [hk, List.mem_append, List.mem_singleton] at hq
      rcases hq with hq | rfl
      · exact ih.arr q hq
      · exact ⟨hpG, frcB_rch sy hpG h4 (ih.arr x hxm).2⟩
    · rw [List.getElem?_append_left (get_lt ih.beg)]; exact ih.beg
    · rw [List.length_append, List.length_singleton]
      rcases List.mem_append.1 he with he | he
      · have := ih.dl e he; omega
      · rw [List.mem_singleton.1 he]
        have := ih.dl _ (List.mem_of_getElem? h1)
        show d + 1 + 1 ≤ M.length + 1
        have : d + 1 ≤ M.length := this
        omega
    · by_cases e2 : j = k
      · subst e2
        rw [h2] at hq; cases hq
        rw [hk]; simp
      · exact up (ih.cur j y q e (by omega) (at_app hy hil) hq hf)
  | @next i M _ hi ih =>
    refine ⟨ih.nd, ih.arr, ih.beg, ih.dl, fun j x d hj hx p hp hf => ?_, fun j x p d hj => by omega⟩
    by_cases e : j = i
    · subst e
      obtain ⟨k, hk, ek⟩ := List.getElem_of_mem (mem_arw.2 ⟨(rat_lt hp).1, (rat_lt hp).2, hp⟩ : (p.1, p.2) ∈ arw (rat G))
      exact ih.cur k x p d hk hx (by rw [List.getElem?_eq_getElem hk, ek]) hf
    · exact ih.clo j x d (by omega) hx p hp hf
theorem BfsI.len {G : List Bool} {s : Nat × Nat} {i k : Nat} {M : DM} (b : BfsI G s i k M) : M.length ≤ 49 := by
  have h := nodup_leO (m := arw (rat G)) b.nd fun x hx => mem_arw.2 ⟨(rat_lt (b.arr x hx).1).1, (rat_lt (b.arr x hx).1).2, (b.arr x hx).1⟩
  have := arI_len (g := rat G)
  unfold arI at this
  unfold kyD at h
  rw [List.length_map] at h this
  omega
/-- When nothing is left, what is known is the class. -/
theorem BfsI.cls {G : List Bool} (sy : SymR G) {s : Nat × Nat} (hs : rat G s.1 s.2 = true) {M : DM} (b : BfsI G s M.length 0 M) (p : Nat × Nat) : p ∈ kyD M ↔ rat (clsR G s) p.1 p.2 = true := by
  rw [clsR_iff (rat_lt hs)]
  refine ⟨fun h => (b.arr p h).2, fun h => ?_⟩
  have cl : ∀ {x q : Nat × Nat}, x ∈ kyD M → rat G q.1 q.2 = true → frcB G x q = true → q ∈ kyD M := fun {x q} hx hq hf => by
    obtain ⟨⟨y, d⟩, he, rfl⟩ := List.mem_map.1 hx
    obtain ⟨j, hj, ej⟩ := List.getElem_of_mem he
    exact b.clo j y d hj (by rw [List.getElem?_eq_getElem hj, ej]) q hq hf
  have all : ∀ {c d : Nat}, Rch (Er G) s.1 s.2 c d → (c, d) ∈ kyD M := fun {c d} h => by
    induction h with
    | refl => exact List.mem_map.2 ⟨(s, 0), List.mem_of_getElem? b.beg, rfl⟩
    | @out c d e _ h1 h2 ih =>
      have h2 : ¬ rat G d e = true := h2
      exact cl (q := (c, e)) ih h1 (by unfold frcB; simp only [if_true, Bool.or_eq_true]; exact .inr (by simpa using h2))
    | @inn c d e _ h1 h2 ih =>
      have h2 : ¬ rat G e c = true := h2
      have h3 : ¬ rat G c e = true := fun h => h2 (sy.gr.sym _ _ h)
      by_cases ee : c = e
      · rw [← ee]; exact ih
      · exact cl (q := (e, d)) ih h1 (by unfold frcB; simp only [if_neg ee, decide_true, Bool.true_and, Bool.or_eq_true]; exact .inr (by simpa using h3))
  exact all h
theorem lkD_none {M : DM} {x : Nat × Nat} : lkD M x = none ↔ x ∉ kyD M := by
  induction M with
  | nil => simp [lkD, kyD]
  | cons e M ih =>
    show (if x = e.1 then some e.2 else lkD M x) = none ↔ x ∉ e.1 :: kyD M
    rw [List.mem_cons, not_or]
    by_cases h : x = e.1
    · rw [if_pos h]; simp [h]
    · rw [if_neg h, ih]; simp [h]
theorem lkD_app {M : DM} {x y : Nat × Nat} {v : Nat} (hx : x ∉ kyD M) : lkD (M ++ [(x, v)]) y = if y = x then some v else lkD M y := by
  induction M with
  | nil => rfl
  | cons e M ih =>
    have hx' : x ≠ e.1 ∧ x ∉ kyD M := by
      have : x ∉ e.1 :: kyD M := hx
      rw [List.mem_cons, not_or] at this
      exact this
    show (if y = e.1 then some e.2 else lkD (M ++ [(x, v)]) y) = if y = x then some v else if y = e.1 then some e.2 else lkD M y
    rw [ih hx'.2]
    by_cases h : y = e.1
    · rw [if_pos h, if_neg (fun e2 => hx'.1 (e2.symm.trans h)), if_pos h]
    · rw [if_neg h, if_neg h]
theorem lkD_at {M : DM} {i : Nat} {x : Nat × Nat} {d : Nat} (hn : (kyD M).Nodup) (h : M[i]? = some (x, d)) : lkD M x = some d := by
  induction M generalizing i with
  | nil => simp at h
  | cons e M ih =>
    have hn : (e.1 :: kyD M).Nodup := hn
    rw [List.nodup_cons] at hn
    show (if x = e.1 then some e.2 else lkD M x) = some d
    cases i with
    | zero => simp at h; subst h; rw [if_pos rfl]
    | succ i =>
      have h : M[i]? = some (x, d) := by simpa using h
      have hx : x ∈ kyD M := List.mem_map.2 ⟨(x, d), List.mem_of_getElem? h, rfl⟩
      rw [if_neg (fun e2 => hn.1 (by rw [← e2]; exact hx))]
      exact ih hn.2 h
/-- The map as a function. -/
def dF (M : DM) (z : Int × Int) : Option Int := if 0 ≤ z.1 ∧ 0 ≤ z.2 then (lkD M (z.1.toNat, z.2.toNat)).map Int.ofNat else none
theorem dF_toI {M : DM} {x : Nat × Nat} : dF M (toI x) = (lkD M x).map Int.ofNat := by
  unfold dF toI
  rw [if_pos (by simp only; omega)]
  rfl
theorem dF_app {M : DM} {x : Nat × Nat} {v : Nat} (hx : x ∉ kyD M) : dF (M ++ [(x, v)]) = fun y => if y = toI x then some (v : Int) else dF M y := by
  funext y
  by_cases h : 0 ≤ y.1 ∧ 0 ≤ y.2
  · have e : y = toI (y.1.toNat, y.2.toNat) := Prod.ext (show y.1 = (y.1.toNat : Int) by omega) (show y.2 = (y.2.toNat : Int) by omega)
    rw [e, dF_toI, dF_toI, lkD_app hx]
    by_cases h2 : (y.1.toNat, y.2.toNat) = x
    · rw [if_pos h2, if_pos (by rw [h2])]; rfl
    · rw [if_neg h2, if_neg (fun h3 => h2 ?_)]
      unfold toI at h3
      injection h3 with h3 h4
      exact Prod.ext (by simp only at h3 ⊢; omega) (by simp only at h4 ⊢; omega)
  · have h2 : ¬ y = toI x := fun e => h (by rw [e]; unfold toI; simp only; omega)
    rw [if_neg h2]
    unfold dF
    rw [if_neg h, if_neg h]
theorem dF_one {s : Nat × Nat} : dF [(s, 0)] = fun y => if y = toI s then some 0 else none := by
  rw [show [(s, 0)] = ([] : DM) ++ [(s, 0)] from rfl, dF_app (by simp [kyD])]
  funext y
  by_cases h : y = toI s
  · rw [if_pos h, if_pos h]; rfl
  · rw [if_neg h, if_neg h]; unfold dF; split <;> rfl
theorem MapF.look0 {h : H} {id : K} {kt : Nat} {f : Int × Int → Option Int} {x : Int × Int} {v : Int} {z : V} (hm : MapF h id kt f) (hx : in2 x) (hv : f x = some v) : lookV kt (.many [some .i64, some .i64]) z h (.m id) (pZ x) false = .ok (.i .i64 v) h := by
  obtain ⟨M, e1, e2, e3⟩ := hm
  show ((h.get id).onM kt fun es => oGet (findE (.many [some .i64, some .i64]) (pZ x) es) RV.no fun r => bif false then RV.ok (oGet r (.tup [z, .b false]) fun v => .tup [v, .b true]) h else RV.ok (oGet r z fun v => v) h) = _
  rw [e1]
  show (bif Nat.beq kt kt then (oGet (findE (.many [some .i64, some .i64]) (pZ x) (entZ M)) RV.no fun r => RV.ok (oGet r z fun v => v) h) else _) = _
  rw [Nat.beq_same, find_z hx M e2, e3, hv]; rfl
theorem MapF.lt_nx {h : H} {id : K} {kt : Nat} {f : Int × Int → Option Int} (hm : MapF h id kt f) (hc : HC h) : id.nat < h.nx.nat := by
  obtain ⟨M, e1, _⟩ := hm
  by_cases e : id.nat < h.nx.nat
  · exact e
  · have := hc id (by omega)
    rw [e1] at this; cases this
theorem arw_filter {f : Nat → Nat → Bool} {p : Nat × Nat → Bool} : (arw f).filter p = arw fun a b => f a b && p (a, b) := by
  unfold arw
  rw [List.filter_map, List.filter_filter]
  congr 1
  refine List.filter_congr fun i _ => ?_
  rw [Bool.and_comm]; rfl
section
variable {fs : T EF} {h h' : H}
def kyI (M : DM) : List (Int × Int) := (kyD M).map toI
theorem kyI_len {M : DM} : (kyI M).length = M.length := by unfold kyI kyD; rw [List.length_map, List.length_map]
theorem kyI_at {M : DM} {i : Nat} {x : Nat × Nat} {d : Nat} (h : M[i]? = some (x, d)) (hi : i < (kyI M).length) : (kyI M)[i] = toI x := by
  have : (kyI M)[i]? = some (toI x) := by
    unfold kyI kyD
    rw [List.getElem?_map, List.getElem?_map, h]; rfl
  rw [List.getElem?_eq_getElem hi] at this
  exact Option.some.inj this
theorem arI_at {G : Nat → Nat → Bool} {k : Nat} {p : Nat × Nat} (h : (arw G)[k]? = some p) (hk : k < (arI G).length) : (arI G)[k] = toI p := by
  have : (arI G)[k]? = some (toI p) := by
    unfold arI
    rw [List.getElem?_map, h]; rfl
  rw [List.getElem?_eq_getElem hk] at this
  exact Option.some.inj this
structure CallsCs (fs : T EF) : Prop extends CallsJn fs where
  c20 : fs.get (K.ofNat 20) = some f20
  c53 : fs.get (K.ofNat 53) = some f53
structure Mq (h3 : H) (M : DM) (q : V) (h1 : H) : Prop where
  gr : Grow h3.nx.nat h3 h1
  hc : HC h1
  mp : MapF h1 h3.nx 23 (dF M)
  sk : Sk 2 qE h1 q (kyI M)
  own : Own (h3.nx.nat + 1) q
def f21_A (h3 : H) (v al : V) (G : List Bool) (s : Nat × Nat) (z : Nat × DM) (fr : Fr) (h1 : H) : Prop := z.1 ≤ z.2.length ∧ BfsR G s z.1 0 z.2 ∧ ∃ q, Mq h3 z.2 q h1 ∧ fr.get (K.ofNat 1) = some (v) ∧ fr.get (K.ofNat 8) = some (al) ∧ fr.get (K.ofNat 9) = some (.m h3.nx) ∧ fr.get (K.ofNat 10) = some (q) ∧ fr.get (K.ofNat 11) = some (.i .i64 (z.1 : Int))
def f21_B (h3 : H) (v al : V) (G : List Bool) (s : Nat × Nat) (i : Nat) (z : Nat × DM) (fr : Fr) (h1 : H) : Prop := z.1 ≤ (arw (rat G)).length ∧ i < z.2.length ∧ BfsR G s i z.1 z.2 ∧ ∃ q, Mq h3 z.2 q h1 ∧ fr.get (K.ofNat 1) = some (v) ∧ fr.get (K.ofNat 8) = some (al) ∧ fr.get (K.ofNat 9) = some (.m h3.nx) ∧ fr.get (K.ofNat 10) = some (q) ∧ fr.get (K.ofNat 11) = some (.i .i64 (i : Int)) ∧ fr.get (K.ofNat 12) = some (.i .i64 (z.1 : Int))
/-- The arrows of the class, and how far they are. -/
def kn (M : DM) (p : Nat × Nat) : Bool := (lkD M p).isSome
def outT (G : List Bool) (M : DM) (k : Nat) : List (Nat × Nat) := ((arw (rat G)).take k).filter (kn M)
def farT (G : List Bool) (M : DM) (k : Nat) : List Int := (outT G M k).map fun p => (((lkD M p).getD 0 : Nat) : Int)
def f21_C (h4 : H) (al : V) (G : List Bool) (M : DM) (idm : K) (k : Nat) (fr : Fr) (h1 : H) : Prop := k ≤ (arw (rat G)).length ∧ ∃ u w, Grow h4.nx.nat h4 h1 ∧ HC h1 ∧ Sk 2 qE h1 u ((outT G M k).map toI) ∧ Own h4.nx.nat u ∧ Sl iE h1 w (farT G M k) ∧ Own h4.nx.nat w ∧ (∀ id off n sz, u = .sl id off n sz → NotIn id w) ∧ fr.get (K.ofNat 8) = some (al) ∧ fr.get (K.ofNat 9) = some (.m idm) ∧ fr.get (K.ofNat 15) = some (u) ∧ fr.get (K.ofNat 16) = some (w) ∧ fr.get (K.ofNat 17) = some (.i .i64 (k : Int))
theorem f21_ret {n : Nat} {v : V} {g : Nat → Nat → Bool} {s : Nat × Nat} (k : CallsCs fs) (hg : Gph n g) (hv : Srp h v (arI g)) (hs : rat (gR (arI g)) s.1 s.2 = true) (hc : HC h) : Ret fs f21 [.i .i64 (n : Int), v, aV s] h fun r h' => ∃ u w M, r = .tup [u, w] ∧ BfsR (gR (arI g)) s M.length 0 M ∧ Sk 2 qE h' u (arI (rat (clsR (gR (arI g)) s))) ∧ Own h.nx.nat u ∧ Sl iE h' w ((arw (rat (clsR (gR (arI g)) s))).map fun p => (((lkD M p).getD 0 : Nat) : Int)) ∧ Own h.nx.nat w ∧ Grow h.nx.nat h h' := by
  have hlb := arI_len (g := g)
  have sy := symR_g hg
  have hs7 := rat_lt hs
  apply ret_of rfl
  show W fs none f21_c _ _ _
  unfold f21_c
  have cs : cellsN 2 (aV s) = some [.i .i64 (s.1 : Int), .i .i64 (s.2 : Int)] := rfl
  have n1 := nx_new h (.cells 2 [.i .i64 (s.1 : Int), .i .i64 (s.2 : Int)])
  have g1 : Grow h.nx.nat h (h.new (.cells 2 [.i .i64 (s.1 : Int), .i .i64 (s.2 : Int)])) := Grow.new (Nat.le_refl _) _
  have e1 : (h.new (.cells 2 [.i .i64 (s.1 : Int), .i .i64 (s.2 : Int)])).get h.nx = .cells 2 [.i .i64 (s.1 : Int), .i .i64 (s.2 : Int)] := get_new_same
  simp (disch := omega) only [f21_r0, f21_r1, w_reg, w_seq, seqK_n, x_nil, x_mv, x_as, x_box, x_call, kx, rvP_ok, ev_t, ev_c, evs_nil, evs_cons, getV_some, putD_some, oGet_s, frame_3, getK_set, Nat.reduceEqDiff, ↓reduceIte, cs]
  generalize h.new (.cells 2 [.i .i64 (s.1 : Int), .i .i64 (s.2 : Int)]) = h1 at *
  have hc1 := g1.hc hc
  refine (callP_0 (ef := f53) k.c53 rfl (f53_ret k.toCallsJn hg (hv.grow hc g1) hc1)).mono ?_
  rintro al h2 ⟨hal, hoal, g2⟩
  have hc2 := g2.hc hc1
  have gA := g1.trans (g2.low g1.nx)
  have hv2 := hv.grow hc gA
  have e2 := (g2.old h.nx (by omega)).trans e1
  have hav : V.agg [.i .i64 (s.1 : Int), .i .i64 (s.2 : Int)] = aV s := rfl
  have i2 : in2 (toI s) := inI_nat hs7.1 hs7.2
  have n3 := nx_new h2 (.map 23 [])
  have g3 : Grow h2.nx.nat h2 (h2.new (.map 23 [])) := Grow.new (Nat.le_refl _) _
  have l3 := ldn2 ((g3.old h.nx (by have := g2.nx; omega)).trans e2)
  obtain ⟨es, m1, m2⟩ := (MapF.nil (h := h2) (kt := 23)).put (v := 0) i2
  have m1 : mupdV 23 (.many [some .i64, some .i64]) (h2.new (.map 23 [])) (.m h2.nx) (aV s) (.i .i64 0) = .ok undefV ((h2.new (.map 23 [])).put h2.nx (.map 23 es)) := m1
  rw [← dF_one] at m2
  have g4 : Grow h2.nx.nat h2 ((h2.new (.map 23 [])).put h2.nx (.map 23 es)) := g3.trans (Grow.put (Nat.le_refl _) (by omega) _)
  have n4 : ((h2.new (.map 23 [])).put h2.nx (.map 23 es)).nx.nat = h2.nx.nat + 1 := n3
  simp (disch := omega) only [f21_r2, w_reg, w_seq, seqK_n, x_nil, x_mv, x_as, x_ldn, x_mkmap, x_mupd, kx, rvP_ok, ev_t, ev_c, getV_some, putD_some, putD_none, of0, getK_set, Nat.reduceEqDiff, ↓reduceIte, l3, hav, m1]
  generalize (h2.new (.map 23 [])).put h2.nx (.map 23 es) = h3 at *
  have hc3 := g4.hc hc2
  have l4 := ldn2 ((g4.old h.nx (by have := g2.nx; omega)).trans e2)
  have sp : setMany [V.i .i64 0, V.i .i64 0] 0 [V.i .i64 (s.1 : Int), V.i .i64 (s.2 : Int)] = [V.i .i64 (s.1 : Int), V.i .i64 (s.2 : Int)] := rfl
  have n5 := nx_new h3 (.cells (1 * 2) [.i .i64 (s.1 : Int), .i .i64 (s.2 : Int)])
  have g5 : Grow h3.nx.nat h3 (h3.new (.cells (1 * 2) [.i .i64 (s.1 : Int), .i .i64 (s.2 : Int)])) := Grow.new (Nat.le_refl _) _
  have k5 : Sk 2 qE (h3.new (.cells (1 * 2) [.i .i64 (s.1 : Int), .i .i64 (s.2 : Int)])) (.sl h3.nx 0 1 2) [toI s] := Sk.lit2o
  simp (disch := omega) only [f21_r3, f21_r4, w_reg, w_seq, w_block, seqK_n, x_nil, x_as, x_bslice, x_ldn, kx, rvP_ok, ev_t, ev_c, getV_some, putD_some, oGet_s, of0, getK_set, Nat.reduceEqDiff, ↓reduceIte, fill_0, l4, hav, fill_c, cs, sp]
  generalize h3.new (.cells (1 * 2) [.i .i64 (s.1 : Int), .i .i64 (s.2 : Int)]) = h5 at *
  have hc5 := g5.hc hc3
  have mq0 : Mq h2 [(s, 0)] (.sl h3.nx 0 1 2) h5 := ⟨g4.trans (g5.low (by omega)), hc5, m2.same (g5.old _ (by omega)), k5, fun id off n sz e => by cases e; omega⟩
  have hA49 : (arw (rat (gR (arI g)))).length ≤ 49 := by
    have := arI_len (g := rat (gR (arI g)))
    unfold arI at this
    rw [List.length_map] at this; exact this
  refine loop_monoO (Q := fun e fr hh => e = .exit 0 ∧ ∃ M q, BfsR (gR (arI g)) s M.length 0 M ∧ Mq h2 M q hh ∧ fr.get (K.ofNat 8) = some (al) ∧ fr.get (K.ofNat 9) = some (.m h2.nx)) ?_ (W_loop (f21_A h2 v al (gR (arI g)) s) (fun z => 50 - z.1) ?_ (0, [(s, 0)]) ⟨by simp, .start, _, mq0, by simp (disch := omega) only [getK_set, Nat.reduceEqDiff, ↓reduceIte, and_self, Int.natCast_zero]⟩)
  · rintro e fr h6 ⟨rfl, M, q, hr, mq, g8, g9⟩
    have bi := hr.inv sy hs
    have hal6 := hal.grow hc2 mq.gr
    have hall : ∀ h1, lenV al h1 = .ok (.i .i64 ((arw (rat (gR (arI g)))).length : Int)) h1 := fun h1 => by rw [hal.len]; unfold arI; rw [List.length_map]
    simp (disch := omega) only [f21_r14, f21_r15, f21_r16, w_reg, w_seq, w_block, seqK_n, atK_e, x_nil, x_as, ev_c, putD_some, of0, ↓reduceIte]
    refine W_loop (f21_C h6 al (gR (arI g)) M h2.nx) (fun k => (arw (rat (gR (arI g)))).length - k) ?_ 0 ⟨by omega, .sn, .sn, Grow.refl _ _, mq.hc, Sk.nil, Own.sn, Sl.nil, Own.sn, (fun _ _ _ _ _ => NotIn.sn), by simp (disch := omega) only [getK_set, Nat.reduceEqDiff, ↓reduceIte, g8, g9, and_self, Int.natCast_zero]⟩
    clear g8 g9 fr
    rintro kk fr h7 ⟨hkk, u, w, hG, hc7, su, ou, sw, ow, hnw, g8, g9, g15, g16, g17⟩
    have m7 : MapF h7 h2.nx 23 (dF M) := mq.mp.same (hG.old _ (mq.mp.lt_nx mq.hc))
    unfold f21_l2
    by_cases hlt : kk < (arw (rat (gR (arI g)))).length
    · have d0 : decide ((kk : Int) < ((arw (rat (gR (arI g)))).length : Int)) = true := decide_eq_true (by omega)
      obtain ⟨p, hp⟩ : ∃ p, (arw (rat (gR (arI g))))[kk]? = some p := ⟨_, List.getElem?_eq_getElem hlt⟩
      obtain ⟨pl1, pl2, _⟩ := arw_lt (List.mem_of_getElem? hp)
      have hkl : kk < (arI (rat (gR (arI g)))).length := by unfold arI; rw [List.length_map]; exact hlt
      obtain ⟨pq, pa, pb⟩ := (hal6.grow mq.hc hG).at2 hkl
      have pb : loadV h7 pq (many? 2) = .ok (aV p) h7 := by rw [arI_at hp hkl] at pb; exact pb
      have hlook : lookV 23 (.many [some .i64, some .i64]) (.i .i64 0) h7 (.m h2.nx) (aV p) true = .ok (okZ (.i .i64 0) (dF M (toI p))) h7 := m7.look (inI_nat pl1 pl2)
      rw [dF_toI] at hlook
      have hsu : outT (gR (arI g)) M (kk + 1) = outT (gR (arI g)) M kk ++ (if kn M p = true then [p] else []) := by
        unfold outT
        rw [List.take_add_one, hp, List.filter_append]
        simp only [Option.toList_some]
        by_cases h : kn M p = true
        · rw [if_pos h]; simp [h]
        · rw [if_neg h]; simp [h]
      have hl1 : (outT (gR (arI g)) M kk).length ≤ 49 := by
        unfold outT
        have := List.length_filter_le (kn M) ((arw (rat (gR (arI g)))).take kk)
        rw [List.length_take] at this
        omega
      cases hlk : lkD M p with
      | none =>
        rw [hlk] at hlook
        have hok : okZ (.i .i64 0) none = .tup [.i .i64 0, .b false] := rfl
        rw [if_neg (show ¬ kn M p = true by unfold kn; rw [hlk]; simp), List.append_nil] at hsu
        simp (disch := omega) only [f21_r17, f21_r18, f21_r19, f21_r22, w_skip, w_reg, w_seq, w_cond, w_block, seqK_n, atK_n, loopK_n, ckB_b, cbB_b, true_and, x_nil, x_mv, x_as, x_ldn, x_bin, x_look, Option.map_none, x_iads, x_ext, x_len, kx, rvP_ok, okv_some, ev_t, ev_c, getV_some, putD_some, bin_add, bin_lss, onTup_t, nth0, nth1, of0, of1, getK_set, Nat.reduceEqDiff, ↓reduceIte, Bool.false_eq_true, g8, g9, g17, hall, d0, pa, pb, hlook, hok, fw64]
        exact ⟨kk + 1, by omega, by omega, u, w, hG, hc7, by rw [hsu]; exact su, ou, by unfold farT; rw [hsu]; exact sw, ow, hnw, by simp (disch := omega) only [getK_set, Nat.reduceEqDiff, ↓reduceIte, g8, g9, g15, g16, and_self, Int.natCast_add, Int.natCast_one]⟩
      | some d =>
        rw [hlk] at hlook
        have hok : okZ (.i .i64 0) (some (Int.ofNat d)) = .tup [.i .i64 (d : Int), .b true] := rfl
        rw [if_pos (show kn M p = true by unfold kn; rw [hlk]; rfl)] at hsu
        have cp : cellsN 2 (aV p) = some [.i .i64 (p.1 : Int), .i .i64 (p.2 : Int)] := rfl
        have sp : setMany [V.i .i64 0, V.i .i64 0] 0 [V.i .i64 (p.1 : Int), V.i .i64 (p.2 : Int)] = [V.i .i64 (p.1 : Int), V.i .i64 (p.2 : Int)] := rfl
        obtain ⟨u', h8, a1, s1, o1, gr8, k8⟩ := Sk.push (b := h6.nx.nat) qE_len (by omega) (x := toI p) su ou hG.nx hc7 (by rw [List.length_map]; omega)
        have a1' : appV 2 (h7.new (.cells (1 * 2) [.i .i64 (p.1 : Int), .i .i64 (p.2 : Int)])) u (.sl h7.nx 0 1 2) = .ok u' h8 := a1
        have hc8 := gr8.hc hc7
        have wlt := sw.lt hc7
        have gr8n := gr8.nx
        have hGn := hG.nx
        have notu : ∀ id off n sz, w = .sl id off n sz → NotIn id u := fun id off n sz e off' n' sz' e' => hnw _ _ _ _ e' _ _ _ e
        have sw8 : Sl iE h8 w (farT (gR (arI g)) M kk) := sw.same fun id off n sz e => (k8 id (wlt _ _ _ _ e) (notu _ _ _ _ e)).1
        obtain ⟨w', h9, a2, s2, o2, gr9, k9⟩ := Sl.push (b := h6.nx.nat) (e := iE) (x := (d : Int)) (c := .i .i64 (d : Int)) rfl sw8 ow (by omega) hc8 (by unfold farT; rw [List.length_map]; omega)
        have hc9 := gr9.hc hc8
        -- the block of the new list
        have uin : ∀ id off n sz, u' = .sl id off n sz → id.nat < h7.nx.nat → ∃ off n sz, u = .sl id off n sz := fun id off n sz e hid =>
          Classical.byContradiction fun hno => (k8 id hid fun off n sz e => hno ⟨off, n, sz, e⟩).2 off n sz e
        have hnw' : ∀ id off n sz, u' = .sl id off n sz → NotIn id w := fun id off n sz e off' n' sz' e' => by
          have hid := wlt _ _ _ _ e'
          obtain ⟨_, _, _, e2⟩ := uin id off n sz e hid
          exact hnw _ _ _ _ e2 _ _ _ e'
        have u8lt := s1.lt hc8
        simp (disch := omega) only [f21_r17, f21_r18, f21_r19, f21_r20, f21_r21, f21_r22, w_skip, w_reg, w_seq, w_cond, w_block, seqK_n, atK_n, loopK_n, ckB_b, cbB_b, true_and, x_nil, x_mv, x_as, x_bslice, x_ldn, x_bin, x_look, Option.map_some, x_iads, x_ext, x_len, x_app, kx, rvP_ok, okv_some, ev_t, ev_c, getV_some, putD_some, bin_add, bin_lss, onTup_t, oGet_s, nth0, nth1, cells1_i, set_1, of0, of1, getK_set, Nat.reduceEqDiff, ↓reduceIte, fill_0, g8, g9, g15, g16, g17, hall, d0, pa, pb, hlook, hok, fill_c, cp, sp, a1', set_1, a2, fw64]
        refine ⟨kk + 1, by omega, by omega, u', w', hG.trans (gr8.trans gr9), hc9, ?_, o1, ?_, o2, ?_, by simp (disch := omega) only [getK_set, Nat.reduceEqDiff, ↓reduceIte, g8, g9, and_self, Int.natCast_add, Int.natCast_one]⟩
        · rw [hsu, List.map_append]
          exact s1.same fun id off n sz e => (k9 id (u8lt _ _ _ _ e) (hnw' _ _ _ _ e)).1
        · have : farT (gR (arI g)) M (kk + 1) = farT (gR (arI g)) M kk ++ [(d : Int)] := by
            unfold farT; rw [hsu, List.map_append]; simp [hlk]
          rw [this]; exact s2
        · exact fun id off n sz e => (k9 id (u8lt _ _ _ _ e) (hnw' _ _ _ _ e)).2
    · have d0 : decide ((kk : Int) < ((arw (rat (gR (arI g)))).length : Int)) = false := decide_eq_false (by omega)
      have ek : kk = (arw (rat (gR (arI g)))).length := by omega
      subst ek
      have hout : outT (gR (arI g)) M (arw (rat (gR (arI g)))).length = arw (rat (clsR (gR (arI g)) s)) := by
        unfold outT
        rw [List.take_length, arw_filter]
        refine arw_congr fun a b ha hb => ?_
        rw [Bool.eq_iff_iff, Bool.and_eq_true, ← bi.cls sy hs (a, b)]
        unfold kn
        constructor
        · rintro ⟨_, h2⟩
          refine Classical.byContradiction fun hno => ?_
          rw [lkD_none.2 hno] at h2; cases h2
        · intro hm
          refine ⟨(bi.arr _ hm).1, ?_⟩
          cases hl : lkD M (a, b) with
          | none => exact absurd hm (lkD_none.1 hl)
          | some d => rfl
      rw [hout] at su
      unfold farT at sw
      rw [hout] at sw
      have gE : Grow h.nx.nat h h7 := gA.trans ((mq.gr.low gA.nx).trans (hG.low (by have := gA.nx; have := mq.gr.nx; omega)))
      have hlow : h.nx.nat ≤ h6.nx.nat := by have := gA.nx; have := mq.gr.nx; omega
      simp (disch := omega) only [f21_r17, f21_r23, f21_rs, w_reg, w_seq, w_cond, w_exit, w_ret, seqK_n, seqK_e, atK_e, loopK_e, ckB_b, cbB_b, true_and, retK_r, x_nil, x_mv, x_as, x_bin, x_len, kx, rvP_ok, okv_some, ev_t, getV_some, putD_some, bin_lss, oGet_s, readRs_nil, readRs_t, retV_2, Option.some.injEq, exists_eq_left', getK_set, Nat.reduceEqDiff, ↓reduceIte, Bool.false_eq_true, g8, g15, g16, g17, hall, d0]
      exact ⟨u, w, M, rfl, hr, su, ou.low hlow, sw, ow.low hlow, gE⟩
  · clear mq0 k5 n5 sp l4 m2 m1 l3 e2 e1
    have hall : ∀ h1, lenV al h1 = .ok (.i .i64 ((arw (rat (gR (arI g)))).length : Int)) h1 := fun h1 => by rw [hal.len]; unfold arI; rw [List.length_map]
    rintro ⟨i, M⟩ fr h6 ⟨hi, hr, q, mq, g1, g8, g9, g10, g11⟩
    have hi : i ≤ M.length := hi
    have h49 : M.length ≤ 49 := (hr.inv sy hs).len
    have ql := mq.sk.len
    rw [kyI_len] at ql
    unfold f21_l1
    by_cases hlt : i < M.length
    · have d0 : decide ((i : Int) < (M.length : Int)) = true := decide_eq_true (by omega)
      simp (disch := omega) only [f21_r5, f21_r6, w_skip, w_reg, w_seq, w_cond, w_block, seqK_n, ckB_b, cbB_b, true_and, x_nil, x_mv, x_as, x_bin, x_len, kx, rvP_ok, okv_some, ev_t, ev_c, getV_some, putD_some, bin_lss, of0, getK_set, Nat.reduceEqDiff, ↓reduceIte, g10, g11, ql, d0]
      refine W_loop (f21_B h2 v al (gR (arI g)) s i) (fun z => (arw (rat (gR (arI g)))).length - z.1) ?_ (0, M) ⟨by simp, hlt, hr, q, mq, by simp (disch := omega) only [getK_set, Nat.reduceEqDiff, ↓reduceIte, g1, g8, g9, g10, g11, and_self, Int.natCast_zero]⟩
      clear g1 g8 g9 g10 g11 ql hlt d0 hi hr mq h49
      rintro ⟨kk, M⟩ fr h7 ⟨hkk, hlt, hr, q, mq, g1, g8, g9, g10, g11, g12⟩
      have hlt : i < M.length := hlt
      have hkk : kk ≤ (arw (rat (gR (arI g)))).length := hkk
      have bi := hr.inv sy hs
      have h49 : M.length ≤ 49 := bi.len
      have hc7 := mq.hc
      unfold f21_l0
      by_cases hk : kk < (arw (rat (gR (arI g)))).length
      · have d1 : decide ((kk : Int) < ((arw (rat (gR (arI g)))).length : Int)) = true := decide_eq_true (by omega)
        obtain ⟨p, hp⟩ : ∃ p, (arw (rat (gR (arI g))))[kk]? = some p := ⟨_, List.getElem?_eq_getElem hk⟩
        obtain ⟨pl1, pl2, _⟩ := arw_lt (List.mem_of_getElem? hp)
        have hkl : kk < (arI (rat (gR (arI g)))).length := by unfold arI; rw [List.length_map]; exact hk
        have hal7 := hal.grow hc2 mq.gr
        obtain ⟨pq, pa, pb⟩ := hal7.at2 hkl
        have pb : loadV h7 pq (many? 2) = .ok (aV p) h7 := by rw [arI_at hp hkl] at pb; exact pb
        have hlook : lookV 23 (.many [some .i64, some .i64]) (.i .i64 0) h7 (.m h2.nx) (aV p) true = .ok (okZ (.i .i64 0) (dF M (toI p))) h7 := mq.mp.look (inI_nat pl1 pl2)
        rw [dF_toI] at hlook
        obtain ⟨⟨x, d⟩, hx⟩ : ∃ e, M[i]? = some e := ⟨M[i], List.getElem?_eq_getElem hlt⟩
        have hql : i < (kyI M).length := by rw [kyI_len]; exact hlt
        have hxm : x ∈ kyD M := List.mem_map.2 ⟨(x, d), List.mem_of_getElem? hx, rfl⟩
        have hx7 := rat_lt (bi.arr x hxm).1
        have hdl : d + 1 ≤ M.length := bi.dl _ (List.mem_of_getElem? hx)
        cases hlk : lkD M p with
        | some d' =>
          rw [hlk] at hlook
          have hok : okZ (.i .i64 0) (some (Int.ofNat d')) = .tup [.i .i64 (d' : Int), .b true] := rfl
          have hin : p ∈ kyD M := Classical.byContradiction fun hno => by rw [lkD_none.2 hno] at hlk; cases hlk
          simp (disch := omega) only [f21_r7, f21_r8, f21_r9, f21_r12, w_skip, w_reg, w_draw, w_seq, w_cond, w_block, seqK_n, atK_n, loopK_n, ckB_b, cbB_b, okG_b, asG_t, true_and, x_nil, x_g, x_mv, x_as, x_ldn, x_bin, x_look, Option.map_some, x_iads, x_ext, x_len, kx, kg, xg_nil, xg_g, xg_mv, xg_pick, xg_not, xd_cons, fresh_nil, stK_n, stK_s, stay_nil, rvP_ok, okv_some, ev_t, ev_c, getV_some, putD_some, bin_add, bin_lss, pick_b, onB_b, onTup_t, nth0, nth1, of0, of1, getK_set, Nat.reduceEqDiff, ↓reduceIte, Bool.false_eq_true, Bool.not_true, g8, g9, g12, hall, d1, pa, pb, hlook, hok, fw64]
          exact ⟨(kk + 1, M), by simp only; omega, by simp only; omega, hlt, hr.skip hx hp (.inl hin), q, mq, by simp (disch := omega) only [getK_set, Nat.reduceEqDiff, ↓reduceIte, g1, g8, g9, g10, g11, and_self, Int.natCast_add, Int.natCast_one]⟩
        | none =>
          rw [hlk] at hlook
          have hok : okZ (.i .i64 0) none = .tup [.i .i64 0, .b false] := rfl
          have hnin := lkD_none.1 hlk
          obtain ⟨qq, qa, qb⟩ := mq.sk.at2 hql
          have qb : loadV h7 qq (many? 2) = .ok (aV x) h7 := by rw [kyI_at hx hql] at qb; exact qb
          have hqb := mq.sk.beq
          have hab := hal.beq
          simp (disch := omega) only [f21_r7, f21_r8, f21_r9, w_skip, w_reg, w_draw, w_seq, w_cond, w_block, seqK_n, ckB_b, cbB_b, okG_b, asG_t, true_and, x_nil, x_g, x_mv, x_as, x_ldn, x_bin, x_look, Option.map_none, x_iads, x_ext, x_call, x_len, kx, kg, xg_nil, xg_g, xg_mv, xg_ldn, xg_not, xg_iads, xd_cons, fresh_nil, stK_s, stay_nil, rvP_ok, okv_some, ev_t, ev_c, evs_nil, evs_cons, getV_some, putD_some, bin_lss, onB_b, onTup_t, nth0, nth1, of0, getK_set, Nat.reduceEqDiff, ↓reduceIte, Bool.not_false, g1, g8, g9, g10, g11, g12, hall, d1, pa, pb, qa, qb, hlook, hok]
          refine (callP_0 (ef := f20) k.c20 rfl (f20_ret k.toCallsJn hg (hv2.grow hc2 mq.gr) hx7 ⟨pl1, pl2⟩ hc7)).mono ?_
          rintro r h8 ⟨rfl, g8_⟩
          have hc8 := g8_.hc hc7
          have mlt := mq.mp.lt_nx hc7
          have mq8 : Mq h2 M q h8 := ⟨mq.gr.trans (g8_.low mq.gr.nx), hc8, mq.mp.same (g8_.old _ mlt), mq.sk.grow hc7 g8_, mq.own⟩
          cases hf : frcB (gR (arI g)) x p with
          | false =>
            simp (disch := omega) only [f21_r12, w_skip, w_reg, w_cond, seqK_n, atK_n, loopK_n, ckB_b, cbB_b, true_and, x_nil, x_mv, x_as, x_bin, kx, kg, xg_nil, xg_pick, xd_cons, fresh_nil, stK_n, stay_nil, rvP_ok, okv_some, ev_t, ev_c, getV_some, putD_some, bin_add, pick_b, of1, getK_set, Nat.reduceEqDiff, ↓reduceIte, Bool.false_eq_true, g12, fw64]
            exact ⟨(kk + 1, M), by simp only; omega, by simp only; omega, hlt, hr.skip hx hp (.inr hf), q, mq8, by simp (disch := omega) only [getK_set, Nat.reduceEqDiff, ↓reduceIte, g1, g8, g9, g10, g11, and_self, Int.natCast_add, Int.natCast_one]⟩
          | true =>
            obtain ⟨pq2, pa2, pb2⟩ := (hal.grow hc2 mq8.gr).at2 hkl
            have pb2 : loadV h8 pq2 (many? 2) = .ok (aV p) h8 := by rw [arI_at hp hkl] at pb2; exact pb2
            obtain ⟨qq2, qa2, qb2⟩ := mq8.sk.at2 hql
            have qb2 : loadV h8 qq2 (many? 2) = .ok (aV x) h8 := by rw [kyI_at hx hql] at qb2; exact qb2
            have hlk2 : lookV 23 (.many [some .i64, some .i64]) (.i .i64 0) h8 (.m h2.nx) (aV x) false = .ok (.i .i64 (d : Int)) h8 := mq8.mp.look0 (x := toI x) (inI_nat hx7.1 hx7.2) (by rw [dF_toI, lkD_at bi.nd hx]; rfl)
            obtain ⟨es2, mp1, mp2⟩ := mq8.mp.put (x := toI p) (v := (d : Int) + 1) (inI_nat pl1 pl2)
            have mp1 : mupdV 23 (.many [some .i64, some .i64]) h8 (.m h2.nx) (aV p) (.i .i64 ((d : Int) + 1)) = .ok undefV (h8.put h2.nx (.map 23 es2)) := mp1
            have hdd : dF (M ++ [(p, d + 1)]) = fun y => if y = toI p then some ((d : Int) + 1) else dF M y := by rw [dF_app hnin]; funext y; simp
            rw [← hdd] at mp2
            have h8n : h2.nx.nat < h8.nx.nat := mq8.mp.lt_nx hc8
            have g9_ : Grow h2.nx.nat h8 (h8.put h2.nx (.map 23 es2)) := Grow.put (Nat.le_refl _) h8n _
            have n9_ : (h8.put h2.nx (.map 23 es2)).nx.nat = h8.nx.nat := rfl
            have bm : beqV (.m h2.nx) (.m h2.nx) = true := K.beq_refl _
            have s9 : Sk 2 qE (h8.put h2.nx (.map 23 es2)) q (kyI M) := mq8.sk.put (mq8.own.notIn (by omega)) _
            have hal9 : Sk 2 qE (h8.put h2.nx (.map 23 es2)) al (arI (rat (gR (arI g)))) := (hal.grow hc2 mq8.gr).put (fun off n sz e => by have := hal.lt hc2 _ _ _ _ e; omega) _
            simp (disch := omega) only [f21_r10, w_reg, w_draw, w_seq, w_cond, seqK_n, ckB_b, cbB_b, true_and, x_nil, x_mupd, kx, kg, xg_nil, xg_mv, xg_pick, xg_ldn, xg_bin, xg_look, xg_iads, xd_cons, fresh_nil, stK_n, stK_s, stay_nil, rvP_ok, okv_some, ev_t, ev_c, getV_some, putD_some, putD_none, bin_add, pick_b, of0, of1, getK_set, Nat.reduceEqDiff, ↓reduceIte, g8, g9, g10, g11, g12, pa2, pb2, qa2, qb2, hlk2, mp1, fw64]
            have hc9 := g9_.hc hc8
            generalize h8.put h2.nx (.map 23 es2) = h9 at *
            obtain ⟨pq3, pa3, pb3⟩ := hal9.at2 hkl
            have pb3 : loadV h9 pq3 (many? 2) = .ok (aV p) h9 := by rw [arI_at hp hkl] at pb3; exact pb3
            have cp : cellsN 2 (aV p) = some [.i .i64 (p.1 : Int), .i .i64 (p.2 : Int)] := rfl
            have sp : setMany [V.i .i64 0, V.i .i64 0] 0 [V.i .i64 (p.1 : Int), V.i .i64 (p.2 : Int)] = [V.i .i64 (p.1 : Int), V.i .i64 (p.2 : Int)] := rfl
            obtain ⟨q', h10, a1, s1, o1, gr10, _⟩ := Sk.push (b := h2.nx.nat + 1) qE_len (by omega) (x := toI p) s9 mq8.own (by omega) hc9 (by rw [kyI_len]; omega)
            have a1' : appV 2 (h9.new (.cells (1 * 2) [.i .i64 (p.1 : Int), .i .i64 (p.2 : Int)])) q (.sl h9.nx 0 1 2) = .ok q' h10 := a1
            simp (disch := omega) only [f21_r11, f21_r12, w_reg, seqK_n, atK_n, loopK_n, x_nil, x_mv, x_as, x_bslice, x_ldn, x_bin, x_iads, x_app, kx, rvP_ok, okv_some, ev_t, ev_c, getV_some, putD_some, bin_add, oGet_s, of0, of1, getK_set, Nat.reduceEqDiff, ↓reduceIte, fill_0, g8, g10, g12, pa3, pb3, fill_c, cp, sp, a1', fw64]
            have hky : kyI (M ++ [(p, d + 1)]) = kyI M ++ [toI p] := by unfold kyI kyD; simp
            exact ⟨(kk + 1, M ++ [(p, d + 1)]), by simp only; omega, by simp only; omega, by simp only [List.length_append]; omega, hr.add hx hp hnin hf, q', ⟨mq8.gr.trans (g9_.trans (gr10.low (by omega))), gr10.hc hc9, mp2.same (gr10.old _ (by omega)), by rw [hky]; exact s1, o1⟩, by simp (disch := omega) only [getK_set, Nat.reduceEqDiff, ↓reduceIte, g1, g8, g9, g11, and_self, Int.natCast_add, Int.natCast_one]⟩
      · have d1 : decide ((kk : Int) < ((arw (rat (gR (arI g)))).length : Int)) = false := decide_eq_false (by omega)
        have ek : kk = (arw (rat (gR (arI g)))).length := by omega
        subst ek
        simp (disch := omega) only [f21_r7, f21_r13, w_reg, w_seq, w_cond, w_exit, seqK_n, seqK_e, atK_n, atK_e, loopK_n, loopK_e, ckB_b, cbB_b, true_and, x_nil, x_mv, x_as, x_bin, x_len, kx, rvP_ok, okv_some, ev_t, ev_c, getV_some, putD_some, bin_add, bin_lss, of1, getK_set, Nat.reduceEqDiff, ↓reduceIte, Bool.false_eq_true, g8, g11, g12, hall, d1, fw64]
        exact ⟨(i + 1, M), by simp only; omega, by simp only; omega, hr.next hlt, q, mq, by simp (disch := omega) only [getK_set, Nat.reduceEqDiff, ↓reduceIte, g1, g8, g9, g10, and_self, Int.natCast_add, Int.natCast_one]⟩
    · have d0 : decide ((i : Int) < (M.length : Int)) = false := decide_eq_false (by omega)
      have ei : i = M.length := by omega
      subst ei
      simp (disch := omega) only [f21_r5, w_reg, w_seq, w_cond, w_exit, seqK_n, seqK_e, loopK_e, ckB_b, cbB_b, true_and, x_nil, x_mv, x_bin, x_len, kx, rvP_ok, okv_some, ev_t, getV_some, putD_some, bin_lss, getK_set, Nat.reduceEqDiff, ↓reduceIte, Bool.false_eq_true, g8, g9, g10, g11, ql, d0]
      exact ⟨M, q, hr, mq, by simp (disch := omega) only []⟩
end
end Go.Ev
namespace Go.Ev
open Go Go.RowKit


section
variable {G : List Bool} {C C' : Nat → Nat → Prop}
end
end Go.Ev
namespace Go.Ev
open Go Go.RowKit
noncomputable def f90_r0 : List EOper := [⟨(some (K.ofNat 4)), none, .box 49 (.t (K.ofNat 0))⟩, ⟨(some (K.ofNat 5)), none, .box 49 (.t (K.ofNat 1))⟩, ⟨(some (K.ofNat 6)), none, .as (.c (.i .i64 (.ofNat 0)))⟩]
noncomputable def f90_r1 : List Stage := [⟨[⟨(some (K.ofNat 11)), none, .ldn 49 (.t (K.ofNat 2))⟩, ⟨(some (K.ofNat 12)), none, .ldn 49 (.t (K.ofNat 4))⟩, ⟨(some (K.ofNat 15)), none, .ldn 49 (.t (K.ofNat 4))⟩], [], (some ⟨(some (K.ofNat 13)), none, .call (.c (.fn (K.ofNat 70) [])) [(.t (K.ofNat 12))]⟩), []⟩, ⟨[], [⟨(some (K.ofNat 11)), none, .ldn 49 (.t (K.ofNat 2))⟩, ⟨(some (K.ofNat 15)), none, .ldn 49 (.t (K.ofNat 4))⟩], (some ⟨(some (K.ofNat 14)), none, .call (.c (.fn (K.ofNat 81) [])) [(.t (K.ofNat 11)), (.t (K.ofNat 13))]⟩), []⟩, ⟨[], [⟨(some (K.ofNat 15)), none, .ldn 49 (.t (K.ofNat 4))⟩], (some ⟨(some (K.ofNat 16)), none, .call (.c (.fn (K.ofNat 92) [])) [(.t (K.ofNat 15))]⟩), []⟩, ⟨[], [], (some ⟨(some (K.ofNat 17)), none, .call (.c (.fn (K.ofNat 91) [])) [(.t (K.ofNat 14)), (.t (K.ofNat 16))]⟩), []⟩, ⟨[⟨(some (K.ofNat 18)), none, .not (.t (K.ofNat 17))⟩], [], none, []⟩]
noncomputable def f90_r2 : List EOper := [⟨(some (K.ofNat 6)), none, .as (.c (.i .i64 (.ofNat 0)))⟩]
noncomputable def f90_r3 : List EOper := [⟨(some (K.ofNat 20)), none, .ldn 49 (.t (K.ofNat 5))⟩, ⟨(some (K.ofNat 21)), none, .call (.c (.fn (K.ofNat 87) [])) [(.t (K.ofNat 20))]⟩, ⟨(some (K.ofNat 19)), none, .mv (.t (K.ofNat 21))⟩, ⟨(some (K.ofNat 22)), none, .ext (.t (K.ofNat 19)) 0⟩, ⟨(some (K.ofNat 23)), none, .ext (.t (K.ofNat 19)) 1⟩, ⟨(some (K.ofNat 7)), none, .alloc 2 [(.i .i64 (.ofNat 0)), (.i .i64 (.ofNat 0))]⟩, ⟨none, none, .st 2 (.t (K.ofNat 7)) (.t (K.ofNat 22))⟩, ⟨(some (K.ofNat 8)), none, .as (.t (K.ofNat 23))⟩]
noncomputable def f90_r4 : List EOper := [⟨(some (K.ofNat 24)), none, .mv (.t (K.ofNat 8))⟩, ⟨(some (K.ofNat 25)), none, .not (.t (K.ofNat 24))⟩]
noncomputable def f90_r5 : List EOper := [⟨(some (K.ofNat 6)), none, .as (.c (.i .i64 (.ofNat 1)))⟩]
noncomputable def f90_r6 : List EOper := [⟨(some (K.ofNat 26)), none, .ldn 49 (.t (K.ofNat 2))⟩, ⟨(some (K.ofNat 27)), none, .ldn 2 (.t (K.ofNat 7))⟩, ⟨(some (K.ofNat 28)), none, .call (.c (.fn (K.ofNat 57) [])) [(.t (K.ofNat 26)), (.t (K.ofNat 27))]⟩, ⟨(some (K.ofNat 9)), none, .alloc 49 (List.replicate 49 (.b false))⟩, ⟨none, none, .st 49 (.t (K.ofNat 9)) (.t (K.ofNat 28))⟩]
noncomputable def f90_r7 : List EOper := [⟨(some (K.ofNat 29)), none, .ldn 49 (.t (K.ofNat 9))⟩, ⟨(some (K.ofNat 30)), none, .call (.c (.fn (K.ofNat 70) [])) [(.t (K.ofNat 29))]⟩, ⟨(some (K.ofNat 10)), none, .alloc 49 (List.replicate 49 (.b false))⟩, ⟨none, none, .st 49 (.t (K.ofNat 10)) (.t (K.ofNat 30))⟩]
noncomputable def f90_r8 : List Stage := [⟨[⟨(some (K.ofNat 31)), none, .ldn 49 (.t (K.ofNat 5))⟩, ⟨(some (K.ofNat 32)), none, .ldn 49 (.t (K.ofNat 9))⟩, ⟨(some (K.ofNat 33)), none, .ldn 49 (.t (K.ofNat 10))⟩, ⟨(some (K.ofNat 34)), none, .bslice 2 49 (List.replicate 98 (.b false)) [(0, 49, (.t (K.ofNat 32))), (49, 49, (.t (K.ofNat 33)))]⟩], [], (some ⟨(some (K.ofNat 35)), none, .call (.c (.fn (K.ofNat 69) [])) [(.t (K.ofNat 34))]⟩), [(K.ofNat 34)]⟩, ⟨[], [⟨(some (K.ofNat 31)), none, .ldn 49 (.t (K.ofNat 5))⟩], (some ⟨(some (K.ofNat 36)), none, .call (.c (.fn (K.ofNat 81) [])) [(.t (K.ofNat 31)), (.t (K.ofNat 35))]⟩), []⟩, ⟨[], [], (some ⟨none, none, .st 49 (.t (K.ofNat 5)) (.t (K.ofNat 36))⟩), []⟩, ⟨[], [], none, []⟩]
noncomputable def f90_r9 : List Stage := [⟨[⟨(some (K.ofNat 37)), none, .ld (.t (K.ofNat 3))⟩, ⟨(some (K.ofNat 38)), none, .ldn 49 (.t (K.ofNat 4))⟩, ⟨(some (K.ofNat 39)), none, .ldn 49 (.t (K.ofNat 9))⟩, ⟨(some (K.ofNat 40)), none, .bslice 2 49 (List.replicate 98 (.b false)) [(0, 49, (.t (K.ofNat 38))), (49, 49, (.t (K.ofNat 39)))]⟩, ⟨(some (K.ofNat 42)), none, .ldn 49 (.t (K.ofNat 5))⟩, ⟨(some (K.ofNat 44)), none, .ld (.t (K.ofNat 3))⟩, ⟨(some (K.ofNat 45)), none, .ldn 49 (.t (K.ofNat 4))⟩, ⟨(some (K.ofNat 46)), none, .ldn 49 (.t (K.ofNat 10))⟩, ⟨(some (K.ofNat 47)), none, .bslice 2 49 (List.replicate 98 (.b false)) [(0, 49, (.t (K.ofNat 45))), (49, 49, (.t (K.ofNat 46)))]⟩, ⟨(some (K.ofNat 49)), none, .ldn 49 (.t (K.ofNat 5))⟩], [], (some ⟨(some (K.ofNat 41)), none, .call (.c (.fn (K.ofNat 69) [])) [(.t (K.ofNat 40))]⟩), [(K.ofNat 40), (K.ofNat 47)]⟩, ⟨[], [⟨(some (K.ofNat 37)), none, .ld (.t (K.ofNat 3))⟩, ⟨(some (K.ofNat 42)), none, .ldn 49 (.t (K.ofNat 5))⟩, ⟨(some (K.ofNat 44)), none, .ld (.t (K.ofNat 3))⟩, ⟨(some (K.ofNat 45)), none, .ldn 49 (.t (K.ofNat 4))⟩, ⟨(some (K.ofNat 46)), none, .ldn 49 (.t (K.ofNat 10))⟩, ⟨(some (K.ofNat 47)), none, .bslice 2 49 (List.replicate 98 (.b false)) [(0, 49, (.t (K.ofNat 45))), (49, 49, (.t (K.ofNat 46)))]⟩, ⟨(some (K.ofNat 49)), none, .ldn 49 (.t (K.ofNat 5))⟩], (some ⟨(some (K.ofNat 43)), none, .call (.t (K.ofNat 37)) [(.t (K.ofNat 41)), (.t (K.ofNat 42))]⟩), []⟩, ⟨[], [⟨(some (K.ofNat 44)), none, .ld (.t (K.ofNat 3))⟩, ⟨(some (K.ofNat 45)), none, .ldn 49 (.t (K.ofNat 4))⟩, ⟨(some (K.ofNat 46)), none, .ldn 49 (.t (K.ofNat 10))⟩, ⟨(some (K.ofNat 47)), none, .bslice 2 49 (List.replicate 98 (.b false)) [(0, 49, (.t (K.ofNat 45))), (49, 49, (.t (K.ofNat 46)))]⟩, ⟨(some (K.ofNat 49)), none, .ldn 49 (.t (K.ofNat 5))⟩], (some ⟨(some (K.ofNat 48)), none, .call (.c (.fn (K.ofNat 69) [])) [(.t (K.ofNat 47))]⟩), []⟩, ⟨[], [⟨(some (K.ofNat 44)), none, .ld (.t (K.ofNat 3))⟩, ⟨(some (K.ofNat 49)), none, .ldn 49 (.t (K.ofNat 5))⟩], (some ⟨(some (K.ofNat 50)), none, .call (.t (K.ofNat 44)) [(.t (K.ofNat 48)), (.t (K.ofNat 49))]⟩), []⟩, ⟨[⟨(some (K.ofNat 51)), none, .bin .add (.t (K.ofNat 43)) (.t (K.ofNat 50))⟩], [], (some ⟨(some (K.ofNat 6)), none, .as (.t (K.ofNat 51))⟩), []⟩, ⟨[], [], none, []⟩]
noncomputable def f90_c : EC := (.seq (.reg f90_r0) (.seq (.seq (.draw f90_r1) (.cond (.t (K.ofNat 18)) (.seq (.reg f90_r2) .ret) .skip)) (.seq (.reg f90_r3) (.seq (.seq (.reg f90_r4) (.cond (.t (K.ofNat 25)) (.seq (.reg f90_r5) .ret) .skip)) (.seq (.reg f90_r6) (.seq (.reg f90_r7) (.seq (.draw f90_r8) (.seq (.draw f90_r9) .ret))))))))
noncomputable def f90 : EF := ⟨52, [.tmp (K.ofNat 6)], f90_c, none⟩
noncomputable def f64_r0 : List EOper := [⟨(some (K.ofNat 1)), none, .box 49 (.t (K.ofNat 0))⟩, ⟨(some (K.ofNat 2)), none, .as (.c (.i .i64 (.ofNat 0)))⟩]
noncomputable def f64_r1 : List EOper := [⟨(some (K.ofNat 3)), none, .alloc 1 [.fnil]⟩]
noncomputable def f64_r2 : List EOper := [⟨(some (K.ofNat 4)), none, .mkfn (K.ofNat 90) [(.t (K.ofNat 1)), (.t (K.ofNat 3))]⟩, ⟨none, none, .st 1 (.t (K.ofNat 3)) (.t (K.ofNat 4))⟩]
noncomputable def f64_r3 : List EOper := [⟨(some (K.ofNat 5)), none, .ld (.t (K.ofNat 3))⟩, ⟨(some (K.ofNat 6)), none, .build (List.replicate 49 (.b false)) []⟩, ⟨(some (K.ofNat 7)), none, .ldn 49 (.t (K.ofNat 1))⟩, ⟨(some (K.ofNat 8)), none, .call (.t (K.ofNat 5)) [(.t (K.ofNat 6)), (.t (K.ofNat 7))]⟩, ⟨(some (K.ofNat 2)), none, .as (.t (K.ofNat 8))⟩]
noncomputable def f64_c : EC := (.seq (.reg f64_r0) (.seq (.reg f64_r1) (.seq (.reg f64_r2) (.seq (.reg f64_r3) .ret))))
noncomputable def f64 : EF := ⟨9, [.tmp (K.ofNat 2)], f64_c, none⟩
section
variable {fs : T EF} {h h' : H} {fr : Fr}
structure CallsNo (fs : T EF) : Prop extends CallsOr fs where
  c64 : fs.get (K.ofNat 64) = some f64
  c90 : fs.get (K.ofNat 90) = some f90
end
end Go.Ev
namespace Go.Ev
open Go Go.RowKit
section
variable {fs : T EF} {h h' : H}
/-! ### Plain -/
/-- Is an arrow in none of the earlier ones' classes? -/
noncomputable def newB (G : List Bool) (i : Nat) (x : Nat × Nat) : Bool := !((arw (rat G)).take i).any fun y => rat (clsR G y) x.1 x.2
noncomputable def cnN (G : List Bool) : Nat → Nat
  | 0 => 0
  | i + 1 => cnN G i + (match (arw (rat G))[i]? with | some x => if newB G i x = true then 1 else 0 | none => 0)
theorem cnN_le {G : List Bool} : ∀ i, cnN G i ≤ i
  | 0 => Nat.le_refl _
  | i + 1 => by
    have := cnN_le (G := G) i
    show cnN G i + _ ≤ i + 1
    split
    · split <;> omega
    · omega
noncomputable def seenB (G : List Bool) (i : Nat) (a b : Nat) : Bool := ((arw (rat G)).take i).any fun y => rat (clsR G y) a b
theorem seen_succ {G : List Bool} {i : Nat} {x : Nat × Nat} (hx : (arw (rat G))[i]? = some x) (a b : Nat) : seenB G (i + 1) a b = (seenB G i a b || rat (clsR G x) a b) := by
  unfold seenB
  rw [List.take_add_one, hx, List.any_append]
  simp
theorem seen_old {G : List Bool} {i : Nat} {x : Nat × Nat} (hx : (arw (rat G))[i]? = some x) (hn : newB G i x = false) : rl (seenB G (i + 1)) = rl (seenB G i) := by
  refine rl_congr fun a b _ _ => ?_
  rw [seen_succ hx, Bool.eq_iff_iff, Bool.or_eq_true]
  refine ⟨fun h => h.elim id fun h => ?_, .inl⟩
  unfold newB at hn
  rw [Bool.not_eq_false', List.any_eq_true] at hn
  obtain ⟨y, hy, hyx⟩ := hn
  unfold seenB
  rw [List.any_eq_true]
  refine ⟨y, hy, ?_⟩
  have hyl := arw_lt (List.mem_of_mem_take hy)
  have hxl := arw_lt (List.mem_of_getElem? hx)
  exact (clsR_iff ⟨hyl.1, hyl.2.1⟩).2 (((clsR_iff ⟨hyl.1, hyl.2.1⟩).1 hyx).trans ((clsR_iff ⟨hxl.1, hxl.2.1⟩).1 h))
theorem seen_new {G : List Bool} {i : Nat} {x : Nat × Nat} (hx : (arw (rat G))[i]? = some x) : jnR [rl (seenB G i), clsR G x] = rl (seenB G (i + 1)) := by
  have l1 : (jnR [rl (seenB G i), clsR G x]).length = 49 := rl_len
  refine rel_ext l1 rl_len fun a b ha hb => ?_
  rw [Bool.eq_iff_iff, rat_rl, decide_eq_true ha, decide_eq_true hb, Bool.true_and, Bool.true_and, seen_succ hx, Bool.or_eq_true]
  show rat (jn2 (rl (seenB G i)) (clsR G x)) a b = true ↔ _
  rw [jn2_iff, rat_rl, decide_eq_true ha, decide_eq_true hb, Bool.true_and, Bool.true_and]
theorem headf {α : Type} {p : α → Bool} : ∀ {l : List α} {k : Nat} {x : α}, l.Nodup → l[k]? = some x → p x = true → ((l.filter p)[0]? = some x ↔ ∀ j y, j < k → l[j]? = some y → p y = false)
  | [], _, _, _, h, _ => by simp at h
  | a :: l, 0, x, hn, h, hp => by
    simp at h; subst h
    rw [List.filter_cons_of_pos hp]
    exact ⟨fun _ j y hj => by omega, fun _ => rfl⟩
  | a :: l, k + 1, x, hn, h, hp => by
    rw [List.nodup_cons] at hn
    have h : l[k]? = some x := by simpa using h
    have ih := headf hn.2 h hp
    by_cases ha : p a = true
    · rw [List.filter_cons_of_pos ha]
      constructor
      · intro h2
        have h2 : a = x := by simpa using h2
        exact absurd (by rw [h2]; exact List.mem_of_getElem? h) hn.1
      · intro h2
        have := h2 0 a (by omega) rfl
        rw [ha] at this; cases this
    · rw [List.filter_cons_of_neg (by simpa using ha), ih]
      constructor
      · intro h2 j y hj hy
        cases j with
        | zero =>
          have hy : a = y := by simpa using hy
          rw [← hy]; simpa using ha
        | succ j => exact h2 j y (by omega) (by simpa using hy)
      · exact fun h2 j y hj hy => h2 (j + 1) y (by omega) (by simpa using hy)
theorem arw_nd2 {f : Nat → Nat → Bool} : (arw f).Nodup := by
  unfold arw
  refine List.Pairwise.map _ (fun a b hab e => hab ?_) (List.Pairwise.filter _ List.nodup_range)
  have e1 : a / 7 = b / 7 := congrArg Prod.fst e
  have e2 : a % 7 = b % 7 := congrArg Prod.snd e
  omega
/-- The first arrow of its class. -/
theorem first_new {G : List Bool} (sy : SymR G) {i : Nat} {x : Nat × Nat} (hx : (arw (rat G))[i]? = some x) : (arw (rat (clsR G x)))[0]? = some x ↔ newB G i x = true := by
  have hxl := arw_lt (List.mem_of_getElem? hx)
  have e : arw (rat (clsR G x)) = (arw (rat G)).filter fun y => rat (clsR G x) y.1 y.2 := by
    rw [arw_filter]
    refine arw_congr fun a b _ _ => ?_
    rw [Bool.eq_iff_iff, Bool.and_eq_true]
    exact ⟨fun h => ⟨((clsR_iff ⟨hxl.1, hxl.2.1⟩).1 h).edge hxl.2.2, h⟩, fun h => h.2⟩
  rw [e, headf arw_nd2 hx ((clsR_iff ⟨hxl.1, hxl.2.1⟩).2 .refl)]
  unfold newB
  rw [Bool.not_eq_true', List.any_eq_false]
  constructor
  · intro h y hy h2
    obtain ⟨j, hj, rfl⟩ := List.getElem_of_mem hy
    rw [List.length_take] at hj
    rw [List.getElem_take] at h2
    have hyl := arw_lt (List.getElem_mem (show j < (arw (rat G)).length by omega))
    have := h j _ (by omega) (List.getElem?_eq_getElem (by omega))
    have h3 := ((clsR_iff ⟨hyl.1, hyl.2.1⟩).1 h2).symm sy.gr hyl.2.2
    rw [(clsR_iff ⟨hxl.1, hxl.2.1⟩).2 h3] at this; cases this
  · intro h j y hj hy
    have hyl := arw_lt (List.mem_of_getElem? hy)
    cases e2 : rat (clsR G x) y.1 y.2 with
    | false => rfl
    | true =>
      have h3 := ((clsR_iff ⟨hxl.1, hxl.2.1⟩).1 e2).symm sy.gr hxl.2.2
      refine absurd ((clsR_iff ⟨hyl.1, hyl.2.1⟩).2 h3) (h y ?_)
      rw [List.mem_take_iff_getElem]
      have hjl := get_lt hy
      refine ⟨j, by omega, ?_⟩
      rw [List.getElem?_eq_getElem hjl] at hy
      exact Option.some.inj hy
end
end Go.Ev
namespace Go.Ev
open Go Go.RowKit
noncomputable def f61_r0 : List EOper := [⟨(some (K.ofNat 1)), none, .box 49 (.t (K.ofNat 0))⟩, ⟨(some (K.ofNat 2)), none, .as (.c .sn)⟩, ⟨(some (K.ofNat 3)), none, .as (.c (.b false))⟩]
noncomputable def f61_r1 : List EOper := [⟨(some (K.ofNat 4)), none, .alloc 1 [.sn]⟩]
noncomputable def f61_r2 : List EOper := [⟨(some (K.ofNat 7)), none, .mkfn (K.ofNat 88) [(.t (K.ofNat 1)), (.t (K.ofNat 4))]⟩, ⟨(some (K.ofNat 5)), none, .alloc 1 [.fnil]⟩, ⟨none, none, .st 1 (.t (K.ofNat 5)) (.t (K.ofNat 7))⟩]
noncomputable def f61_r3 : List EOper := [⟨(some (K.ofNat 8)), none, .ldn 49 (.t (K.ofNat 1))⟩, ⟨(some (K.ofNat 9)), none, .call (.c (.fn (K.ofNat 84) [])) [(.t (K.ofNat 8))]⟩]
noncomputable def f61_r4 : List EOper := [⟨(some (K.ofNat 6)), none, .alloc 2 [(.i .i64 (.ofNat 0)), (.i .i64 (.ofNat 0))]⟩, ⟨none, none, .st 2 (.t (K.ofNat 6)) (.t (K.ofNat 10))⟩]
noncomputable def f61_a0 : EC := (.reg f61_r4)
noncomputable def f61_r5 : List EOper := [⟨(some (K.ofNat 11)), none, .ld (.t (K.ofNat 5))⟩, ⟨(some (K.ofNat 12)), none, .ldn 2 (.t (K.ofNat 6))⟩, ⟨(some (K.ofNat 13)), none, .call (.t (K.ofNat 11)) [(.t (K.ofNat 12))]⟩]
noncomputable def f61_b0 : EC := (.block 1 (.reg f61_r5))
noncomputable def f61_r6 : List Stage := [⟨[⟨(some (K.ofNat 14)), none, .ld (.t (K.ofNat 4))⟩, ⟨(some (K.ofNat 15)), none, .ld (.t (K.ofNat 4))⟩, ⟨(some (K.ofNat 16)), none, .isnil true (.t (K.ofNat 15))⟩], [], (some ⟨(some (K.ofNat 2)), none, .as (.t (K.ofNat 14))⟩), []⟩, ⟨[], [⟨(some (K.ofNat 15)), none, .ld (.t (K.ofNat 4))⟩, ⟨(some (K.ofNat 16)), none, .isnil true (.t (K.ofNat 15))⟩], (some ⟨(some (K.ofNat 3)), none, .as (.t (K.ofNat 16))⟩), []⟩, ⟨[], [], none, []⟩]
noncomputable def f61_c : EC := (.seq (.reg f61_r0) (.seq (.reg f61_r1) (.seq (.reg f61_r2) (.seq (.seq (.reg f61_r3) (.block 0 (.rangeF (.t (K.ofNat 9)) [(K.ofNat 10)] f61_a0 f61_b0))) (.seq (.draw f61_r6) .ret)))))
noncomputable def f61 : EF := ⟨17, [.tmp (K.ofNat 2), .tmp (K.ofNat 3)], f61_c, none⟩
section
variable {fs : T EF} {h h' : H}
structure CallsCl (fs : T EF) : Prop extends CallsOr fs where
  c86 : fs.get (K.ofNat 86) = some f86
  c102 : fs.get (K.ofNat 102) = some f102
  c103 : fs.get (K.ofNat 103) = some f103
  c89 : fs.get (K.ofNat 89) = some f89
  c88 : fs.get (K.ofNat 88) = some f88
  c61 : fs.get (K.ofNat 61) = some f61
end
end Go.Ev
namespace Go.Ev
open Go Go.RowKit
noncomputable def f54_r0 : List EOper := [⟨(some (K.ofNat 6)), none, .as (.c (.i .i64 (.ofNat 0)))⟩]
noncomputable def f54_r1 : List EOper := [⟨(some (K.ofNat 11)), none, .mv (.t (K.ofNat 0))⟩, ⟨(some (K.ofNat 12)), none, .mv (.t (K.ofNat 1))⟩, ⟨(some (K.ofNat 13)), none, .call (.c (.fn (K.ofNat 47) [])) [(.t (K.ofNat 11)), (.t (K.ofNat 12))]⟩, ⟨(some (K.ofNat 7)), none, .as (.t (K.ofNat 13))⟩]
noncomputable def f54_r2 : List EOper := [⟨(some (K.ofNat 14)), none, .mv (.t (K.ofNat 7))⟩, ⟨(some (K.ofNat 15)), none, .bin .neq (.t (K.ofNat 14)) (.c (.i .i64 (.ofNat 0)))⟩]
noncomputable def f54_r3 : List EOper := [⟨(some (K.ofNat 16)), none, .mv (.t (K.ofNat 7))⟩, ⟨(some (K.ofNat 6)), none, .as (.t (K.ofNat 16))⟩]
noncomputable def f54_r4 : List EOper := [⟨(some (K.ofNat 17)), none, .mv (.t (K.ofNat 1))⟩, ⟨(some (K.ofNat 18)), none, .call (.c (.fn (K.ofNat 48) [])) [(.t (K.ofNat 17))]⟩, ⟨(some (K.ofNat 8)), none, .alloc 49 (List.replicate 49 (.b false))⟩, ⟨none, none, .st 49 (.t (K.ofNat 8)) (.t (K.ofNat 18))⟩]
noncomputable def f54_r5 : List EOper := [⟨(some (K.ofNat 19)), none, .mv (.t (K.ofNat 2))⟩, ⟨(some (K.ofNat 20)), none, .len (.t (K.ofNat 19))⟩, ⟨(some (K.ofNat 21)), none, .mv (.c (.i .i64 (.ofNat 0)))⟩]
noncomputable def f54_r6 : List EOper := [⟨(some (K.ofNat 22)), none, .bin .lss (.t (K.ofNat 21)) (.t (K.ofNat 20))⟩]
noncomputable def f54_r7 : List EOper := [⟨(some (K.ofNat 23)), none, .iads 2 (.t (K.ofNat 19)) (.t (K.ofNat 21))⟩, ⟨(some (K.ofNat 24)), none, .ldn 2 (.t (K.ofNat 23))⟩, ⟨(some (K.ofNat 10)), none, .alloc 2 [(.i .i64 (.ofNat 0)), (.i .i64 (.ofNat 0))]⟩, ⟨none, none, .st 2 (.t (K.ofNat 10)) (.t (K.ofNat 24))⟩]
noncomputable def f54_r8 : List Stage := [⟨[⟨(some (K.ofNat 25)), none, .ldn 49 (.t (K.ofNat 8))⟩, ⟨(some (K.ofNat 26)), none, .ldn 2 (.t (K.ofNat 10))⟩], [], (some ⟨(some (K.ofNat 27)), none, .call (.c (.fn (K.ofNat 56) [])) [(.t (K.ofNat 26))]⟩), []⟩, ⟨[], [⟨(some (K.ofNat 25)), none, .ldn 49 (.t (K.ofNat 8))⟩], (some ⟨(some (K.ofNat 28)), none, .call (.c (.fn (K.ofNat 85) [])) [(.t (K.ofNat 25)), (.t (K.ofNat 27))]⟩), []⟩, ⟨[⟨(some (K.ofNat 29)), none, .not (.t (K.ofNat 28))⟩], [], none, []⟩]
noncomputable def f54_r9 : List EOper := [⟨(some (K.ofNat 6)), none, .as (.c (.i .i64 (.ofNat 1)))⟩]
noncomputable def f54_r10 : List EOper := [⟨(some (K.ofNat 30)), none, .bin .add (.t (K.ofNat 21)) (.c (.i .i64 (.ofNat 1)))⟩, ⟨(some (K.ofNat 21)), none, .mv (.t (K.ofNat 30))⟩]
noncomputable def f54_l0 : EC := (.seq (.reg f54_r6) (.seq (.cond (.t (K.ofNat 22)) .skip (.exit 0)) (.seq (.block 1 (.seq (.reg f54_r7) (.seq (.draw f54_r8) (.cond (.t (K.ofNat 29)) (.seq (.reg f54_r9) .ret) .skip)))) (.reg f54_r10))))
noncomputable def f54_r11 : List EOper := [⟨(some (K.ofNat 6)), none, .as (.c (.i .i64 (.ofNat 0)))⟩]
noncomputable def f54_c : EC := (.seq (.reg f54_r0) (.seq (.seq (.reg f54_r1) (.seq (.reg f54_r2) (.cond (.t (K.ofNat 15)) (.seq (.reg f54_r3) .ret) .skip))) (.seq (.reg f54_r4) (.seq (.seq (.reg f54_r5) (.block 0 (.loop f54_l0))) (.seq (.reg f54_r11) .ret)))))
noncomputable def f54 : EF := ⟨31, [.tmp (K.ofNat 6)], f54_c, none⟩
theorem f54_rs : f54.rs = [.tmp (K.ofNat 6)] := of_eq_true (eq_self _)
noncomputable def f18_r0 : List EOper := [⟨(some (K.ofNat 5)), none, .box 2 (.t (K.ofNat 2))⟩, ⟨(some (K.ofNat 6)), none, .as (.c .sn)⟩, ⟨(some (K.ofNat 7)), none, .as (.c (.i .i64 (.ofNat 0)))⟩]
noncomputable def f18_r1 : List EOper := [⟨(some (K.ofNat 9)), none, .mv (.t (K.ofNat 0))⟩, ⟨(some (K.ofNat 10)), none, .mv (.t (K.ofNat 1))⟩, ⟨(some (K.ofNat 11)), none, .ldn 2 (.t (K.ofNat 5))⟩, ⟨(some (K.ofNat 12)), none, .bslice 1 2 [(.i .i64 (.ofNat 0)), (.i .i64 (.ofNat 0))] [(0, 2, (.t (K.ofNat 11)))]⟩, ⟨(some (K.ofNat 13)), none, .call (.c (.fn (K.ofNat 54) [])) [(.t (K.ofNat 9)), (.t (K.ofNat 10)), (.t (K.ofNat 12))]⟩, ⟨(some (K.ofNat 8)), none, .as (.t (K.ofNat 13))⟩]
noncomputable def f18_r2 : List EOper := [⟨(some (K.ofNat 14)), none, .mv (.t (K.ofNat 8))⟩, ⟨(some (K.ofNat 15)), none, .bin .neq (.t (K.ofNat 14)) (.c (.i .i64 (.ofNat 0)))⟩]
noncomputable def f18_r3 : List EOper := [⟨(some (K.ofNat 16)), none, .mv (.t (K.ofNat 8))⟩, ⟨(some (K.ofNat 6)), none, .as (.c .sn)⟩, ⟨(some (K.ofNat 7)), none, .as (.t (K.ofNat 16))⟩]
noncomputable def f18_r4 : List Stage := [⟨[⟨(some (K.ofNat 17)), none, .mv (.t (K.ofNat 1))⟩, ⟨(some (K.ofNat 19)), none, .ldn 2 (.t (K.ofNat 5))⟩], [], (some ⟨(some (K.ofNat 18)), none, .call (.c (.fn (K.ofNat 48) [])) [(.t (K.ofNat 17))]⟩), []⟩, ⟨[], [⟨(some (K.ofNat 19)), none, .ldn 2 (.t (K.ofNat 5))⟩], (some ⟨(some (K.ofNat 20)), none, .call (.c (.fn (K.ofNat 56) [])) [(.t (K.ofNat 19))]⟩), []⟩, ⟨[], [], (some ⟨(some (K.ofNat 21)), none, .call (.c (.fn (K.ofNat 57) [])) [(.t (K.ofNat 18)), (.t (K.ofNat 20))]⟩), []⟩, ⟨[], [], (some ⟨(some (K.ofNat 22)), none, .call (.c (.fn (K.ofNat 58) [])) [(.t (K.ofNat 21))]⟩), []⟩, ⟨[], [], (some ⟨(some (K.ofNat 6)), none, .as (.t (K.ofNat 22))⟩), []⟩, ⟨[], [], (some ⟨(some (K.ofNat 7)), none, .as (.c (.i .i64 (.ofNat 0)))⟩), []⟩, ⟨[], [], none, []⟩]
noncomputable def f18_c : EC := (.seq (.reg f18_r0) (.seq (.seq (.reg f18_r1) (.seq (.reg f18_r2) (.cond (.t (K.ofNat 15)) (.seq (.reg f18_r3) .ret) .skip))) (.seq (.draw f18_r4) .ret)))
noncomputable def f18 : EF := ⟨23, [.tmp (K.ofNat 6), .tmp (K.ofNat 7)], f18_c, none⟩
theorem f18_rs : f18.rs = [.tmp (K.ofNat 6), .tmp (K.ofNat 7)] := of_eq_true (eq_self _)
section
variable {fs : T EF} {h h' : H}
theorem hasR_nat {L : List Bool} {a b : Nat} (ha : a < 7) (hb : b < 7) : hasR L ((a : Int), (b : Int)) = rat L a b := by
  unfold hasR nodeB
  rw [decide_eq_true (show (0 : Int) ≤ ((a : Int), (b : Int)).1 ∧ ((a : Int), (b : Int)).1 < 7 by simp only; omega), decide_eq_true (show (0 : Int) ≤ ((a : Int), (b : Int)).2 ∧ ((a : Int), (b : Int)).2 < 7 by simp only; omega)]
  rfl
def f54_I (h0 : H) (id8 : K) (w : V) (x : Int × Int) (L : List Bool) (i : Nat) (fr : Fr) (h1 : H) : Prop := i ≤ 1 ∧ (1 ≤ i → hasR L x = true) ∧ Grow h0.nx.nat h0 h1 ∧ fr.get (K.ofNat 8) = some (.p id8 0) ∧ fr.get (K.ofNat 19) = some (w) ∧ fr.get (K.ofNat 20) = some (.i .i64 1) ∧ fr.get (K.ofNat 21) = some (.i .i64 (i : Int))
theorem f54_ret {n : Nat} {v w : V} {g : Nat → Nat → Bool} {x : Int × Int} (k : CallsCl fs) (hg : Gph n g) (hv : Srp h v (arI g)) (hw : Srp h w [x]) (hc : HC h) : Ret fs f54 [.i .i64 (n : Int), v, w] h fun r h' => r = .i .i64 (if hasR (gR (arI g)) x = true then 0 else 1) ∧ Grow h.nx.nat h h' := by
  have hlb := arI_len (g := g)
  apply ret_of rfl
  show W fs none f54_c _ _ _
  unfold f54_c
  simp (disch := omega) only [f54_r0, f54_r1, w_reg, w_seq, seqK_n, x_nil, x_mv, x_as, x_call, ev_t, ev_c, evs_nil, evs_cons, getV_some, putD_some, frame_3, of0, getK_set, Nat.reduceEqDiff, ↓reduceIte]
  refine (callP_0 (ef := f47) k.c47 rfl (f47_ret k.toCallsCk hv (by omega) hc)).mono ?_
  rintro r h1 ⟨rfl, gr1⟩
  rw [chkG_g hg]
  have ne0 : decide ((0 : Int) ≠ 0) = false := rfl
  simp (disch := omega) only [f54_r2, f54_r4, w_skip, w_reg, w_seq, w_cond, seqK_n, ckB_b, cbB_b, true_and, x_nil, x_mv, x_as, x_bin, x_call, kx, rvP_ok, okv_some, ev_t, ev_c, evs_nil, evs_cons, getV_some, putD_some, bin_neq, of0, getK_set, Nat.reduceEqDiff, ↓reduceIte, Bool.false_eq_true, ne0]
  have hc1 := gr1.hc hc
  refine (callP_0 (ef := f48) k.c48 rfl (f48_ret k.toNat2 (hv.grow hc gr1) nd_arI (by omega) hc1)).mono ?_
  rintro r h2 ⟨rfl, gr2⟩
  have hc2 := gr2.hc hc1
  have hL : (gR (arI g)).length = 49 := gR_len
  generalize gR (arI g) = L at *
  have s2 := rC_stn hL rl_len (M := rl fun _ _ => false) (h := h2.new (.cells 49 (List.replicate 49 (.b false)))) (id := h2.nx) (by rw [rl_false]; exact get_new_same)
  have n3 := nx_new h2 (.cells 49 (List.replicate 49 (.b false)))
  have gr3 : Grow h2.nx.nat h2 ((h2.new (.cells 49 (List.replicate 49 (.b false)))).put h2.nx (rC L)) := (Grow.new (Nat.le_refl _) _).trans (Grow.put (Nat.le_refl _) (by omega) _)
  have e3 : ((h2.new (.cells 49 (List.replicate 49 (.b false)))).put h2.nx (rC L)).get h2.nx = rC L := get_put_same
  have n3' : ((h2.new (.cells 49 (List.replicate 49 (.b false)))).put h2.nx (rC L)).nx.nat = h2.nx.nat + 1 := n3
  have hlen : ∀ h1, lenV w h1 = .ok (.i .i64 1) h1 := fun h1 => hw.len h1
  simp (disch := omega) only [f54_r5, w_reg, w_seq, w_block, seqK_n, x_nil, x_mv, x_alloc, x_st, x_len, kx, rvP_ok, ev_t, ev_c, getV_some, putD_some, putD_none, of0, getK_set, Nat.reduceEqDiff, ↓reduceIte, s2, hlen]
  generalize (h2.new (.cells 49 (List.replicate 49 (.b false)))).put h2.nx (rC L) = h3 at *
  have hc3 := gr3.hc hc2
  have gA : Grow h.nx.nat h h3 := gr1.trans ((gr2.low gr1.nx).trans (gr3.low (by have := gr1.nx; have := gr2.nx; omega)))
  have hw3 := hw.grow hc gA
  refine W_loop (f54_I h3 h2.nx w x L) (fun i => 1 - i) ?_ 0 ⟨by omega, fun h => by omega, Grow.refl _ _, by simp (disch := omega) only [getK_set, Nat.reduceEqDiff, ↓reduceIte, and_self, Int.natCast_zero]⟩
  rintro i fr h4 ⟨hi, hyes, hG, g8, g19, g20, g21⟩
  have hc4 := hG.hc hc3
  unfold f54_l0
  by_cases hlt : i < 1
  · have ei : i = 0 := by omega
    subst ei
    have d0 : decide (((0 : Nat) : Int) < 1) = true := rfl
    obtain ⟨id, q, p1, p2, _⟩ := (hw3.grow hc3 hG).at2 (i := 0) (by simp)
    obtain ⟨x1, x2⟩ := x
    have p2 : loadV h4 (.p id q) (many? 2) = .ok (pV (x1, x2)) h4 := p2
    have s5 : storeV (h4.new (.cells 2 [.i .i64 0, .i .i64 0])) 2 (.p h4.nx 0) (pV (x1, x2)) = .ok undefV ((h4.new (.cells 2 [.i .i64 0, .i .i64 0])).put h4.nx (.cells 2 [.i .i64 x1, .i .i64 x2])) := st2 get_new_same
    have n5 := nx_new h4 (.cells 2 [.i .i64 0, .i .i64 0])
    have g5 : Grow h4.nx.nat h4 ((h4.new (.cells 2 [.i .i64 0, .i .i64 0])).put h4.nx (.cells 2 [.i .i64 x1, .i .i64 x2])) := (Grow.new (Nat.le_refl _) _).trans (Grow.put (Nat.le_refl _) (by omega) _)
    have e5 : ((h4.new (.cells 2 [.i .i64 0, .i .i64 0])).put h4.nx (.cells 2 [.i .i64 x1, .i .i64 x2])).get h4.nx = .cells 2 [.i .i64 x1, .i .i64 x2] := get_put_same
    simp (disch := omega) only [f54_r6, f54_r7, w_skip, w_reg, w_draw, w_seq, w_cond, w_block, seqK_n, ckB_b, cbB_b, true_and, x_nil, x_alloc, x_ldn, x_st, x_bin, x_iads, kx, rvP_ok, okv_some, ev_t, getV_some, putD_some, putD_none, bin_lss, of0, getK_set, Nat.reduceEqDiff, ↓reduceIte, g19, g20, g21, d0, p1, p2, s5]
    generalize (h4.new (.cells 2 [.i .i64 0, .i .i64 0])).put h4.nx (.cells 2 [.i .i64 x1, .i .i64 x2]) = h5 at *
    have l5 := ldn2 e5
    have hav : V.agg [.i .i64 x1, .i .i64 x2] = pV (x1, x2) := rfl
    have hGn := hG.nx
    have l8 := rC_ldn hL ((g5.old h2.nx (by omega)).trans ((hG.old h2.nx (by omega)).trans e3))
    cases hh : hasR L (x1, x2) with
    | true =>
      simp (disch := omega) only [f54_r8, f54_r10, w_skip, w_reg, w_cond, seqK_n, atK_n, loopK_n, ckB_b, cbB_b, true_and, x_nil, x_mv, x_bin, x_call, kx, kg, xg_nil, xg_ldn, xg_not, xd_cons, fresh_nil, stK_n, stK_s, stay_nil, stay_cons, again_ok, rvP_ok, okv_some, ev_t, ev_c, evs_nil, evs_cons, getV_some, putD_some, bin_add, onB_b, of1, getK_set, Nat.reduceEqDiff, ↓reduceIte, Bool.false_eq_true, Bool.not_true, stay_ldn, g8, g21, l5, hav, l8, beq_rV, k.n56, k.n85 _ _ _ _ hL, hh, fw64]
      exact ⟨1, by omega, by omega, fun _ => hh, hG.trans (g5.low hGn), by simp (disch := omega) only [getK_set, Nat.reduceEqDiff, ↓reduceIte, g8, g19, g20, and_self, Int.natCast_zero, Int.natCast_one, Int.zero_add]⟩
    | false =>
      simp (disch := omega) only [f54_r8, f54_r9, f54_rs, w_reg, w_seq, w_cond, w_ret, seqK_n, seqK_r, atK_r, loopK_r, ckB_b, cbB_b, true_and, retK_r, x_nil, x_as, x_call, kx, kg, xg_nil, xg_ldn, xg_not, xd_cons, fresh_nil, stK_n, stK_s, stay_nil, stay_cons, again_ok, rvP_ok, ev_t, ev_c, evs_nil, evs_cons, getV_some, putD_some, onB_b, oGet_s, readRs_nil, readRs_t, retV_1, of1, Option.some.injEq, exists_eq_left', getK_set, Nat.reduceEqDiff, ↓reduceIte, Bool.false_eq_true, Bool.not_false, stay_ldn, g8, l5, hav, l8, beq_rV, k.n56, k.n85 _ _ _ _ hL, hh]
      exact gA.trans ((hG.trans (g5.low hGn)).low gA.nx)
  · have ei : i = 1 := by omega
    subst ei
    have d0 : decide (((1 : Nat) : Int) < 1) = false := rfl
    simp (disch := omega) only [f54_r6, f54_r11, f54_rs, w_reg, w_seq, w_cond, w_exit, w_ret, seqK_n, seqK_e, atK_e, loopK_e, ckB_b, cbB_b, true_and, retK_r, x_nil, x_as, x_bin, kx, rvP_ok, okv_some, ev_t, ev_c, getV_some, putD_some, bin_lss, oGet_s, readRs_nil, readRs_t, retV_1, of0, Option.some.injEq, exists_eq_left', getK_set, ↓reduceIte, Bool.false_eq_true, g20, g21, d0]
    rw [if_pos (hyes (Nat.le_refl _))]
    exact ⟨rfl, gA.trans (hG.low gA.nx)⟩
theorem f18_ret {n : Nat} {v : V} {g : Nat → Nat → Bool} {x : Nat × Nat} (k : CallsCl fs) (h54 : fs.get (K.ofNat 54) = some f54) (hg : Gph n g) (hv : Srp h v (arI g)) (hx : rat (gR (arI g)) x.1 x.2 = true) (hc : HC h) : Ret fs f18 [.i .i64 (n : Int), v, aV x] h fun r h' => ∃ u, r = .tup [u, .i .i64 0] ∧ Sk 2 qE h' u (arI (rat (clsR (gR (arI g)) x))) ∧ Own h.nx.nat u ∧ Grow h.nx.nat h h' := by
  have hlb := arI_len (g := g)
  apply ret_of rfl
  show W fs none f18_c _ _ _
  unfold f18_c
  have hx7 := rat_lt hx
  have c2 : cellsN 2 (aV x) = some [.i .i64 (x.1 : Int), .i .i64 (x.2 : Int)] := rfl
  have n1 := nx_new h (.cells 2 [.i .i64 (x.1 : Int), .i .i64 (x.2 : Int)])
  have gr1 : Grow h.nx.nat h (h.new (.cells 2 [.i .i64 (x.1 : Int), .i .i64 (x.2 : Int)])) := Grow.new (Nat.le_refl _) _
  have e1 : (h.new (.cells 2 [.i .i64 (x.1 : Int), .i .i64 (x.2 : Int)])).get h.nx = .cells 2 [.i .i64 (x.1 : Int), .i .i64 (x.2 : Int)] := get_new_same
  simp (disch := omega) only [f18_r0, w_reg, w_seq, seqK_n, x_nil, x_as, x_box, kx, rvP_ok, ev_t, ev_c, getV_some, putD_some, oGet_s, frame_3, of0, getK_set, ↓reduceIte, c2]
  generalize h.new (.cells 2 [.i .i64 (x.1 : Int), .i .i64 (x.2 : Int)]) = h1 at *
  have hc1 := gr1.hc hc
  have hav : V.agg [.i .i64 (x.1 : Int), .i .i64 (x.2 : Int)] = aV x := rfl
  have sp : setMany [V.i .i64 0, V.i .i64 0] 0 [V.i .i64 (x.1 : Int), V.i .i64 (x.2 : Int)] = [V.i .i64 (x.1 : Int), V.i .i64 (x.2 : Int)] := rfl
  have l1 := ldn2 e1
  have n2 := nx_new h1 (.cells (1 * 2) [.i .i64 (x.1 : Int), .i .i64 (x.2 : Int)])
  have gr2 : Grow h1.nx.nat h1 (h1.new (.cells (1 * 2) [.i .i64 (x.1 : Int), .i .i64 (x.2 : Int)])) := Grow.new (Nat.le_refl _) _
  have k2 : Sk 2 qE (h1.new (.cells (1 * 2) [.i .i64 (x.1 : Int), .i .i64 (x.2 : Int)])) (.sl h1.nx 0 1 2) [toI x] := Sk.lit2o
  simp (disch := omega) only [f18_r1, x_mv, x_bslice, x_ldn, x_call, kx, rvP_ok, ev_t, ev_c, evs_nil, evs_cons, getV_some, putD_some, oGet_s, of0, getK_set, Nat.reduceEqDiff, ↓reduceIte, fill_0, l1, hav, fill_c, c2, sp]
  generalize h1.new (.cells (1 * 2) [.i .i64 (x.1 : Int), .i .i64 (x.2 : Int)]) = h2 at *
  have hc2 := gr2.hc hc1
  have gA : Grow h.nx.nat h h2 := gr1.trans (gr2.low (by omega))
  refine (callP_0 (ef := f54) h54 rfl (f54_ret k hg (hv.grow hc gA) k2.srpo hc2)).mono ?_
  rintro r h3 ⟨rfl, gr3⟩
  have hc3 := gr3.hc hc2
  have gB := gA.trans (gr3.low gA.nx)
  rw [if_pos (show hasR (gR (arI g)) (toI x) = true by unfold toI; rw [hasR_nat hx7.1 hx7.2]; exact hx)]
  have ne0 : decide ((0 : Int) ≠ 0) = false := rfl
  have l3 := ldn2 ((gr3.old h.nx (by omega)).trans ((gr2.old h.nx (by omega)).trans e1))
  simp (disch := omega) only [f18_r2, f18_r4, w_skip, w_reg, w_draw, w_seq, w_cond, seqK_n, ckB_b, cbB_b, true_and, x_nil, x_mv, x_as, x_bin, x_call, kx, kg, xg_nil, xg_mv, xg_ldn, xd_cons, fresh_nil, stK_s, stay_nil, rvP_ok, okv_some, ev_t, ev_c, evs_nil, evs_cons, getV_some, putD_some, bin_neq, of0, getK_set, Nat.reduceEqDiff, ↓reduceIte, Bool.false_eq_true, ne0, l3, hav]
  have hL : (gR (arI g)).length = 49 := gR_len
  refine (callP_0 (ef := f48) k.c48 rfl (f48_ret k.toNat2 (hv.grow hc gB) nd_arI (by omega) hc3)).mono ?_
  rintro r h4 ⟨rfl, gr4⟩
  have hc4 := gr4.hc hc3
  have gC := gB.trans (gr4.low gB.nx)
  have l4 := ldn2 ((gr4.old h.nx (by have := gr3.nx; omega)).trans ((gr3.old h.nx (by omega)).trans ((gr2.old h.nx (by omega)).trans e1)))
  have k56 : ∀ h P, CallP fs (.fn (K.ofNat 56) []) [aV x] h P = P (aV x) h := fun _ _ => k.n56 (toI x) _ _
  simp (disch := omega) only [true_and, x_nil, x_call, kx, xg_nil, xd_cons, fresh_nil, stK_s, stay_nil, stay_cons, again_ok, ev_t, ev_c, evs_nil, evs_cons, getV_some, putD_some, getK_set, Nat.reduceEqDiff, ↓reduceIte, stay_ldn, l4, hav, beq_aV, k56, k.n57 _ _ _ _ hL hx7]
  refine (callP_0 (ef := f58) k.c58 rfl (f58_ret k.toNat4 clsR_len hc4)).mono ?_
  rintro u h5 ⟨hs, ho, gr5⟩
  simp (disch := omega) only [f18_rs, w_ret, seqK_n, true_and, retK_r, x_nil, x_as, kx, xg_nil, xd_cons, fresh_nil, stK_n, stK_s, stay_nil, ev_t, ev_c, getV_some, putD_some, oGet_s, readRs_nil, readRs_t, retV_2, Option.some.injEq, exists_eq_left', getK_set, Nat.reduceEqDiff, ↓reduceIte]
  exact ⟨u, rfl, hs, ho.low gC.nx, gC.trans (gr5.low gC.nx)⟩
end
end Go.Ev
namespace Go.Ev
open Go Go.RowKit
noncomputable def f51_r0 : List EOper := [⟨(some (K.ofNat 1)), none, .box 49 (.t (K.ofNat 0))⟩, ⟨(some (K.ofNat 2)), none, .as (.c (.i .i64 (.ofNat 0)))⟩]
noncomputable def f51_r1 : List EOper := [⟨(some (K.ofNat 3)), none, .alloc 1 [(.i .i64 (.ofNat 0))]⟩, ⟨none, none, .st 1 (.t (K.ofNat 3)) (.c (.i .i64 (.ofNat 0)))⟩]
noncomputable def f51_r2 : List EOper := [⟨(some (K.ofNat 4)), none, .alloc 49 (List.replicate 49 (.b false))⟩]
noncomputable def f51_r3 : List EOper := [⟨(some (K.ofNat 6)), none, .ldn 49 (.t (K.ofNat 1))⟩, ⟨(some (K.ofNat 7)), none, .call (.c (.fn (K.ofNat 84) [])) [(.t (K.ofNat 6))]⟩]
noncomputable def f51_r4 : List EOper := [⟨(some (K.ofNat 5)), none, .alloc 2 [(.i .i64 (.ofNat 0)), (.i .i64 (.ofNat 0))]⟩, ⟨none, none, .st 2 (.t (K.ofNat 5)) (.t (K.ofNat 8))⟩]
noncomputable def f51_a0 : EC := (.reg f51_r4)
noncomputable def f51_r5 : List EOper := [⟨(some (K.ofNat 9)), none, .ldn 49 (.t (K.ofNat 4))⟩, ⟨(some (K.ofNat 10)), none, .ldn 2 (.t (K.ofNat 5))⟩, ⟨(some (K.ofNat 11)), none, .call (.c (.fn (K.ofNat 85) [])) [(.t (K.ofNat 9)), (.t (K.ofNat 10))]⟩, ⟨(some (K.ofNat 12)), none, .not (.t (K.ofNat 11))⟩]
noncomputable def f51_r6 : List Stage := [⟨[⟨(some (K.ofNat 13)), none, .ldn 49 (.t (K.ofNat 4))⟩, ⟨(some (K.ofNat 14)), none, .ldn 49 (.t (K.ofNat 1))⟩, ⟨(some (K.ofNat 15)), none, .ldn 2 (.t (K.ofNat 5))⟩], [], (some ⟨(some (K.ofNat 16)), none, .call (.c (.fn (K.ofNat 57) [])) [(.t (K.ofNat 14)), (.t (K.ofNat 15))]⟩), []⟩, ⟨[⟨(some (K.ofNat 17)), none, .bslice 2 49 (List.replicate 98 (.b false)) [(0, 49, (.t (K.ofNat 13))), (49, 49, (.t (K.ofNat 16)))]⟩], [⟨(some (K.ofNat 13)), none, .ldn 49 (.t (K.ofNat 4))⟩], (some ⟨(some (K.ofNat 18)), none, .call (.c (.fn (K.ofNat 69) [])) [(.t (K.ofNat 17))]⟩), [(K.ofNat 17)]⟩, ⟨[], [], (some ⟨none, none, .st 49 (.t (K.ofNat 4)) (.t (K.ofNat 18))⟩), []⟩, ⟨[], [], none, []⟩]
noncomputable def f51_r7 : List EOper := [⟨(some (K.ofNat 19)), none, .ld (.t (K.ofNat 3))⟩, ⟨(some (K.ofNat 20)), none, .bin .add (.t (K.ofNat 19)) (.c (.i .i64 (.ofNat 1)))⟩, ⟨none, none, .st 1 (.t (K.ofNat 3)) (.t (K.ofNat 20))⟩]
noncomputable def f51_b0 : EC := (.block 1 (.seq (.reg f51_r5) (.cond (.t (K.ofNat 12)) (.seq (.draw f51_r6) (.reg f51_r7)) .skip)))
noncomputable def f51_r8 : List EOper := [⟨(some (K.ofNat 21)), none, .ld (.t (K.ofNat 3))⟩, ⟨(some (K.ofNat 2)), none, .as (.t (K.ofNat 21))⟩]
noncomputable def f51_c : EC := (.seq (.reg f51_r0) (.seq (.reg f51_r1) (.seq (.reg f51_r2) (.seq (.seq (.reg f51_r3) (.block 0 (.rangeF (.t (K.ofNat 7)) [(K.ofNat 8)] f51_a0 f51_b0))) (.seq (.reg f51_r8) .ret)))))
noncomputable def f51 : EF := ⟨22, [.tmp (K.ofNat 2)], f51_c, none⟩
theorem f51_rs : f51.rs = [.tmp (K.ofNat 2)] := of_eq_true (eq_self _)
noncomputable def f13_r0 : List EOper := [⟨(some (K.ofNat 4)), none, .as (.c (.i .i64 (.ofNat 0)))⟩, ⟨(some (K.ofNat 5)), none, .as (.c (.i .i64 (.ofNat 0)))⟩]
noncomputable def f13_r1 : List EOper := [⟨(some (K.ofNat 7)), none, .mv (.t (K.ofNat 0))⟩, ⟨(some (K.ofNat 8)), none, .mv (.t (K.ofNat 1))⟩, ⟨(some (K.ofNat 9)), none, .call (.c (.fn (K.ofNat 47) [])) [(.t (K.ofNat 7)), (.t (K.ofNat 8))]⟩, ⟨(some (K.ofNat 6)), none, .as (.t (K.ofNat 9))⟩]
noncomputable def f13_r2 : List EOper := [⟨(some (K.ofNat 10)), none, .mv (.t (K.ofNat 6))⟩, ⟨(some (K.ofNat 11)), none, .bin .neq (.t (K.ofNat 10)) (.c (.i .i64 (.ofNat 0)))⟩]
noncomputable def f13_r3 : List EOper := [⟨(some (K.ofNat 12)), none, .mv (.t (K.ofNat 6))⟩, ⟨(some (K.ofNat 4)), none, .as (.c (.i .i64 (.ofNat 0)))⟩, ⟨(some (K.ofNat 5)), none, .as (.t (K.ofNat 12))⟩]
noncomputable def f13_r4 : List EOper := [⟨(some (K.ofNat 13)), none, .mv (.t (K.ofNat 1))⟩, ⟨(some (K.ofNat 14)), none, .call (.c (.fn (K.ofNat 48) [])) [(.t (K.ofNat 13))]⟩, ⟨(some (K.ofNat 15)), none, .call (.c (.fn (K.ofNat 51) [])) [(.t (K.ofNat 14))]⟩, ⟨(some (K.ofNat 4)), none, .as (.t (K.ofNat 15))⟩, ⟨(some (K.ofNat 5)), none, .as (.c (.i .i64 (.ofNat 0)))⟩]
noncomputable def f13_c : EC := (.seq (.reg f13_r0) (.seq (.seq (.reg f13_r1) (.seq (.reg f13_r2) (.cond (.t (K.ofNat 11)) (.seq (.reg f13_r3) .ret) .skip))) (.seq (.reg f13_r4) .ret)))
noncomputable def f13 : EF := ⟨16, [.tmp (K.ofNat 4), .tmp (K.ofNat 5)], f13_c, none⟩
theorem f13_rs : f13.rs = [.tmp (K.ofNat 4), .tmp (K.ofNat 5)] := of_eq_true (eq_self _)
noncomputable def f16_r0 : List EOper := [⟨(some (K.ofNat 4)), none, .as (.c (.i .i64 (.ofNat 0)))⟩]
noncomputable def f16_r1 : List EOper := [⟨(some (K.ofNat 10)), none, .mv (.t (K.ofNat 0))⟩, ⟨(some (K.ofNat 11)), none, .mv (.t (K.ofNat 1))⟩, ⟨(some (K.ofNat 12)), none, .call (.c (.fn (K.ofNat 53) [])) [(.t (K.ofNat 10)), (.t (K.ofNat 11))]⟩, ⟨(some (K.ofNat 5)), none, .as (.t (K.ofNat 12))⟩]
noncomputable def f16_r2 : List EOper := [⟨(some (K.ofNat 6)), none, .as (.c (.i .i64 (.ofNat 0)))⟩]
noncomputable def f16_r3 : List EOper := [⟨(some (K.ofNat 7)), none, .as (.c (.i .i64 (.ofNat 0)))⟩]
noncomputable def f16_r4 : List EOper := [⟨(some (K.ofNat 13)), none, .mv (.t (K.ofNat 7))⟩, ⟨(some (K.ofNat 14)), none, .mv (.t (K.ofNat 5))⟩, ⟨(some (K.ofNat 15)), none, .len (.t (K.ofNat 14))⟩, ⟨(some (K.ofNat 16)), none, .bin .lss (.t (K.ofNat 13)) (.t (K.ofNat 15))⟩]
noncomputable def f16_r5 : List EOper := [⟨(some (K.ofNat 20)), none, .mv (.t (K.ofNat 0))⟩, ⟨(some (K.ofNat 21)), none, .mv (.t (K.ofNat 1))⟩, ⟨(some (K.ofNat 22)), none, .mv (.t (K.ofNat 5))⟩, ⟨(some (K.ofNat 23)), none, .mv (.t (K.ofNat 7))⟩, ⟨(some (K.ofNat 24)), none, .iads 2 (.t (K.ofNat 22)) (.t (K.ofNat 23))⟩, ⟨(some (K.ofNat 25)), none, .ldn 2 (.t (K.ofNat 24))⟩, ⟨(some (K.ofNat 26)), none, .call (.c (.fn (K.ofNat 21) [])) [(.t (K.ofNat 20)), (.t (K.ofNat 21)), (.t (K.ofNat 25))]⟩, ⟨(some (K.ofNat 19)), none, .mv (.t (K.ofNat 26))⟩, ⟨(some (K.ofNat 27)), none, .ext (.t (K.ofNat 19)) 0⟩, ⟨(some (K.ofNat 28)), none, .ext (.t (K.ofNat 19)) 1⟩, ⟨(some (K.ofNat 8)), none, .as (.t (K.ofNat 27))⟩, ⟨(some (K.ofNat 9)), none, .as (.t (K.ofNat 28))⟩]
noncomputable def f16_r6 : List Stage := [⟨[⟨(some (K.ofNat 29)), none, .mv (.t (K.ofNat 8))⟩, ⟨(some (K.ofNat 30)), none, .iads 2 (.t (K.ofNat 29)) (.c (.i .i64 (.ofNat 0)))⟩, ⟨(some (K.ofNat 31)), none, .ldn 2 (.t (K.ofNat 30))⟩, ⟨(some (K.ofNat 32)), none, .mv (.t (K.ofNat 5))⟩, ⟨(some (K.ofNat 33)), none, .mv (.t (K.ofNat 7))⟩, ⟨(some (K.ofNat 34)), none, .iads 2 (.t (K.ofNat 32)) (.t (K.ofNat 33))⟩, ⟨(some (K.ofNat 35)), none, .ldn 2 (.t (K.ofNat 34))⟩, ⟨(some (K.ofNat 36)), none, .eqk (.many [(some .i64), (some .i64)]) false (.t (K.ofNat 31)) (.t (K.ofNat 35))⟩], [], none, []⟩]
noncomputable def f16_r7 : List EOper := [⟨(some (K.ofNat 37)), none, .mv (.t (K.ofNat 6))⟩, ⟨(some (K.ofNat 38)), none, .bin .add (.t (K.ofNat 37)) (.c (.i .i64 (.ofNat 1)))⟩, ⟨(some (K.ofNat 6)), none, .as (.t (K.ofNat 38))⟩]
noncomputable def f16_r8 : List EOper := [⟨(some (K.ofNat 17)), none, .mv (.t (K.ofNat 7))⟩, ⟨(some (K.ofNat 18)), none, .bin .add (.t (K.ofNat 17)) (.c (.i .i64 (.ofNat 1)))⟩, ⟨(some (K.ofNat 7)), none, .as (.t (K.ofNat 18))⟩]
noncomputable def f16_l0 : EC := (.seq (.seq (.reg f16_r4) (.cond (.t (K.ofNat 16)) .skip (.exit 0))) (.seq (.block 1 (.seq (.reg f16_r5) (.seq (.draw f16_r6) (.cond (.t (K.ofNat 36)) (.reg f16_r7) .skip)))) (.reg f16_r8)))
noncomputable def f16_r9 : List EOper := [⟨(some (K.ofNat 39)), none, .mv (.t (K.ofNat 6))⟩, ⟨(some (K.ofNat 4)), none, .as (.t (K.ofNat 39))⟩]
noncomputable def f16_c : EC := (.seq (.reg f16_r0) (.seq (.reg f16_r1) (.seq (.reg f16_r2) (.seq (.seq (.reg f16_r3) (.block 0 (.loop f16_l0))) (.seq (.reg f16_r9) .ret)))))
noncomputable def f16 : EF := ⟨40, [.tmp (K.ofNat 4)], f16_c, none⟩
theorem f16_rs : f16.rs = [.tmp (K.ofNat 4)] := of_eq_true (eq_self _)
section
variable {fs : T EF} {h h' : H}
structure CallsCn (fs : T EF) : Prop extends CallsNo fs, CallsCs fs where
  c21 : fs.get (K.ofNat 21) = some f21
  c51 : fs.get (K.ofNat 51) = some f51
theorem f51_ret {L : List Bool} (k : CallsNo fs) (hS : SymR L) (hc : HC h) : Ret fs f51 [rV L] h fun r h' => r = .i .i64 (cnN L (arw (rat L)).length : Int) ∧ Grow h.nx.nat h h' := by
  have hL := hS.len
  have h49 : (arw (rat L)).length ≤ 49 := by
    have := arI_len (g := rat L)
    unfold arI at this
    rw [List.length_map] at this; exact this
  apply ret_of rfl
  show W fs none f51_c _ _ _
  unfold f51_c
  have c1 := rC_cells hL
  have n1 := nx_new h (.cells 49 (L.map V.b))
  have gr1 : Grow h.nx.nat h (h.new (.cells 49 (L.map V.b))) := Grow.new (Nat.le_refl _) _
  have e1 : (h.new (.cells 49 (L.map V.b))).get h.nx = rC L := get_new_same
  simp (disch := omega) only [f51_r0, w_reg, w_seq, seqK_n, x_nil, x_as, x_box, kx, rvP_ok, ev_t, ev_c, getV_some, putD_some, oGet_s, frame_1, of0, getK_set, ↓reduceIte, c1]
  generalize h.new (.cells 49 (L.map V.b)) = h1 at *
  have n2 := nx_new h1 (.cells 1 [.i .i64 0])
  have s2 : storeV (h1.new (.cells 1 [.i .i64 0])) 1 (.p h1.nx 0) (.i .i64 0) = .ok undefV ((h1.new (.cells 1 [.i .i64 0])).put h1.nx (.cells 1 [.i .i64 0])) := st1 get_new_same rfl
  have gr2 : Grow h1.nx.nat h1 ((h1.new (.cells 1 [.i .i64 0])).put h1.nx (.cells 1 [.i .i64 0])) := (Grow.new (Nat.le_refl _) _).trans (Grow.put (Nat.le_refl _) (by omega) _)
  have e2 : ((h1.new (.cells 1 [.i .i64 0])).put h1.nx (.cells 1 [.i .i64 0])).get h1.nx = .cells 1 [.i .i64 0] := get_put_same
  have n2' : ((h1.new (.cells 1 [.i .i64 0])).put h1.nx (.cells 1 [.i .i64 0])).nx.nat = h1.nx.nat + 1 := n2
  simp (disch := omega) only [f51_r1, w_reg, w_seq, seqK_n, x_nil, x_alloc, x_st, kx, rvP_ok, ev_t, ev_c, getV_some, putD_some, putD_none, of0, getK_set, ↓reduceIte, s2]
  generalize (h1.new (.cells 1 [.i .i64 0])).put h1.nx (.cells 1 [.i .i64 0]) = h2 at *
  have n3 := nx_new h2 (.cells 49 (List.replicate 49 (.b false)))
  have gr3 : Grow h2.nx.nat h2 (h2.new (.cells 49 (List.replicate 49 (.b false)))) := Grow.new (Nat.le_refl _) _
  have e3 : (h2.new (.cells 49 (List.replicate 49 (.b false)))).get h2.nx = rC (rl fun _ _ => false) := by rw [rl_false]; exact get_new_same
  have l1 := rC_ldn hL ((gr3.old h.nx (by omega)).trans ((gr2.old h.nx (by omega)).trans e1))
  simp (disch := omega) only [f51_r2, f51_r3, w_reg, w_seq, seqK_n, x_nil, x_alloc, x_ldn, x_call, kx, rvP_ok, ev_t, ev_c, evs_nil, evs_cons, getV_some, putD_some, getK_set, Nat.reduceEqDiff, ↓reduceIte, l1]
  generalize h2.new (.cells 49 (List.replicate 49 (.b false))) = h3 at *
  have hc3 := gr3.hc (gr2.hc (gr1.hc hc))
  refine (callP_0 (ef := f84) k.c84 rfl (f84_ret hL)).mono ?_
  rintro r h4 ⟨rfl, rfl⟩
  have n4 := nx_new h3 (rC L)
  have gr4 : Grow h3.nx.nat h3 (h3.new (rC L)) := Grow.new (Nat.le_refl _) _
  have e4 : (h3.new (rC L)).get h3.nx = rC L := get_new_same
  have hc4 := gr4.hc hc3
  have b1 := (gr4.old h.nx (by omega)).trans ((gr3.old h.nx (by omega)).trans ((gr2.old h.nx (by omega)).trans e1))
  have b2 := (gr4.old h1.nx (by omega)).trans ((gr3.old h1.nx (by omega)).trans e2)
  have b3 := (gr4.old h2.nx (by omega)).trans e3
  have gA : Grow h.nx.nat h (h3.new (rC L)) := gr1.trans ((gr2.low (by omega)).trans ((gr3.low (by omega)).trans (gr4.low (by omega))))
  simp (disch := omega) only [w_block, seqK_n, x_nil, kx, putD_some]
  generalize h3.new (rC L) = h4 at *
  generalize hfr : T.set (K.ofNat 7) _ _ = fr
  have g1 : fr.get (K.ofNat 1) = some (.p h.nx 0) := by rw [← hfr]; simp only [getK_set, Nat.reduceEqDiff, ↓reduceIte]
  have g3 : fr.get (K.ofNat 3) = some (.p h1.nx 0) := by rw [← hfr]; simp only [getK_set, Nat.reduceEqDiff, ↓reduceIte]
  have g4 : fr.get (K.ofNat 4) = some (.p h2.nx 0) := by rw [← hfr]; simp only [getK_set, Nat.reduceEqDiff, ↓reduceIte]
  have g7 : fr.get (K.ofNat 7) = some (.fn (K.ofNat 101) [.p h3.nx 0]) := by rw [← hfr]; simp only [getK_set, ↓reduceIte]
  clear hfr
  have ne12 : h1.nx ≠ h2.nx := kNe (by omega)
  refine W_itr (by simp (disch := omega) only [ev_t, getV_some, g7]) (all_yieldsR hL k.c101) (fun id => id = h1.nx ∨ id = h2.nx) (fun i h5 => h5.get h1.nx = .cells 1 [.i .i64 (cnN L i : Int)] ∧ h5.get h2.nx = rC (rl (seenB L i))) (fun _ _ => False) hc4 rfl (by rintro id (rfl | rfl) <;> omega)
    (fun h5 ks => (ks.old _ (by omega) (by rintro (e | e) <;> (have := congrArg K.nat e; omega))).trans e4) ?_ (fun _ _ _ h _ _ _ => h.elim) ?_ ?_ ?_ (fun _ _ _ h => h.elim)
  · rintro i h5 h6 ⟨q1, q2⟩ hc5 hn ho
    exact ⟨by rw [ho _ (by omega) (kNe (by omega))]; exact q1, by rw [ho _ (by omega) (kNe (by omega))]; exact q2⟩
  · intro h5 hg
    refine ⟨(hg.old _ (by omega)).trans b2, ?_⟩
    rw [hg.old _ (by omega), b3]
    congr 1
  · rintro i ⟨x, y⟩ h5 hx hk hn ⟨q1, q2⟩
    obtain ⟨hst, gB, c7, n5⟩ := arr_var (h := h5) (x := x) (y := y)
    have hxm := List.mem_of_getElem? hx
    obtain ⟨m1, m2, m3⟩ := arw_lt hxm
    have m1 : x < 7 := m1
    have m2 : y < 7 := m2
    have hil := get_lt hx
    have ne : ∀ {id : K}, id.nat < h1.nx.nat → ¬ (id = h1.nx ∨ id = h2.nx) := fun h e => by rcases e with e | e <;> (have := congrArg K.nat e; omega)
    have d1 := (gB.old h.nx (by omega)).trans ((hk.old h.nx (by omega) (ne (by omega))).trans b1)
    have d2 := (gB.old h1.nx (by omega)).trans q1
    have d3 := (gB.old h2.nx (by omega)).trans q2
    unfold f51_a0
    simp (disch := omega) only [f51_r4, w_reg, x_nil, x_alloc, x_st, kx, rvP_ok, ev_t, getV_some, putD_some, putD_none, of0, getK_set, Nat.reduceEqDiff, ↓reduceIte, hst, itA_n]
    generalize (h5.new (.cells 2 [.i .i64 0, .i .i64 0])).put h5.nx (.cells 2 [.i .i64 (x : Int), .i .i64 (y : Int)]) = h6 at *
    refine ⟨gB, fun h7 n7 hc7 o7 lp7 => ?_⟩
    have n7' : h7.nx.nat = h6.nx.nat := congrArg K.nat n7
    have z1 := (o7 h.nx (kNe (by omega))).trans d1
    have z2 := (o7 h1.nx (kNe (by omega))).trans d2
    have z3 := (o7 h2.nx (kNe (by omega))).trans d3
    have hSn : (rl (seenB L i)).length = 49 := rl_len
    have lS := rC_ldn hSn z3
    have lL := rC_ldn hL z1
    have l6 := ldn2 ((o7 _ (kNe hn).symm).trans c7)
    have hav : V.agg [.i .i64 (x : Int), .i .i64 (y : Int)] = aV (x, y) := rfl
    have hhas : hasR (rl (seenB L i)) ((x : Int), (y : Int)) = !newB L i (x, y) := by
      rw [hasR_nat m1 m2, rat_rl, decide_eq_true m1, decide_eq_true m2, Bool.true_and, Bool.true_and]
      unfold newB seenB
      rw [Bool.not_not]
    have k85 : ∀ h P, (rl (seenB L i)).length = 49 → CallP fs (.fn (K.ofNat 85) []) [rV (rl (seenB L i)), aV (x, y)] h P = P (.b (hasR (rl (seenB L i)) ((x : Int), (y : Int)))) h := k.n85 (rl (seenB L i)) ((x : Int), (y : Int))
    have kr7 : Kr (fun id => id = h1.nx ∨ id = h2.nx) h4.nx h7 h7 := Kr.refl hc7
    have hcn : cnN L (i + 1) = cnN L i + (if newB L i (x, y) = true then 1 else 0) := by
      show cnN L i + (match (arw (rat L))[i]? with | some x => if newB L i x = true then 1 else 0 | none => 0) = _
      rw [hx]
    unfold f51_b0
    cases hnew : newB L i (x, y) with
    | false =>
      rw [hnew] at hhas
      rw [hnew, if_neg (by simp), Nat.add_zero] at hcn
      simp (disch := omega) only [f51_r5, w_skip, w_reg, w_seq, w_cond, w_block, seqK_n, atK_n, ckB_b, cbB_b, true_and, x_nil, x_ldn, x_not, x_call, kx, rvP_ok, ev_t, ev_c, evs_nil, evs_cons, getV_some, putD_some, onB_b, getK_set, Nat.reduceEqDiff, ↓reduceIte, Bool.false_eq_true, Bool.not_true, Bool.not_false, g4, lS, l6, hav, k85 _ _ hSn, hhas, itC_n]
      exact ⟨⟨by rw [hcn]; exact z2, by rw [seen_old hx hnew]; exact z3⟩, kr7⟩
    | true =>
      rw [hnew] at hhas
      rw [hnew, if_pos rfl] at hcn
      have hcl := cnN_le (G := L) i
      have hK : (clsR L (x, y)).length = 49 := clsR_len
      have k57 := k.n57 L (x, y)
      have cS := rC_cells hSn
      have cK := rC_cells hK
      simp (disch := omega) only [f51_r5, f51_r6, w_reg, w_draw, w_seq, w_cond, w_block, seqK_n, ckB_b, cbB_b, true_and, x_nil, x_ldn, x_not, x_call, kx, kg, xg_nil, xg_ldn, xg_bslice, xd_cons, fresh_nil, stK_s, stay_nil, stay_cons, rvP_ok, ev_t, ev_c, evs_nil, evs_cons, getV_some, putD_some, onB_b, oGet_s, Option.some.injEq, exists_eq_left', getK_set, Nat.reduceEqDiff, ↓reduceIte, Bool.not_true, Bool.not_false, stay_ldn, fill_0, g1, g4, lS, l6, lL, hav, k85 _ _ hSn, hhas, k57 _ _ hL ⟨m1, m2⟩, fill_c, cS, cK, set98a hSn, set98b hSn hK, hc7.dead]
      refine ⟨fresh_one (n := 2) (sz := 49) (by simp (disch := omega) only [getK_set, ↓reduceIte]), ?_⟩
      have gL : Grow h7.nx.nat h7 (h7.new (.cells (2 * 49) ((rl (seenB L i)).map V.b ++ (clsR L (x, y)).map V.b))) := Grow.new (Nat.le_refl _) _
      have hr8 := Rs.two (h := h7) hSn hK
      have n8 := nx_new h7 (.cells (2 * 49) ((rl (seenB L i)).map V.b ++ (clsR L (x, y)).map V.b))
      have hc8 := gL.hc hc7
      have lS8 := rC_ldn hSn ((gL.old h2.nx (by omega)).trans z3)
      simp (disch := omega) only [true_and, again_ok, lS8, beq_rV]
      generalize h7.new (.cells (2 * 49) ((rl (seenB L i)).map V.b ++ (clsR L (x, y)).map V.b)) = h8 at *
      have hall : ∀ z ∈ [rl (seenB L i), clsR L (x, y)], z.length = 49 := fun z hz => by
        simp only [List.mem_cons, List.not_mem_nil, or_false] at hz
        rcases hz with rfl | rfl
        · exact hSn
        · exact hK
      refine (callP_0 (ef := f69) k.c69 rfl (f69_ret k.c84 k.c101 hr8 hall (by simp) hc8)).mono ?_
      rintro r h9 ⟨rfl, g9⟩
      have hc9 := g9.hc hc8
      have g79 : Grow h7.nx.nat h7 h9 := gL.trans (g9.low (by omega))
      rw [seen_new hx]
      have hSn2 : (rl (seenB L (i + 1))).length = 49 := rl_len
      have z3' := (g79.old h2.nx (by omega)).trans z3
      have z2' := (g79.old h1.nx (by omega)).trans z2
      have s9 := rC_stn hSn2 hSn z3'
      have g79n := g79.nx
      have z2'' : (h9.put h2.nx (rC (rl (seenB L (i + 1))))).get h1.nx = .cells 1 [.i .i64 (cnN L i : Int)] := (get_put_other ne12).trans z2'
      have l10 := load_p (off := 0) z2'' (show nth [V.i .i64 (cnN L i : Int)] 0 = some _ from rfl)
      have s10 : storeV (h9.put h2.nx (rC (rl (seenB L (i + 1))))) 1 (.p h1.nx 0) (.i .i64 ((cnN L i : Int) + 1)) = .ok undefV ((h9.put h2.nx (rC (rl (seenB L (i + 1))))).put h1.nx (.cells 1 [.i .i64 ((cnN L i : Int) + 1)])) := st1 z2'' rfl
      simp (disch := omega) only [f51_r7, w_reg, seqK_n, atK_n, true_and, x_nil, x_ld, x_st, x_bin, kx, xg_nil, xd_cons, fresh_nil, stK_n, stK_s, stay_nil, rvP_ok, okv_some, ev_t, ev_c, getV_some, putD_some, putD_none, bin_add, of1, getK_set, Nat.reduceEqDiff, ↓reduceIte, g3, g4, s9, l10, fw64, s10, itC_n]
      refine ⟨⟨?_, ?_⟩, ?_⟩
      · rw [get_put_same, hcn]; rfl
      · rw [get_put_other ne12.symm]; exact get_put_same
      · exact (((kr7.grow g79 (by omega)).put (by omega) (.inl (.inr rfl)) _).put (by rw [nx_put]; omega) (.inl (.inl rfl)) _)
  · rintro h5 ⟨q1, q2⟩ hk hn
    have l5 := load_p (off := 0) q1 (show nth [V.i .i64 (cnN L (arw (rat L)).length : Int)] 0 = some _ from rfl)
    simp (disch := omega) only [f51_r8, f51_rs, w_reg, w_seq, w_ret, seqK_n, atK_n, true_and, retK_r, x_nil, x_as, x_ld, kx, rvP_ok, ev_t, getV_some, putD_some, oGet_s, readRs_nil, readRs_t, retV_1, Option.some.injEq, exists_eq_left', getK_set, ↓reduceIte, g3, l5, true_and]
    exact gA.trans (hk.toGrow (by rintro id (rfl | rfl) <;> omega) (by omega))
theorem f13_ret {n : Nat} {v : V} {g : Nat → Nat → Bool} (k : CallsCn fs) (hg : Gph n g) (hv : Srp h v (arI g)) (hc : HC h) : Ret fs f13 [.i .i64 (n : Int), v] h fun r h' => r = .tup [.i .i64 (cnN (gR (arI g)) (arw (rat (gR (arI g)))).length : Int), .i .i64 0] ∧ Grow h.nx.nat h h' := by
  have hlb := arI_len (g := g)
  apply ret_of rfl
  show W fs none f13_c _ _ _
  unfold f13_c
  simp (disch := omega) only [f13_r0, f13_r1, w_reg, w_seq, seqK_n, x_nil, x_mv, x_as, x_call, ev_t, ev_c, evs_nil, evs_cons, getV_some, putD_some, frame_2, of0, getK_set, Nat.reduceEqDiff, ↓reduceIte]
  refine (callP_0 (ef := f47) k.c47 rfl (f47_ret k.toCallsCk hv (by omega) hc)).mono ?_
  rintro r h1 ⟨rfl, gr1⟩
  rw [chkG_g hg]
  have ne0 : decide ((0 : Int) ≠ 0) = false := rfl
  have hc1 := gr1.hc hc
  simp (disch := omega) only [f13_r2, f13_r4, w_skip, w_reg, w_seq, w_cond, seqK_n, ckB_b, cbB_b, true_and, x_nil, x_mv, x_as, x_bin, x_call, kx, rvP_ok, okv_some, ev_t, ev_c, evs_nil, evs_cons, getV_some, putD_some, bin_neq, of0, getK_set, Nat.reduceEqDiff, ↓reduceIte, Bool.false_eq_true, ne0]
  refine (callP_0 (ef := f48) k.c48 rfl (f48_ret k.toNat2 (hv.grow hc gr1) nd_arI (by omega) hc1)).mono ?_
  rintro r h2 ⟨rfl, gr2⟩
  have hc2 := gr2.hc hc1
  simp (disch := omega) only [x_call, kx, ev_t, ev_c, evs_nil, evs_cons, getV_some, putD_some, getK_set, ↓reduceIte]
  refine (callP_0 (ef := f51) k.c51 rfl (f51_ret k.toCallsNo (symR_g hg) hc2)).mono ?_
  rintro r h3 ⟨rfl, gr3⟩
  simp (disch := omega) only [f13_rs, w_ret, seqK_n, true_and, retK_r, x_nil, x_as, kx, ev_t, ev_c, getV_some, putD_some, oGet_s, readRs_nil, readRs_t, retV_2, Option.some.injEq, exists_eq_left', getK_set, Nat.reduceEqDiff, ↓reduceIte, true_and]
  exact gr1.trans ((gr2.low gr1.nx).trans (gr3.low (by have := gr1.nx; have := gr2.nx; omega)))
def f16_I (h0 : H) (n : Nat) (v al : V) (G : List Bool) (i : Nat) (fr : Fr) (h1 : H) : Prop := i ≤ (arw (rat G)).length ∧ Grow h0.nx.nat h0 h1 ∧ fr.get (K.ofNat 0) = some (.i .i64 (n : Int)) ∧ fr.get (K.ofNat 1) = some (v) ∧ fr.get (K.ofNat 5) = some (al) ∧ fr.get (K.ofNat 6) = some (.i .i64 (cnN G i : Int)) ∧ fr.get (K.ofNat 7) = some (.i .i64 (i : Int))
theorem f16_ret {n : Nat} {v : V} {g : Nat → Nat → Bool} (k : CallsCn fs) (hg : Gph n g) (hv : Srp h v (arI g)) (hc : HC h) : Ret fs f16 [.i .i64 (n : Int), v] h fun r h' => r = .i .i64 (cnN (gR (arI g)) (arw (rat (gR (arI g)))).length : Int) ∧ Grow h.nx.nat h h' := by
  have sy := symR_g hg
  have h49 : (arw (rat (gR (arI g)))).length ≤ 49 := by
    have := arI_len (g := rat (gR (arI g)))
    unfold arI at this
    rw [List.length_map] at this; exact this
  apply ret_of rfl
  show W fs none f16_c _ _ _
  unfold f16_c
  simp (disch := omega) only [f16_r0, f16_r1, w_reg, w_seq, seqK_n, x_nil, x_mv, x_as, x_call, ev_t, ev_c, evs_nil, evs_cons, getV_some, putD_some, frame_2, of0, getK_set, Nat.reduceEqDiff, ↓reduceIte]
  refine (callP_0 (ef := f53) k.c53 rfl (f53_ret k.toCallsJn hg hv hc)).mono ?_
  rintro al h1 ⟨hal, hoal, g1_⟩
  have hc1 := g1_.hc hc
  have hall : ∀ h1, lenV al h1 = .ok (.i .i64 ((arw (rat (gR (arI g)))).length : Int)) h1 := fun h1 => by rw [hal.len]; unfold arI; rw [List.length_map]
  have cz : ((0 : Nat) : Int) = (cnN (gR (arI g)) 0 : Int) := rfl
  simp (disch := omega) only [f16_r2, f16_r3, w_reg, w_seq, w_block, seqK_n, x_nil, x_as, kx, ev_t, ev_c, getV_some, putD_some, of0, getK_set, ↓reduceIte]
  refine W_loop (f16_I h1 n v al (gR (arI g))) (fun i => (arw (rat (gR (arI g)))).length - i) ?_ 0 ⟨by omega, Grow.refl _ _, by simp (disch := omega) only [getK_set, Nat.reduceEqDiff, ↓reduceIte, and_self, Int.natCast_zero, cnN]⟩
  rintro i fr h2 ⟨hi, hG, g0, g1, g5, g6, g7⟩
  have hc2 := hG.hc hc1
  have gA := g1_.trans (hG.low g1_.nx)
  unfold f16_l0
  by_cases hlt : i < (arw (rat (gR (arI g)))).length
  · have d0 : decide ((i : Int) < ((arw (rat (gR (arI g)))).length : Int)) = true := decide_eq_true (by omega)
    obtain ⟨x, hx⟩ : ∃ x, (arw (rat (gR (arI g))))[i]? = some x := ⟨_, List.getElem?_eq_getElem hlt⟩
    obtain ⟨xl1, xl2, hxG⟩ := arw_lt (List.mem_of_getElem? hx)
    have hil : i < (arI (rat (gR (arI g)))).length := by unfold arI; rw [List.length_map]; exact hlt
    obtain ⟨p, pa, pb⟩ := (hal.grow hc1 hG).at2 hil
    have pb : loadV h2 p (many? 2) = .ok (aV x) h2 := by rw [arI_at hx hil] at pb; exact pb
    simp (disch := omega) only [f16_r4, f16_r5, w_skip, w_reg, w_seq, w_cond, w_block, seqK_n, ckB_b, cbB_b, true_and, x_nil, x_mv, x_ldn, x_bin, x_iads, x_call, x_len, kx, rvP_ok, okv_some, ev_t, ev_c, evs_nil, evs_cons, getV_some, putD_some, bin_lss, getK_set, Nat.reduceEqDiff, ↓reduceIte, g0, g1, g5, g7, hall, d0, pa, pb]
    refine (callP_0 (ef := f21) k.c21 rfl (f21_ret (s := x) k.toCallsCs hg (hv.grow hc gA) hxG hc2)).mono ?_
    rintro r h3 ⟨u, w, M, rfl, _, hu, _, _, _, g3⟩
    have hc3 := g3.hc hc2
    have hal3 := (hal.grow hc1 hG).grow hc2 g3
    obtain ⟨p3, pa3, pb3⟩ := hal3.at2 hil
    have pb3 : loadV h3 p3 (many? 2) = .ok (aV x) h3 := by rw [arI_at hx hil] at pb3; exact pb3
    have hxC : (x.1, x.2) ∈ arw (rat (clsR (gR (arI g)) x)) := mem_arw.2 ⟨xl1, xl2, (clsR_iff ⟨xl1, xl2⟩).2 .refl⟩
    have hpos : 0 < (arw (rat (clsR (gR (arI g)) x))).length := List.length_pos_of_mem hxC
    obtain ⟨y, hy⟩ : ∃ y, (arw (rat (clsR (gR (arI g)) x)))[0]? = some y := ⟨_, List.getElem?_eq_getElem hpos⟩
    obtain ⟨yl1, yl2, _⟩ := arw_lt (List.mem_of_getElem? hy)
    have hul : 0 < (arI (rat (clsR (gR (arI g)) x))).length := by unfold arI; rw [List.length_map]; exact hpos
    obtain ⟨q, qa, qb⟩ := hu.at2 hul
    have qb : loadV h3 q (many? 2) = .ok (aV y) h3 := by rw [arI_at hy hul] at qb; exact qb
    have qa : ∀ k h1, iadsV 2 u (.i k 0) h1 = .ok q h1 := fun k h1 => qa k h1
    have hq := keyEq_aV (x := y) (y := x) ⟨yl1, yl2⟩ ⟨xl1, xl2⟩
    have hfn := first_new sy hx
    rw [hy] at hfn
    have hub := hu.beq
    have hab := hal.beq
    have hcl := cnN_le (G := gR (arI g)) i
    have hcn : cnN (gR (arI g)) (i + 1) = cnN (gR (arI g)) i + (if newB (gR (arI g)) i x = true then 1 else 0) := by
      show cnN (gR (arI g)) i + (match (arw (rat (gR (arI g))))[i]? with | some x => if newB (gR (arI g)) i x = true then 1 else 0 | none => 0) = _
      rw [hx]
    have hG3 := hG.trans (g3.low hG.nx)
    by_cases e : y = x
    · rw [decide_eq_true e] at hq
      rw [if_pos (hfn.1 (by rw [e]))] at hcn
      simp (disch := omega) only [f16_r6, f16_r7, f16_r8, w_skip, w_reg, w_draw, w_seq, w_cond, seqK_n, atK_n, loopK_n, ckB_b, cbB_b, true_and, x_nil, x_mv, x_as, x_bin, x_ext, kx, kg, xg_nil, xg_mv, xg_ldn, xg_eqk, xg_iads, xd_cons, fresh_nil, stK_n, stay_nil, rvP_ok, okv_some, ev_t, ev_c, getV_some, putD_some, bin_add, onTup_t, oGet_s, nth0, nth1, of0, of1, getK_set, Nat.reduceEqDiff, ↓reduceIte, Bool.not_true, g5, g6, g7, pa3, pb3, qa, qb, hq, fw64]
      exact ⟨i + 1, by omega, by omega, hG3, by simp (disch := omega) only [getK_set, Nat.reduceEqDiff, ↓reduceIte, g0, g1, g5, and_self, Int.natCast_add, Int.natCast_one, hcn]⟩
    · rw [decide_eq_false e] at hq
      rw [if_neg (fun h => e (Option.some.inj (hfn.2 h)))] at hcn
      simp (disch := omega) only [f16_r6, f16_r8, w_skip, w_reg, w_draw, w_seq, w_cond, seqK_n, atK_n, loopK_n, ckB_b, cbB_b, true_and, x_nil, x_mv, x_as, x_bin, x_ext, kx, kg, xg_nil, xg_mv, xg_ldn, xg_eqk, xg_iads, xd_cons, fresh_nil, stK_n, stay_nil, rvP_ok, okv_some, ev_t, ev_c, getV_some, putD_some, bin_add, onTup_t, oGet_s, nth0, nth1, of0, of1, getK_set, Nat.reduceEqDiff, ↓reduceIte, Bool.false_eq_true, g5, g7, pa3, pb3, qa, qb, hq, cond_false, fw64]
      exact ⟨i + 1, by omega, by omega, hG3, by simp (disch := omega) only [getK_set, Nat.reduceEqDiff, ↓reduceIte, g0, g1, g5, g6, and_self, Int.natCast_add, Int.natCast_one, hcn, Nat.add_zero]⟩
  · have d0 : decide ((i : Int) < ((arw (rat (gR (arI g)))).length : Int)) = false := decide_eq_false (by omega)
    have ei : i = (arw (rat (gR (arI g)))).length := by omega
    subst ei
    simp (disch := omega) only [f16_r4, f16_r9, f16_rs, w_reg, w_seq, w_cond, w_exit, w_ret, seqK_n, seqK_e, atK_e, loopK_e, ckB_b, cbB_b, true_and, retK_r, x_nil, x_mv, x_as, x_bin, x_len, kx, rvP_ok, okv_some, ev_t, getV_some, putD_some, bin_lss, oGet_s, readRs_nil, readRs_t, retV_1, Option.some.injEq, exists_eq_left', getK_set, Nat.reduceEqDiff, ↓reduceIte, Bool.false_eq_true, g5, g6, g7, hall, d0, true_and]
    exact gA
end
end Go.Ev
