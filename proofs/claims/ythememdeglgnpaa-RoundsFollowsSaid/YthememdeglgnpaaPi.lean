/-
  Rounds: schedules that are made, checked by the reference.
  Rounds: the law RoundsFollows.
-/
import Derived.Test.YthememdeglgnpaaPh
namespace Go.Ev
open Go Go.RowKit
section
variable {fs : T EF} {h : H} {v : V} {us : List V} {Ls : List (List (Int × Int))} {n : Nat}
theorem f37_ok {n : Int} (hn : ok5 n) : Ret fs f37 [.i .i64 n] h fun r h' => r = .b true ∧ h' = h := by
  unfold ok5 at hn
  have d1 : decide (n ≥ 2) = true := decide_eq_true (by omega)
  have d2 : decide (n ≤ 10) = true := decide_eq_true (by omega)
  have d3 : decide (n.tmod 2 = 0) = true := by rcases hn with rfl | rfl | rfl | rfl | rfl <;> rfl
  apply ret_of rfl
  show W fs none f37_c _ _ _
  unfold f37_c
  simp (disch := omega) only [f37_r0, f37_r1, f37_rs, w_reg, w_seq, w_ret, seqK_n, okG_b, asG_t, retK_r, x_nil, x_g, x_mv, x_as, x_pick, x_bin, kx, rvP_ok, okv_some, ev_t, ev_c, getV_some, putD_some, bin_eql, bin_leq, bin_geq, bin_rem, pick_b, oGet_s, readRs_nil, readRs_t, retV_1, frame_1, of0, of2, of10, Option.some.injEq, exists_eq_left', getK_set, Nat.reduceEqDiff, ↓reduceIte, d1, d2, d3, and_self]
/-- What Check says. -/
def ckI (n : Nat) (Ls : List (List (Int × Int))) : Int := if shB n Ls = true then 0 else 40
structure CallsRc (fs : T EF) : Prop where
  c14 : fs.get (K.ofNat 14) = some f14
  c37 : fs.get (K.ofNat 37) = some f37
  c45 : fs.get (K.ofNat 45) = some f45
  c48 : fs.get (K.ofNat 48) = some f48
theorem f14_ret (k : CallsRc fs) (hn : ok5 (n : Int)) (hv : Nrp h v us Ls) (hL : Ls.length ≤ 1000000) (hL2 : ∀ l ∈ Ls, l.length ≤ 9223372036854775807) (hc : HC h) : Ret fs f14 [.i .i64 (n : Int), v] h fun r h' => r = .i .i64 (ckI n Ls) ∧ Grow h.nx.nat h h' := by
  have hlen : ∀ h1, lenV v h1 = .ok (.i .i64 (Ls.length : Int)) h1 := fun h1 => by rw [hv.out.len, hv.len]
  have hn' := hn
  unfold ok5 at hn'
  apply ret_of rfl
  show W fs none f14_c _ _ _
  unfold f14_c
  simp (disch := omega) only [f14_r0, f14_r1, w_reg, w_seq, w_block, seqK_n, x_nil, x_mv, x_as, x_call, ev_t, ev_c, evs_nil, evs_cons, getV_some, putD_some, frame_2, of0, getK_set, Nat.reduceEqDiff, ↓reduceIte]
  refine (callP_0 (ef := f37) k.c37 rfl (f37_ok hn)).mono ?_
  rintro r h1 ⟨rfl, e1⟩
  rw [e1]
  clear e1 h1
  have en1 : (n : Int) - 1 = ((n - 1 : Nat) : Int) := by omega
  unfold ckI shB
  by_cases hl : Ls.length = n - 1
  · have d1 : decide ((Ls.length : Int) ≠ ((n - 1 : Nat) : Int)) = false := decide_eq_false (by omega)
    simp (disch := omega) only [f14_r3, w_reg, w_seq, w_cond, seqK_n, ckB_b, cbB_b, okG_b, asG_f, true_and, x_nil, x_g, x_mv, x_as, x_bin, x_not, x_call, x_len, kx, rvP_ok, okv_some, ev_t, ev_c, evs_nil, evs_cons, getV_some, putD_some, bin_sub, bin_neq, onB_b, of1, getK_set, Nat.reduceEqDiff, ↓reduceIte, Bool.false_eq_true, Bool.not_true, Bool.not_false, hlen, en1, d1, Bool.not_true, fw64]
    refine (callP_0 (ef := f48) k.c48 rfl (f48_ret k.c45 (by omega) (by omega) (by omega) hv hL hL2 hc)).mono ?_
    rintro r h2 ⟨rfl, hG⟩
    cases hb : bgB n Ls with
    | true =>
      have e0 : (if (true && decide (Ls.length = n - 1)) = true then (0 : Int) else 40) = 0 := by simp [hl]
      simp (disch := omega) only [f14_r5, f14_rs, w_skip, w_reg, w_seq, w_cond, w_ret, seqK_n, atK_n, ckB_b, cbB_b, okG_b, asG_f, true_and, retK_r, x_nil, x_g, x_as, x_pick, x_not, kx, rvP_ok, ev_t, ev_c, getV_some, putD_some, pick_b, onB_b, oGet_s, readRs_nil, readRs_t, retV_1, of0, Option.some.injEq, exists_eq_left', getK_set, Nat.reduceEqDiff, ↓reduceIte, Bool.false_eq_true, Bool.not_true, Bool.not_false, Bool.not_true, e0, true_and]
      exact hG
    | false =>
      have e0 : (if (false && decide (Ls.length = n - 1)) = true then (0 : Int) else 40) = 40 := by simp
      simp (disch := omega) only [f14_r4, f14_rs, w_reg, w_seq, w_cond, w_ret, seqK_n, seqK_r, atK_r, ckB_b, cbB_b, okG_b, asG_f, true_and, retK_r, x_nil, x_g, x_as, x_pick, x_not, kx, rvP_ok, ev_t, ev_c, getV_some, putD_some, pick_b, onB_b, oGet_s, readRs_nil, readRs_t, retV_1, Option.some.injEq, exists_eq_left', getK_set, Nat.reduceEqDiff, ↓reduceIte, Bool.false_eq_true, Bool.not_false, of40, Bool.not_false, of40, e0, true_and]
      exact hG
  · have d1 : decide ((Ls.length : Int) ≠ ((n - 1 : Nat) : Int)) = true := decide_eq_true (by omega)
    have e0 : (if (bgB n Ls && decide (Ls.length = n - 1)) = true then (0 : Int) else 40) = 40 := by simp [hl]
    simp (disch := omega) only [f14_r3, f14_r4, f14_rs, w_reg, w_seq, w_cond, w_ret, seqK_n, seqK_r, atK_r, ckB_b, cbB_b, okG_b, asG_f, true_and, retK_r, x_nil, x_g, x_mv, x_as, x_pick, x_bin, x_not, x_len, kx, rvP_ok, okv_some, ev_t, ev_c, getV_some, putD_some, bin_sub, bin_neq, pick_b, onB_b, oGet_s, readRs_nil, readRs_t, retV_1, of1, Option.some.injEq, exists_eq_left', getK_set, Nat.reduceEqDiff, ↓reduceIte, Bool.false_eq_true, Bool.not_true, of40, hlen, en1, d1, Bool.not_true, of40, e0, true_and, fw64]
    exact Grow.refl _ _
/-! ### What is made -/
theorem tg2 : shB 2 (tgS 2) = true := by decide +kernel
theorem tg4 : shB 4 (tgS 4) = true := by decide +kernel
theorem tg6 : shB 6 (tgS 6) = true := by decide +kernel
theorem tg8 : shB 8 (tgS 8) = true := by decide +kernel
theorem tg10 : shB 10 (tgS 10) = true := by decide +kernel
theorem tg_sh (hn : ok5 (n : Int)) : shB n (tgS n) = true := by
  unfold ok5 at hn
  rcases (show n = 2 ∨ n = 4 ∨ n = 6 ∨ n = 8 ∨ n = 10 by omega) with rfl | rfl | rfl | rfl | rfl
  · exact tg2
  · exact tg4
  · exact tg6
  · exact tg8
  · exact tg10
theorem sr4 : shB 4 (srS 4) = true := by decide +kernel
theorem sr8 : shB 8 (srS 8) = true := by decide +kernel
theorem sr_sh (hn : n = 4 ∨ n = 8) : shB n (srS n) = true := by
  rcases hn with rfl | rfl
  · exact sr4
  · exact sr8
theorem sh_fine (hsh : shB n Ls = true) (hn : n ≤ 16) : Ls.length ≤ 1000 ∧ ∀ l ∈ Ls, l.length ≤ 1000 := by
  obtain ⟨hvd, hlen⟩ := sh_vld hsh
  refine ⟨by omega, fun l hl => ?_⟩
  have := (hvd.few (by omega) (by omega)).2 l hl
  omega
structure CallsMk (fs : T EF) : Prop where
  c34 : fs.get (K.ofNat 34) = some f34
  c35 : fs.get (K.ofNat 35) = some f35
  c36 : fs.get (K.ofNat 36) = some f36
  c60 : fs.get (K.ofNat 60) = some f60
  c65 : fs.get (K.ofNat 65) = some f65
  c66 : fs.get (K.ofNat 66) = some f66
  c67 : fs.get (K.ofNat 67) = some f67
  c84 : fs.get (K.ofNat 84) = some f84
theorem f36_ok (k : CallsMk fs) (hn : n = 4 ∨ n = 6 ∨ n = 8) (hc : HC h) : Ret fs f36 [.i .i64 (n : Int)] h fun r h' => ∃ u xs, r = .tup [u, .i .i64 0] ∧ Nrp h' u xs (tgS n) ∧ Grow h.nx.nat h h' := by
  have ho : ok5 (n : Int) := by unfold ok5; omega
  apply ret_of rfl
  show W fs none f36_c _ _ _
  unfold f36_c
  have fin : ∀ fr, fr.get (K.ofNat 0) = some (.i .i64 (n : Int)) → X fs f36_r3 (seqK (W fs none EC.ret) (retK f36 fun r h' => ∃ u xs, r = .tup [u, .i .i64 0] ∧ Nrp h' u xs (tgS n) ∧ Grow h.nx.nat h h') .normal) fr h := by
    rintro fr g0
    simp (disch := omega) only [f36_r3, x_mv, x_call, ev_t, ev_c, evs_nil, evs_cons, getV_some, putD_some, of0, getK_set, ↓reduceIte, g0]
    refine (callP_0 (ef := f66) k.c66 rfl (f66_ret k.c84 (by omega) hc)).mono ?_
    rintro w h2 ⟨xs, hw, hG⟩
    simp (disch := omega) only [x_call, kx, ev_t, ev_c, evs_nil, evs_cons, getV_some, putD_some, getK_set, ↓reduceIte]
    refine (callP_0 (ef := f60) k.c60 rfl (f60_ret hw (sh_fine (tg_sh ho) (by omega)) (hG.hc hc))).mono ?_
    rintro u h3 ⟨ys, hu, hG3⟩
    simp (disch := omega) only [f36_rs, w_ret, seqK_n, retK_r, x_nil, x_as, kx, ev_t, ev_c, getV_some, putD_some, oGet_s, readRs_nil, readRs_t, retV_2, Option.some.injEq, exists_eq_left', getK_set, Nat.reduceEqDiff, ↓reduceIte]
    exact ⟨u, ys, rfl, hu, hG.trans (hG3.low hG.nx)⟩
  rcases hn with rfl | rfl | rfl
  · have d1 : decide (((4 : Nat) : Int) ≠ 4) = false := rfl
    simp (disch := omega) only [f36_r0, f36_r1, w_skip, w_reg, w_seq, w_cond, seqK_n, ckB_b, cbB_b, okG_b, asG_t, true_and, x_nil, x_g, x_mv, x_as, x_pick, x_bin, kx, rvP_ok, okv_some, ev_t, ev_c, getV_some, putD_some, bin_neq, pick_b, frame_1, of0, of4, of6, of8, getK_set, Nat.reduceEqDiff, ↓reduceIte, Bool.false_eq_true, d1]
    exact fin _ (by simp (disch := omega) only [getK_set, Nat.reduceEqDiff, ↓reduceIte])
  · have d1 : decide (((6 : Nat) : Int) ≠ 4) = true := rfl
    have d2 : decide (((6 : Nat) : Int) ≠ 6) = false := rfl
    simp (disch := omega) only [f36_r0, f36_r1, w_skip, w_reg, w_seq, w_cond, seqK_n, ckB_b, cbB_b, okG_b, asG_t, true_and, x_nil, x_g, x_mv, x_as, x_pick, x_bin, kx, rvP_ok, okv_some, ev_t, ev_c, getV_some, putD_some, bin_neq, pick_b, frame_1, of0, of4, of6, of8, getK_set, Nat.reduceEqDiff, ↓reduceIte, Bool.false_eq_true, d1, d2]
    exact fin _ (by simp (disch := omega) only [getK_set, Nat.reduceEqDiff, ↓reduceIte])
  · have d1 : decide (((8 : Nat) : Int) ≠ 4) = true := rfl
    have d2 : decide (((8 : Nat) : Int) ≠ 6) = true := rfl
    have d3 : decide (((8 : Nat) : Int) ≠ 8) = false := rfl
    simp (disch := omega) only [f36_r0, f36_r1, w_skip, w_reg, w_seq, w_cond, seqK_n, ckB_b, cbB_b, okG_b, asG_t, true_and, x_nil, x_g, x_mv, x_as, x_pick, x_bin, kx, rvP_ok, okv_some, ev_t, ev_c, getV_some, putD_some, bin_neq, pick_b, frame_1, of0, of4, of6, of8, getK_set, Nat.reduceEqDiff, ↓reduceIte, Bool.false_eq_true, d1, d2, d3]
    exact fin _ (by simp (disch := omega) only [getK_set, Nat.reduceEqDiff, ↓reduceIte])
theorem f35_ok (k : CallsMk fs) (hn : n = 4 ∨ n = 8) (hc : HC h) : Ret fs f35 [.i .i64 (n : Int)] h fun r h' => ∃ u xs, r = .tup [u, .i .i64 0] ∧ Nrp h' u xs (srS n) ∧ Grow h.nx.nat h h' := by
  apply ret_of rfl
  show W fs none f35_c _ _ _
  unfold f35_c
  have fin : ∀ fr, fr.get (K.ofNat 0) = some (.i .i64 (n : Int)) → X fs f35_r3 (seqK (W fs none EC.ret) (retK f35 fun r h' => ∃ u xs, r = .tup [u, .i .i64 0] ∧ Nrp h' u xs (srS n) ∧ Grow h.nx.nat h h') .normal) fr h := by
    rintro fr g0
    simp (disch := omega) only [f35_r3, x_mv, x_call, ev_t, ev_c, evs_nil, evs_cons, getV_some, putD_some, of0, getK_set, ↓reduceIte, g0]
    refine (callP_0 (ef := f67) k.c67 rfl (f67_ret hn hc)).mono ?_
    rintro w h2 ⟨xs, hw, hG⟩
    simp (disch := omega) only [x_call, kx, ev_t, ev_c, evs_nil, evs_cons, getV_some, putD_some, getK_set, ↓reduceIte]
    refine (callP_0 (ef := f60) k.c60 rfl (f60_ret hw (sh_fine (sr_sh hn) (by omega)) (hG.hc hc))).mono ?_
    rintro u h3 ⟨ys, hu, hG3⟩
    simp (disch := omega) only [f35_rs, w_ret, seqK_n, retK_r, x_nil, x_as, kx, ev_t, ev_c, getV_some, putD_some, oGet_s, readRs_nil, readRs_t, retV_2, Option.some.injEq, exists_eq_left', getK_set, Nat.reduceEqDiff, ↓reduceIte]
    exact ⟨u, ys, rfl, hu, hG.trans (hG3.low hG.nx)⟩
  rcases hn with rfl | rfl
  · have d1 : decide (((4 : Nat) : Int) ≠ 4) = false := rfl
    simp (disch := omega) only [f35_r0, f35_r1, w_skip, w_reg, w_seq, w_cond, seqK_n, ckB_b, cbB_b, okG_b, asG_t, true_and, x_nil, x_g, x_mv, x_as, x_pick, x_bin, kx, rvP_ok, okv_some, ev_t, ev_c, getV_some, putD_some, bin_neq, pick_b, frame_1, of0, of4, of8, getK_set, Nat.reduceEqDiff, ↓reduceIte, Bool.false_eq_true, d1]
    exact fin _ (by simp (disch := omega) only [getK_set, Nat.reduceEqDiff, ↓reduceIte])
  · have d1 : decide (((8 : Nat) : Int) ≠ 4) = true := rfl
    have d2 : decide (((8 : Nat) : Int) ≠ 8) = false := rfl
    simp (disch := omega) only [f35_r0, f35_r1, w_skip, w_reg, w_seq, w_cond, seqK_n, ckB_b, cbB_b, okG_b, asG_t, true_and, x_nil, x_g, x_mv, x_as, x_pick, x_bin, kx, rvP_ok, okv_some, ev_t, ev_c, getV_some, putD_some, bin_neq, pick_b, frame_1, of0, of4, of8, getK_set, Nat.reduceEqDiff, ↓reduceIte, Bool.false_eq_true, d1, d2]
    exact fin _ (by simp (disch := omega) only [getK_set, Nat.reduceEqDiff, ↓reduceIte])
end
end Go.Ev
namespace Go.Ev
open Go Go.RowKit
noncomputable def f7_r0 : List EOper := [⟨(some (K.ofNat 4)), none, .as (.c (.b false))⟩]
noncomputable def f7_r1 : List EOper := [⟨(some (K.ofNat 19)), none, .mv (.t (K.ofNat 0))⟩, ⟨(some (K.ofNat 20)), none, .mv (.t (K.ofNat 1))⟩, ⟨(some (K.ofNat 21)), none, .call (.c (.fn (K.ofNat 25) [])) [(.t (K.ofNat 19)), (.t (K.ofNat 20))]⟩, ⟨(some (K.ofNat 18)), none, .mv (.t (K.ofNat 21))⟩, ⟨(some (K.ofNat 22)), none, .ext (.t (K.ofNat 18)) 0⟩, ⟨(some (K.ofNat 23)), none, .ext (.t (K.ofNat 18)) 1⟩, ⟨(some (K.ofNat 5)), none, .as (.t (K.ofNat 22))⟩, ⟨(some (K.ofNat 6)), none, .as (.t (K.ofNat 23))⟩]
noncomputable def f7_r2 : List EOper := [⟨(some (K.ofNat 7)), none, .as (.c (.i .i64 (.ofNat 0)))⟩]
noncomputable def f7_r3 : List EOper := [⟨(some (K.ofNat 24)), none, .mv (.t (K.ofNat 7))⟩, ⟨(some (K.ofNat 25)), none, .bin .lss (.t (K.ofNat 24)) (.c (.i .i64 (.ofNat 3)))⟩]
noncomputable def f7_r4 : List EOper := [⟨(some (K.ofNat 29)), none, .mv (.t (K.ofNat 5))⟩, ⟨(some (K.ofNat 30)), none, .mv (.t (K.ofNat 6))⟩, ⟨(some (K.ofNat 31)), none, .call (.c (.fn (K.ofNat 18) [])) [(.t (K.ofNat 29)), (.t (K.ofNat 30))]⟩, ⟨(some (K.ofNat 28)), none, .mv (.t (K.ofNat 31))⟩, ⟨(some (K.ofNat 32)), none, .ext (.t (K.ofNat 28)) 0⟩, ⟨(some (K.ofNat 33)), none, .ext (.t (K.ofNat 28)) 1⟩, ⟨(some (K.ofNat 8)), none, .as (.t (K.ofNat 32))⟩, ⟨(some (K.ofNat 9)), none, .as (.t (K.ofNat 33))⟩]
noncomputable def f7_r5 : List EOper := [⟨(some (K.ofNat 35)), none, .mv (.t (K.ofNat 5))⟩, ⟨(some (K.ofNat 36)), none, .mv (.t (K.ofNat 6))⟩, ⟨(some (K.ofNat 37)), none, .call (.c (.fn (K.ofNat 19) [])) [(.t (K.ofNat 35)), (.t (K.ofNat 36))]⟩, ⟨(some (K.ofNat 34)), none, .mv (.t (K.ofNat 37))⟩, ⟨(some (K.ofNat 38)), none, .ext (.t (K.ofNat 34)) 0⟩, ⟨(some (K.ofNat 39)), none, .ext (.t (K.ofNat 34)) 1⟩, ⟨(some (K.ofNat 10)), none, .as (.t (K.ofNat 38))⟩, ⟨(some (K.ofNat 11)), none, .as (.t (K.ofNat 39))⟩]
noncomputable def f7_r6 : List EOper := [⟨(some (K.ofNat 41)), none, .mv (.t (K.ofNat 5))⟩, ⟨(some (K.ofNat 42)), none, .mv (.t (K.ofNat 6))⟩, ⟨(some (K.ofNat 43)), none, .call (.c (.fn (K.ofNat 20) [])) [(.t (K.ofNat 41)), (.t (K.ofNat 42))]⟩, ⟨(some (K.ofNat 40)), none, .mv (.t (K.ofNat 43))⟩, ⟨(some (K.ofNat 44)), none, .ext (.t (K.ofNat 40)) 0⟩, ⟨(some (K.ofNat 45)), none, .ext (.t (K.ofNat 40)) 1⟩, ⟨(some (K.ofNat 12)), none, .as (.t (K.ofNat 44))⟩, ⟨(some (K.ofNat 13)), none, .as (.t (K.ofNat 45))⟩]
noncomputable def f7_r7 : List EOper := [⟨(some (K.ofNat 46)), none, .mv (.t (K.ofNat 5))⟩, ⟨(some (K.ofNat 47)), none, .mv (.t (K.ofNat 6))⟩, ⟨(some (K.ofNat 48)), none, .call (.c (.fn (K.ofNat 39) [])) [(.t (K.ofNat 46)), (.t (K.ofNat 47))]⟩, ⟨(some (K.ofNat 14)), none, .as (.t (K.ofNat 48))⟩]
noncomputable def f7_r8 : List EOper := [⟨(some (K.ofNat 49)), none, .mv (.t (K.ofNat 9))⟩, ⟨(some (K.ofNat 50)), none, .bin .neq (.t (K.ofNat 49)) (.c (.i .i64 (.ofNat 0)))⟩, ⟨(some (K.ofNat 51)), none, .mv (.t (K.ofNat 50))⟩, ⟨(some (K.ofNat 52)), (some ((K.ofNat 51), false)), .mv (.t (K.ofNat 8))⟩, ⟨(some (K.ofNat 53)), (some ((K.ofNat 51), false)), .len (.t (K.ofNat 52))⟩, ⟨(some (K.ofNat 54)), (some ((K.ofNat 51), false)), .mv (.t (K.ofNat 14))⟩, ⟨(some (K.ofNat 55)), (some ((K.ofNat 51), false)), .len (.t (K.ofNat 54))⟩, ⟨(some (K.ofNat 56)), (some ((K.ofNat 51), false)), .bin .neq (.t (K.ofNat 53)) (.t (K.ofNat 55))⟩, ⟨(some (K.ofNat 57)), none, .pick (.t (K.ofNat 51)) (.c (.b true)) (.t (K.ofNat 56))⟩, ⟨(some (K.ofNat 58)), none, .mv (.t (K.ofNat 57))⟩, ⟨(some (K.ofNat 59)), (some ((K.ofNat 58), false)), .mv (.t (K.ofNat 11))⟩, ⟨(some (K.ofNat 60)), (some ((K.ofNat 58), false)), .bin .neq (.t (K.ofNat 59)) (.c (.i .i64 (.ofNat 0)))⟩, ⟨(some (K.ofNat 61)), none, .pick (.t (K.ofNat 58)) (.c (.b true)) (.t (K.ofNat 60))⟩, ⟨(some (K.ofNat 62)), none, .mv (.t (K.ofNat 61))⟩, ⟨(some (K.ofNat 63)), (some ((K.ofNat 62), false)), .mv (.t (K.ofNat 10))⟩, ⟨(some (K.ofNat 64)), (some ((K.ofNat 62), false)), .mv (.t (K.ofNat 14))⟩, ⟨(some (K.ofNat 65)), (some ((K.ofNat 62), false)), .call (.c (.fn (K.ofNat 38) [])) [(.t (K.ofNat 64))]⟩, ⟨(some (K.ofNat 66)), (some ((K.ofNat 62), false)), .eqk (.one none) true (.t (K.ofNat 63)) (.t (K.ofNat 65))⟩, ⟨(some (K.ofNat 67)), none, .pick (.t (K.ofNat 62)) (.c (.b true)) (.t (K.ofNat 66))⟩, ⟨(some (K.ofNat 68)), none, .mv (.t (K.ofNat 67))⟩, ⟨(some (K.ofNat 69)), (some ((K.ofNat 68), false)), .mv (.t (K.ofNat 13))⟩, ⟨(some (K.ofNat 70)), (some ((K.ofNat 68), false)), .bin .neq (.t (K.ofNat 69)) (.c (.i .i64 (.ofNat 0)))⟩, ⟨(some (K.ofNat 71)), none, .pick (.t (K.ofNat 68)) (.c (.b true)) (.t (K.ofNat 70))⟩, ⟨(some (K.ofNat 72)), none, .mv (.t (K.ofNat 71))⟩, ⟨(some (K.ofNat 73)), (some ((K.ofNat 72), false)), .mv (.t (K.ofNat 12))⟩, ⟨(some (K.ofNat 74)), (some ((K.ofNat 72), false)), .mv (.t (K.ofNat 5))⟩, ⟨(some (K.ofNat 75)), (some ((K.ofNat 72), false)), .mv (.t (K.ofNat 6))⟩, ⟨(some (K.ofNat 76)), (some ((K.ofNat 72), false)), .call (.c (.fn (K.ofNat 40) [])) [(.t (K.ofNat 74)), (.t (K.ofNat 75))]⟩, ⟨(some (K.ofNat 77)), (some ((K.ofNat 72), false)), .eqk (.one none) true (.t (K.ofNat 73)) (.t (K.ofNat 76))⟩, ⟨(some (K.ofNat 78)), none, .pick (.t (K.ofNat 72)) (.c (.b true)) (.t (K.ofNat 77))⟩]
noncomputable def f7_r9 : List EOper := [⟨(some (K.ofNat 4)), none, .as (.c (.b false))⟩]
noncomputable def f7_r10 : List EOper := [⟨(some (K.ofNat 15)), none, .as (.c (.i .i64 (.ofNat 0)))⟩]
noncomputable def f7_r11 : List EOper := [⟨(some (K.ofNat 79)), none, .mv (.t (K.ofNat 15))⟩, ⟨(some (K.ofNat 80)), none, .mv (.t (K.ofNat 5))⟩, ⟨(some (K.ofNat 81)), none, .bin .lss (.t (K.ofNat 79)) (.t (K.ofNat 80))⟩]
noncomputable def f7_r12 : List Stage := [⟨[⟨(some (K.ofNat 84)), none, .mv (.t (K.ofNat 8))⟩, ⟨(some (K.ofNat 85)), none, .mv (.t (K.ofNat 15))⟩, ⟨(some (K.ofNat 86)), none, .iads 1 (.t (K.ofNat 84)) (.t (K.ofNat 85))⟩, ⟨(some (K.ofNat 87)), none, .ld (.t (K.ofNat 86))⟩, ⟨(some (K.ofNat 88)), none, .mv (.t (K.ofNat 14))⟩, ⟨(some (K.ofNat 89)), none, .mv (.t (K.ofNat 15))⟩, ⟨(some (K.ofNat 90)), none, .iads 1 (.t (K.ofNat 88)) (.t (K.ofNat 89))⟩, ⟨(some (K.ofNat 91)), none, .ld (.t (K.ofNat 90))⟩], [], (some ⟨(some (K.ofNat 92)), none, .call (.c (.fn (K.ofNat 28) [])) [(.t (K.ofNat 87)), (.t (K.ofNat 91))]⟩), []⟩, ⟨[⟨(some (K.ofNat 93)), none, .not (.t (K.ofNat 92))⟩], [], none, []⟩]
noncomputable def f7_r13 : List EOper := [⟨(some (K.ofNat 4)), none, .as (.c (.b false))⟩]
noncomputable def f7_r14 : List EOper := [⟨(some (K.ofNat 82)), none, .mv (.t (K.ofNat 15))⟩, ⟨(some (K.ofNat 83)), none, .bin .add (.t (K.ofNat 82)) (.c (.i .i64 (.ofNat 1)))⟩, ⟨(some (K.ofNat 15)), none, .as (.t (K.ofNat 83))⟩]
noncomputable def f7_l0 : EC := (.seq (.seq (.reg f7_r11) (.cond (.t (K.ofNat 81)) .skip (.exit 2))) (.seq (.block 3 (.seq (.draw f7_r12) (.cond (.t (K.ofNat 93)) (.seq (.reg f7_r13) .ret) .skip))) (.reg f7_r14)))
noncomputable def f7_r15 : List EOper := [⟨(some (K.ofNat 95)), none, .mv (.t (K.ofNat 1))⟩, ⟨(some (K.ofNat 96)), none, .len (.t (K.ofNat 95))⟩, ⟨(some (K.ofNat 97)), none, .bin .rem (.t (K.ofNat 96)) (.c (.i .i64 (.ofNat 2)))⟩, ⟨(some (K.ofNat 98)), none, .bin .mul (.c (.i .i64 (.ofNat 4))) (.t (K.ofNat 97))⟩, ⟨(some (K.ofNat 99)), none, .bin .add (.c (.i .i64 (.ofNat 4))) (.t (K.ofNat 98))⟩, ⟨(some (K.ofNat 100)), none, .call (.c (.fn (K.ofNat 35) [])) [(.t (K.ofNat 99))]⟩, ⟨(some (K.ofNat 94)), none, .mv (.t (K.ofNat 100))⟩, ⟨(some (K.ofNat 101)), none, .ext (.t (K.ofNat 94)) 0⟩, ⟨(some (K.ofNat 102)), none, .ext (.t (K.ofNat 94)) 1⟩, ⟨(some (K.ofNat 16)), none, .as (.t (K.ofNat 101))⟩, ⟨(some (K.ofNat 17)), none, .as (.t (K.ofNat 102))⟩]
noncomputable def f7_r16 : List EOper := [⟨(some (K.ofNat 103)), none, .mv (.t (K.ofNat 1))⟩, ⟨(some (K.ofNat 104)), none, .len (.t (K.ofNat 103))⟩, ⟨(some (K.ofNat 105)), none, .bin .rem (.t (K.ofNat 104)) (.c (.i .i64 (.ofNat 2)))⟩, ⟨(some (K.ofNat 106)), none, .bin .mul (.c (.i .i64 (.ofNat 4))) (.t (K.ofNat 105))⟩, ⟨(some (K.ofNat 107)), none, .bin .add (.c (.i .i64 (.ofNat 4))) (.t (K.ofNat 106))⟩, ⟨(some (K.ofNat 5)), none, .as (.t (K.ofNat 107))⟩]
noncomputable def f7_r17 : List EOper := [⟨(some (K.ofNat 108)), none, .mv (.t (K.ofNat 7))⟩, ⟨(some (K.ofNat 109)), none, .bin .eql (.t (K.ofNat 108)) (.c (.i .i64 (.ofNat 1)))⟩]
noncomputable def f7_r18 : List EOper := [⟨(some (K.ofNat 110)), none, .mv (.t (K.ofNat 1))⟩, ⟨(some (K.ofNat 111)), none, .len (.t (K.ofNat 110))⟩, ⟨(some (K.ofNat 112)), none, .bin .rem (.t (K.ofNat 111)) (.c (.i .i64 (.ofNat 3)))⟩, ⟨(some (K.ofNat 113)), none, .bin .mul (.c (.i .i64 (.ofNat 2))) (.t (K.ofNat 112))⟩, ⟨(some (K.ofNat 114)), none, .bin .add (.c (.i .i64 (.ofNat 4))) (.t (K.ofNat 113))⟩, ⟨(some (K.ofNat 5)), none, .as (.t (K.ofNat 114))⟩]
noncomputable def f7_r19 : List EOper := [⟨(some (K.ofNat 116)), none, .mv (.t (K.ofNat 5))⟩, ⟨(some (K.ofNat 117)), none, .call (.c (.fn (K.ofNat 36) [])) [(.t (K.ofNat 116))]⟩, ⟨(some (K.ofNat 115)), none, .mv (.t (K.ofNat 117))⟩, ⟨(some (K.ofNat 118)), none, .ext (.t (K.ofNat 115)) 0⟩, ⟨(some (K.ofNat 119)), none, .ext (.t (K.ofNat 115)) 1⟩, ⟨(some (K.ofNat 16)), none, .as (.t (K.ofNat 118))⟩, ⟨(some (K.ofNat 17)), none, .as (.t (K.ofNat 119))⟩]
noncomputable def f7_r20 : List EOper := [⟨(some (K.ofNat 120)), none, .mv (.t (K.ofNat 17))⟩, ⟨(some (K.ofNat 121)), none, .bin .neq (.t (K.ofNat 120)) (.c (.i .i64 (.ofNat 0)))⟩, ⟨(some (K.ofNat 122)), none, .mv (.t (K.ofNat 121))⟩, ⟨(some (K.ofNat 123)), (some ((K.ofNat 122), false)), .mv (.t (K.ofNat 5))⟩, ⟨(some (K.ofNat 124)), (some ((K.ofNat 122), false)), .mv (.t (K.ofNat 16))⟩, ⟨(some (K.ofNat 125)), (some ((K.ofNat 122), false)), .call (.c (.fn (K.ofNat 14) [])) [(.t (K.ofNat 123)), (.t (K.ofNat 124))]⟩, ⟨(some (K.ofNat 126)), (some ((K.ofNat 122), false)), .bin .neq (.t (K.ofNat 125)) (.c (.i .i64 (.ofNat 0)))⟩, ⟨(some (K.ofNat 127)), none, .pick (.t (K.ofNat 122)) (.c (.b true)) (.t (K.ofNat 126))⟩]
noncomputable def f7_r21 : List EOper := [⟨(some (K.ofNat 4)), none, .as (.c (.b false))⟩]
noncomputable def f7_r22 : List EOper := [⟨(some (K.ofNat 128)), none, .mv (.t (K.ofNat 16))⟩, ⟨(some (K.ofNat 129)), none, .mv (.t (K.ofNat 5))⟩, ⟨(some (K.ofNat 130)), none, .mv (.t (K.ofNat 1))⟩, ⟨(some (K.ofNat 131)), none, .call (.c (.fn (K.ofNat 33) [])) [(.t (K.ofNat 129)), (.t (K.ofNat 130))]⟩, ⟨(some (K.ofNat 132)), none, .call (.c (.fn (K.ofNat 32) [])) [(.t (K.ofNat 128)), (.t (K.ofNat 131))]⟩, ⟨(some (K.ofNat 6)), none, .as (.t (K.ofNat 132))⟩]
noncomputable def f7_r23 : List EOper := [⟨(some (K.ofNat 26)), none, .mv (.t (K.ofNat 7))⟩, ⟨(some (K.ofNat 27)), none, .bin .add (.t (K.ofNat 26)) (.c (.i .i64 (.ofNat 1)))⟩, ⟨(some (K.ofNat 7)), none, .as (.t (K.ofNat 27))⟩]
noncomputable def f7_l1 : EC := (.seq (.seq (.reg f7_r3) (.cond (.t (K.ofNat 25)) .skip (.exit 0))) (.seq (.block 1 (.seq (.reg f7_r4) (.seq (.reg f7_r5) (.seq (.reg f7_r6) (.seq (.reg f7_r7) (.seq (.seq (.reg f7_r8) (.cond (.t (K.ofNat 78)) (.seq (.reg f7_r9) .ret) .skip)) (.seq (.seq (.reg f7_r10) (.block 2 (.loop f7_l0))) (.seq (.reg f7_r15) (.seq (.reg f7_r16) (.seq (.seq (.reg f7_r17) (.cond (.t (K.ofNat 109)) (.seq (.reg f7_r18) (.reg f7_r19)) .skip)) (.seq (.seq (.reg f7_r20) (.cond (.t (K.ofNat 127)) (.seq (.reg f7_r21) .ret) .skip)) (.reg f7_r22)))))))))))) (.reg f7_r23)))
noncomputable def f7_r24 : List EOper := [⟨(some (K.ofNat 133)), none, .call (.c (.fn (K.ofNat 22) [])) []⟩, ⟨(some (K.ofNat 4)), none, .as (.t (K.ofNat 133))⟩]
noncomputable def f7_c : EC := (.seq (.reg f7_r0) (.seq (.reg f7_r1) (.seq (.seq (.reg f7_r2) (.block 0 (.loop f7_l1))) (.seq (.reg f7_r24) .ret))))
noncomputable def f7 : EF := ⟨134, [.tmp (K.ofNat 4)], f7_c, none⟩
theorem f7_rs : f7.rs = [.tmp (K.ofNat 4)] := of_eq_true (eq_self _)
structure CallsFo (fs : T EF) : Prop extends CallsTm fs, CallsFw fs, CallsPf fs, CallsRc fs, CallsMk fs where
  c20 : fs.get (K.ofNat 20) = some f20
  c25 : fs.get (K.ofNat 25) = some f25
  c28 : fs.get (K.ofNat 28) = some f28
  c38 : fs.get (K.ofNat 38) = some f38
  c39 : fs.get (K.ofNat 39) = some f39
  c40 : fs.get (K.ofNat 40) = some f40
  c46 : fs.get (K.ofNat 46) = some f46
  c56 : fs.get (K.ofNat 56) = some f56
  c64 : fs.get (K.ofNat 64) = some f64
  aw : ∀ h P, CallP fs (.fn (K.ofNat 22) []) [] h P = P (.b true) h
section
variable {fs : T EF} {n : Nat} {Q : List (List (Int × Int))}
theorem fw_len : (fwT Q n).length = n := by simp [fwT]
theorem fw_row : ∀ l ∈ fwT Q n, l.length = n := fun l hl => by
  obtain ⟨t, _, rfl⟩ := List.mem_map.1 hl
  simp
theorem nm_in {B : List Int} : ∀ x ∈ nmL B n, 0 ≤ x ∧ x < (n : Int) := fun _ hx => nmL_mem.1 hx
theorem ren_sh {B : List Int} (_hn : ok5 (n : Int)) (h : shB n Q = true) : shB n (renS (nmL B n) Q) = true := by
  obtain ⟨hv, hl⟩ := sh_vld h
  refine (hv.ren nmL_nodup nmL_len nm_in).sh ?_
  simp [renS, hl]
structure Sched (n : Nat) (Q : List (List (Int × Int))) : Prop where
  ok : ok5 (n : Int)
  sh : shB n Q = true
  vd : Vld n Q
  len : Q.length = n - 1
  row : ∀ l ∈ Q, l.length ≤ 100
  big : ∀ l ∈ Q, l.length ≤ 9223372036854775807
  bd : n ≤ 10 ∧ 2 ≤ n
theorem Sched.of (hn : ok5 (n : Int)) (hs : shB n Q = true) : Sched n Q := by
  obtain ⟨hv, hl⟩ := sh_vld hs
  have hn' := hn
  unfold ok5 at hn'
  have hf := hv.few (by omega) (by omega)
  exact ⟨hn, hs, hv, hl, fun l hl => (hf.2 l hl).1, fun l hl => by have := (hf.2 l hl).1; omega, by omega, by omega⟩
theorem Sched.inn (s : Sched n Q) {M : List Int} (hM : M.length = n) : InN M.length Q := fun l hl e he => by
  have := rnd_e (s.vd.rnd l hl) e he
  omega
/-- The next schedule. -/
def nx4 (k : Nat) : Nat := 4 + 4 * (k % 2)
def nx6 (k : Nat) : Nat := 4 + 2 * (k % 3)
def f7_I (h : H) (v : V) (i : Nat) (fr : Fr) (h1 : H) : Prop := i ≤ 3 ∧ Grow h.nx.nat h h1 ∧ ∃ m Q c ws, Sched m Q ∧ Nrp h1 c ws Q ∧ fr.get (K.ofNat 1) = some (v) ∧ fr.get (K.ofNat 5) = some (.i .i64 (m : Int)) ∧ fr.get (K.ofNat 6) = some (c) ∧ fr.get (K.ofNat 7) = some (.i .i64 (i : Int))
def f7_J (h2 : H) (v c w w2 : V) (m i : Nat) (t : Nat) (fr : Fr) (h1 : H) : Prop := t ≤ m ∧ h1 = h2 ∧ fr.get (K.ofNat 1) = some (v) ∧ fr.get (K.ofNat 5) = some (.i .i64 (m : Int)) ∧ fr.get (K.ofNat 6) = some (c) ∧ fr.get (K.ofNat 7) = some (.i .i64 (i : Int)) ∧ fr.get (K.ofNat 8) = some (w) ∧ fr.get (K.ofNat 14) = some (w2) ∧ fr.get (K.ofNat 15) = some (.i .i64 (t : Int))
theorem f7_ret {h : H} {v : V} {B : List Int} {n : Int} (k : CallsFo fs) (hv : Sr iE h v B) (hB : B.length ≤ 9223372036854775807) (hc : HC h) : Ret fs f7 [.i .i64 n, v] h fun r h' => r = .b true ∧ Grow h.nx.nat h h' := by
  have aw := k.aw
  apply ret_of rfl
  show W fs none f7_c _ _ _
  unfold f7_c
  simp (disch := omega) only [f7_r0, f7_r1, w_reg, w_seq, seqK_n, x_nil, x_mv, x_as, x_call, ev_t, ev_c, evs_nil, evs_cons, getV_some, putD_some, frame_2, getK_set, Nat.reduceEqDiff, ↓reduceIte]
  refine (callP_0 (ef := f25) k.c25 rfl (f25_ret (n := n) k.toCallsTm hv hB hc)).mono ?_
  rintro r h1 ⟨m, c, ws, rfl, hm, hS, hG1⟩
  have ho := teams_nat hm
  simp (disch := omega) only [f7_r2, w_reg, w_seq, w_block, seqK_n, x_nil, x_mv, x_as, x_ext, kx, rvP_ok, okv_some, ev_t, ev_c, getV_some, putD_some, onTup_t, nth0, nth1, of0, getK_set, Nat.reduceEqDiff, ↓reduceIte]
  refine W_loop (f7_I h v) (fun i => 3 - i) ?_ 0 ⟨by omega, hG1, m, _, c, ws, Sched.of ho (tame_sh ho), hS, by simp (disch := omega) only [getK_set, Nat.reduceEqDiff, ↓reduceIte, and_self, Int.natCast_zero]⟩
  clear hS hG1 ho hm ws c m h1
  rintro i fr h1 ⟨hi, hG, m, Q, c, ws, s, hS, g1, g5, g6, g7⟩
  have hc1 := hG.hc hc
  have ne0 : decide ((0 : Int) ≠ 0) = false := rfl
  have nel : ∀ x : Int, decide (x ≠ x) = false := fun x => by simp
  have kb : ∀ a b, keyEq (.one none) (.b a) (.b b) = some (a == b) := fun _ _ => rfl
  have bb : ∀ a : Bool, (a == a) = true := fun a => by cases a <;> rfl
  obtain ⟨hb10, hb2⟩ := s.bd
  have hql := s.len
  unfold f7_l1
  by_cases hlt : i < 3
  · have d0 : decide ((i : Int) < 3) = true := decide_eq_true (by omega)
    simp (disch := omega) only [f7_r3, f7_r4, w_skip, w_reg, w_seq, w_cond, w_block, seqK_n, ckB_b, cbB_b, true_and, x_nil, x_mv, x_bin, x_call, kx, rvP_ok, okv_some, ev_t, ev_c, evs_nil, evs_cons, getV_some, putD_some, bin_lss, of3, getK_set, Nat.reduceEqDiff, ↓reduceIte, g5, g6, g7, d0]
    refine (callP_0 (ef := f18) k.c18 rfl (f18_ret k.toCallsFw s.ok hS s.big s.sh hc1)).mono ?_
    rintro r h2 ⟨w, xs, rfl, hw, hG2⟩
    have hc2 := hG2.hc hc1
    have hS2 := hS.grow hc1 hG2
    have hGa := hG.trans (hG2.low hG.nx)
    simp (disch := omega) only [f7_r5, w_reg, w_seq, seqK_n, x_nil, x_mv, x_as, x_ext, x_call, kx, rvP_ok, okv_some, ev_t, ev_c, evs_nil, evs_cons, getV_some, putD_some, onTup_t, nth0, nth1, getK_set, Nat.reduceEqDiff, ↓reduceIte, g5, g6]
    refine (callP_0 (ef := f19) k.c19 rfl (f19_ret k.toCallsFw s.ok hS2 s.big s.sh hc2)).mono ?_
    rintro r h3 ⟨rfl, hG3⟩
    have hc3 := hG3.hc hc2
    have hS3 := hS2.grow hc2 hG3
    have hw3 := hw.grow hc2 hG3
    have hGb := hGa.trans (hG3.low hGa.nx)
    simp (disch := omega) only [f7_r6, w_reg, w_seq, seqK_n, x_nil, x_mv, x_as, x_ext, x_call, kx, rvP_ok, okv_some, ev_t, ev_c, evs_nil, evs_cons, getV_some, putD_some, onTup_t, nth0, nth1, getK_set, Nat.reduceEqDiff, ↓reduceIte, g5, g6]
    refine (callP_0 (ef := f20) k.c20 rfl (f20_ret k.toCallsPf k.toCallsCh k.c56 s.ok hS3 s.big s.sh hc3)).mono ?_
    rintro r h4 ⟨rfl, hG4⟩
    have hc4 := hG4.hc hc3
    have hS4 := hS3.grow hc3 hG4
    have hw4 := hw3.grow hc3 hG4
    have hGc := hGb.trans (hG4.low hGb.nx)
    simp (disch := omega) only [f7_r7, w_reg, w_seq, seqK_n, x_nil, x_mv, x_as, x_ext, x_call, kx, rvP_ok, okv_some, ev_t, ev_c, evs_nil, evs_cons, getV_some, putD_some, onTup_t, nth0, nth1, getK_set, Nat.reduceEqDiff, ↓reduceIte, g5, g6]
    refine (callP_0 (ef := f39) k.c39 rfl (f39_ret k.c64 (by omega) hS4 s.vd (by omega) s.row hc4)).mono ?_
    rintro w2 h5 ⟨xs2, hw2, hG5⟩
    have hc5 := hG5.hc hc4
    have hS5 := hS4.grow hc4 hG5
    have hw5 := hw4.grow hc4 hG5
    have hGd := hGc.trans (hG5.low hGc.nx)
    have hl1 : ∀ h1, lenV w h1 = .ok (.i .i64 (m : Int)) h1 := fun h1 => by rw [hw5.out.len, hw5.len, fw_len]
    have hl2 : ∀ h1, lenV w2 h1 = .ok (.i .i64 (m : Int)) h1 := fun h1 => by rw [hw2.out.len, hw2.len, fw_len]
    simp (disch := omega) only [f7_r8, w_reg, w_seq, seqK_n, okG_b, asG_f, true_and, x_nil, x_g, x_mv, x_as, x_pick, x_bin, x_call, x_len, kx, rvP_ok, okv_some, ev_t, ev_c, evs_nil, evs_cons, getV_some, putD_some, bin_neq, pick_b, of0, getK_set, Nat.reduceEqDiff, ↓reduceIte, Bool.false_eq_true, Bool.not_false, ne0, nel, hl1, hl2]
    refine (callP_0 (ef := f38) k.c38 rfl (f38_ret hw2 ⟨by rw [fw_len]; omega, fun l hl => by rw [fw_row l hl]; omega⟩)).mono ?_
    rintro r h6 ⟨rfl, rfl⟩
    rw [fw_len]
    simp (disch := omega) only [okG_b, asG_f, true_and, x_g, x_mv, x_pick, x_bin, x_eqk, x_call, kx, rvP_ok, okv_some, ev_t, ev_c, evs_nil, evs_cons, getV_some, putD_some, bin_neq, pick_b, oGet_s, getK_set, Nat.reduceEqDiff, ↓reduceIte, Bool.false_eq_true, Bool.not_true, Bool.not_false, g5, g6, kb, bb, ne0, Bool.not_true, cond_true]
    refine (callP_0 (ef := f40) k.c40 rfl (f40_ret k.c64 k.c46 hS5 s.vd (by omega) s.row (by omega) (by omega) hc5)).mono ?_
    rintro r h7 ⟨rfl, hG7⟩
    have hc7 := hG7.hc hc5
    have hw7 := hw5.grow hc5 hG7
    have hw27 := hw2.grow hc5 hG7
    have hGe := hGd.trans (hG7.low hGd.nx)
    simp (disch := omega) only [f7_r10, w_skip, w_reg, w_seq, w_cond, w_block, seqK_n, ckB_b, cbB_b, okG_b, asG_f, true_and, x_nil, x_g, x_as, x_pick, x_eqk, kx, rvP_ok, okv_some, ev_t, ev_c, getV_some, putD_some, pick_b, oGet_s, of0, getK_set, Nat.reduceEqDiff, ↓reduceIte, Bool.false_eq_true, Bool.not_true, Bool.not_false, kb, bb, Bool.not_true, cond_true]
    refine W_loop (f7_J h7 v c w w2 m i) (fun t => m - t) ?_ 0 ⟨by omega, rfl, by simp (disch := omega) only [getK_set, Nat.reduceEqDiff, ↓reduceIte, g1, g5, g6, g7, and_self, Int.natCast_zero]⟩
    clear g1 g5 g6 g7 fr hw5 hw4 hw3 hw hw2 hS5 hS4 hS3 hS2 hS hG2 hG3 hG4 hG5 hG7 hGa hGb hGc hGd hc1 hc2 hc3 hc4 hc5
    rintro t fr h8 ⟨ht, rfl, g1, g5, g6, g7, g8, g14, g15⟩
    unfold f7_l0
    by_cases hlt2 : t < m
    · have d1 : decide ((t : Int) < (m : Int)) = true := decide_eq_true (by omega)
      have htl : t < (fwT Q m).length := by rw [fw_len]; exact hlt2
      have htx : t < xs.length := by rw [hw7.len]; exact htl
      have htx2 : t < xs2.length := by rw [hw27.len]; exact htl
      obtain ⟨p, p1, p2⟩ := hw7.out.at t htx
      obtain ⟨q, q1, q2⟩ := hw27.out.at t htx2
      have p2 : loadV h8 p one? = .ok xs[t] h8 := p2
      have q2 : loadV h8 q one? = .ok xs2[t] h8 := q2
      have hr1 := hw7.inn t htx htl
      have hr2 := hw27.inn t htx2 htl
      have hrl := fw_row _ (List.getElem_mem htl)
      simp (disch := omega) only [f7_r11, f7_r12, w_skip, w_reg, w_draw, w_seq, w_cond, w_block, seqK_n, ckB_b, cbB_b, true_and, x_nil, x_mv, x_bin, x_call, kx, kg, xg_nil, xg_mv, xg_ld, xg_iads, xd_cons, fresh_nil, stK_s, stay_nil, rvP_ok, okv_some, ev_t, ev_c, evs_nil, evs_cons, getV_some, putD_some, bin_lss, getK_set, Nat.reduceEqDiff, ↓reduceIte, g5, g8, g14, g15, d1, p1, p2, q1, q2]
      refine (callP_0 (ef := f28) k.c28 rfl (f28_same hr1 hr2 (by omega))).mono ?_
      rintro r h9 ⟨rfl, rfl⟩
      simp (disch := omega) only [f7_r14, w_skip, w_reg, w_cond, seqK_n, atK_n, loopK_n, ckB_b, cbB_b, true_and, x_nil, x_mv, x_as, x_bin, kx, kg, xg_nil, xg_not, xd_cons, fresh_nil, stK_n, stay_nil, rvP_ok, okv_some, ev_t, ev_c, getV_some, putD_some, bin_add, onB_b, of1, getK_set, Nat.reduceEqDiff, ↓reduceIte, Bool.false_eq_true, Bool.not_true, g15, Bool.not_true, fw64]
      exact ⟨t + 1, by omega, by omega, rfl, by simp (disch := omega) only [getK_set, Nat.reduceEqDiff, ↓reduceIte, g1, g5, g6, g7, g8, g14, and_self, Int.natCast_add, Int.natCast_one]⟩
    · have d1 : decide ((t : Int) < (m : Int)) = false := decide_eq_false (by omega)
      have hlv := hv.len
      have z1 : ((B.length : Int)).tmod 2 = ((B.length % 2 : Nat) : Int) := rfl
      have z2 : (4 : Int) * ((B.length % 2 : Nat) : Int) = ((4 * (B.length % 2) : Nat) : Int) := by omega
      have z3 : (4 : Int) + ((4 * (B.length % 2) : Nat) : Int) = ((nx4 B.length : Nat) : Int) := by unfold nx4; omega
      have z4 : ((B.length : Int)).tmod 3 = ((B.length % 3 : Nat) : Int) := rfl
      have z5 : (2 : Int) * ((B.length % 3 : Nat) : Int) = ((2 * (B.length % 3) : Nat) : Int) := by omega
      have z6 : (4 : Int) + ((2 * (B.length % 3) : Nat) : Int) = ((nx6 B.length : Nat) : Int) := by unfold nx6; omega
      have hn4 : nx4 B.length = 4 ∨ nx4 B.length = 8 := by unfold nx4; omega
      have hn6 : nx6 B.length = 4 ∨ nx6 B.length = 6 ∨ nx6 B.length = 8 := by unfold nx6; omega
      have fin : ∀ (n : Nat) (Q' : List (List (Int × Int))) (u : V) (ys : List V) fr h9, Sched n Q' → Nrp h9 u ys Q' → Grow h.nx.nat h h9 → fr.get (K.ofNat 1) = some (v) ∧ fr.get (K.ofNat 5) = some (.i .i64 (n : Int)) ∧ fr.get (K.ofNat 7) = some (.i .i64 (i : Int)) ∧ fr.get (K.ofNat 16) = some (u) ∧ fr.get (K.ofNat 17) = some (.i .i64 0) →
          Go.Ev.X fs f7_r20 (seqK (W fs none (.cond (.t (K.ofNat 127)) (.seq (.reg f7_r21) .ret) .skip)) (seqK (W fs none (.reg f7_r22)) (atK 1 (seqK (W fs none (.reg f7_r23)) (loopK (f7_I h v) (fun i => 3 - i) i (atK 0 (seqK (W fs none (.seq (.reg f7_r24) .ret)) (retK f7 fun r h' => r = .b true ∧ Grow h.nx.nat h h'))))))) .normal) fr h9 := by
        clear g1 g5 g6 g7 g8 g14 g15 fr
        rintro n Q' u ys fr h9 s' hu hG9 ⟨g1, g5, g7, g16, g17⟩
        have hc9 := hG9.hc hc
        obtain ⟨hb10', hb2'⟩ := s'.bd
        have hql' := s'.len
        have hck : ckI n Q' = 0 := by unfold ckI; rw [if_pos s'.sh]
        simp (disch := omega) only [f7_r20, okG_b, asG_f, true_and, x_g, x_mv, x_bin, x_call, kx, rvP_ok, okv_some, ev_t, ev_c, evs_nil, evs_cons, getV_some, putD_some, bin_neq, of0, getK_set, Nat.reduceEqDiff, ↓reduceIte, Bool.not_false, g5, g16, g17, ne0]
        refine (callP_0 (ef := f14) k.c14 rfl (f14_ret k.toCallsRc s'.ok hu (by omega) s'.big hc9)).mono ?_
        rintro r h10 ⟨rfl, hG10⟩
        rw [hck]
        have hc10 := hG10.hc hc9
        have hGx := hG9.trans (hG10.low hG9.nx)
        simp (disch := omega) only [f7_r22, w_skip, w_reg, w_cond, seqK_n, ckB_b, cbB_b, okG_b, asG_f, true_and, x_nil, x_g, x_mv, x_pick, x_bin, x_call, kx, rvP_ok, okv_some, ev_t, ev_c, evs_nil, evs_cons, getV_some, putD_some, bin_neq, pick_b, getK_set, Nat.reduceEqDiff, ↓reduceIte, Bool.false_eq_true, Bool.not_false, g1, g5, g16, ne0]
        refine (callP_0 (ef := f33) k.c33 rfl (f33_ret (by omega) (hv.grow hc hGx) hB hc10)).mono ?_
        rintro r h11 ⟨hr, _, hG11⟩
        have hc11 := hG11.hc hc10
        simp (disch := omega) only [x_call, kx, ev_t, ev_c, evs_nil, evs_cons, getV_some, putD_some, getK_set, Nat.reduceEqDiff, ↓reduceIte]
        refine (callP_0 (ef := f32) k.c32 rfl (f32_ret ((hu.grow hc9 hG10).grow hc10 hG11) hr.sr.rd (s'.inn nmL_len) (by omega) (fun l hl => by have := s'.row l hl; omega) hc11)).mono ?_
        rintro r h12 ⟨ws', hr2, _, _, hG12⟩
        have hGy := hGx.trans ((hG11.trans (hG12.low hG11.nx)).low hGx.nx)
        simp (disch := omega) only [f7_r23, w_reg, seqK_n, atK_n, loopK_n, x_nil, x_mv, x_as, x_bin, kx, rvP_ok, okv_some, ev_t, ev_c, getV_some, putD_some, bin_add, of1, getK_set, Nat.reduceEqDiff, ↓reduceIte, g7, fw64]
        exact ⟨i + 1, by omega, by omega, hGy, n, _, r, ws', Sched.of s'.ok (ren_sh s'.ok s'.sh), hr2.nrp, by simp (disch := omega) only [getK_set, Nat.reduceEqDiff, ↓reduceIte, g1, g5, and_self, Int.natCast_add, Int.natCast_one]⟩
      simp (disch := omega) only [f7_r11, f7_r15, w_reg, w_seq, w_cond, w_exit, seqK_n, seqK_e, atK_e, loopK_e, ckB_b, cbB_b, true_and, x_nil, x_mv, x_bin, x_call, x_len, kx, rvP_ok, okv_some, ev_t, ev_c, evs_nil, evs_cons, getV_some, putD_some, bin_add, bin_mul, bin_lss, bin_rem, of2, of4, getK_set, Nat.reduceEqDiff, ↓reduceIte, Bool.false_eq_true, g1, g5, g15, d1, hlv, z1, z2, z3, fw64]
      refine (callP_0 (ef := f35) k.c35 rfl (f35_ok k.toCallsMk hn4 hc7)).mono ?_
      rintro r h9 ⟨u, ys, rfl, hu, hG9⟩
      have hc9 := hG9.hc hc7
      have hGf := hGe.trans (hG9.low hGe.nx)
      by_cases e1 : i = 1
      · have d2 : decide ((i : Int) = 1) = true := decide_eq_true (by omega)
        simp (disch := omega) only [f7_r16, f7_r17, f7_r18, f7_r19, w_reg, w_seq, w_cond, seqK_n, ckB_b, cbB_b, true_and, x_nil, x_mv, x_as, x_bin, x_ext, x_call, x_len, kx, rvP_ok, okv_some, ev_t, ev_c, evs_nil, evs_cons, getV_some, putD_some, bin_add, bin_mul, bin_eql, bin_rem, onTup_t, nth0, nth1, of1, of2, of3, of4, getK_set, Nat.reduceEqDiff, ↓reduceIte, g1, g7, hlv, z1, z2, z3, z4, z5, z6, d2, fw64]
        refine (callP_0 (ef := f36) k.c36 rfl (f36_ok k.toCallsMk hn6 hc9)).mono ?_
        rintro r h10 ⟨u2, ys2, rfl, hu2, hG10⟩
        simp (disch := omega) only [w_reg, w_seq, seqK_n, x_nil, x_mv, x_as, x_ext, kx, rvP_ok, okv_some, ev_t, getV_some, putD_some, onTup_t, nth0, nth1, getK_set, Nat.reduceEqDiff, ↓reduceIte]
        exact fin (nx6 B.length) _ u2 ys2 _ _ (Sched.of (by unfold ok5; omega) (tg_sh (by unfold ok5; omega))) hu2 (hGf.trans (hG10.low hGf.nx)) (by simp (disch := omega) only [getK_set, Nat.reduceEqDiff, ↓reduceIte, g1, g7, and_self])
      · have d2 : decide ((i : Int) = 1) = false := decide_eq_false (by omega)
        simp (disch := omega) only [f7_r16, f7_r17, w_skip, w_reg, w_seq, w_cond, seqK_n, ckB_b, cbB_b, true_and, x_nil, x_mv, x_as, x_bin, x_ext, x_len, kx, rvP_ok, okv_some, ev_t, ev_c, getV_some, putD_some, bin_add, bin_mul, bin_eql, bin_rem, onTup_t, nth0, nth1, of1, of2, of4, getK_set, Nat.reduceEqDiff, ↓reduceIte, Bool.false_eq_true, g1, g7, hlv, z1, z2, z3, d2, fw64]
        exact fin (nx4 B.length) _ u ys _ _ (Sched.of (by unfold ok5; omega) (sr_sh hn4)) hu hGf (by simp (disch := omega) only [getK_set, Nat.reduceEqDiff, ↓reduceIte, g1, g7, and_self])
  · have d0 : decide ((i : Int) < 3) = false := decide_eq_false (by omega)
    simp (disch := omega) only [f7_r3, f7_r24, f7_rs, w_reg, w_seq, w_cond, w_exit, w_ret, seqK_n, seqK_e, atK_e, loopK_e, ckB_b, cbB_b, true_and, retK_r, x_nil, x_mv, x_as, x_bin, x_call, kx, rvP_ok, okv_some, ev_t, ev_c, evs_nil, getV_some, putD_some, bin_lss, oGet_s, readRs_nil, readRs_t, retV_1, of3, Option.some.injEq, exists_eq_left', getK_set, ↓reduceIte, Bool.false_eq_true, g7, d0, aw, true_and]
    exact hG
end
end Go.Ev
