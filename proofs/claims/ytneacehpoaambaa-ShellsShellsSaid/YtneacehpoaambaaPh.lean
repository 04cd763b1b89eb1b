/-
  Functions of the seat: the reference's next.
  Functions of the seat: the reference's Shelling.
  Functions of the seat: the reference's Shellable.
  Maps whose keys are arrays of bools, and whose values are true: sets of these.
  More rules: six arguments, two literals in one stage, literals that must stay, calls of closures.
-/
import Derived.Test.YtneacehpoaambaaPg
namespace Go.Ev
open Go Go.RowKit
noncomputable def f70_r0 : List EOper := [⟨(some (K.ofNat 6)), none, .as (.c (.b false))⟩]
noncomputable def f70_r1 : List EOper := [⟨(some (K.ofNat 12)), none, .mv (.t (K.ofNat 0))⟩, ⟨(some (K.ofNat 13)), none, .mv (.t (K.ofNat 2))⟩, ⟨(some (K.ofNat 14)), none, .iads 1 (.t (K.ofNat 12)) (.t (K.ofNat 13))⟩, ⟨(some (K.ofNat 15)), none, .ld (.t (K.ofNat 14))⟩, ⟨(some (K.ofNat 7)), none, .as (.t (K.ofNat 15))⟩]
noncomputable def f70_r2 : List EOper := [⟨(some (K.ofNat 8)), none, .as (.c (.i .i64 (.ofNat 0)))⟩]
noncomputable def f70_r3 : List EOper := [⟨(some (K.ofNat 16)), none, .mv (.t (K.ofNat 8))⟩, ⟨(some (K.ofNat 17)), none, .mv (.t (K.ofNat 0))⟩, ⟨(some (K.ofNat 18)), none, .len (.t (K.ofNat 17))⟩, ⟨(some (K.ofNat 19)), none, .bin .lss (.t (K.ofNat 16)) (.t (K.ofNat 18))⟩]
noncomputable def f70_r4 : List EOper := [⟨(some (K.ofNat 22)), none, .mv (.t (K.ofNat 1))⟩, ⟨(some (K.ofNat 23)), none, .mv (.t (K.ofNat 8))⟩, ⟨(some (K.ofNat 24)), none, .bin .shr (.t (K.ofNat 22)) (.t (K.ofNat 23))⟩, ⟨(some (K.ofNat 25)), none, .bin .rem (.t (K.ofNat 24)) (.c (.i .i64 (.ofNat 2)))⟩, ⟨(some (K.ofNat 26)), none, .bin .eql (.t (K.ofNat 25)) (.c (.i .i64 (.ofNat 0)))⟩]
noncomputable def f70_r5 : List EOper := [⟨(some (K.ofNat 9)), none, .as (.c (.b false))⟩]
noncomputable def f70_r6 : List EOper := [⟨(some (K.ofNat 10)), none, .as (.c (.i .i64 (.ofNat 0)))⟩]
noncomputable def f70_r7 : List EOper := [⟨(some (K.ofNat 27)), none, .mv (.t (K.ofNat 10))⟩, ⟨(some (K.ofNat 28)), none, .mv (.t (K.ofNat 0))⟩, ⟨(some (K.ofNat 29)), none, .len (.t (K.ofNat 28))⟩, ⟨(some (K.ofNat 30)), none, .bin .lss (.t (K.ofNat 27)) (.t (K.ofNat 29))⟩]
noncomputable def f70_r8 : List EOper := [⟨(some (K.ofNat 33)), none, .mv (.t (K.ofNat 7))⟩, ⟨(some (K.ofNat 34)), none, .mv (.t (K.ofNat 0))⟩, ⟨(some (K.ofNat 35)), none, .mv (.t (K.ofNat 10))⟩, ⟨(some (K.ofNat 36)), none, .iads 1 (.t (K.ofNat 34)) (.t (K.ofNat 35))⟩, ⟨(some (K.ofNat 37)), none, .ld (.t (K.ofNat 36))⟩, ⟨(some (K.ofNat 38)), none, .bin .andNot (.t (K.ofNat 33)) (.t (K.ofNat 37))⟩, ⟨(some (K.ofNat 11)), none, .as (.t (K.ofNat 38))⟩]
noncomputable def f70_r9 : List EOper := [⟨(some (K.ofNat 39)), none, .mv (.t (K.ofNat 9))⟩, ⟨(some (K.ofNat 40)), none, .mv (.t (K.ofNat 39))⟩, ⟨(some (K.ofNat 41)), (some ((K.ofNat 40), false)), .mv (.t (K.ofNat 1))⟩, ⟨(some (K.ofNat 42)), (some ((K.ofNat 40), false)), .mv (.t (K.ofNat 10))⟩, ⟨(some (K.ofNat 43)), (some ((K.ofNat 40), false)), .bin .shr (.t (K.ofNat 41)) (.t (K.ofNat 42))⟩, ⟨(some (K.ofNat 44)), (some ((K.ofNat 40), false)), .bin .rem (.t (K.ofNat 43)) (.c (.i .i64 (.ofNat 2)))⟩, ⟨(some (K.ofNat 45)), (some ((K.ofNat 40), false)), .bin .eql (.t (K.ofNat 44)) (.c (.i .i64 (.ofNat 1)))⟩, ⟨(some (K.ofNat 46)), (some ((K.ofNat 40), false)), .mv (.t (K.ofNat 45))⟩, ⟨(some (K.ofNat 47)), (some ((K.ofNat 46), true)), .mv (.t (K.ofNat 11))⟩, ⟨(some (K.ofNat 48)), (some ((K.ofNat 46), true)), .call (.c (.fn (K.ofNat 52) [])) [(.t (K.ofNat 47))]⟩, ⟨(some (K.ofNat 49)), (some ((K.ofNat 46), true)), .bin .eql (.t (K.ofNat 48)) (.c (.i .i64 (.ofNat 1)))⟩, ⟨(some (K.ofNat 50)), (some ((K.ofNat 40), false)), .pick (.t (K.ofNat 46)) (.t (K.ofNat 49)) (.c (.b false))⟩, ⟨(some (K.ofNat 51)), (some ((K.ofNat 40), false)), .mv (.t (K.ofNat 50))⟩, ⟨(some (K.ofNat 52)), (some ((K.ofNat 51), true)), .mv (.t (K.ofNat 11))⟩, ⟨(some (K.ofNat 53)), (some ((K.ofNat 51), true)), .mv (.t (K.ofNat 0))⟩, ⟨(some (K.ofNat 54)), (some ((K.ofNat 51), true)), .mv (.t (K.ofNat 8))⟩, ⟨(some (K.ofNat 55)), (some ((K.ofNat 51), true)), .iads 1 (.t (K.ofNat 53)) (.t (K.ofNat 54))⟩, ⟨(some (K.ofNat 56)), (some ((K.ofNat 51), true)), .ld (.t (K.ofNat 55))⟩, ⟨(some (K.ofNat 57)), (some ((K.ofNat 51), true)), .bin .and (.t (K.ofNat 52)) (.t (K.ofNat 56))⟩, ⟨(some (K.ofNat 58)), (some ((K.ofNat 51), true)), .bin .eql (.t (K.ofNat 57)) (.c (.i .i64 (.ofNat 0)))⟩, ⟨(some (K.ofNat 59)), (some ((K.ofNat 40), false)), .pick (.t (K.ofNat 51)) (.t (K.ofNat 58)) (.c (.b false))⟩, ⟨(some (K.ofNat 60)), none, .pick (.t (K.ofNat 40)) (.c (.b true)) (.t (K.ofNat 59))⟩, ⟨(some (K.ofNat 9)), none, .as (.t (K.ofNat 60))⟩]
noncomputable def f70_r10 : List EOper := [⟨(some (K.ofNat 31)), none, .mv (.t (K.ofNat 10))⟩, ⟨(some (K.ofNat 32)), none, .bin .add (.t (K.ofNat 31)) (.c (.i .i64 (.ofNat 1)))⟩, ⟨(some (K.ofNat 10)), none, .as (.t (K.ofNat 32))⟩]
noncomputable def f70_l0 : EC := (.seq (.seq (.reg f70_r7) (.cond (.t (K.ofNat 30)) .skip (.exit 2))) (.seq (.block 3 (.seq (.reg f70_r8) (.reg f70_r9))) (.reg f70_r10)))
noncomputable def f70_r11 : List EOper := [⟨(some (K.ofNat 61)), none, .mv (.t (K.ofNat 9))⟩, ⟨(some (K.ofNat 62)), none, .not (.t (K.ofNat 61))⟩]
noncomputable def f70_r12 : List EOper := [⟨(some (K.ofNat 6)), none, .as (.c (.b false))⟩]
noncomputable def f70_r13 : List EOper := [⟨(some (K.ofNat 20)), none, .mv (.t (K.ofNat 8))⟩, ⟨(some (K.ofNat 21)), none, .bin .add (.t (K.ofNat 20)) (.c (.i .i64 (.ofNat 1)))⟩, ⟨(some (K.ofNat 8)), none, .as (.t (K.ofNat 21))⟩]
noncomputable def f70_l1 : EC := (.seq (.seq (.reg f70_r3) (.cond (.t (K.ofNat 19)) .skip (.exit 0))) (.seq (.block 1 (.seq (.seq (.reg f70_r4) (.cond (.t (K.ofNat 26)) (.exit 1) .skip)) (.seq (.reg f70_r5) (.seq (.seq (.reg f70_r6) (.block 2 (.loop f70_l0))) (.seq (.reg f70_r11) (.cond (.t (K.ofNat 62)) (.seq (.reg f70_r12) .ret) .skip)))))) (.reg f70_r13)))
noncomputable def f70_r14 : List EOper := [⟨(some (K.ofNat 6)), none, .as (.c (.b true))⟩]
noncomputable def f70_c : EC := (.seq (.reg f70_r0) (.seq (.reg f70_r1) (.seq (.seq (.reg f70_r2) (.block 0 (.loop f70_l1))) (.seq (.reg f70_r14) .ret))))
noncomputable def f70 : EF := ⟨63, [.tmp (K.ofNat 6)], f70_c, none⟩
theorem f70_rs : f70.rs = [.tmp (K.ofNat 6)] := of_eq_true (eq_self _)
section
variable {fs : T EF} {ro : Option K}
noncomputable def nxC (Q : List Nat) (m x y b : Nat) : Bool := decide (m / 2 ^ b % 2 = 1) && (decide (pop6 (lessC x (Q.getD b 0)) = 1) && decide (lessC x (Q.getD b 0) &&& y = 0))
noncomputable def nxA (Q : List Nat) (m x y j : Nat) : Bool := (List.range j).any (nxC Q m x y)
theorem nxA_succ {Q : List Nat} {m x y j : Nat} : nxA Q m x y (j + 1) = (nxA Q m x y j || nxC Q m x y j) := by
  unfold nxA; rw [List.range_succ, List.any_append]; simp
noncomputable def nxB (Q : List Nat) (m x a : Nat) : Bool := decide (m / 2 ^ a % 2 = 0) || nxA Q m x (Q.getD a 0) Q.length
/-- May the i-th piece come next, after those of m? -/
noncomputable def nextR (Q : List Nat) (m i : Nat) : Bool := (List.range Q.length).all (nxB Q m (Q.getD i 0))
def f70_I0 (h : H) (v : V) (Q : List Nat) (m i x a : Nat) (j : Nat) (fr : Fr) (h1 : H) : Prop := h1 = h ∧ j ≤ Q.length ∧ fr.get (K.ofNat 0) = some (v) ∧ fr.get (K.ofNat 1) = some (.i .i64 (m : Int)) ∧ fr.get (K.ofNat 2) = some (.i .i64 (i : Int)) ∧ fr.get (K.ofNat 7) = some (.i .i64 (x : Int)) ∧ fr.get (K.ofNat 8) = some (.i .i64 (a : Int)) ∧ fr.get (K.ofNat 9) = some (.b (nxA Q m x (Q.getD a 0) j)) ∧ fr.get (K.ofNat 10) = some (.i .i64 (j : Int))
theorem f70_inner {C : Ex → Fr → H → Prop} {h : H} {v : V} {Q : List Nat} {m i x a : Nat} {fr : Fr}
    (hp52 : ∀ m : Nat, m < 64 → ∀ h P, CallP fs (.fn (K.ofNat 52) []) [.i .i64 (m : Int)] h P = P (.i .i64 (pop6 m : Int)) h)
    (hs : Sl nE h v Q) (hQ : ∀ y ∈ Q, y < 64) (hQl : Q.length ≤ 60) (hx : x < 64) (ha : a < Q.length)
    (h0 : f70_I0 h v Q m i x a 0 fr h)
    (hq : ∀ fr, fr.get (K.ofNat 0) = some (v) ∧ fr.get (K.ofNat 1) = some (.i .i64 (m : Int)) ∧ fr.get (K.ofNat 2) = some (.i .i64 (i : Int)) ∧ fr.get (K.ofNat 7) = some (.i .i64 (x : Int)) ∧ fr.get (K.ofNat 8) = some (.i .i64 (a : Int)) ∧ fr.get (K.ofNat 9) = some (.b (nxA Q m x (Q.getD a 0) Q.length)) → C (.exit 2) fr h) :
    W fs ro (.loop f70_l0) C fr h := by
  refine W_loop (f70_I0 h v Q m i x a) (fun j => Q.length - j) ?_ 0 h0
  clear h0 fr
  rintro j fr h1 ⟨rfl, hj, g0, g1, g2, g7, g8, g9, g10⟩
  unfold f70_l0
  by_cases hlt : j < Q.length
  · have hlt' : (j : Int) < (Q.length : Int) := by omega
    obtain ⟨p, hp1, hp2⟩ := hs.at j hlt
    obtain ⟨q, hq1, hq2⟩ := hs.at a ha
    have hyj := hQ _ (List.getElem_mem hlt)
    have hya := hQ _ (List.getElem_mem ha)
    have gj : Q.getD j 0 = Q[j] := by simp [List.getD, hlt]
    have gA : Q.getD a 0 = Q[a] := by simp [List.getD, ha]
    have hsn := nxA_succ (Q := Q) (m := m) (x := x) (y := Q.getD a 0) (j := j)
    unfold nxC at hsn
    rw [gj] at hsn
    have hle := @less_le x Q[j]
    have an1 := andNot_n (show x < 9223372036854775808 by omega) (show Q[j] < 9223372036854775808 by omega)
    have an2 := and_n kmi (show lessC x Q[j] < 9223372036854775808 by omega) (show Q[a] < 9223372036854775808 by omega)
    have hrem : ((m / 2 ^ j : Nat) : Int).tmod 2 = ((m / 2 ^ j % 2 : Nat) : Int) := rfl
    have fin : ∀ fr b, nxA Q m x (Q.getD a 0) (j + 1) = b → fr.get (K.ofNat 0) = some (v) ∧ fr.get (K.ofNat 1) = some (.i .i64 (m : Int)) ∧ fr.get (K.ofNat 2) = some (.i .i64 (i : Int)) ∧ fr.get (K.ofNat 7) = some (.i .i64 (x : Int)) ∧ fr.get (K.ofNat 8) = some (.i .i64 (a : Int)) ∧ fr.get (K.ofNat 9) = some (.b b) ∧ fr.get (K.ofNat 10) = some (.i .i64 (j : Int)) →
        X fs f70_r10 (loopK (f70_I0 h1 v Q m i x a) (fun j => Q.length - j) j C .normal) fr h1 := by
      clear g0 g1 g2 g7 g8 g9 g10 fr
      rintro fr b rfl ⟨g0, g1, g2, g7, g8, g9, g10⟩
      simp (disch := omega) only [f70_r10, loopK_n, x_nil, x_mv, x_as, x_bin, kx, rvP_ok, okv_some, ev_t, ev_c, getV_some, putD_some, bin_add, of1, getK_set, ↓reduceIte, g10, fw64]
      exact ⟨j + 1, by omega, rfl, hlt, by simp (disch := omega) only [getK_set, Nat.reduceEqDiff, ↓reduceIte, g0, g1, g2, g7, g8, g9, and_self, Int.natCast_add, Int.natCast_one]⟩
    rw [gA] at g9 hsn fin
    cases e0 : nxA Q m x Q[a] j
    · rw [e0] at g9 hsn
      rw [Bool.false_or] at hsn
      by_cases e1 : m / 2 ^ j % 2 = 1
      · have e1' : ((m / 2 ^ j % 2 : Nat) : Int) = 1 := by omega
        rw [decide_eq_true e1, Bool.true_and] at hsn
        by_cases e2 : pop6 (lessC x Q[j]) = 1
        · have e2' : ((pop6 (lessC x Q[j]) : Nat) : Int) = 1 := by omega
          rw [decide_eq_true e2, Bool.true_and] at hsn
          by_cases e3 : lessC x Q[j] &&& Q[a] = 0
          · have e3' : ((lessC x Q[j] &&& Q[a] : Nat) : Int) = 0 := by omega
            rw [decide_eq_true e3] at hsn
            simp (disch := omega) only [f70_r7, f70_r8, f70_r9, w_skip, w_reg, w_seq, w_cond, w_block, seqK_n, atK_n, ckB_b, cbB_b, okG_b, asG_t, asG_f, true_and, x_nil, x_g, x_mv, x_as, x_pick, x_ld, x_bin, x_iads, x_call, x_len, kx, rvP_ok, okv_some, ev_t, ev_c, evs_nil, evs_cons, getV_some, putD_some, bin_eql, bin_lss, bin_rem, pick_b, of0, of1, of2, getK_set, Nat.reduceEqDiff, ↓reduceIte, Bool.false_eq_true, Bool.not_false, g0, g1, g7, g8, g9, g10, hs.len, hlt', decide_true, hp1, hp2, hq1, hq2, nE, an1, an2, shr_i (show j ≤ 62 by omega), hrem, e1', hp52 _ (show lessC x Q[j] < 64 by omega), e2', e3']
            exact fin _ _ hsn (by simp (disch := omega) only [getK_set, Nat.reduceEqDiff, ↓reduceIte, g0, g1, g2, g7, g8, g10, and_self])
          · have e3' : ¬ ((lessC x Q[j] &&& Q[a] : Nat) : Int) = 0 := by omega
            rw [decide_eq_false e3] at hsn
            simp (disch := omega) only [f70_r7, f70_r8, f70_r9, w_skip, w_reg, w_seq, w_cond, w_block, seqK_n, atK_n, ckB_b, cbB_b, okG_b, asG_t, asG_f, true_and, x_nil, x_g, x_mv, x_as, x_pick, x_ld, x_bin, x_iads, x_call, x_len, kx, rvP_ok, okv_some, ev_t, ev_c, evs_nil, evs_cons, getV_some, putD_some, bin_eql, bin_lss, bin_rem, pick_b, of0, of1, of2, getK_set, Nat.reduceEqDiff, ↓reduceIte, Bool.false_eq_true, Bool.not_false, g0, g1, g7, g8, g9, g10, hs.len, hlt', decide_true, decide_false, hp1, hp2, hq1, hq2, nE, an1, an2, shr_i (show j ≤ 62 by omega), hrem, e1', hp52 _ (show lessC x Q[j] < 64 by omega), e2', e3']
            exact fin _ _ hsn (by simp (disch := omega) only [getK_set, Nat.reduceEqDiff, ↓reduceIte, g0, g1, g2, g7, g8, g10, and_self])
        · have e2' : ¬ ((pop6 (lessC x Q[j]) : Nat) : Int) = 1 := by omega
          rw [decide_eq_false e2, Bool.false_and] at hsn
          simp (disch := omega) only [f70_r7, f70_r8, f70_r9, w_skip, w_reg, w_seq, w_cond, w_block, seqK_n, atK_n, ckB_b, cbB_b, okG_b, asG_t, asG_f, true_and, x_nil, x_g, x_mv, x_as, x_pick, x_ld, x_bin, x_iads, x_call, x_len, kx, rvP_ok, okv_some, ev_t, ev_c, evs_nil, evs_cons, getV_some, putD_some, bin_eql, bin_lss, bin_rem, pick_b, of0, of1, of2, getK_set, Nat.reduceEqDiff, ↓reduceIte, Bool.false_eq_true, Bool.not_false, g0, g1, g7, g9, g10, hs.len, hlt', decide_true, decide_false, hp1, hp2, nE, an1, shr_i (show j ≤ 62 by omega), hrem, e1', hp52 _ (show lessC x Q[j] < 64 by omega), e2']
          exact fin _ _ hsn (by simp (disch := omega) only [getK_set, Nat.reduceEqDiff, ↓reduceIte, g0, g1, g2, g7, g8, g10, and_self])
      · have e1' : ¬ ((m / 2 ^ j % 2 : Nat) : Int) = 1 := by omega
        rw [decide_eq_false e1, Bool.false_and] at hsn
        simp (disch := omega) only [f70_r7, f70_r8, f70_r9, w_skip, w_reg, w_seq, w_cond, w_block, seqK_n, atK_n, ckB_b, cbB_b, okG_b, asG_t, asG_f, true_and, x_nil, x_g, x_mv, x_as, x_pick, x_ld, x_bin, x_iads, x_len, kx, rvP_ok, okv_some, ev_t, ev_c, getV_some, putD_some, bin_eql, bin_lss, bin_rem, pick_b, of0, of1, of2, getK_set, Nat.reduceEqDiff, ↓reduceIte, Bool.false_eq_true, Bool.not_false, g0, g1, g7, g9, g10, hs.len, hlt', decide_true, decide_false, hp1, hp2, nE, an1, shr_i (show j ≤ 62 by omega), hrem, e1']
        exact fin _ _ hsn (by simp (disch := omega) only [getK_set, Nat.reduceEqDiff, ↓reduceIte, g0, g1, g2, g7, g8, g10, and_self])
    · rw [e0] at g9 hsn
      rw [Bool.true_or] at hsn
      simp (disch := omega) only [f70_r7, f70_r8, f70_r9, w_skip, w_reg, w_seq, w_cond, w_block, seqK_n, atK_n, ckB_b, cbB_b, okG_b, okG_u, asG_f, asG_u, true_and, x_nil, x_g, x_mv, x_as, x_pick, x_ld, x_bin, x_iads, x_len, kx, rvP_ok, okv_some, ev_t, ev_c, getV_some, putD_some, bin_lss, pick_b, of0, of1, of2, getK_set, Nat.reduceEqDiff, ↓reduceIte, Bool.false_eq_true, Bool.not_true, g0, g7, g9, g10, hs.len, hlt', decide_true, hp1, hp2, nE, an1]
      exact fin _ _ hsn (by simp (disch := omega) only [getK_set, Nat.reduceEqDiff, ↓reduceIte, g0, g1, g2, g7, g8, g10, and_self])
  · obtain rfl : j = Q.length := by omega
    have hlt' : ¬ (Q.length : Int) < (Q.length : Int) := by omega
    simp (disch := omega) only [f70_r7, w_reg, w_seq, w_cond, w_exit, seqK_n, seqK_e, loopK_e, ckB_b, cbB_b, true_and, x_nil, x_mv, x_bin, x_len, kx, rvP_ok, okv_some, ev_t, getV_some, putD_some, bin_lss, getK_set, Nat.reduceEqDiff, ↓reduceIte, Bool.false_eq_true, g0, g10, hs.len, hlt', decide_false]
    exact hq _ (by simp (disch := omega) only [getK_set, Nat.reduceEqDiff, ↓reduceIte, g0, g1, g2, g7, g8, g9, and_self])
def f70_I1 (h : H) (v : V) (Q : List Nat) (m i : Nat) (a : Nat) (fr : Fr) (h1 : H) : Prop := h1 = h ∧ a ≤ Q.length ∧ (List.range a).all (nxB Q m (Q.getD i 0)) = true ∧ fr.get (K.ofNat 0) = some (v) ∧ fr.get (K.ofNat 1) = some (.i .i64 (m : Int)) ∧ fr.get (K.ofNat 2) = some (.i .i64 (i : Int)) ∧ fr.get (K.ofNat 7) = some (.i .i64 (Q.getD i 0 : Int)) ∧ fr.get (K.ofNat 8) = some (.i .i64 (a : Int))
theorem f70_ret {h : H} {v : V} {Q : List Nat} {m i : Nat}
    (hp52 : ∀ m : Nat, m < 64 → ∀ h P, CallP fs (.fn (K.ofNat 52) []) [.i .i64 (m : Int)] h P = P (.i .i64 (pop6 m : Int)) h)
    (hs : Sl nE h v Q) (hQ : ∀ y ∈ Q, y < 64) (hQl : Q.length ≤ 60) (hi : i < Q.length) :
    Ret fs f70 [v, .i .i64 (m : Int), .i .i64 (i : Int)] h fun u h' => u = .b (nextR Q m i) ∧ h' = h := by
  apply ret_of rfl
  show W fs none f70_c _ _ _
  unfold f70_c
  obtain ⟨p, hp1, hp2⟩ := hs.at i hi
  have hx := hQ _ (List.getElem_mem hi)
  have gi : Q.getD i 0 = Q[i] := by simp [List.getD, hi]
  simp (disch := omega) only [f70_r0, f70_r1, f70_r2, w_reg, w_seq, w_block, seqK_n, x_nil, x_mv, x_as, x_ld, x_iads, kx, rvP_ok, ev_t, ev_c, getV_some, putD_some, frame_3, of0, getK_set, Nat.reduceEqDiff, ↓reduceIte, hp1, hp2, nE]
  refine W_loop (f70_I1 h v Q m i) (fun a => Q.length - a) ?_ 0 ⟨rfl, Nat.zero_le _, by simp, by simp (disch := omega) only [getK_set, Nat.reduceEqDiff, ↓reduceIte, gi, and_self, Int.natCast_zero]⟩
  rintro a fr h1 ⟨rfl, ha, hal, g0, g1, g2, g7, g8⟩
  unfold f70_l1
  by_cases hlt : a < Q.length
  · have hlt' : (a : Int) < (Q.length : Int) := by omega
    have hs2 : (List.range (a + 1)).all (nxB Q m (Q.getD i 0)) = nxB Q m (Q.getD i 0) a := by
      rw [List.range_succ, List.all_append, hal, Bool.true_and]; simp
    unfold nxB at hs2
    have hrem : ((m / 2 ^ a : Nat) : Int).tmod 2 = ((m / 2 ^ a % 2 : Nat) : Int) := rfl
    by_cases e : m / 2 ^ a % 2 = 0
    · have e' : ((m / 2 ^ a % 2 : Nat) : Int) = 0 := by omega
      rw [decide_eq_true e, Bool.true_or] at hs2
      simp (disch := omega) only [f70_r3, f70_r4, f70_r13, w_skip, w_reg, w_seq, w_cond, w_block, w_exit, seqK_n, seqK_e, atK_e, loopK_n, ckB_b, cbB_b, true_and, x_nil, x_mv, x_as, x_bin, x_len, kx, rvP_ok, okv_some, ev_t, ev_c, getV_some, putD_some, bin_add, bin_eql, bin_lss, bin_rem, of0, of1, of2, getK_set, Nat.reduceEqDiff, ↓reduceIte, g0, g1, g8, hs.len, hlt', decide_true, shr_i (show a ≤ 62 by omega), hrem, e', fw64]
      exact ⟨a + 1, by omega, rfl, hlt, hs2, by simp (disch := omega) only [getK_set, Nat.reduceEqDiff, ↓reduceIte, g0, g1, g2, g7, and_self, Int.natCast_add, Int.natCast_one]⟩
    · have e' : ¬ ((m / 2 ^ a % 2 : Nat) : Int) = 0 := by omega
      rw [decide_eq_false e, Bool.false_or] at hs2
      simp (disch := omega) only [f70_r3, f70_r4, f70_r5, f70_r6, w_skip, w_reg, w_seq, w_cond, w_block, seqK_n, ckB_b, cbB_b, true_and, x_nil, x_mv, x_as, x_bin, x_len, kx, rvP_ok, okv_some, ev_t, ev_c, getV_some, putD_some, bin_eql, bin_lss, bin_rem, of0, of2, getK_set, Nat.reduceEqDiff, ↓reduceIte, Bool.false_eq_true, g0, g1, g8, hs.len, hlt', decide_true, decide_false, shr_i (show a ≤ 62 by omega), hrem, e']
      refine f70_inner (h := h1) (v := v) (Q := Q) (m := m) (i := i) (x := Q.getD i 0) (a := a) hp52 hs hQ hQl (by rw [gi]; exact hx) hlt ⟨rfl, Nat.zero_le _, by simp (disch := omega) only [true_and, Option.some.injEq, getK_set, Nat.reduceEqDiff, ↓reduceIte, g0, g1, g2, g7, g8, Int.natCast_zero]; exact ⟨rfl, trivial⟩⟩ ?_
      rintro fr ⟨g0, g1, g2, g7, g8, g9⟩
      cases e2 : nxA Q m (Q.getD i 0) (Q.getD a 0) Q.length
      · rw [e2] at g9 hs2
        have hf : nextR Q m i = false := by
          unfold nextR
          rw [List.all_eq_false]
          refine ⟨a, by simpa using hlt, ?_⟩
          unfold nxB
          rw [decide_eq_false e, e2]; simp
        simp (disch := omega) only [f70_r11, f70_r12, f70_rs, w_reg, w_seq, w_cond, w_ret, seqK_n, seqK_r, atK_r, atK_e, loopK_r, ckB_b, cbB_b, retK_r, x_nil, x_mv, x_as, x_not, kx, rvP_ok, ev_t, ev_c, getV_some, putD_some, onB_b, oGet_s, readRs_nil, readRs_t, retV_1, Option.some.injEq, exists_eq_left', getK_set, ↓reduceIte, Bool.not_false, g9, hf, and_self]
      · rw [e2] at g9 hs2
        simp (disch := omega) only [f70_r11, f70_r13, w_skip, w_reg, w_seq, w_cond, seqK_n, atK_n, atK_e, loopK_n, ckB_b, cbB_b, true_and, x_nil, x_mv, x_as, x_bin, x_not, kx, rvP_ok, okv_some, ev_t, ev_c, getV_some, putD_some, bin_add, onB_b, of1, getK_set, Nat.reduceEqDiff, ↓reduceIte, Bool.false_eq_true, Bool.not_true, g8, g9, fw64]
        exact ⟨a + 1, by omega, rfl, hlt, hs2, by simp (disch := omega) only [getK_set, Nat.reduceEqDiff, ↓reduceIte, g0, g1, g2, g7, and_self, Int.natCast_add, Int.natCast_one]⟩
  · obtain rfl : a = Q.length := by omega
    have hlt' : ¬ (Q.length : Int) < (Q.length : Int) := by omega
    have hf : nextR Q m i = true := hal
    simp (disch := omega) only [f70_r3, f70_r14, f70_rs, w_reg, w_seq, w_cond, w_exit, w_ret, seqK_n, seqK_e, atK_e, loopK_e, ckB_b, cbB_b, retK_r, x_nil, x_mv, x_as, x_bin, x_len, kx, rvP_ok, okv_some, ev_t, ev_c, getV_some, putD_some, bin_lss, oGet_s, readRs_nil, readRs_t, retV_1, Option.some.injEq, exists_eq_left', getK_set, Nat.reduceEqDiff, ↓reduceIte, Bool.false_eq_true, g0, g8, hs.len, hlt', decide_false, hf, and_self]
end
end Go.Ev
namespace Go.Ev
open Go Go.RowKit
noncomputable def f37_r0 : List EOper := [⟨(some (K.ofNat 4)), none, .as (.c (.b false))⟩]
noncomputable def f37_r1 : List EOper := [⟨(some (K.ofNat 5)), none, .as (.c (.i .i64 (.ofNat 0)))⟩]
noncomputable def f37_r2 : List EOper := [⟨(some (K.ofNat 6)), none, .as (.c (.i .i64 (.ofNat 0)))⟩]
noncomputable def f37_r3 : List EOper := [⟨(some (K.ofNat 8)), none, .mv (.t (K.ofNat 6))⟩, ⟨(some (K.ofNat 9)), none, .mv (.t (K.ofNat 1))⟩, ⟨(some (K.ofNat 10)), none, .len (.t (K.ofNat 9))⟩, ⟨(some (K.ofNat 11)), none, .bin .lss (.t (K.ofNat 8)) (.t (K.ofNat 10))⟩]
noncomputable def f37_r4 : List EOper := [⟨(some (K.ofNat 14)), none, .mv (.t (K.ofNat 1))⟩, ⟨(some (K.ofNat 15)), none, .mv (.t (K.ofNat 6))⟩, ⟨(some (K.ofNat 16)), none, .iads 1 (.t (K.ofNat 14)) (.t (K.ofNat 15))⟩, ⟨(some (K.ofNat 17)), none, .ld (.t (K.ofNat 16))⟩, ⟨(some (K.ofNat 7)), none, .as (.t (K.ofNat 17))⟩]
noncomputable def f37_r5 : List EOper := [⟨(some (K.ofNat 18)), none, .mv (.t (K.ofNat 7))⟩, ⟨(some (K.ofNat 19)), none, .bin .lss (.t (K.ofNat 18)) (.c (.i .i64 (.ofNat 0)))⟩, ⟨(some (K.ofNat 20)), none, .mv (.t (K.ofNat 19))⟩, ⟨(some (K.ofNat 21)), (some ((K.ofNat 20), false)), .mv (.t (K.ofNat 7))⟩, ⟨(some (K.ofNat 22)), (some ((K.ofNat 20), false)), .mv (.t (K.ofNat 0))⟩, ⟨(some (K.ofNat 23)), (some ((K.ofNat 20), false)), .len (.t (K.ofNat 22))⟩, ⟨(some (K.ofNat 24)), (some ((K.ofNat 20), false)), .bin .geq (.t (K.ofNat 21)) (.t (K.ofNat 23))⟩, ⟨(some (K.ofNat 25)), none, .pick (.t (K.ofNat 20)) (.c (.b true)) (.t (K.ofNat 24))⟩, ⟨(some (K.ofNat 26)), none, .mv (.t (K.ofNat 25))⟩, ⟨(some (K.ofNat 27)), (some ((K.ofNat 26), false)), .mv (.t (K.ofNat 5))⟩, ⟨(some (K.ofNat 28)), (some ((K.ofNat 26), false)), .mv (.t (K.ofNat 7))⟩, ⟨(some (K.ofNat 29)), (some ((K.ofNat 26), false)), .bin .shr (.t (K.ofNat 27)) (.t (K.ofNat 28))⟩, ⟨(some (K.ofNat 30)), (some ((K.ofNat 26), false)), .bin .rem (.t (K.ofNat 29)) (.c (.i .i64 (.ofNat 2)))⟩, ⟨(some (K.ofNat 31)), (some ((K.ofNat 26), false)), .bin .eql (.t (K.ofNat 30)) (.c (.i .i64 (.ofNat 1)))⟩, ⟨(some (K.ofNat 32)), none, .pick (.t (K.ofNat 26)) (.c (.b true)) (.t (K.ofNat 31))⟩, ⟨(some (K.ofNat 33)), none, .mv (.t (K.ofNat 32))⟩, ⟨(some (K.ofNat 34)), (some ((K.ofNat 33), false)), .mv (.t (K.ofNat 0))⟩, ⟨(some (K.ofNat 35)), (some ((K.ofNat 33), false)), .mv (.t (K.ofNat 5))⟩, ⟨(some (K.ofNat 36)), (some ((K.ofNat 33), false)), .mv (.t (K.ofNat 7))⟩, ⟨(some (K.ofNat 37)), (some ((K.ofNat 33), false)), .call (.c (.fn (K.ofNat 70) [])) [(.t (K.ofNat 34)), (.t (K.ofNat 35)), (.t (K.ofNat 36))]⟩, ⟨(some (K.ofNat 38)), (some ((K.ofNat 33), false)), .not (.t (K.ofNat 37))⟩, ⟨(some (K.ofNat 39)), none, .pick (.t (K.ofNat 33)) (.c (.b true)) (.t (K.ofNat 38))⟩]
noncomputable def f37_r6 : List EOper := [⟨(some (K.ofNat 4)), none, .as (.c (.b false))⟩]
noncomputable def f37_r7 : List EOper := [⟨(some (K.ofNat 40)), none, .mv (.t (K.ofNat 5))⟩, ⟨(some (K.ofNat 41)), none, .mv (.t (K.ofNat 7))⟩, ⟨(some (K.ofNat 42)), none, .bin .shl (.c (.i .i64 (.ofNat 1))) (.t (K.ofNat 41))⟩, ⟨(some (K.ofNat 43)), none, .bin .or (.t (K.ofNat 40)) (.t (K.ofNat 42))⟩, ⟨(some (K.ofNat 5)), none, .as (.t (K.ofNat 43))⟩]
noncomputable def f37_r8 : List EOper := [⟨(some (K.ofNat 12)), none, .mv (.t (K.ofNat 6))⟩, ⟨(some (K.ofNat 13)), none, .bin .add (.t (K.ofNat 12)) (.c (.i .i64 (.ofNat 1)))⟩, ⟨(some (K.ofNat 6)), none, .as (.t (K.ofNat 13))⟩]
noncomputable def f37_l0 : EC := (.seq (.seq (.reg f37_r3) (.cond (.t (K.ofNat 11)) .skip (.exit 0))) (.seq (.block 1 (.seq (.reg f37_r4) (.seq (.seq (.reg f37_r5) (.cond (.t (K.ofNat 39)) (.seq (.reg f37_r6) .ret) .skip)) (.reg f37_r7)))) (.reg f37_r8)))
noncomputable def f37_r9 : List EOper := [⟨(some (K.ofNat 44)), none, .mv (.t (K.ofNat 1))⟩, ⟨(some (K.ofNat 45)), none, .len (.t (K.ofNat 44))⟩, ⟨(some (K.ofNat 46)), none, .mv (.t (K.ofNat 0))⟩, ⟨(some (K.ofNat 47)), none, .len (.t (K.ofNat 46))⟩, ⟨(some (K.ofNat 48)), none, .bin .eql (.t (K.ofNat 45)) (.t (K.ofNat 47))⟩, ⟨(some (K.ofNat 49)), none, .mv (.t (K.ofNat 48))⟩, ⟨(some (K.ofNat 50)), (some ((K.ofNat 49), true)), .mv (.t (K.ofNat 0))⟩, ⟨(some (K.ofNat 51)), (some ((K.ofNat 49), true)), .call (.c (.fn (K.ofNat 71) [])) [(.t (K.ofNat 50))]⟩, ⟨(some (K.ofNat 52)), none, .pick (.t (K.ofNat 49)) (.t (K.ofNat 51)) (.c (.b false))⟩, ⟨(some (K.ofNat 4)), none, .as (.t (K.ofNat 52))⟩]
noncomputable def f37_c : EC := (.seq (.reg f37_r0) (.seq (.reg f37_r1) (.seq (.seq (.reg f37_r2) (.block 0 (.loop f37_l0))) (.seq (.reg f37_r9) .ret))))
noncomputable def f37 : EF := ⟨53, [.tmp (K.ofNat 4)], f37_c, none⟩
theorem f37_rs : f37.rs = [.tmp (K.ofNat 4)] := of_eq_true (eq_self _)
section
variable {fs : T EF} {ro : Option K}
noncomputable def shT (Q : List Nat) : List Int → Nat → Bool
  | [], _ => true
  | o :: t, m => !decide (o < 0) && (!decide ((Q.length : Int) ≤ o) && (!decide (m / 2 ^ o.toNat % 2 = 1) && (nextR Q m o.toNat && shT Q t (m ||| 2 ^ o.toNat))))
def castL (Q : List Nat) : List Int := Q.map fun (k : Nat) => (k : Int)
noncomputable def shellR (Q : List Nat) (O : List Int) : Bool := shT Q O 0 && (decide (O.length = Q.length) && pureS (castL Q))
def f37_I (h : H) (v w : V) (Q : List Nat) (O : List Int) (R : Bool) (i : Nat) (fr : Fr) (h1 : H) : Prop := ∃ m : Nat, h1 = h ∧ i ≤ O.length ∧ m < 2 ^ 60 ∧ shT Q (O.drop i) m = R ∧ fr.get (K.ofNat 0) = some (v) ∧ fr.get (K.ofNat 1) = some (w) ∧ fr.get (K.ofNat 5) = some (.i .i64 (m : Int)) ∧ fr.get (K.ofNat 6) = some (.i .i64 (i : Int))
theorem f37_ret {h : H} {v w : V} {Q : List Nat} {O : List Int}
    (hp52 : ∀ m : Nat, m < 64 → ∀ h P, CallP fs (.fn (K.ofNat 52) []) [.i .i64 (m : Int)] h P = P (.i .i64 (pop6 m : Int)) h) (h70 : fs.get (K.ofNat 70) = some f70) (h71 : fs.get (K.ofNat 71) = some f71)
    (hv : Sl iE h v (castL Q)) (hw : Sl iE h w O) (hQ : ∀ y ∈ Q, y < 64) (hQl : Q.length ≤ 60) (hO : O.length ≤ 1000000) :
    Ret fs f37 [v, w] h fun u h' => u = .b (shellR Q O) ∧ h' = h := by
  apply ret_of rfl
  show W fs none f37_c _ _ _
  unfold f37_c
  have hs : Sl nE h v Q := hv.unmap
  simp (disch := omega) only [f37_r0, f37_r1, f37_r2, w_reg, w_seq, w_block, seqK_n, x_nil, x_as, ev_c, putD_some, frame_2, of0]
  refine W_loop (f37_I h v w Q O (shT Q O 0)) (fun i => O.length - i) ?_ 0 ⟨0, rfl, Nat.zero_le _, by decide, rfl, by simp (disch := omega) only [getK_set, Nat.reduceEqDiff, ↓reduceIte, and_self, Int.natCast_zero]⟩
  rintro i fr h1 ⟨m, rfl, hi, hm, hR, g0, g1, g5, g6⟩
  have hm' : m < 1152921504606846976 := hm
  unfold f37_l0
  by_cases hlt : i < O.length
  · have hlt' : (i : Int) < (O.length : Int) := by omega
    obtain ⟨p, hp1, hp2⟩ := hw.at i hlt
    rw [List.drop_eq_getElem_cons hlt, shT] at hR
    have bad : shT Q O 0 = false → shellR Q O = false := fun e => by unfold shellR; rw [e, Bool.false_and]
    by_cases b1 : O[i] < 0
    · rw [decide_eq_true b1, Bool.not_true, Bool.false_and] at hR
      simp (disch := omega) only [f37_r3, f37_r4, f37_r5, f37_r6, f37_rs, w_skip, w_reg, w_seq, w_cond, w_block, w_ret, seqK_n, seqK_r, atK_r, loopK_r, ckB_b, cbB_b, okG_b, asG_f, retK_r, x_nil, x_g, x_mv, x_as, x_pick, x_ld, x_bin, x_iads, x_len, kx, rvP_ok, okv_some, ev_t, ev_c, getV_some, putD_some, bin_lss, pick_b, oGet_s, readRs_nil, readRs_t, retV_1, of0, of1, of2, Option.some.injEq, exists_eq_left', getK_set, Nat.reduceEqDiff, ↓reduceIte, Bool.false_eq_true, Bool.not_true, g1, g6, hw.len, hlt', decide_true, hp1, hp2, iE, b1, bad hR.symm, and_self]
    · rw [decide_eq_false b1, Bool.not_false, Bool.true_and] at hR
      by_cases b2 : (Q.length : Int) ≤ O[i]
      · rw [decide_eq_true b2, Bool.not_true, Bool.false_and] at hR
        simp (disch := omega) only [f37_r3, f37_r4, f37_r5, f37_r6, f37_rs, w_skip, w_reg, w_seq, w_cond, w_block, w_ret, seqK_n, seqK_r, atK_r, loopK_r, ckB_b, cbB_b, okG_b, asG_f, retK_r, x_nil, x_g, x_mv, x_as, x_pick, x_ld, x_bin, x_iads, x_len, kx, rvP_ok, okv_some, ev_t, ev_c, getV_some, putD_some, bin_lss, bin_geq, pick_b, oGet_s, readRs_nil, readRs_t, retV_1, of0, of1, of2, Option.some.injEq, exists_eq_left', getK_set, Nat.reduceEqDiff, ↓reduceIte, Bool.false_eq_true, Bool.not_true, Bool.not_false, g0, g1, g6, hw.len, hs.len, hlt', decide_true, decide_false, hp1, hp2, iE, b1, b2, bad hR.symm, and_self]
      · rw [decide_eq_false b2, Bool.not_false, Bool.true_and] at hR
        obtain ⟨k, hk⟩ := Int.eq_ofNat_of_zero_le (show 0 ≤ O[i] by omega)
        rw [hk] at hR hp2 b1 b2
        have hkl : k < Q.length := by omega
        simp only [Int.toNat_natCast] at hR
        have hrem : ((m / 2 ^ k : Nat) : Int).tmod 2 = ((m / 2 ^ k % 2 : Nat) : Int) := rfl
        by_cases b3 : m / 2 ^ k % 2 = 1
        · have b3' : ((m / 2 ^ k % 2 : Nat) : Int) = 1 := by omega
          rw [decide_eq_true b3, Bool.not_true, Bool.false_and] at hR
          simp (disch := omega) only [f37_r3, f37_r4, f37_r5, f37_r6, f37_rs, w_skip, w_reg, w_seq, w_cond, w_block, w_ret, seqK_n, seqK_r, atK_r, loopK_r, ckB_b, cbB_b, okG_b, asG_f, retK_r, x_nil, x_g, x_mv, x_as, x_pick, x_ld, x_bin, x_iads, x_len, kx, rvP_ok, okv_some, ev_t, ev_c, getV_some, putD_some, bin_eql, bin_lss, bin_geq, bin_rem, pick_b, oGet_s, readRs_nil, readRs_t, retV_1, of0, of1, of2, Option.some.injEq, exists_eq_left', getK_set, Nat.reduceEqDiff, ↓reduceIte, Bool.false_eq_true, Bool.not_true, Bool.not_false, g0, g1, g5, g6, hw.len, hs.len, hlt', decide_true, decide_false, hp1, hp2, iE, b1, b2, shr_i (show k ≤ 62 by omega), hrem, b3', bad hR.symm, and_self]
        · have b3' : ¬ ((m / 2 ^ k % 2 : Nat) : Int) = 1 := by omega
          rw [decide_eq_false b3, Bool.not_false, Bool.true_and] at hR
          simp (disch := omega) only [f37_r3, f37_r4, f37_r5, w_skip, w_reg, w_seq, w_cond, w_block, seqK_n, ckB_b, cbB_b, okG_b, asG_f, true_and, x_nil, x_g, x_mv, x_as, x_pick, x_ld, x_bin, x_iads, x_call, x_len, kx, rvP_ok, okv_some, ev_t, ev_c, evs_nil, evs_cons, getV_some, putD_some, bin_eql, bin_lss, bin_geq, bin_rem, pick_b, of0, of1, of2, getK_set, Nat.reduceEqDiff, ↓reduceIte, Bool.false_eq_true, Bool.not_false, g0, g1, g5, g6, hw.len, hs.len, hlt', decide_true, decide_false, hp1, hp2, iE, b1, b2, shr_i (show k ≤ 62 by omega), hrem, b3']
          refine (callP_0 (ef := f70) h70 rfl (f70_ret (m := m) hp52 hs hQ hQl hkl)).mono ?_
          rintro u h2 ⟨rfl, rfl⟩
          cases b4 : nextR Q m k
          · rw [b4, Bool.false_and] at hR
            simp (disch := omega) only [f37_r6, f37_rs, w_reg, w_seq, w_cond, w_ret, seqK_n, seqK_r, atK_r, loopK_r, ckB_b, cbB_b, okG_b, asG_f, retK_r, x_nil, x_g, x_as, x_pick, x_not, kx, rvP_ok, ev_t, ev_c, getV_some, putD_some, pick_b, onB_b, oGet_s, readRs_nil, readRs_t, retV_1, Option.some.injEq, exists_eq_left', getK_set, Nat.reduceEqDiff, ↓reduceIte, Bool.false_eq_true, Bool.not_false, bad hR.symm, and_self]
          · rw [b4, Bool.true_and] at hR
            have h2k : 2 ^ k < 2 ^ 60 := Nat.pow_lt_pow_right (by omega) (by omega)
            have h2k' : 2 ^ k < 1152921504606846976 := h2k
            have hor := Nat.or_lt_two_pow hm h2k
            simp (disch := omega) only [f37_r7, f37_r8, w_skip, w_reg, w_cond, seqK_n, atK_n, loopK_n, ckB_b, cbB_b, okG_b, asG_f, true_and, x_nil, x_g, x_mv, x_as, x_pick, x_bin, x_not, kx, rvP_ok, okv_some, ev_t, ev_c, getV_some, putD_some, bin_add, pick_b, onB_b, of1, getK_set, Nat.reduceEqDiff, ↓reduceIte, Bool.false_eq_true, Bool.not_true, Bool.not_false, g5, g6, shl_i (show k ≤ 62 by omega), or_n (show m < 9223372036854775808 by omega) (show 2 ^ k < 9223372036854775808 by omega), fw64]
            exact ⟨i + 1, by omega, m ||| 2 ^ k, rfl, hlt, hor, hR, by simp (disch := omega) only [getK_set, Nat.reduceEqDiff, ↓reduceIte, g0, g1, and_self, Int.natCast_add, Int.natCast_one]⟩
  · obtain rfl : i = O.length := by omega
    have hlt' : ¬ (O.length : Int) < (O.length : Int) := by omega
    rw [List.drop_length, shT] at hR
    by_cases e : O.length = Q.length
    · have e' : (O.length : Int) = (Q.length : Int) := by omega
      have hf : shellR Q O = pureS (castL Q) := by unfold shellR; rw [← hR, decide_eq_true e]; simp
      simp (disch := omega) only [f37_r3, f37_r9, w_reg, w_seq, w_cond, w_exit, seqK_n, seqK_e, atK_e, loopK_e, ckB_b, cbB_b, okG_b, asG_t, true_and, x_nil, x_g, x_mv, x_bin, x_call, x_len, kx, rvP_ok, okv_some, ev_t, ev_c, evs_nil, evs_cons, getV_some, putD_some, bin_eql, bin_lss, getK_set, Nat.reduceEqDiff, ↓reduceIte, Bool.false_eq_true, g0, g1, g6, hw.len, hs.len, Int.lt_irrefl, decide_false, decide_true, e']
      refine (callP_0 (ef := f71) h71 rfl (f71_ret hp52 hv (by simp [castL]; omega) (fun s hs => by
        obtain ⟨k, hk, rfl⟩ := List.mem_map.1 hs
        exact ⟨k, hQ k hk, rfl⟩))).mono ?_
      rintro u h2 ⟨rfl, rfl⟩
      simp (disch := omega) only [f37_rs, w_ret, seqK_n, retK_r, x_nil, x_as, x_pick, kx, rvP_ok, ev_t, ev_c, getV_some, putD_some, pick_b, oGet_s, readRs_nil, readRs_t, retV_1, Option.some.injEq, exists_eq_left', getK_set, Nat.reduceEqDiff, ↓reduceIte, hf, and_self]
    · have e' : ¬ (O.length : Int) = (Q.length : Int) := by omega
      have hf : shellR Q O = false := by unfold shellR; rw [decide_eq_false e]; simp
      simp (disch := omega) only [f37_r3, f37_r9, f37_rs, w_reg, w_seq, w_cond, w_exit, w_ret, seqK_n, seqK_e, atK_e, loopK_e, ckB_b, cbB_b, okG_b, asG_t, retK_r, x_nil, x_g, x_mv, x_as, x_pick, x_bin, x_len, kx, rvP_ok, okv_some, ev_t, ev_c, getV_some, putD_some, bin_eql, bin_lss, pick_b, oGet_s, readRs_nil, readRs_t, retV_1, Option.some.injEq, exists_eq_left', getK_set, Nat.reduceEqDiff, ↓reduceIte, Bool.false_eq_true, g0, g1, g6, hw.len, hs.len, hlt', decide_false, e', hf, and_self]
end
end Go.Ev
namespace Go.Ev
open Go Go.RowKit
noncomputable def f36_r0 : List EOper := [⟨(some (K.ofNat 2)), none, .as (.c (.b false))⟩]
noncomputable def f36_r1 : List EOper := [⟨(some (K.ofNat 6)), none, .mv (.t (K.ofNat 0))⟩, ⟨(some (K.ofNat 7)), none, .len (.t (K.ofNat 6))⟩, ⟨(some (K.ofNat 8)), none, .bin .shl (.c (.i .i64 (.ofNat 1))) (.t (K.ofNat 7))⟩, ⟨(some (K.ofNat 9)), none, .mkslice 1 [(.b false)] (.t (K.ofNat 8))⟩, ⟨(some (K.ofNat 3)), none, .as (.t (K.ofNat 9))⟩]
noncomputable def f36_r2 : List EOper := [⟨(some (K.ofNat 10)), none, .mv (.t (K.ofNat 3))⟩, ⟨(some (K.ofNat 11)), none, .iads 1 (.t (K.ofNat 10)) (.c (.i .i64 (.ofNat 0)))⟩, ⟨none, none, .st 1 (.t (K.ofNat 11)) (.c (.b true))⟩]
noncomputable def f36_r3 : List EOper := [⟨(some (K.ofNat 4)), none, .as (.c (.i .i64 (.ofNat 0)))⟩]
noncomputable def f36_r4 : List EOper := [⟨(some (K.ofNat 12)), none, .mv (.t (K.ofNat 4))⟩, ⟨(some (K.ofNat 13)), none, .mv (.t (K.ofNat 3))⟩, ⟨(some (K.ofNat 14)), none, .len (.t (K.ofNat 13))⟩, ⟨(some (K.ofNat 15)), none, .bin .lss (.t (K.ofNat 12)) (.t (K.ofNat 14))⟩]
noncomputable def f36_r5 : List EOper := [⟨(some (K.ofNat 5)), none, .as (.c (.i .i64 (.ofNat 0)))⟩]
noncomputable def f36_r6 : List EOper := [⟨(some (K.ofNat 18)), none, .mv (.t (K.ofNat 5))⟩, ⟨(some (K.ofNat 19)), none, .mv (.t (K.ofNat 0))⟩, ⟨(some (K.ofNat 20)), none, .len (.t (K.ofNat 19))⟩, ⟨(some (K.ofNat 21)), none, .bin .lss (.t (K.ofNat 18)) (.t (K.ofNat 20))⟩, ⟨(some (K.ofNat 22)), none, .mv (.t (K.ofNat 21))⟩, ⟨(some (K.ofNat 23)), (some ((K.ofNat 22), true)), .mv (.t (K.ofNat 3))⟩, ⟨(some (K.ofNat 24)), (some ((K.ofNat 22), true)), .mv (.t (K.ofNat 4))⟩, ⟨(some (K.ofNat 25)), (some ((K.ofNat 22), true)), .iads 1 (.t (K.ofNat 23)) (.t (K.ofNat 24))⟩, ⟨(some (K.ofNat 26)), (some ((K.ofNat 22), true)), .ld (.t (K.ofNat 25))⟩, ⟨(some (K.ofNat 27)), none, .pick (.t (K.ofNat 22)) (.t (K.ofNat 26)) (.c (.b false))⟩]
noncomputable def f36_r7 : List EOper := [⟨(some (K.ofNat 30)), none, .mv (.t (K.ofNat 4))⟩, ⟨(some (K.ofNat 31)), none, .mv (.t (K.ofNat 5))⟩, ⟨(some (K.ofNat 32)), none, .bin .shr (.t (K.ofNat 30)) (.t (K.ofNat 31))⟩, ⟨(some (K.ofNat 33)), none, .bin .rem (.t (K.ofNat 32)) (.c (.i .i64 (.ofNat 2)))⟩, ⟨(some (K.ofNat 34)), none, .bin .eql (.t (K.ofNat 33)) (.c (.i .i64 (.ofNat 0)))⟩, ⟨(some (K.ofNat 35)), none, .mv (.t (K.ofNat 34))⟩, ⟨(some (K.ofNat 36)), (some ((K.ofNat 35), true)), .mv (.t (K.ofNat 0))⟩, ⟨(some (K.ofNat 37)), (some ((K.ofNat 35), true)), .mv (.t (K.ofNat 4))⟩, ⟨(some (K.ofNat 38)), (some ((K.ofNat 35), true)), .mv (.t (K.ofNat 5))⟩, ⟨(some (K.ofNat 39)), (some ((K.ofNat 35), true)), .call (.c (.fn (K.ofNat 70) [])) [(.t (K.ofNat 36)), (.t (K.ofNat 37)), (.t (K.ofNat 38))]⟩, ⟨(some (K.ofNat 40)), none, .pick (.t (K.ofNat 35)) (.t (K.ofNat 39)) (.c (.b false))⟩]
noncomputable def f36_r8 : List EOper := [⟨(some (K.ofNat 41)), none, .mv (.t (K.ofNat 3))⟩, ⟨(some (K.ofNat 42)), none, .mv (.t (K.ofNat 4))⟩, ⟨(some (K.ofNat 43)), none, .mv (.t (K.ofNat 5))⟩, ⟨(some (K.ofNat 44)), none, .bin .shl (.c (.i .i64 (.ofNat 1))) (.t (K.ofNat 43))⟩, ⟨(some (K.ofNat 45)), none, .bin .or (.t (K.ofNat 42)) (.t (K.ofNat 44))⟩, ⟨(some (K.ofNat 46)), none, .iads 1 (.t (K.ofNat 41)) (.t (K.ofNat 45))⟩, ⟨none, none, .st 1 (.t (K.ofNat 46)) (.c (.b true))⟩]
noncomputable def f36_r9 : List EOper := [⟨(some (K.ofNat 28)), none, .mv (.t (K.ofNat 5))⟩, ⟨(some (K.ofNat 29)), none, .bin .add (.t (K.ofNat 28)) (.c (.i .i64 (.ofNat 1)))⟩, ⟨(some (K.ofNat 5)), none, .as (.t (K.ofNat 29))⟩]
noncomputable def f36_l0 : EC := (.seq (.seq (.reg f36_r6) (.cond (.t (K.ofNat 27)) .skip (.exit 2))) (.seq (.block 3 (.seq (.reg f36_r7) (.cond (.t (K.ofNat 40)) (.reg f36_r8) .skip))) (.reg f36_r9)))
noncomputable def f36_r10 : List EOper := [⟨(some (K.ofNat 16)), none, .mv (.t (K.ofNat 4))⟩, ⟨(some (K.ofNat 17)), none, .bin .add (.t (K.ofNat 16)) (.c (.i .i64 (.ofNat 1)))⟩, ⟨(some (K.ofNat 4)), none, .as (.t (K.ofNat 17))⟩]
noncomputable def f36_l1 : EC := (.seq (.seq (.reg f36_r4) (.cond (.t (K.ofNat 15)) .skip (.exit 0))) (.seq (.block 1 (.seq (.reg f36_r5) (.block 2 (.loop f36_l0)))) (.reg f36_r10)))
noncomputable def f36_r11 : List EOper := [⟨(some (K.ofNat 47)), none, .mv (.t (K.ofNat 0))⟩, ⟨(some (K.ofNat 48)), none, .call (.c (.fn (K.ofNat 71) [])) [(.t (K.ofNat 47))]⟩, ⟨(some (K.ofNat 49)), none, .mv (.t (K.ofNat 48))⟩, ⟨(some (K.ofNat 50)), (some ((K.ofNat 49), true)), .mv (.t (K.ofNat 3))⟩, ⟨(some (K.ofNat 51)), (some ((K.ofNat 49), true)), .mv (.t (K.ofNat 3))⟩, ⟨(some (K.ofNat 52)), (some ((K.ofNat 49), true)), .len (.t (K.ofNat 51))⟩, ⟨(some (K.ofNat 53)), (some ((K.ofNat 49), true)), .bin .sub (.t (K.ofNat 52)) (.c (.i .i64 (.ofNat 1)))⟩, ⟨(some (K.ofNat 54)), (some ((K.ofNat 49), true)), .iads 1 (.t (K.ofNat 50)) (.t (K.ofNat 53))⟩, ⟨(some (K.ofNat 55)), (some ((K.ofNat 49), true)), .ld (.t (K.ofNat 54))⟩, ⟨(some (K.ofNat 56)), none, .pick (.t (K.ofNat 49)) (.t (K.ofNat 55)) (.c (.b false))⟩, ⟨(some (K.ofNat 2)), none, .as (.t (K.ofNat 56))⟩]
noncomputable def f36_c : EC := (.seq (.reg f36_r0) (.seq (.reg f36_r1) (.seq (.reg f36_r2) (.seq (.seq (.reg f36_r3) (.block 0 (.loop f36_l1))) (.seq (.reg f36_r11) .ret)))))
noncomputable def f36 : EF := ⟨57, [.tmp (K.ofNat 2)], f36_c, none⟩
theorem f36_rs : f36.rs = [.tmp (K.ofNat 2)] := of_eq_true (eq_self _)
section
variable {fs : T EF} {ro : Option K}
theorem mks_bools {h : H} {k : IntKind} {n : Nat} (hn : n ≤ 1000000) : mksV 1 [.b false] h (.i k (n : Int)) = .ok (.sl h.nx 0 n 1) (h.new (.cells (n * 1) (rep [.b false] n))) := by
  show (bif Nat.ble n 1000000 then RV.ok (.sl h.nx 0 n 1) (h.new (.cells (n * 1) (rep [.b false] n))) else .no) = _
  rw [Nat.ble_eq_true_of_le hn]; rfl
theorem mks_slb {h : H} {n : Nat} : Sl V.b (h.new (.cells (n * 1) (rep [.b false] n))) (.sl h.nx 0 n 1) (List.replicate n false) :=
  .inr ⟨h.nx, 0, n * 1, rep [.b false] n, by rw [List.length_replicate], get_new_same, by rw [rep_cell, List.length_replicate, Nat.mul_one], by rw [List.length_replicate]; omega, fun i hi => by
    have hi : i < n := by simpa using hi
    rw [rep_cell, Nat.zero_add, List.getElem?_replicate, if_pos hi, List.getElem_replicate]⟩
/-- May the i-th piece come after those of m? -/
def okN (Q : List Nat) (m i : Nat) : Prop := i < Q.length ∧ m / 2 ^ i % 2 = 0 ∧ nextR Q m i = true
inductive Reach (Q : List Nat) : Nat → Prop
  | zero : Reach Q 0
  | step {m i : Nat} : Reach Q m → okN Q m i → Reach Q (m ||| 2 ^ i)
structure TabI (Q : List Nat) (L : List Bool) (a j : Nat) : Prop where
  len : L.length = 2 ^ Q.length
  sound : ∀ m, L.getD m false = true → Reach Q m
  zero : L.getD 0 false = true
  below : ∀ m, m < a → L.getD m false = true → ∀ i, okN Q m i → L.getD (m ||| 2 ^ i) false = true
  now : L.getD a false = true → ∀ i, i < j → okN Q a i → L.getD (a ||| 2 ^ i) false = true
theorem getD_set {L : List Bool} {k m : Nat} (hk : k < L.length) : (L.set k true).getD m false = if k = m then true else L.getD m false := by
  simp only [List.getD]
  rw [List.getElem?_set]
  by_cases e : k = m
  · rw [if_pos e, if_pos hk, if_pos e]; rfl
  · rw [if_neg e, if_neg e]
theorem or_gt {a i : Nat} (h : a / 2 ^ i % 2 = 0) : a < a ||| 2 ^ i := by
  have h1 : a ≤ a ||| 2 ^ i := Nat.left_le_or
  rcases Nat.lt_or_ge a (a ||| 2 ^ i) with h2 | h2
  · exact h2
  · have e : a ||| 2 ^ i = a := by omega
    have := congrArg (fun n => Nat.testBit n i) e
    simp only [Nat.testBit_or, Nat.testBit_two_pow_self, Bool.or_true] at this
    rw [Nat.testBit_eq_decide_div_mod_eq, h] at this
    simp at this
theorem TabI.put {Q : List Nat} {L : List Bool} {a j : Nat} (t : TabI Q L a j) (ha : L.getD a false = true) (ho : okN Q a j) (hk : a ||| 2 ^ j < L.length) : TabI Q (L.set (a ||| 2 ^ j) true) a (j + 1) := by
  have hgt := or_gt ho.2.1
  refine ⟨by rw [List.length_set]; exact t.len, fun m hm => ?_, ?_, fun m hm h1 i hi => ?_, fun h1 i hij hi => ?_⟩
  · rw [getD_set hk] at hm
    by_cases e : a ||| 2 ^ j = m
    · rw [← e]; exact .step (t.sound a ha) ho
    · rw [if_neg e] at hm; exact t.sound m hm
  · rw [getD_set hk]; split
    · rfl
    · exact t.zero
  · rw [getD_set hk, if_neg (by omega)] at h1
    rw [getD_set hk]; split
    · rfl
    · exact t.below m hm h1 i hi
  · rw [getD_set hk]
    by_cases e : i = j
    · subst e; rw [if_pos rfl]
    · split
      · rfl
      · exact t.now ha i (by omega) hi
theorem TabI.skip {Q : List Nat} {L : List Bool} {a j : Nat} (t : TabI Q L a j) (h : ¬ okN Q a j) : TabI Q L a (j + 1) :=
  ⟨t.len, t.sound, t.zero, t.below, fun h1 i hij hi => by
    by_cases e : i = j
    · subst e; exact absurd hi h
    · exact t.now h1 i (by omega) hi⟩
theorem TabI.next {Q : List Nat} {L : List Bool} {a j : Nat} (t : TabI Q L a j) (h : L.getD a false = true → Q.length ≤ j) : TabI Q L (a + 1) 0 :=
  ⟨t.len, t.sound, t.zero, fun m hm h1 i hi => by
    by_cases e : m = a
    · subst e; exact t.now h1 i (Nat.lt_of_lt_of_le hi.1 (h h1)) hi
    · exact t.below m (by omega) h1 i hi, fun h1 i hij => by omega⟩
theorem TabI.reach {Q : List Nat} {L : List Bool} (t : TabI Q L (2 ^ Q.length) 0) {m : Nat} (h : Reach Q m) : m < 2 ^ Q.length ∧ L.getD m false = true := by
  induction h with
  | zero => exact ⟨Nat.two_pow_pos _, t.zero⟩
  | step _ ho ih => exact ⟨Nat.or_lt_two_pow ih.1 (Nat.pow_lt_pow_right (by omega) ho.1), t.below _ ih.1 ih.2 _ ho⟩
def f36_I0 (h : H) (v u : V) (Q : List Nat) (a : Nat) (j : Nat) (fr : Fr) (h1 : H) : Prop := ∃ L, j ≤ Q.length ∧ TabI Q L a j ∧ Sl V.b h1 u L ∧ Grow h.nx.nat h h1 ∧ fr.get (K.ofNat 0) = some (v) ∧ fr.get (K.ofNat 3) = some (u) ∧ fr.get (K.ofNat 4) = some (.i .i64 (a : Int)) ∧ fr.get (K.ofNat 5) = some (.i .i64 (j : Int))
theorem f36_inner {C : Ex → Fr → H → Prop} {h h0 : H} {v u : V} {Q : List Nat} {a : Nat} {fr : Fr}
    (hp52 : ∀ m : Nat, m < 64 → ∀ h P, CallP fs (.fn (K.ofNat 52) []) [.i .i64 (m : Int)] h P = P (.i .i64 (pop6 m : Int)) h) (h70 : fs.get (K.ofNat 70) = some f70)
    (hs : Sl nE h v Q) (hc : HC h) (ho : Own h.nx.nat u) (hQ : ∀ y ∈ Q, y < 64) (hQl : Q.length ≤ 10) (ha : a < 2 ^ Q.length)
    (hi : f36_I0 h v u Q a 0 fr h0)
    (hq : ∀ fr h1 L, TabI Q L (a + 1) 0 → Sl V.b h1 u L → Grow h.nx.nat h h1 → fr.get (K.ofNat 0) = some (v) ∧ fr.get (K.ofNat 3) = some (u) ∧ fr.get (K.ofNat 4) = some (.i .i64 (a : Int)) → C (.exit 2) fr h1) :
    W fs ro (.loop f36_l0) C fr h0 := by
  refine W_loop (f36_I0 h v u Q a) (fun j => Q.length - j) ?_ 0 hi
  clear hi fr h0
  rintro j fr h1 ⟨L, hj, ht, hu, hgr, g0, g3, g4, g5⟩
  have hc1 := hgr.hc hc
  have hs1 := hs.grow hc hgr
  have hal : a < L.length := by rw [ht.len]; exact ha
  have hga : L.getD a false = L[a] := by simp [List.getD, hal]
  have h210 : 2 ^ Q.length ≤ 1024 := Nat.pow_le_pow_right (n := 2) (by omega) hQl
  unfold f36_l0
  by_cases hlt : j < Q.length
  · have hlt' : (j : Int) < (Q.length : Int) := by omega
    obtain ⟨p, hp1, hp2⟩ := hu.at a hal
    cases e0 : L[a]
    · rw [e0] at hp2 hga
      simp (disch := omega) only [f36_r6, w_reg, w_seq, w_cond, w_exit, seqK_n, seqK_e, loopK_e, ckB_b, cbB_b, okG_b, asG_t, true_and, x_nil, x_g, x_mv, x_pick, x_ld, x_bin, x_iads, x_len, kx, rvP_ok, okv_some, ev_t, ev_c, getV_some, putD_some, bin_lss, pick_b, getK_set, Nat.reduceEqDiff, ↓reduceIte, Bool.false_eq_true, g0, g3, g4, g5, hs1.len, hlt', decide_true, hp1, hp2]
      exact hq _ _ L (ht.next fun h => by rw [hga] at h; cases h) hu hgr (by simp (disch := omega) only [getK_set, Nat.reduceEqDiff, ↓reduceIte, g0, g3, g4, and_self])
    · rw [e0] at hp2 hga
      have hrem : ((a / 2 ^ j : Nat) : Int).tmod 2 = ((a / 2 ^ j % 2 : Nat) : Int) := rfl
      by_cases e1 : a / 2 ^ j % 2 = 0
      · have e1' : ((a / 2 ^ j % 2 : Nat) : Int) = 0 := by omega
        simp (disch := omega) only [f36_r6, f36_r7, w_skip, w_reg, w_seq, w_cond, w_block, seqK_n, ckB_b, cbB_b, okG_b, asG_t, true_and, x_nil, x_g, x_mv, x_pick, x_ld, x_bin, x_iads, x_call, x_len, kx, rvP_ok, okv_some, ev_t, ev_c, evs_nil, evs_cons, getV_some, putD_some, bin_eql, bin_lss, bin_rem, pick_b, of0, of2, getK_set, Nat.reduceEqDiff, ↓reduceIte, g0, g3, g4, g5, hs1.len, hlt', decide_true, hp1, hp2, shr_i (show j ≤ 62 by omega), hrem, e1']
        refine (callP_0 (ef := f70) h70 rfl (f70_ret (m := a) hp52 hs1 hQ (by omega) hlt)).mono ?_
        rintro w h2 ⟨rfl, rfl⟩
        cases e2 : nextR Q a j
        · simp (disch := omega) only [f36_r9, w_skip, w_reg, w_cond, seqK_n, atK_n, loopK_n, ckB_b, cbB_b, true_and, x_nil, x_mv, x_as, x_pick, x_bin, kx, rvP_ok, okv_some, ev_t, ev_c, getV_some, putD_some, bin_add, pick_b, of1, getK_set, Nat.reduceEqDiff, ↓reduceIte, Bool.false_eq_true, g5, fw64]
          exact ⟨j + 1, by omega, L, hlt, ht.skip (fun h => by have := h.2.2; rw [e2] at this; cases this), hu, hgr, by simp (disch := omega) only [getK_set, Nat.reduceEqDiff, ↓reduceIte, g0, g3, g4, and_self, Int.natCast_add, Int.natCast_one]⟩
        · have hok : okN Q a j := ⟨hlt, e1, e2⟩
          have h2j : 2 ^ j < 2 ^ Q.length := Nat.pow_lt_pow_right (by omega) hlt
          have hor := Nat.or_lt_two_pow ha h2j
          have hkl : a ||| 2 ^ j < L.length := by rw [ht.len]; exact hor
          obtain ⟨p2, id, m2, cs2, q1, q2, q3, ⟨off, nn, sz, q4⟩, q5⟩ := hu.st hkl (x := true) (c := .b true) rfl rfl hc1
          have hid := ho id off nn sz q4
          simp (disch := omega) only [f36_r8, f36_r9, w_reg, w_cond, seqK_n, atK_n, loopK_n, ckB_b, cbB_b, true_and, x_nil, x_mv, x_as, x_pick, x_st, x_bin, x_iads, kx, rvP_ok, okv_some, ev_t, ev_c, getV_some, putD_some, putD_none, bin_add, pick_b, of1, getK_set, Nat.reduceEqDiff, ↓reduceIte, g3, g4, g5, shl_i (show j ≤ 62 by omega), or_n (show a < 9223372036854775808 by omega) (show 2 ^ j < 9223372036854775808 by omega), q1, q2, fw64]
          exact ⟨j + 1, by omega, _, hlt, ht.put hga hok hkl, q3, hgr.trans (Grow.put hid q5 _), by simp (disch := omega) only [getK_set, Nat.reduceEqDiff, ↓reduceIte, g0, g3, g4, and_self, Int.natCast_add, Int.natCast_one]⟩
      · have e1' : ¬ ((a / 2 ^ j % 2 : Nat) : Int) = 0 := by omega
        simp (disch := omega) only [f36_r6, f36_r7, f36_r9, w_skip, w_reg, w_seq, w_cond, w_block, seqK_n, atK_n, loopK_n, ckB_b, cbB_b, okG_b, asG_t, true_and, x_nil, x_g, x_mv, x_as, x_pick, x_ld, x_bin, x_iads, x_len, kx, rvP_ok, okv_some, ev_t, ev_c, getV_some, putD_some, bin_add, bin_eql, bin_lss, bin_rem, pick_b, of0, of1, of2, getK_set, Nat.reduceEqDiff, ↓reduceIte, Bool.false_eq_true, g0, g3, g4, g5, hs1.len, hlt', decide_true, decide_false, hp1, hp2, shr_i (show j ≤ 62 by omega), hrem, e1', fw64]
        exact ⟨j + 1, by omega, L, hlt, ht.skip (fun h => e1 h.2.1), hu, hgr, by simp (disch := omega) only [getK_set, Nat.reduceEqDiff, ↓reduceIte, g0, g3, g4, and_self, Int.natCast_add, Int.natCast_one]⟩
  · obtain rfl : j = Q.length := by omega
    have hlt' : ¬ (Q.length : Int) < (Q.length : Int) := by omega
    simp (disch := omega) only [f36_r6, w_reg, w_seq, w_cond, w_exit, seqK_n, seqK_e, loopK_e, ckB_b, cbB_b, okG_b, asG_t, true_and, x_nil, x_g, x_mv, x_pick, x_bin, x_len, kx, rvP_ok, okv_some, ev_t, ev_c, getV_some, putD_some, bin_lss, pick_b, getK_set, Nat.reduceEqDiff, ↓reduceIte, Bool.false_eq_true, g0, g5, hs1.len, hlt', decide_false]
    exact hq _ _ L (ht.next fun _ => Nat.le_refl _) hu hgr (by simp (disch := omega) only [getK_set, Nat.reduceEqDiff, ↓reduceIte, g0, g3, g4, and_self])
def f36_I1 (h : H) (v u : V) (Q : List Nat) (a : Nat) (fr : Fr) (h1 : H) : Prop := ∃ L, a ≤ 2 ^ Q.length ∧ TabI Q L a 0 ∧ Sl V.b h1 u L ∧ Grow h.nx.nat h h1 ∧ fr.get (K.ofNat 0) = some (v) ∧ fr.get (K.ofNat 3) = some (u) ∧ fr.get (K.ofNat 4) = some (.i .i64 (a : Int))
theorem f36_ret {h : H} {v : V} {Q : List Nat}
    (hp52 : ∀ m : Nat, m < 64 → ∀ h P, CallP fs (.fn (K.ofNat 52) []) [.i .i64 (m : Int)] h P = P (.i .i64 (pop6 m : Int)) h) (h70 : fs.get (K.ofNat 70) = some f70) (h71 : fs.get (K.ofNat 71) = some f71)
    (hv : Sl iE h v (castL Q)) (hc : HC h) (hQ : ∀ y ∈ Q, y < 64) (hQl : Q.length ≤ 10) :
    Ret fs f36 [v] h fun r h' => ∃ b, r = .b (pureS (castL Q) && b) ∧ (b = true ↔ Reach Q (2 ^ Q.length - 1)) ∧ Grow h.nx.nat h h' := by
  apply ret_of rfl
  show W fs none f36_c _ _ _
  unfold f36_c
  have hs : Sl nE h v Q := hv.unmap
  have h210 : 2 ^ Q.length ≤ 1024 := Nat.pow_le_pow_right (n := 2) (by omega) hQl
  have hpos := Nat.two_pow_pos Q.length
  have n1 := nx_new h (.cells (2 ^ Q.length * 1) (rep [.b false] (2 ^ Q.length)))
  have g1 : Grow h.nx.nat h (h.new (.cells (2 ^ Q.length * 1) (rep [.b false] (2 ^ Q.length)))) := Grow.new (Nat.le_refl _) _
  obtain ⟨p2, id, m2, cs2, q1, q2, q3, ⟨off, nn, sz, q4⟩, q5⟩ := (mks_slb (h := h) (n := 2 ^ Q.length)).st (i := 0) (by rw [List.length_replicate]; exact hpos) (x := true) (c := .b true) rfl rfl (g1.hc hc)
  have q1' : ∀ k h1, iadsV 1 (.sl h.nx 0 (2 ^ Q.length) 1) (.i k 0) h1 = .ok p2 h1 := fun k h1 => q1 k h1
  have hown : Own h.nx.nat (.sl h.nx 0 (2 ^ Q.length) 1) := by rintro id off n sz e; cases e; exact Nat.le_refl _
  have hid := hown id off nn sz q4
  simp (disch := omega) only [f36_r0, f36_r1, f36_r2, f36_r3, w_reg, w_seq, w_block, seqK_n, x_nil, x_mv, x_as, x_st, x_bin, x_mks, x_iads, x_len, kx, rvP_ok, okv_some, ev_t, ev_c, getV_some, putD_some, putD_none, frame_1, of0, of1, getK_set, Nat.reduceEqDiff, ↓reduceIte, hs.len, shl_i (show Q.length ≤ 62 by omega), mks_bools (h := h) (k := .i64) (n := 2 ^ Q.length) (by omega), q1', q2]
  have g2 := g1.trans (Grow.put hid q5 (.cells m2 cs2))
  generalize (h.new (.cells (2 ^ Q.length * 1) (rep [.b false] (2 ^ Q.length)))).put id (.cells m2 cs2) = h2 at *
  generalize V.sl h.nx 0 (2 ^ Q.length) 1 = u at *
  have t0 : TabI Q ((List.replicate (2 ^ Q.length) false).set 0 true) 0 0 := by
    have hg : ∀ m, ((List.replicate (2 ^ Q.length) false).set 0 true).getD m false = decide (0 = m) := fun m => by
      rw [getD_set (by rw [List.length_replicate]; exact hpos)]
      by_cases e : 0 = m
      · rw [if_pos e, decide_eq_true e]
      · rw [if_neg e, decide_eq_false e]
        simp only [List.getD, List.getElem?_replicate]; split <;> rfl
    refine ⟨by simp, fun m hm => ?_, by rw [hg]; rfl, fun m hm => by omega, fun _ i hi => by omega⟩
    rw [hg, decide_eq_true_eq] at hm
    subst hm; exact .zero
  refine W_loop (f36_I1 h v u Q) (fun a => 2 ^ Q.length - a) ?_ 0 ⟨_, Nat.zero_le _, t0, q3, g2, by simp (disch := omega) only [getK_set, Nat.reduceEqDiff, ↓reduceIte, and_self, Int.natCast_zero]⟩
  clear t0 q3 g2 q1 q1' q2 q4 q5 hid g1 n1
  rintro a fr h3 ⟨L, ha, ht, hu, hgr, g0, g3, g4⟩
  have hlen := hu.len h3
  rw [ht.len] at hlen
  unfold f36_l1
  by_cases hlt : a < 2 ^ Q.length
  · have hlt' : (a : Int) < ((2 ^ Q.length : Nat) : Int) := by omega
    simp (disch := omega) only [f36_r4, f36_r5, w_skip, w_reg, w_seq, w_cond, w_block, seqK_n, ckB_b, cbB_b, true_and, x_nil, x_mv, x_as, x_bin, x_len, kx, rvP_ok, okv_some, ev_t, ev_c, getV_some, putD_some, bin_lss, of0, getK_set, Nat.reduceEqDiff, ↓reduceIte, g3, g4, hlen, hlt', decide_true]
    refine f36_inner (h := h) (v := v) (u := u) (Q := Q) (a := a) hp52 h70 hs hc hown hQ hQl hlt ⟨L, Nat.zero_le _, ht, hu, hgr, by simp (disch := omega) only [getK_set, Nat.reduceEqDiff, ↓reduceIte, g0, g3, g4, and_self, Int.natCast_zero]⟩ ?_
    rintro fr h4 L' ht' hu' hgr' ⟨g0, g3, g4⟩
    simp (disch := omega) only [f36_r10, w_reg, seqK_n, atK_n, atK_e, loopK_n, x_nil, x_mv, x_as, x_bin, kx, rvP_ok, okv_some, ev_t, ev_c, getV_some, putD_some, bin_add, of1, getK_set, ↓reduceIte, g4, fw64]
    exact ⟨a + 1, by omega, L', hlt, ht', hu', hgr', by simp (disch := omega) only [getK_set, Nat.reduceEqDiff, ↓reduceIte, g0, g3, and_self, Int.natCast_add, Int.natCast_one]⟩
  · obtain rfl : a = 2 ^ Q.length := by omega
    have hlt' : ¬ ((2 ^ Q.length : Nat) : Int) < ((2 ^ Q.length : Nat) : Int) := by omega
    have hsub : fw .i64 (((2 ^ Q.length : Nat) : Int) - 1) = ((2 ^ Q.length - 1 : Nat) : Int) := by rw [fw64 (by omega) (by omega)]; omega
    have hll : 2 ^ Q.length - 1 < L.length := by rw [ht.len]; omega
    obtain ⟨p, hp1, hp2⟩ := hu.at (2 ^ Q.length - 1) hll
    have hb : L[2 ^ Q.length - 1] = true ↔ Reach Q (2 ^ Q.length - 1) := by
      have hg : L.getD (2 ^ Q.length - 1) false = L[2 ^ Q.length - 1] := by simp [List.getD, hll]
      rw [← hg]
      exact ⟨fun h => ht.sound _ h, fun h => (ht.reach h).2⟩
    simp (disch := omega) only [f36_r4, f36_r11, w_reg, w_seq, w_cond, w_exit, seqK_n, seqK_e, atK_e, loopK_e, ckB_b, cbB_b, true_and, x_nil, x_mv, x_bin, x_call, x_len, kx, rvP_ok, okv_some, ev_t, ev_c, evs_nil, evs_cons, getV_some, putD_some, bin_lss, of1, getK_set, Nat.reduceEqDiff, ↓reduceIte, Bool.false_eq_true, g0, g3, g4, hlen, hlt', decide_false]
    refine (callP_0 (ef := f71) h71 rfl (f71_ret hp52 (hv.grow hc hgr) (by simp [castL]; omega) (fun s hs => by
      obtain ⟨k, hk, rfl⟩ := List.mem_map.1 hs
      exact ⟨k, hQ k hk, rfl⟩))).mono ?_
    rintro w h4 ⟨rfl, rfl⟩
    cases e : pureS (castL Q)
    · simp (disch := omega) only [f36_rs, w_ret, seqK_n, okG_b, asG_t, true_and, retK_r, x_nil, x_g, x_mv, x_as, x_pick, kx, rvP_ok, ev_t, ev_c, getV_some, putD_some, pick_b, oGet_s, readRs_nil, readRs_t, retV_1, Option.some.injEq, exists_eq_left', getK_set, Nat.reduceEqDiff, ↓reduceIte, Bool.false_eq_true]
      exact ⟨L[2 ^ Q.length - 1], rfl, hb, hgr⟩
    · simp (disch := omega) only [f36_rs, w_ret, seqK_n, okG_b, asG_t, true_and, retK_r, x_nil, x_g, x_mv, x_as, x_pick, x_ld, x_bin, x_iads, x_len, kx, rvP_ok, okv_some, ev_t, ev_c, getV_some, putD_some, bin_sub, pick_b, oGet_s, readRs_nil, readRs_t, retV_1, Option.some.injEq, exists_eq_left', getK_set, Nat.reduceEqDiff, ↓reduceIte, g3, hlen, hsub, hp1, hp2]
      exact ⟨L[2 ^ Q.length - 1], by rw [Bool.true_and], hb, hgr⟩
end
end Go.Ev
namespace Go.Ev
open Go Go.RowKit
def bK (L : List Bool) : V := .agg (L.map V.b)
def ents (M : List (List Bool)) : List (V × V) := M.map fun L => (bK L, .b true)
theorem eqK_b : ∀ (n : Nat) (L M : List Bool), L.length = n → M.length = n → eqK (List.replicate n none) (L.map V.b) (M.map V.b) = some (decide (L = M))
  | 0, [], [], _, _ => rfl
  | 0, _ :: _, _, h, _ => by simp at h
  | 0, [], _ :: _, _, h => by simp at h
  | n + 1, [], _, h, _ => by simp at h
  | n + 1, _ :: _, [], _, h => by simp at h
  | n + 1, a :: L, b :: M, h1, h2 => by
    have ih := eqK_b n L M (by simpa using h1) (by simpa using h2)
    show oGet (some (a == b)) none (fun r => oGet (eqK (List.replicate n none) (L.map V.b) (M.map V.b)) none fun s => some (r && s)) = _
    rw [ih]
    show some ((a == b) && decide (L = M)) = _
    by_cases e1 : a = b
    · by_cases e2 : L = M
      · simp [e1, e2]
      · simp [e1, e2]
    · simp [e1]
theorem keyEq_b {n : Nat} {L M : List Bool} (h1 : L.length = n) (h2 : M.length = n) : keyEq (.many (List.replicate n none)) (bK L) (bK M) = some (decide (L = M)) := eqK_b n L M h1 h2
theorem findE_b {n : Nat} {L : List Bool} (h1 : L.length = n) : ∀ (M : List (List Bool)), (∀ x ∈ M, x.length = n) → findE (.many (List.replicate n none)) (bK L) (ents M) = some (if L ∈ M then some (.b true) else none)
  | [], _ => by
    show (oGet (keyEq (.many (List.replicate n none)) (bK L) (bK L)) none fun _ => some none) = _
    rw [keyEq_b h1 h1]; rfl
  | x :: M, h => by
    have ih := findE_b h1 M fun y hy => h y (List.mem_cons_of_mem _ hy)
    show (oGet (keyEq (.many (List.replicate n none)) (bK L) (bK x)) none fun r => bif r then some (some (.b true)) else findE (.many (List.replicate n none)) (bK L) (ents M)) = _
    rw [keyEq_b h1 (h x (by simp)), ih]
    show (bif decide (L = x) then _ else _) = _
    by_cases e : L = x
    · rw [decide_eq_true e, if_pos (show L ∈ x :: M by rw [e]; exact List.mem_cons_self)]; rfl
    · rw [decide_eq_false e]
      by_cases e2 : L ∈ M
      · rw [if_pos e2, if_pos (show L ∈ x :: M from List.mem_cons_of_mem _ e2)]; rfl
      · rw [if_neg e2, if_neg (show ¬ L ∈ x :: M from fun h => by rcases List.mem_cons.1 h with h | h <;> contradiction)]; rfl
theorem updE_b {n : Nat} {L : List Bool} (h1 : L.length = n) : ∀ (M : List (List Bool)), (∀ x ∈ M, x.length = n) → L ∉ M → updE (.many (List.replicate n none)) (bK L) (.b true) (ents M) = some (ents (M ++ [L]))
  | [], _, _ => by
    show (oGet (keyEq (.many (List.replicate n none)) (bK L) (bK L)) none fun _ => some [(bK L, V.b true)]) = _
    rw [keyEq_b h1 h1]; rfl
  | x :: M, h, hn => by
    have e : ¬ L = x := fun e => hn (by rw [e]; simp)
    have ih := updE_b h1 M (fun y hy => h y (List.mem_cons_of_mem _ hy)) fun hm => hn (List.mem_cons_of_mem _ hm)
    show (oGet (keyEq (.many (List.replicate n none)) (bK L) (bK x)) none fun r => bif r then some ((bK L, V.b true) :: ents M) else oGet (updE (.many (List.replicate n none)) (bK L) (.b true) (ents M)) none fun l => some ((bK x, V.b true) :: l)) = _
    rw [keyEq_b h1 (h x (by simp)), ih, decide_eq_false e]; rfl
/-- A set of arrays, in memory. -/
def MapI (h : H) (id : K) (kt : Nat) (M : List (List Bool)) : Prop := h.get id = .map kt (ents M)
theorem MapI.look {n kt : Nat} {h : H} {id : K} {M : List (List Bool)} {L : List Bool} (hm : MapI h id kt M) (h1 : L.length = n) (h2 : ∀ x ∈ M, x.length = n) :
    lookV kt (.many (List.replicate n none)) (.b false) h (.m id) (bK L) false = .ok (.b (decide (L ∈ M))) h := by
  show ((h.get id).onM kt fun es => oGet (findE (.many (List.replicate n none)) (bK L) es) RV.no fun r => bif false then _ else RV.ok (oGet r (.b false) fun v => v) h) = _
  rw [hm]
  show (bif Nat.beq kt kt then (oGet (findE (.many (List.replicate n none)) (bK L) (ents M)) RV.no fun r => RV.ok (oGet r (.b false) fun v => v) h) else _) = _
  rw [Nat.beq_same, findE_b h1 M h2]
  by_cases e : L ∈ M
  · rw [if_pos e, decide_eq_true e]; rfl
  · rw [if_neg e, decide_eq_false e]; rfl
theorem MapI.put {n kt : Nat} {h : H} {id : K} {M : List (List Bool)} {L : List Bool} (hm : MapI h id kt M) (h1 : L.length = n) (h2 : ∀ x ∈ M, x.length = n) (hn : L ∉ M) :
    mupdV kt (.many (List.replicate n none)) h (.m id) (bK L) (.b true) = .ok undefV (h.put id (.map kt (ents (M ++ [L])))) ∧ MapI (h.put id (.map kt (ents (M ++ [L])))) id kt (M ++ [L]) := by
  refine ⟨?_, get_put_same⟩
  show ((h.get id).onM kt fun es => oGet (updE (.many (List.replicate n none)) (bK L) (.b true) es) RV.no fun es => RV.ok undefV (h.put id (.map kt es))) = _
  rw [hm]
  show (bif Nat.beq kt kt then (oGet (updE (.many (List.replicate n none)) (bK L) (.b true) (ents M)) RV.no fun es => RV.ok undefV (h.put id (.map kt es))) else _) = _
  rw [Nat.beq_same, updE_b h1 M h2 hn]; rfl
end Go.Ev
namespace Go.Ev
open Go Go.RowKit
section
variable {fs : T EF} {fr : Fr} {h h0 : H} {k k2 : K}
theorem frame_6 {v1 v2 v3 v4 v5 v6 : V} : frame .e [v1, v2, v3, v4, v5, v6] .nil = T.set (K.ofNat 5) v6 (T.set (K.ofNat 4) v5 (T.set (K.ofNat 3) v4 (T.set (K.ofNat 2) v3 (T.set (K.ofNat 1) v2 (T.set (K.ofNat 0) v1 .nil))))) := of_eq_true (eq_self _)
theorem callP_c {ef : EF} {args caps : List V} {P : V → H → Prop} (hf : fs.get k = some ef) (hn : ef.nv = none) (hr : Ret fs ef (args ++ caps) h P) : CallP fs (.fn k caps) args h P :=
  callP_of hf hn (by rw [cat_eq]; exact hr)
theorem fresh_two {n sz n2 sz2 : Nat} {x y : Blk} (hg : fr.get k = some (.sl h0.nx 0 n sz)) (hg2 : fr.get k2 = some (.sl (h0.new x).nx 0 n2 sz2)) : isFresh h0 ((h0.new x).new y) fr [k, k2] = true := by
  have n1 := nx_new h0 x
  have n2 := nx_new (h0.new x) y
  show freshL h0.nx.nat ((h0.new x).new y).nx.nat (oGet (slId (getV (fr.get k))) (oGet (slId (getV (fr.get k2))) [] fun id => [id]) fun id => id :: oGet (slId (getV (fr.get k2))) [] fun id => [id]) = true
  rw [hg, hg2]
  show (Nat.ble h0.nx.nat h0.nx.nat && Nat.blt h0.nx.nat ((h0.new x).new y).nx.nat && (!(h0.nx.beq (h0.new x).nx) && true) && (Nat.ble h0.nx.nat (h0.new x).nx.nat && Nat.blt (h0.new x).nx.nat ((h0.new x).new y).nx.nat && true && true)) = true
  have hb : h0.nx.beq (h0.new x).nx = false := by
    cases e : h0.nx.beq (h0.new x).nx
    · rfl
    · have := K.beq_eq e
      exact absurd this (kNe (by omega))
  rw [hb, Nat.ble_eq_true_of_le (Nat.le_refl _), Nat.ble_eq_true_of_le (show h0.nx.nat ≤ (h0.new x).nx.nat by omega), show Nat.blt h0.nx.nat ((h0.new x).new y).nx.nat = true from Nat.ble_eq_true_of_le (by omega), show Nat.blt (h0.new x).nx.nat ((h0.new x).new y).nx.nat = true from Nat.ble_eq_true_of_le (by omega)]
  rfl
theorem stay_lit {n sz off : Nat} {z : List V} {ps : List (Nat × Nat × EO)} {id : K} {cs : List V} (hg : fr.get k = some (.sl id 0 n sz)) (hb : h.get id = .cells (n * sz) cs) (hf : fillE fr z ps = some cs) (hq : beqL cs cs = true) : stays fs goNo fr h ⟨some k, none, .bslice n sz z ps⟩ = true := by
  show litOk fr h n sz z ps (getV (fr.get k)) = true
  rw [hg]
  show (Nat.beq 0 0 && Nat.beq n n && Nat.beq sz sz && (h.get id).onC false fun m cs => Nat.beq m (n * sz) && oGet (fillE fr z ps) false fun cs' => beqL cs cs') = true
  rw [hb, hf, Nat.beq_same, Nat.beq_same, Nat.beq_same]
  show (true && (Nat.beq (n * sz) (n * sz) && beqL cs cs)) = true
  rw [Nat.beq_same, hq]; rfl
end
end Go.Ev
