/-
  Functions of the seat: Check.
  Functions of the seat: tame.
  Functions of the seat: rank.
  Functions of the seat: cornersOf, border.
  Functions of the seat: AppendSeq, Collect, list, Faces.
  Functions of the seat: counts, Counts.
  Functions of the seat: borderRank, hollows, Hollows.
  Functions of the seat: hollows, Hollows.
  Functions of the seat: Hs, Euler.
  The law ShellsMakes: its round.
  What is true of sets: the greatest of all parts of some sets are the greatest of these.
-/
import Derived.Test.YtneacehpoaambaaPd
namespace Go.Ev
open Go Go.RowKit
noncomputable def f16_r0 : List EOper := [⟨(some (K.ofNat 4)), none, .as (.c (.i .i64 (.ofNat 0)))⟩]
noncomputable def f16_r1 : List EOper := [⟨(some (K.ofNat 9)), none, .mv (.t (K.ofNat 0))⟩, ⟨(some (K.ofNat 10)), none, .bin .lss (.t (K.ofNat 9)) (.c (.i .i64 (.ofNat 1)))⟩, ⟨(some (K.ofNat 11)), none, .mv (.t (K.ofNat 10))⟩, ⟨(some (K.ofNat 12)), (some ((K.ofNat 11), false)), .mv (.t (K.ofNat 0))⟩, ⟨(some (K.ofNat 13)), (some ((K.ofNat 11), false)), .bin .gtr (.t (K.ofNat 12)) (.c (.i .i64 (.ofNat 6)))⟩, ⟨(some (K.ofNat 14)), none, .pick (.t (K.ofNat 11)) (.c (.b true)) (.t (K.ofNat 13))⟩]
noncomputable def f16_r2 : List EOper := [⟨(some (K.ofNat 4)), none, .as (.c (.i .i64 (.ofNat 1)))⟩]
noncomputable def f16_r3 : List EOper := [⟨(some (K.ofNat 15)), none, .mv (.t (K.ofNat 1))⟩, ⟨(some (K.ofNat 16)), none, .len (.t (K.ofNat 15))⟩, ⟨(some (K.ofNat 17)), none, .bin .lss (.t (K.ofNat 16)) (.c (.i .i64 (.ofNat 1)))⟩, ⟨(some (K.ofNat 18)), none, .mv (.t (K.ofNat 17))⟩, ⟨(some (K.ofNat 19)), (some ((K.ofNat 18), false)), .mv (.t (K.ofNat 1))⟩, ⟨(some (K.ofNat 20)), (some ((K.ofNat 18), false)), .len (.t (K.ofNat 19))⟩, ⟨(some (K.ofNat 21)), (some ((K.ofNat 18), false)), .bin .gtr (.t (K.ofNat 20)) (.c (.i .i64 (.ofNat 10)))⟩, ⟨(some (K.ofNat 22)), none, .pick (.t (K.ofNat 18)) (.c (.b true)) (.t (K.ofNat 21))⟩]
noncomputable def f16_r4 : List EOper := [⟨(some (K.ofNat 4)), none, .as (.c (.i .i64 (.ofNat 10)))⟩]
noncomputable def f16_r5 : List EOper := [⟨(some (K.ofNat 23)), none, .mv (.t (K.ofNat 1))⟩, ⟨(some (K.ofNat 24)), none, .len (.t (K.ofNat 23))⟩, ⟨(some (K.ofNat 25)), none, .mv (.c (.i .i64 (.ofNat 0)))⟩]
noncomputable def f16_r6 : List EOper := [⟨(some (K.ofNat 26)), none, .bin .lss (.t (K.ofNat 25)) (.t (K.ofNat 24))⟩]
noncomputable def f16_r7 : List EOper := [⟨(some (K.ofNat 27)), none, .mv (.t (K.ofNat 25))⟩, ⟨(some (K.ofNat 28)), none, .iads 1 (.t (K.ofNat 23)) (.t (K.ofNat 25))⟩, ⟨(some (K.ofNat 29)), none, .ld (.t (K.ofNat 28))⟩, ⟨(some (K.ofNat 5)), none, .as (.t (K.ofNat 27))⟩, ⟨(some (K.ofNat 6)), none, .as (.t (K.ofNat 29))⟩]
noncomputable def f16_r8 : List EOper := [⟨(some (K.ofNat 30)), none, .mv (.t (K.ofNat 6))⟩, ⟨(some (K.ofNat 31)), none, .bin .lss (.t (K.ofNat 30)) (.c (.i .i64 (.ofNat 1)))⟩, ⟨(some (K.ofNat 32)), none, .mv (.t (K.ofNat 31))⟩, ⟨(some (K.ofNat 33)), (some ((K.ofNat 32), false)), .mv (.t (K.ofNat 6))⟩, ⟨(some (K.ofNat 34)), (some ((K.ofNat 32), false)), .mv (.t (K.ofNat 0))⟩, ⟨(some (K.ofNat 35)), (some ((K.ofNat 32), false)), .bin .shl (.c (.i .i64 (.ofNat 1))) (.t (K.ofNat 34))⟩, ⟨(some (K.ofNat 36)), (some ((K.ofNat 32), false)), .bin .geq (.t (K.ofNat 33)) (.t (K.ofNat 35))⟩, ⟨(some (K.ofNat 37)), none, .pick (.t (K.ofNat 32)) (.c (.b true)) (.t (K.ofNat 36))⟩]
noncomputable def f16_r9 : List EOper := [⟨(some (K.ofNat 4)), none, .as (.c (.i .i64 (.ofNat 10)))⟩]
noncomputable def f16_r10 : List EOper := [⟨(some (K.ofNat 38)), none, .mv (.t (K.ofNat 1))⟩, ⟨(some (K.ofNat 39)), none, .mv (.t (K.ofNat 5))⟩, ⟨(some (K.ofNat 40)), none, .slice 1 (.t (K.ofNat 38)) none (some (.t (K.ofNat 39))) none⟩, ⟨(some (K.ofNat 41)), none, .len (.t (K.ofNat 40))⟩, ⟨(some (K.ofNat 42)), none, .mv (.c (.i .i64 (.ofNat 0)))⟩]
noncomputable def f16_r11 : List EOper := [⟨(some (K.ofNat 43)), none, .bin .lss (.t (K.ofNat 42)) (.t (K.ofNat 41))⟩]
noncomputable def f16_r12 : List EOper := [⟨(some (K.ofNat 44)), none, .iads 1 (.t (K.ofNat 40)) (.t (K.ofNat 42))⟩, ⟨(some (K.ofNat 45)), none, .ld (.t (K.ofNat 44))⟩, ⟨(some (K.ofNat 8)), none, .as (.t (K.ofNat 45))⟩]
noncomputable def f16_r13 : List EOper := [⟨(some (K.ofNat 46)), none, .mv (.t (K.ofNat 8))⟩, ⟨(some (K.ofNat 47)), none, .mv (.t (K.ofNat 6))⟩, ⟨(some (K.ofNat 48)), none, .bin .geq (.t (K.ofNat 46)) (.t (K.ofNat 47))⟩, ⟨(some (K.ofNat 49)), none, .mv (.t (K.ofNat 48))⟩, ⟨(some (K.ofNat 50)), (some ((K.ofNat 49), false)), .mv (.t (K.ofNat 8))⟩, ⟨(some (K.ofNat 51)), (some ((K.ofNat 49), false)), .mv (.t (K.ofNat 6))⟩, ⟨(some (K.ofNat 52)), (some ((K.ofNat 49), false)), .call (.c (.fn (K.ofNat 54) [])) [(.t (K.ofNat 50)), (.t (K.ofNat 51))]⟩, ⟨(some (K.ofNat 53)), none, .pick (.t (K.ofNat 49)) (.c (.b true)) (.t (K.ofNat 52))⟩]
noncomputable def f16_r14 : List EOper := [⟨(some (K.ofNat 4)), none, .as (.c (.i .i64 (.ofNat 10)))⟩]
noncomputable def f16_r15 : List EOper := [⟨(some (K.ofNat 54)), none, .bin .add (.t (K.ofNat 42)) (.c (.i .i64 (.ofNat 1)))⟩, ⟨(some (K.ofNat 42)), none, .mv (.t (K.ofNat 54))⟩]
noncomputable def f16_l0 : EC := (.seq (.reg f16_r11) (.seq (.cond (.t (K.ofNat 43)) .skip (.exit 2)) (.seq (.block 3 (.seq (.reg f16_r12) (.seq (.reg f16_r13) (.cond (.t (K.ofNat 53)) (.seq (.reg f16_r14) .ret) .skip)))) (.reg f16_r15))))
noncomputable def f16_r16 : List EOper := [⟨(some (K.ofNat 55)), none, .bin .add (.t (K.ofNat 25)) (.c (.i .i64 (.ofNat 1)))⟩, ⟨(some (K.ofNat 25)), none, .mv (.t (K.ofNat 55))⟩]
noncomputable def f16_l1 : EC := (.seq (.reg f16_r6) (.seq (.cond (.t (K.ofNat 26)) .skip (.exit 0)) (.seq (.block 1 (.seq (.reg f16_r7) (.seq (.seq (.reg f16_r8) (.cond (.t (K.ofNat 37)) (.seq (.reg f16_r9) .ret) .skip)) (.seq (.reg f16_r10) (.block 2 (.loop f16_l0)))))) (.reg f16_r16))))
noncomputable def f16_r17 : List EOper := [⟨(some (K.ofNat 4)), none, .as (.c (.i .i64 (.ofNat 0)))⟩]
noncomputable def f16_c : EC := (.seq (.reg f16_r0) (.seq (.seq (.reg f16_r1) (.cond (.t (K.ofNat 14)) (.seq (.reg f16_r2) .ret) .skip)) (.seq (.seq (.reg f16_r3) (.cond (.t (K.ofNat 22)) (.seq (.reg f16_r4) .ret) .skip)) (.seq (.seq (.reg f16_r5) (.block 0 (.loop f16_l1))) (.seq (.reg f16_r17) .ret)))))
noncomputable def f16 : EF := ⟨56, [.tmp (K.ofNat 4)], f16_c, none⟩
theorem f16_rs : f16.rs = [.tmp (K.ofNat 4)] := of_eq_true (eq_self _)
section
variable {fs : T EF} {ro : Option K}
noncomputable def pairOk (x y : Int) : Bool := decide (y < x) && !ptI y x
noncomputable def okAt (n : Int) (S : List Int) (i : Nat) : Bool := decide (1 ≤ S.getD i 0) && decide (S.getD i 0 < 2 ^ n.toNat) && (S.take i).all (pairOk (S.getD i 0))
noncomputable def goodS (n : Int) (S : List Int) : Bool := decide (1 ≤ S.length) && decide (S.length ≤ 10) && (List.range S.length).all (okAt n S)
noncomputable def chkS (n : Int) (S : List Int) : Int := if n < 1 ∨ 6 < n then 1 else if goodS n S = true then 0 else 10
def f16_I0 (h : H) (v u : V) (S T : List Int) (n x : Int) (i : Nat) (j : Nat) (fr : Fr) (h1 : H) : Prop := h1 = h ∧ j ≤ T.length ∧ (T.take j).all (pairOk x) = true ∧ fr.get (K.ofNat 0) = some (.i .i64 n) ∧ fr.get (K.ofNat 1) = some (v) ∧ fr.get (K.ofNat 6) = some (.i .i64 x) ∧ fr.get (K.ofNat 23) = some (v) ∧ fr.get (K.ofNat 24) = some (.i .i64 (S.length : Int)) ∧ fr.get (K.ofNat 25) = some (.i .i64 (i : Int)) ∧ fr.get (K.ofNat 40) = some (u) ∧ fr.get (K.ofNat 41) = some (.i .i64 (T.length : Int)) ∧ fr.get (K.ofNat 42) = some (.i .i64 (j : Int))
theorem f16_inner {Q : Ex → Fr → H → Prop} {h : H} {v u : V} {S T : List Int} {n x : Int} {i : Nat} {fr : Fr}
    (hp : ∀ a b h P, CallP fs (.fn (K.ofNat 54) []) [.i .i64 a, .i .i64 b] h P = P (.b (ptI a b)) h) (hu : Sl iE h u T) (hT : T.length ≤ 10)
    (hg : fr.get (K.ofNat 0) = some (.i .i64 n) ∧ fr.get (K.ofNat 1) = some (v) ∧ fr.get (K.ofNat 6) = some (.i .i64 x) ∧ fr.get (K.ofNat 23) = some (v) ∧ fr.get (K.ofNat 24) = some (.i .i64 (S.length : Int)) ∧ fr.get (K.ofNat 25) = some (.i .i64 (i : Int)) ∧ fr.get (K.ofNat 40) = some (u) ∧ fr.get (K.ofNat 41) = some (.i .i64 (T.length : Int)) ∧ fr.get (K.ofNat 42) = some (.i .i64 0))
    (hq1 : T.all (pairOk x) = true → ∀ fr, fr.get (K.ofNat 0) = some (.i .i64 n) ∧ fr.get (K.ofNat 1) = some (v) ∧ fr.get (K.ofNat 23) = some (v) ∧ fr.get (K.ofNat 24) = some (.i .i64 (S.length : Int)) ∧ fr.get (K.ofNat 25) = some (.i .i64 (i : Int)) → Q (.exit 2) fr h)
    (hq2 : T.all (pairOk x) = false → ∀ fr, fr.get (K.ofNat 4) = some (.i .i64 10) → Q .ret fr h) :
    W fs ro (.loop f16_l0) Q fr h := by
  refine W_loop (f16_I0 h v u S T n x i) (fun j => T.length - j) ?_ 0 ⟨rfl, by omega, by simp, hg⟩
  clear hg fr
  rintro j fr h1 ⟨rfl, hj, hal, g0, g1, g6, g23, g24, g25, g40, g41, g42⟩
  unfold f16_l0
  by_cases hlt : j < T.length
  · have hlt' : (j : Int) < (T.length : Int) := by omega
    obtain ⟨p, hp1, hp2⟩ := hu.at j hlt
    have hs := all_snoc (p := pairOk x) hlt
    rw [hal, Bool.true_and] at hs
    have bad : pairOk x T[j] = false → T.all (pairOk x) = false := fun hf => by
      rw [List.all_eq_false]; exact ⟨T[j], List.getElem_mem _, by rw [hf]; simp⟩
    by_cases e1 : x ≤ T[j]
    · have hb := bad (by unfold pairOk; rw [decide_eq_false (by omega)]; rfl)
      simp (disch := omega) only [f16_r11, f16_r12, f16_r13, f16_r14, w_skip, w_reg, w_seq, w_cond, w_block, w_ret, seqK_n, seqK_r, atK_r, loopK_r, ckB_b, cbB_b, okG_b, asG_f, true_and, x_nil, x_g, x_mv, x_as, x_pick, x_ld, x_bin, x_iads, kx, rvP_ok, okv_some, ev_t, ev_c, getV_some, putD_some, bin_lss, bin_geq, pick_b, of10, getK_set, Nat.reduceEqDiff, ↓reduceIte, Bool.false_eq_true, Bool.not_true, g6, g40, g41, g42, hlt', decide_true, hp1, hp2, iE, e1]
      exact hq2 hb _ (by simp (disch := omega) only [getK_set, ↓reduceIte])
    · cases e2 : ptI T[j] x
      · simp (disch := omega) only [f16_r11, f16_r12, f16_r13, f16_r15, w_skip, w_reg, w_seq, w_cond, w_block, seqK_n, atK_n, loopK_n, ckB_b, cbB_b, okG_b, asG_f, true_and, x_nil, x_g, x_mv, x_as, x_pick, x_ld, x_bin, x_iads, x_call, kx, rvP_ok, okv_some, ev_t, ev_c, evs_nil, evs_cons, getV_some, putD_some, bin_add, bin_lss, bin_geq, pick_b, of1, getK_set, Nat.reduceEqDiff, ↓reduceIte, Bool.false_eq_true, Bool.not_false, g6, g40, g41, g42, hlt', decide_true, decide_false, hp1, hp2, iE, e1, hp, e2, fw64]
        refine ⟨j + 1, by omega, rfl, hlt, by rw [hs]; unfold pairOk; rw [decide_eq_true (by omega), e2]; rfl, by simp (disch := omega) only [getK_set, Nat.reduceEqDiff, ↓reduceIte, g0, g1, g6, g23, g24, g25, g40, g41, and_self, Int.natCast_add, Int.natCast_one]⟩
      · have hb := bad (by unfold pairOk; rw [e2, Bool.not_true, Bool.and_false])
        simp (disch := omega) only [f16_r11, f16_r12, f16_r13, f16_r14, w_skip, w_reg, w_seq, w_cond, w_block, w_ret, seqK_n, seqK_r, atK_r, loopK_r, ckB_b, cbB_b, okG_b, asG_f, true_and, x_nil, x_g, x_mv, x_as, x_pick, x_ld, x_bin, x_iads, x_call, kx, rvP_ok, okv_some, ev_t, ev_c, evs_nil, evs_cons, getV_some, putD_some, bin_lss, bin_geq, pick_b, of10, getK_set, Nat.reduceEqDiff, ↓reduceIte, Bool.false_eq_true, Bool.not_false, g6, g40, g41, g42, hlt', decide_true, decide_false, hp1, hp2, iE, e1, hp, e2]
        exact hq2 hb _ (by simp (disch := omega) only [getK_set, ↓reduceIte])
  · obtain rfl : j = T.length := by omega
    rw [List.take_length] at hal
    have hlt' : ¬ (T.length : Int) < (T.length : Int) := by omega
    simp (disch := omega) only [f16_r11, w_reg, w_seq, w_cond, w_exit, seqK_n, seqK_e, loopK_e, ckB_b, cbB_b, true_and, x_nil, x_bin, kx, rvP_ok, okv_some, ev_t, getV_some, putD_some, bin_lss, getK_set, ↓reduceIte, Bool.false_eq_true, g41, g42, hlt', decide_false]
    exact hq1 hal _ (by simp (disch := omega) only [getK_set, Nat.reduceEqDiff, ↓reduceIte, g0, g1, g23, g24, g25, and_self])

theorem okAt_bad {n : Int} {S : List Int} {i : Nat} (hi : i < S.length) (h : okAt n S i = false) : goodS n S = false := by
  unfold goodS
  have : (List.range S.length).all (okAt n S) = false := by rw [List.all_eq_false]; exact ⟨i, by simpa using hi, by rw [h]; simp⟩
  rw [this, Bool.and_false]
def f16_I1 (h : H) (v : V) (S : List Int) (n : Int) (i : Nat) (fr : Fr) (h1 : H) : Prop := h1 = h ∧ i ≤ S.length ∧ (List.range i).all (okAt n S) = true ∧ fr.get (K.ofNat 0) = some (.i .i64 n) ∧ fr.get (K.ofNat 1) = some (v) ∧ fr.get (K.ofNat 23) = some (v) ∧ fr.get (K.ofNat 24) = some (.i .i64 (S.length : Int)) ∧ fr.get (K.ofNat 25) = some (.i .i64 (i : Int))
theorem f16_ret {h : H} {v : V} {S : List Int} {n : Int}
    (hp : ∀ a b h P, CallP fs (.fn (K.ofNat 54) []) [.i .i64 a, .i .i64 b] h P = P (.b (ptI a b)) h) (hv : Sl iE h v S) : Ret fs f16 [.i .i64 n, v] h fun u h' => u = .i .i64 (chkS n S) ∧ h' = h := by
  apply ret_of rfl
  show W fs none f16_c _ _ _
  unfold f16_c
  by_cases h1 : n < 1
  · have : chkS n S = 1 := by unfold chkS; rw [if_pos (.inl h1)]
    simp (disch := omega) only [f16_r0, f16_r1, f16_r2, f16_rs, w_reg, w_seq, w_cond, w_ret, seqK_n, seqK_r, ckB_b, cbB_b, okG_b, asG_f, retK_r, x_nil, x_g, x_mv, x_as, x_pick, x_bin, kx, rvP_ok, okv_some, ev_t, ev_c, getV_some, putD_some, bin_lss, pick_b, oGet_s, readRs_nil, readRs_t, retV_1, frame_2, of0, of1, of6, Option.some.injEq, exists_eq_left', getK_set, Nat.reduceEqDiff, ↓reduceIte, Bool.false_eq_true, Bool.not_true, h1, decide_true, this, and_self]
  by_cases h6 : 6 < n
  · have : chkS n S = 1 := by unfold chkS; rw [if_pos (.inr h6)]
    simp (disch := omega) only [f16_r0, f16_r1, f16_r2, f16_rs, w_reg, w_seq, w_cond, w_ret, seqK_n, seqK_r, ckB_b, cbB_b, okG_b, asG_f, retK_r, x_nil, x_g, x_mv, x_as, x_pick, x_bin, kx, rvP_ok, okv_some, ev_t, ev_c, getV_some, putD_some, bin_lss, bin_gtr, pick_b, oGet_s, readRs_nil, readRs_t, retV_1, frame_2, of0, of1, of6, Option.some.injEq, exists_eq_left', getK_set, Nat.reduceEqDiff, ↓reduceIte, Bool.false_eq_true, Bool.not_false, h1, h6, decide_true, decide_false, this, and_self]
  have hc10 : goodS n S = false → chkS n S = 10 := fun hf => by unfold chkS; rw [if_neg (by omega), hf]; rfl
  by_cases l1 : S.length < 1
  · have l1' : (S.length : Int) < 1 := by omega
    have := hc10 (by unfold goodS; rw [decide_eq_false (by omega)]; rfl)
    simp (disch := omega) only [f16_r0, f16_r1, f16_r3, f16_r4, f16_rs, w_skip, w_reg, w_seq, w_cond, w_ret, seqK_n, seqK_r, ckB_b, cbB_b, okG_b, asG_f, retK_r, x_nil, x_g, x_mv, x_as, x_pick, x_bin, x_len, kx, rvP_ok, okv_some, ev_t, ev_c, getV_some, putD_some, bin_lss, bin_gtr, pick_b, oGet_s, readRs_nil, readRs_t, retV_1, frame_2, of0, of1, of6, of10, Option.some.injEq, exists_eq_left', getK_set, Nat.reduceEqDiff, ↓reduceIte, Bool.false_eq_true, Bool.not_true, Bool.not_false, h1, h6, l1', hv.len, decide_true, decide_false, this, and_self]
  have l1' : ¬ (S.length : Int) < 1 := by omega
  by_cases l2 : 10 < S.length
  · have l2' : (10 : Int) < (S.length : Int) := by omega
    have := hc10 (by unfold goodS; rw [decide_eq_false (show ¬ S.length ≤ 10 by omega), Bool.and_false]; rfl)
    simp (disch := omega) only [f16_r0, f16_r1, f16_r3, f16_r4, f16_rs, w_skip, w_reg, w_seq, w_cond, w_ret, seqK_n, seqK_r, ckB_b, cbB_b, okG_b, asG_f, retK_r, x_nil, x_g, x_mv, x_as, x_pick, x_bin, x_len, kx, rvP_ok, okv_some, ev_t, ev_c, getV_some, putD_some, bin_lss, bin_gtr, pick_b, oGet_s, readRs_nil, readRs_t, retV_1, frame_2, of0, of1, of6, of10, Option.some.injEq, exists_eq_left', getK_set, Nat.reduceEqDiff, ↓reduceIte, Bool.false_eq_true, Bool.not_false, h1, h6, l1', l2', hv.len, decide_true, decide_false, this, and_self]
  have l2' : ¬ (10 : Int) < (S.length : Int) := by omega
  simp (disch := omega) only [f16_r0, f16_r1, f16_r3, f16_r5, w_skip, w_reg, w_seq, w_cond, w_block, seqK_n, ckB_b, cbB_b, okG_b, asG_f, true_and, x_nil, x_g, x_mv, x_as, x_pick, x_bin, x_len, kx, rvP_ok, okv_some, ev_t, ev_c, getV_some, putD_some, bin_lss, bin_gtr, pick_b, frame_2, of0, of1, of6, of10, getK_set, Nat.reduceEqDiff, ↓reduceIte, Bool.false_eq_true, Bool.not_false, h1, h6, l1', l2', hv.len, decide_false]
  refine W_loop (f16_I1 h v S n) (fun i => S.length - i) ?_ 0 ⟨rfl, by omega, by simp, by simp (disch := omega) only [getK_set, Nat.reduceEqDiff, ↓reduceIte, and_self, Int.natCast_zero]⟩
  rintro i fr h2 ⟨rfl, hi, hal, g0, g1, g23, g24, g25⟩
  unfold f16_l1
  by_cases hlt : i < S.length
  · have hlt' : (i : Int) < (S.length : Int) := by omega
    obtain ⟨p, hp1, hp2⟩ := hv.at i hlt
    have hgd : S.getD i 0 = S[i] := by simp [List.getD, hlt]
    by_cases e1 : S[i] < 1
    · have := hc10 (okAt_bad hlt (by unfold okAt; rw [hgd, decide_eq_false (by omega)]; rfl))
      simp (disch := omega) only [f16_r6, f16_r7, f16_r8, f16_r9, f16_rs, w_skip, w_reg, w_seq, w_cond, w_block, w_ret, seqK_n, seqK_r, atK_r, loopK_r, ckB_b, cbB_b, okG_b, asG_f, retK_r, x_nil, x_g, x_mv, x_as, x_pick, x_ld, x_bin, x_iads, kx, rvP_ok, okv_some, ev_t, ev_c, getV_some, putD_some, bin_lss, pick_b, oGet_s, readRs_nil, readRs_t, retV_1, of1, of10, Option.some.injEq, exists_eq_left', getK_set, Nat.reduceEqDiff, ↓reduceIte, Bool.false_eq_true, Bool.not_true, g23, g24, g25, hlt', decide_true, hp1, hp2, iE, e1, this, and_self]
    · by_cases e2 : (2 : Int) ^ n.toNat ≤ S[i]
      · have := hc10 (okAt_bad hlt (by unfold okAt; rw [hgd, decide_eq_false (show ¬ S[i] < 2 ^ n.toNat by omega), Bool.and_false]; rfl))
        simp (disch := omega) only [f16_r6, f16_r7, f16_r8, f16_r9, f16_rs, w_skip, w_reg, w_seq, w_cond, w_block, w_ret, seqK_n, seqK_r, atK_r, loopK_r, ckB_b, cbB_b, okG_b, asG_f, retK_r, x_nil, x_g, x_mv, x_as, x_pick, x_ld, x_bin, x_iads, kx, rvP_ok, okv_some, ev_t, ev_c, getV_some, putD_some, bin_lss, bin_geq, pick_b, oGet_s, readRs_nil, readRs_t, retV_1, of1, of10, Option.some.injEq, exists_eq_left', getK_set, Nat.reduceEqDiff, ↓reduceIte, Bool.false_eq_true, Bool.not_false, g0, g23, g24, g25, hlt', decide_true, decide_false, hp1, hp2, iE, e1, e2, bin_shl, shl_n, this, and_self]
      · obtain ⟨u, q1, q2, _⟩ := hv.cut (lo := none) (hi := some (.i .i64 (i : Int))) (l := 0) (u := i) bnd_none bnd_i (by omega) (by omega)
        rw [List.drop_zero] at q2
        have hlen : (S.take i).length = i := by rw [List.length_take]; omega
        simp (disch := omega) only [f16_r6, f16_r7, f16_r8, f16_r10, w_skip, w_reg, w_seq, w_cond, w_block, seqK_n, ckB_b, cbB_b, okG_b, asG_f, true_and, x_nil, x_g, x_mv, x_as, x_pick, x_ld, x_bin, x_slice, sliceV_eq, Option.map_none, Option.map_some, x_iads, x_len, kx, rvP_ok, okv_some, ev_t, ev_c, getV_some, putD_some, bin_lss, bin_geq, pick_b, of0, of1, getK_set, Nat.reduceEqDiff, ↓reduceIte, Bool.false_eq_true, Bool.not_false, g0, g1, g23, g24, g25, hlt', decide_true, decide_false, hp1, hp2, iE, e1, e2, bin_shl, shl_n, q1, q2.len]
        refine f16_inner (v := v) (u := u) (S := S) (T := S.take i) (n := n) (x := S[i]) (i := i) hp q2 (by omega) (by simp (disch := omega) only [getK_set, Nat.reduceEqDiff, ↓reduceIte, g0, g1, g23, g24, g25, and_self]) ?_ ?_
        · clear g0 g1 g23 g24 g25
          rintro hall fr ⟨g0, g1, g23, g24, g25⟩
          simp (disch := omega) only [f16_r16, w_reg, seqK_n, atK_n, atK_e, loopK_n, x_nil, x_mv, x_bin, kx, rvP_ok, okv_some, ev_t, ev_c, getV_some, putD_some, bin_add, of1, getK_set, ↓reduceIte, g25, fw64]
          refine ⟨i + 1, by omega, rfl, hlt, ?_, by simp (disch := omega) only [getK_set, Nat.reduceEqDiff, ↓reduceIte, g0, g1, g23, g24, and_self, Int.natCast_add, Int.natCast_one]⟩
          rw [List.range_succ, List.all_append, hal, Bool.true_and]
          simp only [List.all_cons, List.all_nil, Bool.and_true]
          unfold okAt
          rw [hgd, decide_eq_true (by omega), decide_eq_true (by omega), hall]; rfl
        · rintro hall fr g4
          have := hc10 (okAt_bad hlt (by unfold okAt; rw [hgd, hall, Bool.and_false]))
          simp (disch := omega) only [f16_rs, seqK_r, atK_r, loopK_r, retK_r, getV_some, oGet_s, readRs_nil, readRs_t, retV_1, Option.some.injEq, exists_eq_left', g4, this, and_self]
  · obtain rfl : i = S.length := by omega
    have hlt' : ¬ (S.length : Int) < (S.length : Int) := by omega
    have : chkS n S = 0 := by
      unfold chkS goodS
      rw [if_neg (by omega), hal, decide_eq_true (by omega), decide_eq_true (by omega)]; rfl
    simp (disch := omega) only [f16_r6, f16_r17, f16_rs, w_reg, w_seq, w_cond, w_exit, w_ret, seqK_n, seqK_e, atK_e, loopK_e, ckB_b, cbB_b, retK_r, x_nil, x_as, x_bin, kx, rvP_ok, okv_some, ev_t, ev_c, getV_some, putD_some, bin_lss, oGet_s, readRs_nil, readRs_t, retV_1, of0, Option.some.injEq, exists_eq_left', getK_set, ↓reduceIte, Bool.false_eq_true, g24, g25, hlt', decide_false, this, and_self]
end
end Go.Ev
namespace Go.Ev
open Go Go.RowKit
section
variable {fs : T EF} {ro : Option K}
end
end Go.Ev
namespace Go.Ev
open Go Go.RowKit
noncomputable def f94_r0 : List EOper := [⟨(some (K.ofNat 2)), none, .as (.c (.i .i64 (.ofNat 0)))⟩]
noncomputable def f94_r1 : List EOper := [⟨(some (K.ofNat 3)), none, .as (.c (.i .i64 (.ofNat 0)))⟩]
noncomputable def f94_r2 : List EOper := [⟨(some (K.ofNat 8)), none, .mv (.t (K.ofNat 0))⟩, ⟨(some (K.ofNat 9)), none, .len (.t (K.ofNat 8))⟩, ⟨(some (K.ofNat 10)), none, .mv (.c (.i .i64 (.ofNat 0)))⟩]
noncomputable def f94_r3 : List EOper := [⟨(some (K.ofNat 11)), none, .bin .lss (.t (K.ofNat 10)) (.t (K.ofNat 9))⟩]
noncomputable def f94_r4 : List EOper := [⟨(some (K.ofNat 12)), none, .mv (.t (K.ofNat 10))⟩, ⟨(some (K.ofNat 4)), none, .as (.t (K.ofNat 12))⟩]
noncomputable def f94_r5 : List EOper := [⟨(some (K.ofNat 13)), none, .mv (.t (K.ofNat 0))⟩, ⟨(some (K.ofNat 14)), none, .mv (.t (K.ofNat 4))⟩, ⟨(some (K.ofNat 15)), none, .iads 1 (.t (K.ofNat 13)) (.t (K.ofNat 14))⟩, ⟨(some (K.ofNat 16)), none, .ld (.t (K.ofNat 15))⟩, ⟨(some (K.ofNat 5)), none, .as (.t (K.ofNat 16))⟩]
noncomputable def f94_r6 : List EOper := [⟨(some (K.ofNat 17)), none, .mv (.t (K.ofNat 5))⟩, ⟨(some (K.ofNat 18)), none, .bin .eql (.t (K.ofNat 17)) (.c (.i .u64 (.ofNat 0)))⟩]
noncomputable def f94_r7 : List EOper := [⟨(some (K.ofNat 19)), none, .mv (.t (K.ofNat 3))⟩, ⟨(some (K.ofNat 20)), none, .bin .add (.t (K.ofNat 19)) (.c (.i .i64 (.ofNat 1)))⟩, ⟨(some (K.ofNat 3)), none, .as (.t (K.ofNat 20))⟩]
noncomputable def f94_r8 : List EOper := [⟨(some (K.ofNat 21)), none, .mv (.t (K.ofNat 5))⟩, ⟨(some (K.ofNat 22)), none, .mv (.t (K.ofNat 5))⟩, ⟨(some (K.ofNat 23)), none, .neg (.t (K.ofNat 22))⟩, ⟨(some (K.ofNat 24)), none, .bin .and (.t (K.ofNat 21)) (.t (K.ofNat 23))⟩, ⟨(some (K.ofNat 6)), none, .as (.t (K.ofNat 24))⟩]
noncomputable def f94_r9 : List EOper := [⟨(some (K.ofNat 25)), none, .mv (.t (K.ofNat 4))⟩, ⟨(some (K.ofNat 26)), none, .bin .add (.t (K.ofNat 25)) (.c (.i .i64 (.ofNat 1)))⟩, ⟨(some (K.ofNat 7)), none, .as (.t (K.ofNat 26))⟩]
noncomputable def f94_r10 : List EOper := [⟨(some (K.ofNat 27)), none, .mv (.t (K.ofNat 7))⟩, ⟨(some (K.ofNat 28)), none, .mv (.t (K.ofNat 0))⟩, ⟨(some (K.ofNat 29)), none, .len (.t (K.ofNat 28))⟩, ⟨(some (K.ofNat 30)), none, .bin .lss (.t (K.ofNat 27)) (.t (K.ofNat 29))⟩]
noncomputable def f94_r11 : List EOper := [⟨(some (K.ofNat 33)), none, .mv (.t (K.ofNat 0))⟩, ⟨(some (K.ofNat 34)), none, .mv (.t (K.ofNat 7))⟩, ⟨(some (K.ofNat 35)), none, .iads 1 (.t (K.ofNat 33)) (.t (K.ofNat 34))⟩, ⟨(some (K.ofNat 36)), none, .ld (.t (K.ofNat 35))⟩, ⟨(some (K.ofNat 37)), none, .mv (.t (K.ofNat 6))⟩, ⟨(some (K.ofNat 38)), none, .bin .and (.t (K.ofNat 36)) (.t (K.ofNat 37))⟩, ⟨(some (K.ofNat 39)), none, .bin .neq (.t (K.ofNat 38)) (.c (.i .u64 (.ofNat 0)))⟩]
noncomputable def f94_r12 : List EOper := [⟨(some (K.ofNat 40)), none, .mv (.t (K.ofNat 0))⟩, ⟨(some (K.ofNat 41)), none, .mv (.t (K.ofNat 7))⟩, ⟨(some (K.ofNat 42)), none, .iads 1 (.t (K.ofNat 40)) (.t (K.ofNat 41))⟩, ⟨(some (K.ofNat 43)), none, .ld (.t (K.ofNat 42))⟩, ⟨(some (K.ofNat 44)), none, .mv (.t (K.ofNat 5))⟩, ⟨(some (K.ofNat 45)), none, .bin .xor (.t (K.ofNat 43)) (.t (K.ofNat 44))⟩, ⟨(some (K.ofNat 46)), none, .iads 1 (.t (K.ofNat 40)) (.t (K.ofNat 41))⟩, ⟨none, none, .st 1 (.t (K.ofNat 46)) (.t (K.ofNat 45))⟩]
noncomputable def f94_r13 : List EOper := [⟨(some (K.ofNat 31)), none, .mv (.t (K.ofNat 7))⟩, ⟨(some (K.ofNat 32)), none, .bin .add (.t (K.ofNat 31)) (.c (.i .i64 (.ofNat 1)))⟩, ⟨(some (K.ofNat 7)), none, .as (.t (K.ofNat 32))⟩]
noncomputable def f94_l0 : EC := (.seq (.seq (.reg f94_r10) (.cond (.t (K.ofNat 30)) .skip (.exit 2))) (.seq (.block 3 (.seq (.reg f94_r11) (.cond (.t (K.ofNat 39)) (.reg f94_r12) .skip))) (.reg f94_r13)))
noncomputable def f94_r14 : List EOper := [⟨(some (K.ofNat 47)), none, .bin .add (.t (K.ofNat 10)) (.c (.i .i64 (.ofNat 1)))⟩, ⟨(some (K.ofNat 10)), none, .mv (.t (K.ofNat 47))⟩]
noncomputable def f94_l1 : EC := (.seq (.reg f94_r3) (.seq (.cond (.t (K.ofNat 11)) .skip (.exit 0)) (.seq (.block 1 (.seq (.reg f94_r4) (.seq (.reg f94_r5) (.seq (.seq (.reg f94_r6) (.cond (.t (K.ofNat 18)) (.exit 1) .skip)) (.seq (.reg f94_r7) (.seq (.reg f94_r8) (.seq (.reg f94_r9) (.block 2 (.loop f94_l0))))))))) (.reg f94_r14))))
noncomputable def f94_r15 : List EOper := [⟨(some (K.ofNat 48)), none, .mv (.t (K.ofNat 3))⟩, ⟨(some (K.ofNat 2)), none, .as (.t (K.ofNat 48))⟩]
noncomputable def f94_c : EC := (.seq (.reg f94_r0) (.seq (.reg f94_r1) (.seq (.seq (.reg f94_r2) (.block 0 (.loop f94_l1))) (.seq (.reg f94_r15) .ret))))
noncomputable def f94 : EF := ⟨49, [.tmp (K.ofNat 2)], f94_c, none⟩
theorem f94_rs : f94.rs = [.tmp (K.ofNat 2)] := of_eq_true (eq_self _)
def low (p : Nat) : Nat := p &&& (18446744073709551616 - p)
theorem low_lt {p : Nat} : low p ≤ p := Nat.and_le_left
theorem neg_u {p : Nat} (h0 : 0 < p) (h1 : p < 9223372036854775808) : fw .u64 (isub 0 (p : Int)) = ((18446744073709551616 - p : Nat) : Int) := by
  rw [isub_eq, fw_eq]
  show (0 - (p : Int)) % 18446744073709551616 = _
  omega
theorem neg_i {p : Nat} (h0 : 0 < p) (h1 : p < 9223372036854775808) : fw .i64 (isub 0 (p : Int)) = Int.negSucc (p - 1) := by
  rw [isub_eq, fw64 (by omega) (by omega)]; omega
theorem and_n {k : IntKind} {m n : Nat} (hk : 9223372036854775807 ≤ kmax k) (hm : m < 9223372036854775808) (hn : n < 9223372036854775808) : binV .and (.i k (m : Int)) (.i k (n : Int)) = some (.i k ((m &&& n : Nat) : Int)) := bin_and (by omega) (by omega)
theorem xor_n {k : IntKind} {m n : Nat} (hk : 9223372036854775807 ≤ kmax k) (hm : m < 9223372036854775808) (hn : n < 9223372036854775808) : binV .xor (.i k (m : Int)) (.i k (n : Int)) = some (.i k ((m ^^^ n : Nat) : Int)) := bin_xor (by omega) (by omega)
theorem low_u {p : Nat} (h0 : 0 < p) (h1 : p < 9223372036854775808) : binV .and (.i .u64 (p : Int)) (.i .u64 (fw .u64 (isub 0 (p : Int)))) = some (.i .u64 (low p : Int)) := by
  rw [neg_u h0 h1, bin_and (by show _ ≤ 18446744073709551615; omega) (by show _ ≤ 18446744073709551615; omega)]; rfl
theorem low_i {p : Nat} (h0 : 0 < p) (h1 : p < 9223372036854775808) : binV .and (.i .i64 (p : Int)) (.i .i64 (fw .i64 (isub 0 (p : Int)))) = some (.i .i64 (low p : Int)) := by
  rw [neg_i h0 h1]
  show some (V.i .i64 (IntKind.wrap .i64 (((BitVec.ofInt 64 (p : Int)) &&& (BitVec.ofInt 64 (Int.negSucc (p - 1)))).toNat : Int))) = _
  have e1 : (BitVec.ofInt 64 (p : Int)).toNat = p := by rw [BitVec.toNat_ofInt]; omega
  have e2 : (BitVec.ofInt 64 (Int.negSucc (p - 1))).toNat = 18446744073709551616 - p := by rw [BitVec.toNat_ofInt]; omega
  rw [BitVec.toNat_and, e1, e2, ← fw_eq, fw64 (by omega) (by have := @low_lt p; unfold low at this; omega)]; rfl
def stepR (p r : Nat) : Nat := if r &&& low p ≠ 0 then r ^^^ p else r
theorem stepR_lt {p r : Nat} (hp : p < 9223372036854775808) (hr : r < 9223372036854775808) : stepR p r < 9223372036854775808 := by
  unfold stepR; split
  · exact Nat.xor_lt_two_pow (n := 63) hr hp
  · exact hr
def elR (p : Nat) : Nat → Nat → List Nat → List Nat
  | 0, _, L => L
  | m + 1, j, L => elR p m (j + 1) (L.set j (stepR p (L.getD j 0)))
def elK : Nat → Nat → List Nat → Nat → Nat
  | 0, _, _, c => c
  | m + 1, i, L, c => if L.getD i 0 = 0 then elK m (i + 1) L c else elK m (i + 1) (elR (L.getD i 0) m (i + 1) L) (c + 1)
/-- The rank, by elimination. -/
def rankS (L : List Nat) : Nat := elK L.length 0 L 0
def Small (L : List Nat) : Prop := ∀ x ∈ L, x < 9223372036854775808
theorem Small.at {L : List Nat} (h : Small L) {i : Nat} (hi : i < L.length) : L[i] < 9223372036854775808 := h _ (List.getElem_mem hi)
theorem Small.set {L : List Nat} (h : Small L) {i x : Nat} (hx : x < 9223372036854775808) : Small (L.set i x) := fun y hy => by
  rcases List.mem_or_eq_of_mem_set hy with h1 | rfl
  · exact h _ h1
  · exact hx
def uE (x : Nat) : V := .i .u64 (x : Int)
def nE (x : Nat) : V := .i .i64 (x : Int)
theorem kmu : 9223372036854775807 ≤ kmax .u64 := by decide
theorem kmi : 9223372036854775807 ≤ kmax .i64 := by decide
theorem set_same {L : List Nat} {j : Nat} (hj : j < L.length) : L.set j L[j] = L := by simp
section
variable {fs : T EF} {ro : Option K}
def f94_I0 (b : Nat) (h : H) (v : V) (p c i n : Nat) (R : List Nat) (j : Nat) (fr : Fr) (h1 : H) : Prop := ∃ L, j ≤ n ∧ L.length = n ∧ Small L ∧ elR p (n - j) j L = R ∧ Sl uE h1 v L ∧ Grow b h h1 ∧ fr.get (K.ofNat 0) = some (v) ∧ fr.get (K.ofNat 3) = some (.i .i64 (c : Int)) ∧ fr.get (K.ofNat 5) = some (.i .u64 (p : Int)) ∧ fr.get (K.ofNat 6) = some (.i .u64 (low p : Int)) ∧ fr.get (K.ofNat 7) = some (.i .i64 (j : Int)) ∧ fr.get (K.ofNat 9) = some (.i .i64 (n : Int)) ∧ fr.get (K.ofNat 10) = some (.i .i64 (i : Int))
theorem f94_inner {Q : Ex → Fr → H → Prop} {b : Nat} {h h0 : H} {v : V} {p c i n : Nat} {R : List Nat} {j : Nat} {fr : Fr} (hc : HC h) (ho : Own b v) (hp : p < 9223372036854775808) (hn : n ≤ 1000)
    (hi : f94_I0 b h v p c i n R j fr h0)
    (hq : ∀ fr h1, Small R → R.length = n → Sl uE h1 v R → Grow b h h1 → fr.get (K.ofNat 0) = some (v) ∧ fr.get (K.ofNat 3) = some (.i .i64 (c : Int)) ∧ fr.get (K.ofNat 9) = some (.i .i64 (n : Int)) ∧ fr.get (K.ofNat 10) = some (.i .i64 (i : Int)) → Q (.exit 2) fr h1) :
    W fs ro (.loop f94_l0) Q fr h0 := by
  refine W_loop (f94_I0 b h v p c i n R) (fun j => n - j) ?_ j hi
  clear hi fr h0 j
  rintro j fr h1 ⟨L, hj, hl, hsm, hR, hs, hgr, g0, g3, g5, g6, g7, g9, g10⟩
  have hc1 := hgr.hc hc
  have hlw := @low_lt p
  unfold f94_l0
  by_cases hlt : j < n
  · have hlt' : (j : Int) < (L.length : Int) := by omega
    have hjl : j < L.length := by omega
    obtain ⟨q, hp1, hp2⟩ := hs.at j hjl
    have hx := hsm.at hjl
    have hRn : elR p (n - (j + 1)) (j + 1) (L.set j (stepR p L[j])) = R := by
      rw [← hR, show n - j = (n - (j + 1)) + 1 by omega, elR]
      simp [List.getD, hjl]
    by_cases e : (L[j] &&& low p) = 0
    · have e' : ((L[j] &&& low p : Nat) : Int) = 0 := by omega
      have hst : stepR p L[j] = L[j] := by unfold stepR; rw [if_neg (by simpa using e)]
      rw [hst, set_same] at hRn
      simp (disch := omega) only [f94_r10, f94_r11, f94_r13, w_skip, w_reg, w_seq, w_cond, w_block, seqK_n, atK_n, loopK_n, ckB_b, cbB_b, true_and, x_nil, x_mv, x_as, x_ld, x_bin, x_iads, x_len, kx, rvP_ok, okv_some, ev_t, ev_c, getV_some, putD_some, bin_add, bin_neq, bin_lss, of0, of1, getK_set, Nat.reduceEqDiff, ↓reduceIte, Bool.false_eq_true, g0, g6, g7, hs.len, hlt', decide_true, hp1, hp2, uE, and_n kmu hx (show low p < 9223372036854775808 by omega), e', ne_eq, not_true_eq_false, decide_false, fw64]
      exact ⟨j + 1, by omega, L, hlt, hl, hsm, hRn, hs, hgr, by simp (disch := omega) only [getK_set, Nat.reduceEqDiff, ↓reduceIte, g0, g3, g5, g6, g9, g10, and_self, Int.natCast_add, Int.natCast_one]⟩
    · have e' : ¬ ((L[j] &&& low p : Nat) : Int) = 0 := by omega
      have hst : stepR p L[j] = L[j] ^^^ p := by unfold stepR; rw [if_pos e]
      rw [hst] at hRn
      have hxr := stepR_lt hp hx
      rw [hst] at hxr
      obtain ⟨p2, id, m2, cs2, q1, q2, q3, ⟨off, nn, sz, q4⟩, q5⟩ := hs.st hjl (x := L[j] ^^^ p) (c := .i .u64 ((L[j] ^^^ p : Nat) : Int)) rfl rfl hc1
      have hpp : p2 = q := by
        have h1' := hp1 .i64 h1
        have h2' := q1 .i64 h1
        rw [h1'] at h2'
        cases h2'; rfl
      subst hpp
      have hid := ho id off nn sz q4
      simp (disch := omega) only [f94_r10, f94_r11, f94_r12, f94_r13, w_skip, w_reg, w_seq, w_cond, w_block, seqK_n, atK_n, loopK_n, ckB_b, cbB_b, true_and, x_nil, x_mv, x_as, x_ld, x_st, x_bin, x_iads, x_len, kx, rvP_ok, okv_some, ev_t, ev_c, getV_some, putD_some, putD_none, bin_add, bin_neq, bin_lss, of0, of1, getK_set, Nat.reduceEqDiff, ↓reduceIte, g0, g5, g6, g7, hs.len, hlt', decide_true, hp1, hp2, uE, and_n kmu hx (show low p < 9223372036854775808 by omega), xor_n kmu hx hp, e', ne_eq, not_false_eq_true, q2, fw64]
      exact ⟨j + 1, by omega, L.set j (L[j] ^^^ p), hlt, by rw [List.length_set]; exact hl, hsm.set hxr, hRn, q3, hgr.trans (Grow.put hid q5 _), by simp (disch := omega) only [getK_set, Nat.reduceEqDiff, ↓reduceIte, g0, g3, g5, g6, g9, g10, and_self, Int.natCast_add, Int.natCast_one]⟩
  · have hjn : j = n := by omega
    subst hjn
    have hlt' : ¬ (j : Int) < (L.length : Int) := by omega
    rw [Nat.sub_self, elR] at hR
    subst hR
    simp (disch := omega) only [f94_r10, w_reg, w_seq, w_cond, w_exit, seqK_n, seqK_e, loopK_e, ckB_b, cbB_b, true_and, x_nil, x_mv, x_bin, x_len, kx, rvP_ok, okv_some, ev_t, getV_some, putD_some, bin_lss, getK_set, Nat.reduceEqDiff, ↓reduceIte, Bool.false_eq_true, g0, g7, hs.len, hlt', decide_false]
    exact hq _ _ hsm hl hs hgr (by simp (disch := omega) only [getK_set, Nat.reduceEqDiff, ↓reduceIte, g0, g3, g9, g10, and_self])
def f94_I1 (b : Nat) (h : H) (v : V) (n R : Nat) (i : Nat) (fr : Fr) (h1 : H) : Prop := ∃ L c, i ≤ n ∧ L.length = n ∧ c ≤ i ∧ Small L ∧ elK (n - i) i L c = R ∧ Sl uE h1 v L ∧ Grow b h h1 ∧ fr.get (K.ofNat 0) = some (v) ∧ fr.get (K.ofNat 3) = some (.i .i64 (c : Int)) ∧ fr.get (K.ofNat 9) = some (.i .i64 (n : Int)) ∧ fr.get (K.ofNat 10) = some (.i .i64 (i : Int))
theorem f94_ret {b : Nat} {h : H} {v : V} {L : List Nat} (hs : Sl uE h v L) (hsm : Small L) (ho : Own b v) (hb : b ≤ h.nx.nat) (hc : HC h) (hn : L.length ≤ 1000) :
    Ret fs f94 [v] h fun u h' => u = .i .i64 (rankS L : Int) ∧ Grow b h h' := by
  apply ret_of rfl
  show W fs none f94_c _ _ _
  unfold f94_c
  simp (disch := omega) only [f94_r0, f94_r1, f94_r2, w_reg, w_seq, w_block, seqK_n, x_nil, x_mv, x_as, x_len, kx, rvP_ok, ev_t, ev_c, getV_some, putD_some, frame_1, of0, getK_set, Nat.reduceEqDiff, ↓reduceIte, hs.len]
  refine W_loop (f94_I1 b h v L.length (rankS L)) (fun i => L.length - i) ?_ 0 ⟨L, 0, Nat.zero_le _, rfl, Nat.le_refl _, hsm, rfl, hs, Grow.refl _ _, by simp (disch := omega) only [getK_set, Nat.reduceEqDiff, ↓reduceIte, and_self, Int.natCast_zero]⟩
  generalize rankS L = R
  generalize L.length = n at *
  rintro i fr h1 ⟨L, c, hi, hl, hci, hsm, hR, hs, hgr, g0, g3, g9, g10⟩
  have hc1 := hgr.hc hc
  unfold f94_l1
  by_cases hlt : i < n
  · have hlt' : (i : Int) < (n : Int) := by omega
    have hil : i < L.length := by omega
    obtain ⟨q, hp1, hp2⟩ := hs.at i hil
    have hx := hsm.at hil
    have hg : L.getD i 0 = L[i] := by simp [List.getD, hil]
    rw [show n - i = (n - (i + 1)) + 1 by omega, elK, hg] at hR
    by_cases e : L[i] = 0
    · have e' : ((L[i] : Nat) : Int) = 0 := by omega
      rw [if_pos e] at hR
      simp (disch := omega) only [f94_r3, f94_r4, f94_r5, f94_r6, f94_r14, w_skip, w_reg, w_seq, w_cond, w_block, w_exit, seqK_n, seqK_e, atK_e, loopK_n, ckB_b, cbB_b, true_and, x_nil, x_mv, x_as, x_ld, x_bin, x_iads, kx, rvP_ok, okv_some, ev_t, ev_c, getV_some, putD_some, bin_add, bin_eql, bin_lss, of0, of1, getK_set, Nat.reduceEqDiff, ↓reduceIte, g0, g9, g10, hlt', decide_true, hp1, hp2, uE, e', fw64]
      exact ⟨i + 1, by omega, L, c, hlt, hl, by omega, hsm, hR, hs, hgr, by simp (disch := omega) only [getK_set, Nat.reduceEqDiff, ↓reduceIte, g0, g3, g9, and_self, Int.natCast_add, Int.natCast_one]⟩
    · have e' : ¬ ((L[i] : Nat) : Int) = 0 := by omega
      rw [if_neg e] at hR
      simp (disch := omega) only [f94_r3, f94_r4, f94_r5, f94_r6, f94_r7, f94_r8, f94_r9, w_skip, w_reg, w_seq, w_cond, w_block, seqK_n, ckB_b, cbB_b, true_and, x_nil, x_mv, x_as, x_ld, x_bin, x_neg, x_iads, kx, rvP_ok, okv_some, ev_t, ev_c, getV_some, putD_some, bin_add, bin_eql, bin_lss, onI_i, of0, of1, getK_set, Nat.reduceEqDiff, ↓reduceIte, Bool.false_eq_true, g0, g3, g9, g10, hlt', decide_true, decide_false, hp1, hp2, uE, e', fw64, low_u (show 0 < L[i] by omega) hx]
      refine f94_inner (b := b) (h := h) (v := v) (p := L[i]) (c := c + 1) (i := i) (n := n) (R := elR L[i] (n - (i + 1)) (i + 1) L) (j := i + 1) hc ho hx hn ⟨L, by omega, hl, hsm, rfl, hs, hgr, by simp (disch := omega) only [getK_set, Nat.reduceEqDiff, ↓reduceIte, g0, g9, g10, and_self, Int.natCast_add, Int.natCast_one]⟩ ?_
      rintro fr h2 hsm2 hl2 hs2 hgr2 ⟨g0, g3, g9, g10⟩
      simp (disch := omega) only [f94_r14, w_reg, seqK_n, atK_n, atK_e, loopK_n, x_nil, x_mv, x_bin, kx, rvP_ok, okv_some, ev_t, ev_c, getV_some, putD_some, bin_add, of1, getK_set, ↓reduceIte, g10, fw64]
      exact ⟨i + 1, by omega, _, c + 1, hlt, hl2, by omega, hsm2, hR, hs2, hgr2, by simp (disch := omega) only [getK_set, Nat.reduceEqDiff, ↓reduceIte, g0, g3, g9, and_self, Int.natCast_add, Int.natCast_one]⟩
  · obtain rfl : i = n := by omega
    have hlt' : ¬ (i : Int) < (i : Int) := by omega
    rw [Nat.sub_self, elK] at hR
    subst hR
    simp (disch := omega) only [f94_r3, f94_r15, f94_rs, w_reg, w_seq, w_cond, w_exit, w_ret, seqK_n, seqK_e, atK_e, loopK_e, ckB_b, cbB_b, true_and, retK_r, x_nil, x_mv, x_as, x_bin, kx, rvP_ok, okv_some, ev_t, getV_some, putD_some, bin_lss, oGet_s, readRs_nil, readRs_t, retV_1, Option.some.injEq, exists_eq_left', getK_set, Nat.reduceEqDiff, ↓reduceIte, Bool.false_eq_true, g3, g9, g10, hlt', decide_false, true_and]
    exact hgr
end
end Go.Ev
namespace Go.Ev
open Go Go.RowKit
noncomputable def f82_r0 : List EOper := [⟨(some (K.ofNat 1)), none, .box 1 (.t (K.ofNat 0))⟩, ⟨(some (K.ofNat 2)), none, .as (.c .fnil)⟩]
noncomputable def f82_r1 : List EOper := [⟨(some (K.ofNat 3)), none, .mkfn (K.ofNat 92) [(.t (K.ofNat 1))]⟩, ⟨(some (K.ofNat 2)), none, .as (.t (K.ofNat 3))⟩]
noncomputable def f82_c : EC := (.seq (.reg f82_r0) (.seq (.reg f82_r1) .ret))
noncomputable def f82 : EF := ⟨4, [.tmp (K.ofNat 2)], f82_c, none⟩
theorem f82_rs : f82.rs = [.tmp (K.ofNat 2)] := of_eq_true (eq_self _)
noncomputable def f93_r0 : List EOper := [⟨(some (K.ofNat 1)), none, .box 1 (.t (K.ofNat 0))⟩, ⟨(some (K.ofNat 2)), none, .as (.c (.i .u64 (.ofNat 0)))⟩]
noncomputable def f93_r1 : List EOper := [⟨(some (K.ofNat 3)), none, .alloc 1 [(.i .u64 (.ofNat 0))]⟩]
noncomputable def f93_r2 : List EOper := [⟨(some (K.ofNat 5)), none, .ld (.t (K.ofNat 1))⟩, ⟨(some (K.ofNat 6)), none, .call (.c (.fn (K.ofNat 82) [])) [(.t (K.ofNat 5))]⟩]
noncomputable def f93_r3 : List EOper := [⟨(some (K.ofNat 4)), none, .as (.t (K.ofNat 7))⟩]
noncomputable def f93_a0 : EC := (.reg f93_r3)
noncomputable def f93_r4 : List Stage := [⟨[⟨(some (K.ofNat 8)), none, .ld (.t (K.ofNat 3))⟩, ⟨(some (K.ofNat 9)), none, .ld (.t (K.ofNat 1))⟩, ⟨(some (K.ofNat 10)), none, .mv (.t (K.ofNat 4))⟩, ⟨(some (K.ofNat 11)), none, .bin .andNot (.t (K.ofNat 9)) (.t (K.ofNat 10))⟩, ⟨(some (K.ofNat 12)), none, .bin .shl (.c (.i .u64 (.ofNat 1))) (.t (K.ofNat 11))⟩, ⟨(some (K.ofNat 13)), none, .bin .xor (.t (K.ofNat 8)) (.t (K.ofNat 12))⟩], [], (some ⟨none, none, .st 1 (.t (K.ofNat 3)) (.t (K.ofNat 13))⟩), []⟩, ⟨[], [], none, []⟩]
noncomputable def f93_b0 : EC := (.block 1 (.draw f93_r4))
noncomputable def f93_r5 : List EOper := [⟨(some (K.ofNat 14)), none, .ld (.t (K.ofNat 3))⟩, ⟨(some (K.ofNat 2)), none, .as (.t (K.ofNat 14))⟩]
noncomputable def f93_c : EC := (.seq (.reg f93_r0) (.seq (.reg f93_r1) (.seq (.seq (.reg f93_r2) (.block 0 (.rangeF (.t (K.ofNat 6)) [(K.ofNat 7)] f93_a0 f93_b0))) (.seq (.reg f93_r5) .ret))))
noncomputable def f93 : EF := ⟨15, [.tmp (K.ofNat 2)], f93_c, none⟩
theorem f93_rs : f93.rs = [.tmp (K.ofNat 2)] := of_eq_true (eq_self _)
section
variable {fs : T EF} {ro : Option K}
/-- The corners of a set, one after another. -/
theorem corner_yields {k idp : K} {S : Int} {ef : EF} (hf : fs.get k = some coF) (hp : fs.get (.z (.z (.z (.o (.z .e))))) = some ef) (hn : ef.nv = some (flatG partG)) :
    Yields fs k [.p idp 0] (fun h => h.get idp = .cells 1 [.i .i64 S]) (((List.range 6).filter fun i => partB (cornI i) S).map fun (i : Nat) => V.i .i64 (cornI i)) := by
  intro id I D h hN h0 round
  have hlen : (((List.range 6).filter fun i => partB (cornI i) S).map fun (i : Nat) => V.i .i64 (cornI i)).length = cntB (fun i => partB (cornI i) S) 6 := by simp [cntB]
  rw [hlen]
  refine co_call (I := fun j h => I (cntB (fun i => partB (cornI i) S) j) h) (Q := D) hf hp hn (fun i h hi => hN _ _ hi) (fun j h hj hB hI => ?_) (fun j h hj hB hI => ?_) (by simpa [cntB] using h0)
  · have h1 := filter_at (B := fun i => partB (cornI i) S) hj hB
    have h2 : cntB (fun i => partB (cornI i) S) j < (((List.range 6).filter fun i => partB (cornI i) S).map fun (i : Nat) => V.i .i64 (cornI i)).length := by
      rw [List.length_map]; exact (List.getElem?_eq_some_iff.1 h1).1
    obtain ⟨b, h', r1, r2, r3⟩ := round (cntB (fun i => partB (cornI i) S) j) h h2 hI
    refine ⟨b, h', ?_, fun e => by rw [cntB_succ, if_pos hB]; exact r2 e, r3⟩
    have h3 : (((List.range 6).filter fun i => partB (cornI i) S).map fun (i : Nat) => V.i .i64 (cornI i))[cntB (fun i => partB (cornI i) S) j] = .i .i64 (cornI j) := by
      rw [List.getElem_map, (List.getElem?_eq_some_iff.1 h1).2]
    rw [← h3]; exact r1
  · rw [cntB_succ, hB]; simpa using hI
theorem f82_ret {h : H} {x : Int} : Ret fs f82 [.i .i64 x] h fun u h' => u = .fn (K.ofNat 92) [.p h.nx 0] ∧ h' = h.new (.cells 1 [.i .i64 x]) := by
  apply ret_of rfl
  show W fs none f82_c _ _ _
  unfold f82_c
  have : cellsN 1 (.i .i64 x) = some [.i .i64 x] := rfl
  simp (disch := omega) only [f82_r0, f82_r1, f82_rs, w_reg, w_seq, w_ret, seqK_n, retK_r, x_nil, x_as, x_box, x_mkfn, kx, rvP_ok, ev_t, ev_c, evs_nil, evs_cons, getV_some, putD_some, oGet_s, readRs_nil, readRs_t, retV_1, frame_1, Option.some.injEq, exists_eq_left', getK_set, Nat.reduceEqDiff, ↓reduceIte, this, and_self]
noncomputable def cornN (x : Nat) : List Nat := ((List.range 6).filter fun i => partB (cornI i) (x : Int)).map fun i => 2 ^ i
theorem cornI_eq : ∀ i, i < 6 → cornI i = ((2 ^ i : Nat) : Int) := by decide
theorem cornN_ys {x : Nat} : (((List.range 6).filter fun i => partB (cornI i) (x : Int)).map fun (i : Nat) => V.i .i64 (cornI i)) = (cornN x).map nE := by
  unfold cornN
  rw [List.map_map]
  apply List.map_congr_left
  intro i hi
  rw [List.mem_filter, List.mem_range] at hi
  show V.i .i64 (cornI i) = V.i .i64 ((2 ^ i : Nat) : Int)
  rw [cornI_eq i hi.1]
def lessC (x c : Nat) : Nat := Nat.xor x (Nat.land x c)
noncomputable def bordTo (x j : Nat) : Nat := ((cornN x).take j).foldl (fun s c => s ^^^ 2 ^ lessC x c) 0
noncomputable def bordX (x : Nat) : Nat := (cornN x).foldl (fun s c => s ^^^ 2 ^ lessC x c) 0
theorem bordTo_succ {x j : Nat} (hj : j < (cornN x).length) : bordTo x (j + 1) = bordTo x j ^^^ 2 ^ lessC x (cornN x)[j] := by
  unfold bordTo; rw [List.take_succ_eq_append_getElem hj, List.foldl_append]; rfl
theorem less_lt : ∀ x, x < 64 → ∀ c ∈ cornN x, c ≤ 32 ∧ lessC x c ≤ 62 := by decide +kernel
theorem bordTo_lt {x : Nat} (hx : x < 64) : ∀ j, j ≤ (cornN x).length → bordTo x j < 9223372036854775808
  | 0, _ => by unfold bordTo; simp
  | j + 1, hj => by
    rw [bordTo_succ hj]
    have h1 := (less_lt x hx _ (List.getElem_mem hj)).2
    have h2 : 2 ^ lessC x (cornN x)[j] < 2 ^ 63 := Nat.pow_lt_pow_right (by omega) (by omega)
    exact Nat.xor_lt_two_pow (n := 63) (bordTo_lt hx j (by omega)) h2
theorem andNot_n {m n : Nat} (hm : m < 9223372036854775808) (hn : n < 9223372036854775808) : binV .andNot (.i .i64 (m : Int)) (.i .i64 (n : Int)) = some (.i .i64 (lessC m n : Int)) := by
  have : binV .andNot (.i .i64 (m : Int)) (.i .i64 (n : Int)) = some (.i .i64 (ibits (fun m n => Nat.xor m (Nat.land m n)) (fun _ x y => x &&& ~~~y) .i64 m n)) := rfl
  rw [this, ibits_nat (by show _ ≤ 9223372036854775807; omega) (by show _ ≤ 9223372036854775807; omega)]; rfl
theorem shl_u {n : Nat} (hn : n ≤ 62) : binV .shl (.i .u64 1) (.i .i64 (n : Int)) = some (.i .u64 ((2 ^ n : Nat) : Int)) := by
  have h2 : 2 ^ n ≤ 4611686018427387904 := Nat.pow_le_pow_right (by omega) hn
  have h3 : ((2 ^ n : Nat) : Int) ≤ 4611686018427387904 := Int.ofNat_le.2 h2
  rw [bin_shl (by omega), show min (n : Int).toNat (IntKind.bits .u64) = n by show min (n : Int).toNat 64 = n; omega, Int.one_mul, show (2 : Int) ^ n = ((2 ^ n : Nat) : Int) by simp]
  rw [fwu64 (Int.natCast_nonneg _) (by omega)]
structure BorI (b : Nat) (h : H) (id1 id3 idf idl : K) (x s : Nat) (lb : Blk) (h1 : H) : Prop where
  gr : Grow b h h1
  e1 : h1.get id1 = .cells 1 [nE x]
  e3 : h1.get id3 = .cells 1 [uE s]
  ef : h1.get idf = .cells 1 [nE x]
  el : h1.get idl = lb
  nx : idl.nat + 1 ≤ h1.nx.nat
  o1 : id1.nat < id3.nat
  o3 : id3.nat < idf.nat
  of : idf.nat < idl.nat
  ob : b ≤ id1.nat
section
variable {b : Nat} {h h1 : H} {id1 id3 idf idl : K} {x s s' : Nat} {lb : Blk}
theorem BorI.loop (t : BorI b h id1 id3 idf idl x s lb h1) (lb' : Blk) : BorI b h id1 id3 idf idl x s lb' (h1.put idl lb') := by
  have := t.nx; have := t.o1; have := t.o3; have := t.of; have := t.ob
  exact ⟨t.gr.trans (Grow.put (by omega) (by omega) _), by rw [get_put_other (kNe (by omega))]; exact t.e1, by rw [get_put_other (kNe (by omega))]; exact t.e3, by rw [get_put_other (kNe (by omega))]; exact t.ef, get_put_same, t.nx, t.o1, t.o3, t.of, t.ob⟩
theorem BorI.put (t : BorI b h id1 id3 idf idl x s lb h1) : BorI b h id1 id3 idf idl x s' lb (h1.put id3 (.cells 1 [uE s'])) := by
  have := t.nx; have := t.o1; have := t.o3; have := t.of; have := t.ob
  exact ⟨t.gr.trans (Grow.put (by omega) (by omega) _), by rw [get_put_other (kNe (by omega))]; exact t.e1, get_put_same, by rw [get_put_other (kNe (by omega)).symm]; exact t.ef, by rw [get_put_other (kNe (by omega)).symm]; exact t.el, t.nx, t.o1, t.o3, t.of, t.ob⟩
end
theorem f93_ret {h : H} {x : Nat} {ef : EF} (h82 : fs.get (K.ofNat 82) = some f82) (h92 : fs.get (K.ofNat 92) = some coF) (h54 : fs.get (K.ofNat 54) = some ef) (hn : ef.nv = some (flatG partG)) (hx : x < 64) :
    Ret fs f93 [nE x] h fun u h' => u = uE (bordX x) ∧ Grow h.nx.nat h h' := by
  apply ret_of rfl
  show W fs none f93_c _ _ _
  unfold f93_c
  have hcn : cellsN 1 (nE x) = some [nE x] := rfl
  have n1 := nx_new h (.cells 1 [nE x])
  have n2 := nx_new (h.new (.cells 1 [nE x])) (.cells 1 [uE 0])
  have hu0 : V.i .u64 0 = uE 0 := rfl
  have e1 : ((h.new (.cells 1 [nE x])).new (.cells 1 [uE 0])).get h.nx = .cells 1 [nE x] := by rw [get_new_old (by omega), get_new_same]
  have e3 : ((h.new (.cells 1 [nE x])).new (.cells 1 [uE 0])).get (h.new (.cells 1 [nE x])).nx = .cells 1 [uE 0] := get_new_same
  have g0 : Grow h.nx.nat h ((h.new (.cells 1 [nE x])).new (.cells 1 [uE 0])) := (Grow.new (Nat.le_refl _) _).trans (Grow.new (by omega) _)
  have ld1 : loadV ((h.new (.cells 1 [nE x])).new (.cells 1 [uE 0])) (.p h.nx 0) one? = .ok (nE x) _ := load_p e1 rfl
  simp (disch := omega) only [f93_r0, f93_r1, f93_r2, w_reg, w_seq, seqK_n, x_nil, x_as, x_alloc, x_box, x_ld, x_call, kx, rvP_ok, ev_t, ev_c, evs_nil, evs_cons, getV_some, putD_some, oGet_s, frame_1, of0, getK_set, Nat.reduceEqDiff, ↓reduceIte, hcn, hu0, ld1]
  refine (callP_0 (ef := f82) h82 rfl (f82_ret (x := (x : Int)))).mono ?_
  rintro u h3 ⟨rfl, rfl⟩
  simp (disch := omega) only [w_block, seqK_n, x_nil, kx, putD_some]
  generalize hid3 : (h.new (.cells 1 [nE x])).nx = id3 at *
  generalize hh2 : (h.new (.cells 1 [nE x])).new (.cells 1 [uE 0]) = h2 at *
  have n3 := nx_new h2 (.cells 1 [nE x])
  have ga : Grow h2.nx.nat h2 (h2.new (.cells 1 [nE x])) := Grow.new (Nat.le_refl _) _
  have ef : (h2.new (.cells 1 [nE x])).get h2.nx = .cells 1 [nE x] := get_new_same
  rw [← ga.old _ (by omega)] at e3 e1
  have g1 := g0.trans (ga.low (b := h.nx.nat) (by omega))
  rw [show V.i .i64 (x : Int) = nE x from rfl]
  generalize hh3 : h2.new (.cells 1 [nE x]) = h3 at *
  generalize hfr1 : T.set (K.ofNat 6) (V.fn (K.ofNat 92) [V.p h2.nx 0]) _ = fr1
  have f6 : fr1.get (K.ofNat 6) = some (.fn (K.ofNat 92) [.p h2.nx 0]) := by rw [← hfr1]; simp (disch := omega) only [getK_set, ↓reduceIte]
  have f1 : fr1.get (K.ofNat 1) = some (.p h.nx 0) := by rw [← hfr1]; simp (disch := omega) only [getK_set, Nat.reduceEqDiff, ↓reduceIte]
  have f3 : fr1.get (K.ofNat 3) = some (.p id3 0) := by rw [← hfr1]; simp (disch := omega) only [getK_set, Nat.reduceEqDiff, ↓reduceIte]
  clear hfr1
  have n4 := nx_new h3 (rdyB fr1 [(K.ofNat 7)] f93_a0 f93_b0)
  have hnew : Grow h3.nx.nat h3 (h3.new (rdyB fr1 [(K.ofNat 7)] f93_a0 f93_b0)) := Grow.new (Nat.le_refl _) _
  have hy := corner_yields (fs := fs) (idp := h2.nx) (S := (x : Int)) h92 h54 hn
  rw [cornN_ys] at hy
  refine W_range (k := (K.ofNat 92)) (caps := [.p h2.nx 0]) (N := fun h => h.get h2.nx = .cells 1 [nE x]) (ys := (cornN x).map nE) rfl (by simp (disch := omega) only [ev_t, getV_some, f6]) hy
    (fun j h5 => ∃ lb, BorI h.nx.nat h h.nx id3 h2.nx h3.nx x (bordTo x j) lb h5) (fun _ _ => False) (fun i h5 ⟨lb, ht⟩ => ht.ef)
    ⟨_, g1.trans (hnew.low (by omega)), by rw [hnew.old _ (by omega)]; exact e1, by rw [hnew.old _ (by omega)]; exact e3, by rw [hnew.old _ (by omega)]; exact ef, get_new_same, by omega, by omega, by omega, by omega, Nat.le_refl _⟩ ?_ ?_ (fun _ _ _ hf => hf.elim)
  · rintro j h5 hj ⟨lb, ht⟩ hrd
    have hj' : j < (cornN x).length := by simpa using hj
    obtain rfl : lb = rdyB fr1 [(K.ofNat 7)] f93_a0 f93_b0 := ht.el.symm.trans hrd
    rw [List.getElem_map]
    rw [show ∀ Q fr h, W fs (some h3.nx) f93_a0 Q fr h = X fs f93_r3 (Q .normal) fr h from fun _ _ _ => rfl]
    simp (disch := omega) only [f93_r3, rndA_n, x_nil, x_as, ev_t, getV_some, putD_some, getK_set, ↓reduceIte]
    refine ⟨ht.el, ?_⟩
    have ht7 := ht.loop (bsyB fr1 [(K.ofNat 7)] f93_a0 f93_b0)
    generalize h5.put h3.nx (bsyB fr1 [(K.ofNat 7)] f93_a0 f93_b0) = h7 at *
    obtain ⟨c1, c2⟩ := less_lt x hx _ (List.getElem_mem hj')
    have hs := bordTo_succ hj'
    have hb := bordTo_lt hx j (by omega)
    have hb2 := bordTo_lt hx (j + 1) hj'
    have h2p : 2 ^ lessC x (cornN x)[j] < 9223372036854775808 := Nat.lt_of_lt_of_le (Nat.pow_lt_pow_right (a := 2) (by omega) (show lessC x (cornN x)[j] < 63 by omega)) (by decide)
    rw [show ∀ Q fr h, W fs (some h3.nx) f93_b0 Q fr h = XD fs f93_r4 (atK 1 Q .normal) fr h from fun _ _ _ => rfl]
    have hst : storeV h7 1 (.p id3 0) (.i .u64 ((bordTo x j ^^^ 2 ^ lessC x (cornN x)[j] : Nat) : Int)) = .ok undefV (h7.put id3 (.cells 1 [uE (bordTo x (j + 1))])) := by
      rw [store_p ht7.e3 rfl (by omega), hs]; rfl
    have ld1 : loadV h7 (.p h.nx 0) one? = .ok (nE x) h7 := load_p ht7.e1 rfl
    have ld3 : loadV h7 (.p id3 0) one? = .ok (uE (bordTo x j)) h7 := load_p ht7.e3 rfl
    unfold nE at ld1 ⊢
    unfold uE at ld3
    simp (disch := omega) only [f93_r4, atK_n, true_and, rndK_n, x_nil, x_st, kx, kg, xg_nil, xg_mv, xg_ld, xg_bin, xd_cons, fresh_nil, stK_n, stK_s, stay_nil, rvP_ok, okv_some, ev_t, ev_c, getV_some, putD_some, putD_none, of1, getK_set, Nat.reduceEqDiff, ↓reduceIte, f1, f3, ld1, ld3, andNot_n (show x < 9223372036854775808 by omega) (show (cornN x)[j] < 9223372036854775808 by omega), shl_u c2, xor_n kmu hb h2p, hst]
    refine ⟨ht7.put.el, rdyB fr1 [(K.ofNat 7)] f93_a0 f93_b0, ?_⟩
    exact ht7.put.loop _
  · rintro h5 ⟨lb, ht⟩
    have ht2 := ht.loop .dead
    rw [List.length_map] at ht2
    rw [show bordTo x (cornN x).length = bordX x by unfold bordTo bordX; rw [List.take_length]] at ht2
    have ld3 : loadV (h5.put h3.nx .dead) (.p id3 0) one? = .ok (uE (bordX x)) (h5.put h3.nx .dead) := load_p ht2.e3 rfl
    simp (disch := omega) only [f93_r5, f93_rs, w_reg, w_seq, w_ret, seqK_n, atK_n, true_and, retK_r, x_nil, x_as, x_ld, kx, rvP_ok, ev_t, getV_some, putD_some, oGet_s, readRs_nil, readRs_t, retV_1, Option.some.injEq, exists_eq_left', getK_set, ↓reduceIte, f3, ld3, true_and]
    exact ht2.gr
end
end Go.Ev
namespace Go.Ev
open Go Go.RowKit
noncomputable def f90_r0 : List EOper := [⟨(some (K.ofNat 2)), none, .box 1 (.t (K.ofNat 0))⟩, ⟨(some (K.ofNat 4)), none, .as (.c .sn)⟩]
noncomputable def f90_r1 : List EOper := [⟨(some (K.ofNat 6)), none, .mv (.t (K.ofNat 1))⟩]
noncomputable def f90_r2 : List EOper := [⟨(some (K.ofNat 5)), none, .as (.t (K.ofNat 7))⟩]
noncomputable def f90_a0 : EC := (.reg f90_r2)
noncomputable def f90_r3 : List EOper := [⟨(some (K.ofNat 8)), none, .ld (.t (K.ofNat 2))⟩, ⟨(some (K.ofNat 9)), none, .mv (.t (K.ofNat 5))⟩, ⟨(some (K.ofNat 10)), none, .bslice 1 1 [(.i .i64 (.ofNat 0))] [(0, 1, (.t (K.ofNat 9)))]⟩, ⟨(some (K.ofNat 11)), none, .app 1 (.t (K.ofNat 8)) (.t (K.ofNat 10))⟩, ⟨none, none, .st 1 (.t (K.ofNat 2)) (.t (K.ofNat 11))⟩]
noncomputable def f90_b0 : EC := (.block 1 (.reg f90_r3))
noncomputable def f90_r4 : List EOper := [⟨(some (K.ofNat 12)), none, .ld (.t (K.ofNat 2))⟩, ⟨(some (K.ofNat 4)), none, .as (.t (K.ofNat 12))⟩]
noncomputable def f90_c : EC := (.seq (.reg f90_r0) (.seq (.seq (.reg f90_r1) (.block 0 (.rangeF (.t (K.ofNat 6)) [(K.ofNat 7)] f90_a0 f90_b0))) (.seq (.reg f90_r4) .ret)))
noncomputable def f90 : EF := ⟨13, [.tmp (K.ofNat 4)], f90_c, none⟩
theorem f90_rs : f90.rs = [.tmp (K.ofNat 4)] := of_eq_true (eq_self _)
noncomputable def f77_r0 : List EOper := [⟨(some (K.ofNat 2)), none, .as (.c .sn)⟩]
noncomputable def f77_r1 : List EOper := [⟨(some (K.ofNat 3)), none, .mv (.t (K.ofNat 0))⟩, ⟨(some (K.ofNat 4)), none, .call (.c (.fn (K.ofNat 90) [])) [(.c .sn), (.t (K.ofNat 3))]⟩, ⟨(some (K.ofNat 2)), none, .as (.t (K.ofNat 4))⟩]
noncomputable def f77_c : EC := (.seq (.reg f77_r0) (.seq (.reg f77_r1) .ret))
noncomputable def f77 : EF := ⟨5, [.tmp (K.ofNat 2)], f77_c, none⟩
theorem f77_rs : f77.rs = [.tmp (K.ofNat 2)] := of_eq_true (eq_self _)
noncomputable def f56_r0 : List EOper := [⟨(some (K.ofNat 1)), none, .box 64 (.t (K.ofNat 0))⟩, ⟨(some (K.ofNat 2)), none, .as (.c .sn)⟩]
noncomputable def f56_r1 : List EOper := [⟨(some (K.ofNat 3)), none, .ldn 64 (.t (K.ofNat 1))⟩, ⟨(some (K.ofNat 4)), none, .call (.c (.fn (K.ofNat 78) [])) [(.t (K.ofNat 3))]⟩, ⟨(some (K.ofNat 5)), none, .call (.c (.fn (K.ofNat 77) [])) [(.t (K.ofNat 4))]⟩, ⟨(some (K.ofNat 2)), none, .as (.t (K.ofNat 5))⟩]
noncomputable def f56_c : EC := (.seq (.reg f56_r0) (.seq (.reg f56_r1) .ret))
noncomputable def f56 : EF := ⟨6, [.tmp (K.ofNat 2)], f56_c, none⟩
theorem f56_rs : f56.rs = [.tmp (K.ofNat 2)] := of_eq_true (eq_self _)
noncomputable def f17_r0 : List EOper := [⟨(some (K.ofNat 4)), none, .as (.c .sn)⟩, ⟨(some (K.ofNat 5)), none, .as (.c (.i .i64 (.ofNat 0)))⟩]
noncomputable def f17_r1 : List EOper := [⟨(some (K.ofNat 7)), none, .mv (.t (K.ofNat 0))⟩, ⟨(some (K.ofNat 8)), none, .mv (.t (K.ofNat 1))⟩, ⟨(some (K.ofNat 9)), none, .call (.c (.fn (K.ofNat 16) [])) [(.t (K.ofNat 7)), (.t (K.ofNat 8))]⟩, ⟨(some (K.ofNat 6)), none, .as (.t (K.ofNat 9))⟩]
noncomputable def f17_r2 : List EOper := [⟨(some (K.ofNat 10)), none, .mv (.t (K.ofNat 6))⟩, ⟨(some (K.ofNat 11)), none, .bin .neq (.t (K.ofNat 10)) (.c (.i .i64 (.ofNat 0)))⟩]
noncomputable def f17_r3 : List EOper := [⟨(some (K.ofNat 12)), none, .mv (.t (K.ofNat 6))⟩, ⟨(some (K.ofNat 4)), none, .as (.c .sn)⟩, ⟨(some (K.ofNat 5)), none, .as (.t (K.ofNat 12))⟩]
noncomputable def f17_r4 : List EOper := [⟨(some (K.ofNat 13)), none, .mv (.t (K.ofNat 1))⟩, ⟨(some (K.ofNat 14)), none, .call (.c (.fn (K.ofNat 55) [])) [(.t (K.ofNat 13))]⟩, ⟨(some (K.ofNat 15)), none, .call (.c (.fn (K.ofNat 56) [])) [(.t (K.ofNat 14))]⟩, ⟨(some (K.ofNat 4)), none, .as (.t (K.ofNat 15))⟩, ⟨(some (K.ofNat 5)), none, .as (.c (.i .i64 (.ofNat 0)))⟩]
noncomputable def f17_c : EC := (.seq (.reg f17_r0) (.seq (.seq (.reg f17_r1) (.seq (.reg f17_r2) (.cond (.t (K.ofNat 11)) (.seq (.reg f17_r3) .ret) .skip))) (.seq (.reg f17_r4) .ret)))
noncomputable def f17 : EF := ⟨16, [.tmp (K.ofNat 4), .tmp (K.ofNat 5)], f17_c, none⟩
theorem f17_rs : f17.rs = [.tmp (K.ofNat 4), .tmp (K.ofNat 5)] := of_eq_true (eq_self _)
section
variable {fs : T EF} {ro : Option K}
theorem f90_ret {h : H} {k : K} {caps : List V} {N : H → Prop} {L : List Int} (hy : Yields fs k caps N (L.map iE)) (hN : ∀ h', Grow h.nx.nat h h' → N h') (hc : HC h) (hL : L.length ≤ 1000) :
    Ret fs f90 [.sn, .fn k caps] h fun u h' => Sl iE h' u L ∧ Own h.nx.nat u ∧ Grow h.nx.nat h h' := by
  apply ret_of rfl
  show W fs none f90_c _ _ _
  unfold f90_c
  simp (disch := omega) only [f90_r0, f90_r1, w_reg, w_seq, w_block, seqK_n, x_nil, x_mv, x_as, x_box, kx, rvP_ok, ev_t, ev_c, getV_some, putD_some, oGet_s, frame_2, cells1_sn, getK_set, Nat.reduceEqDiff, ↓reduceIte]
  have n1 := nx_new h (.cells 1 [.sn])
  have g1 : Grow h.nx.nat h (h.new (.cells 1 [.sn])) := Grow.new (Nat.le_refl _) _
  have e1 : (h.new (.cells 1 [.sn])).get h.nx = .cells 1 [.sn] := get_new_same
  generalize h.new (.cells 1 [.sn]) = h1 at *
  have hc1 := g1.hc hc
  generalize hfr1 : T.set (K.ofNat 6) (V.fn k caps) _ = fr1
  have f6 : fr1.get (K.ofNat 6) = some (.fn k caps) := by rw [← hfr1]; simp (disch := omega) only [getK_set, ↓reduceIte]
  have f2 : fr1.get (K.ofNat 2) = some (.p h.nx 0) := by rw [← hfr1]; simp (disch := omega) only [getK_set, Nat.reduceEqDiff, ↓reduceIte]
  clear hfr1
  have n2 := nx_new h1 (rdyB fr1 [(K.ofNat 7)] f90_a0 f90_b0)
  have g2 : Grow h1.nx.nat h1 (h1.new (rdyB fr1 [(K.ofNat 7)] f90_a0 f90_b0)) := Grow.new (Nat.le_refl _) _
  refine W_range (k := k) (caps := caps) (N := N) (ys := L.map iE) rfl (by simp (disch := omega) only [ev_t, getV_some, f6]) hy
    (fun j h5 => ∃ o lb, AccI iE h.nx.nat h h.nx h1.nx [] o (L.take j) lb h5) (fun _ _ => False) (fun i h5 ⟨o, lb, ht⟩ => hN _ ht.gr)
    ⟨.sn, _, Sl.nil, Own.sn, g1.trans (g2.low (by omega)), by rw [g2.old _ (by omega)]; exact e1, (fun p hp => by cases hp), get_new_same, by omega, by omega, Nat.le_refl _, (fun p hp => by cases hp)⟩ ?_ ?_ (fun _ _ _ hf => hf.elim)
  · rintro j h5 hj ⟨o, lb, ht⟩ hrd
    have hj' : j < L.length := by simpa using hj
    obtain rfl : lb = rdyB fr1 [(K.ofNat 7)] f90_a0 f90_b0 := ht.el.symm.trans hrd
    rw [List.getElem_map]
    rw [show ∀ Q fr h, W fs (some h1.nx) f90_a0 Q fr h = X fs f90_r2 (Q .normal) fr h from fun _ _ _ => rfl]
    simp (disch := omega) only [f90_r2, rndA_n, x_nil, x_as, ev_t, getV_some, putD_some, getK_set, ↓reduceIte]
    refine ⟨ht.el, ?_⟩
    have ht7 := ht.loop (bsyB fr1 [(K.ofNat 7)] f90_a0 f90_b0)
    generalize h5.put h1.nx (bsyB fr1 [(K.ofNat 7)] f90_a0 f90_b0) = h7 at *
    have hc7 := ht7.gr.hc hc
    obtain ⟨v', h', p1, p2, p3⟩ := ht7.push (x := L[j]) (c := .i .i64 L[j]) rfl hc7 (by rw [List.length_take]; omega)
    rw [show ∀ Q fr h, W fs (some h1.nx) f90_b0 Q fr h = X fs f90_r3 (atK 1 Q .normal) fr h from fun _ _ _ => rfl]
    simp (disch := omega) only [f90_r3, atK_n, rndK_n, x_nil, x_mv, x_bslice, x_ld, x_st, x_app, kx, rvP_ok, ev_t, getV_some, putD_some, putD_none, oGet_s, cells1_i, fill_1, set_1, of0, getK_set, Nat.reduceEqDiff, ↓reduceIte, f2, iE, ht7.ld, p1, p2]
    refine ⟨p3.el, v', rdyB fr1 [(K.ofNat 7)] f90_a0 f90_b0, ?_⟩
    rw [List.take_succ_eq_append_getElem hj']
    exact p3.loop _
  · rintro h5 ⟨o, lb, ht⟩
    have ht2 := ht.loop .dead
    rw [List.length_map, List.take_length] at ht2
    simp (disch := omega) only [f90_r4, f90_rs, w_reg, w_seq, w_ret, seqK_n, atK_n, retK_r, x_nil, x_as, x_ld, kx, rvP_ok, ev_t, getV_some, putD_some, oGet_s, readRs_nil, readRs_t, retV_1, Option.some.injEq, exists_eq_left', getK_set, ↓reduceIte, f2, ht2.ld]
    exact ⟨ht2.sl, ht2.own.low (by omega), ht2.gr⟩
theorem f77_ret {h : H} {k : K} {caps : List V} {N : H → Prop} {L : List Int} (h90 : fs.get (K.ofNat 90) = some f90) (hy : Yields fs k caps N (L.map iE)) (hN : ∀ h', Grow h.nx.nat h h' → N h') (hc : HC h) (hL : L.length ≤ 1000) :
    Ret fs f77 [.fn k caps] h fun u h' => Sl iE h' u L ∧ Own h.nx.nat u ∧ Grow h.nx.nat h h' := by
  apply ret_of rfl
  show W fs none f77_c _ _ _
  unfold f77_c
  simp (disch := omega) only [f77_r0, f77_r1, w_reg, w_seq, seqK_n, x_nil, x_mv, x_as, x_call, ev_t, ev_c, evs_nil, evs_cons, getV_some, putD_some, frame_1, getK_set, Nat.reduceEqDiff, ↓reduceIte]
  refine (callP_0 (ef := f90) h90 rfl (f90_ret hy hN hc hL)).mono ?_
  rintro u h1 hr
  simp (disch := omega) only [f77_rs, w_ret, seqK_n, retK_r, x_nil, x_as, kx, ev_t, getV_some, putD_some, oGet_s, readRs_nil, readRs_t, retV_1, Option.some.injEq, exists_eq_left', getK_set, ↓reduceIte]
  exact hr
def memI (B : Nat → Bool) : List Int := (mem64 B).map fun (k : Nat) => (k : Int)
theorem memI_len {B : Nat → Bool} : (memI B).length ≤ 64 := by unfold memI; rw [List.length_map]; exact mem64_len
theorem ysOf_eq {B : Nat → Bool} : ysOf B = (memI B).map iE := by unfold ysOf memI; rw [List.map_map]; rfl
theorem f56_ret {h : H} {B : Nat → Bool} (h77 : fs.get (K.ofNat 77) = some f77) (h90 : fs.get (K.ofNat 90) = some f90) (h78 : fs.get (K.ofNat 78) = some f78) (h91 : fs.get (K.ofNat 91) = some alF) (hc : HC h) :
    Ret fs f56 [.agg (boolV B)] h fun u h' => Sl iE h' u (memI B) ∧ Own h.nx.nat u ∧ Grow h.nx.nat h h' := by
  apply ret_of rfl
  show W fs none f56_c _ _ _
  unfold f56_c
  have n1 := nx_new h (.cells 64 (boolV B))
  have g1 : Grow h.nx.nat h (h.new (.cells 64 (boolV B))) := Grow.new (Nat.le_refl _) _
  have hA : Ar V.b (h.new (.cells 64 (boolV B))) h.nx (arr B 64) := by
    unfold Ar; rw [arr_len, get_new_same]; rfl
  simp (disch := omega) only [f56_r0, f56_r1, w_reg, w_seq, seqK_n, x_nil, x_as, x_box, x_ldn, x_call, kx, rvP_ok, ev_t, ev_c, evs_nil, evs_cons, getV_some, putD_some, oGet_s, frame_1, getK_set, Nat.reduceEqDiff, ↓reduceIte, cells64 (boolV_len (B := B)), hA.ldn (n := 64) (by rw [arr_len])]
  refine (callP_0 (ef := f78) h78 rfl (f78_ret (boolV_len (B := B)))).mono ?_
  rintro u h1 ⟨rfl, rfl⟩
  simp (disch := omega) only [x_call, kx, ev_t, ev_c, evs_nil, evs_cons, getV_some, putD_some, getK_set, ↓reduceIte]
  generalize hh1 : h.new (.cells 64 (boolV B)) = h1 at *
  have n2 := nx_new h1 (.cells 64 (boolV B))
  have g2 : Grow h1.nx.nat h1 (h1.new (.cells 64 (boolV B))) := Grow.new (Nat.le_refl _) _
  have hy := all_yields (fs := fs) (idp := h1.nx) h91 (boolV_at (B := B))
  rw [show (((List.range 64).filter B).map fun (i : Nat) => V.i .i64 (i : Int)) = (memI B).map iE from ysOf_eq] at hy
  refine (callP_0 (ef := f77) h77 rfl (f77_ret (k := (K.ofNat 91)) (caps := [.p h1.nx 0]) h90 hy (fun h' hg => by rw [hg.old _ (by omega)]; exact get_new_same) (g2.hc (g1.hc hc)) (by have := memI_len (B := B); omega))).mono ?_
  rintro u h3 ⟨hs, ho, g3⟩
  simp (disch := omega) only [f56_rs, w_ret, seqK_n, retK_r, x_nil, x_as, kx, ev_t, getV_some, putD_some, oGet_s, readRs_nil, readRs_t, retV_1, Option.some.injEq, exists_eq_left', getK_set, ↓reduceIte]
  exact ⟨hs, ho.low (by omega), g1.trans ((g2.low (by omega)).trans (g3.low (by omega)))⟩
theorem famB_list {S : List Int} : (arr (famB S) 64).map V.b = boolV (famB S) := rfl
theorem f17_ret {h : H} {v : V} {S : List Int} {n : Int} (hp : ∀ a b h P, CallP fs (.fn (K.ofNat 54) []) [.i .i64 a, .i .i64 b] h P = P (.b (ptI a b)) h) (h16 : fs.get (K.ofNat 16) = some f16) (h55 : fs.get (K.ofNat 55) = some f55) (h56 : fs.get (K.ofNat 56) = some f56) (h77 : fs.get (K.ofNat 77) = some f77) (h90 : fs.get (K.ofNat 90) = some f90) (h78 : fs.get (K.ofNat 78) = some f78) (h91 : fs.get (K.ofNat 91) = some alF)
    (hv : Sl iE h v S) (hc : HC h) (hS : S.length ≤ 1000000) :
    Ret fs f17 [.i .i64 n, v] h fun r h' => ∃ u, r = .tup [u, .i .i64 (chkS n S)] ∧ Sl iE h' u (if chkS n S = 0 then memI (famB S) else []) ∧ Own h.nx.nat u ∧ Grow h.nx.nat h h' := by
  apply ret_of rfl
  show W fs none f17_c _ _ _
  unfold f17_c
  simp (disch := omega) only [f17_r0, f17_r1, w_reg, w_seq, seqK_n, x_nil, x_mv, x_as, x_call, ev_t, ev_c, evs_nil, evs_cons, getV_some, putD_some, frame_2, of0, getK_set, Nat.reduceEqDiff, ↓reduceIte]
  refine (callP_0 (ef := f16) h16 rfl (f16_ret hp hv)).mono ?_
  rintro u h1 ⟨rfl, rfl⟩
  by_cases e : chkS n S = 0
  · simp (disch := omega) only [f17_r2, f17_r4, w_skip, w_reg, w_seq, w_cond, seqK_n, ckB_b, cbB_b, true_and, x_nil, x_mv, x_as, x_bin, x_call, kx, rvP_ok, okv_some, ev_t, ev_c, evs_nil, evs_cons, getV_some, putD_some, bin_neq, of0, getK_set, Nat.reduceEqDiff, ↓reduceIte, Bool.false_eq_true, e, ne_eq, not_true_eq_false, decide_false]
    refine (callP_0 (ef := f55) h55 rfl (f55_ret (S := S) hp hv hc hS)).mono ?_
    rintro u h2 ⟨rfl, g2⟩
    rw [famB_list]
    simp (disch := omega) only [x_call, kx, ev_t, ev_c, evs_nil, evs_cons, getV_some, putD_some, getK_set, ↓reduceIte]
    refine (callP_0 (ef := f56) h56 rfl (f56_ret (B := famB S) h77 h90 h78 h91 (g2.hc hc))).mono ?_
    rintro u h3 ⟨hs, ho, g3⟩
    simp (disch := omega) only [f17_rs, w_ret, seqK_n, retK_r, x_nil, x_as, kx, ev_t, ev_c, getV_some, putD_some, oGet_s, readRs_nil, readRs_t, retV_2, Option.some.injEq, exists_eq_left', getK_set, Nat.reduceEqDiff, ↓reduceIte]
    exact ⟨u, rfl, hs, ho.low g2.nx, g2.trans (g3.low g2.nx)⟩
  · simp (disch := omega) only [f17_r2, f17_r3, f17_rs, w_reg, w_seq, w_cond, w_ret, seqK_n, seqK_r, ckB_b, cbB_b, true_and, retK_r, x_nil, x_mv, x_as, x_bin, kx, rvP_ok, okv_some, ev_t, ev_c, getV_some, putD_some, bin_neq, oGet_s, readRs_nil, readRs_t, retV_2, of0, Option.some.injEq, exists_eq_left', getK_set, Nat.reduceEqDiff, ↓reduceIte, e, ne_eq, not_false_eq_true, decide_true]
    exact ⟨.sn, rfl, Sl.nil, Own.sn, Grow.refl _ _⟩
end
end Go.Ev
namespace Go.Ev
open Go Go.RowKit
noncomputable def f57_r0 : List EOper := [⟨(some (K.ofNat 1)), none, .box 64 (.t (K.ofNat 0))⟩, ⟨(some (K.ofNat 2)), none, .as (.c .sn)⟩]
noncomputable def f57_r1 : List EOper := [⟨(some (K.ofNat 3)), none, .alloc 1 [.sn]⟩]
noncomputable def f57_r2 : List EOper := [⟨(some (K.ofNat 6)), none, .ldn 64 (.t (K.ofNat 1))⟩, ⟨(some (K.ofNat 7)), none, .call (.c (.fn (K.ofNat 78) [])) [(.t (K.ofNat 6))]⟩]
noncomputable def f57_r3 : List EOper := [⟨(some (K.ofNat 4)), none, .as (.t (K.ofNat 8))⟩]
noncomputable def f57_a0 : EC := (.reg f57_r3)
noncomputable def f57_r4 : List EOper := [⟨(some (K.ofNat 9)), none, .mv (.t (K.ofNat 4))⟩, ⟨(some (K.ofNat 10)), none, .call (.c (.fn (K.ofNat 75) [])) [(.t (K.ofNat 9))]⟩, ⟨(some (K.ofNat 5)), none, .as (.t (K.ofNat 10))⟩]
noncomputable def f57_r5 : List EOper := [⟨(some (K.ofNat 11)), none, .ld (.t (K.ofNat 3))⟩, ⟨(some (K.ofNat 12)), none, .len (.t (K.ofNat 11))⟩, ⟨(some (K.ofNat 13)), none, .mv (.t (K.ofNat 5))⟩, ⟨(some (K.ofNat 14)), none, .bin .leq (.t (K.ofNat 12)) (.t (K.ofNat 13))⟩]
noncomputable def f57_r6 : List EOper := [⟨(some (K.ofNat 15)), none, .ld (.t (K.ofNat 3))⟩, ⟨(some (K.ofNat 16)), none, .bslice 1 1 [(.i .i64 (.ofNat 0))] [(0, 1, (.c (.i .i64 (.ofNat 0))))]⟩, ⟨(some (K.ofNat 17)), none, .app 1 (.t (K.ofNat 15)) (.t (K.ofNat 16))⟩, ⟨none, none, .st 1 (.t (K.ofNat 3)) (.t (K.ofNat 17))⟩]
noncomputable def f57_l0 : EC := (.seq (.seq (.reg f57_r5) (.cond (.t (K.ofNat 14)) .skip (.exit 2))) (.block 3 (.reg f57_r6)))
noncomputable def f57_r7 : List EOper := [⟨(some (K.ofNat 18)), none, .ld (.t (K.ofNat 3))⟩, ⟨(some (K.ofNat 19)), none, .mv (.t (K.ofNat 5))⟩, ⟨(some (K.ofNat 20)), none, .iads 1 (.t (K.ofNat 18)) (.t (K.ofNat 19))⟩, ⟨(some (K.ofNat 21)), none, .ld (.t (K.ofNat 20))⟩, ⟨(some (K.ofNat 22)), none, .bin .add (.t (K.ofNat 21)) (.c (.i .i64 (.ofNat 1)))⟩, ⟨(some (K.ofNat 23)), none, .iads 1 (.t (K.ofNat 18)) (.t (K.ofNat 19))⟩, ⟨none, none, .st 1 (.t (K.ofNat 23)) (.t (K.ofNat 22))⟩]
noncomputable def f57_b0 : EC := (.block 1 (.seq (.reg f57_r4) (.seq (.block 2 (.loop f57_l0)) (.reg f57_r7))))
noncomputable def f57_r8 : List EOper := [⟨(some (K.ofNat 24)), none, .ld (.t (K.ofNat 3))⟩, ⟨(some (K.ofNat 2)), none, .as (.t (K.ofNat 24))⟩]
noncomputable def f57_c : EC := (.seq (.reg f57_r0) (.seq (.reg f57_r1) (.seq (.seq (.reg f57_r2) (.block 0 (.rangeF (.t (K.ofNat 7)) [(K.ofNat 8)] f57_a0 f57_b0))) (.seq (.reg f57_r8) .ret))))
noncomputable def f57 : EF := ⟨25, [.tmp (K.ofNat 2)], f57_c, none⟩
theorem f57_rs : f57.rs = [.tmp (K.ofNat 2)] := of_eq_true (eq_self _)
noncomputable def f18_r0 : List EOper := [⟨(some (K.ofNat 4)), none, .as (.c .sn)⟩, ⟨(some (K.ofNat 5)), none, .as (.c (.i .i64 (.ofNat 0)))⟩]
noncomputable def f18_r1 : List EOper := [⟨(some (K.ofNat 7)), none, .mv (.t (K.ofNat 0))⟩, ⟨(some (K.ofNat 8)), none, .mv (.t (K.ofNat 1))⟩, ⟨(some (K.ofNat 9)), none, .call (.c (.fn (K.ofNat 16) [])) [(.t (K.ofNat 7)), (.t (K.ofNat 8))]⟩, ⟨(some (K.ofNat 6)), none, .as (.t (K.ofNat 9))⟩]
noncomputable def f18_r2 : List EOper := [⟨(some (K.ofNat 10)), none, .mv (.t (K.ofNat 6))⟩, ⟨(some (K.ofNat 11)), none, .bin .neq (.t (K.ofNat 10)) (.c (.i .i64 (.ofNat 0)))⟩]
noncomputable def f18_r3 : List EOper := [⟨(some (K.ofNat 12)), none, .mv (.t (K.ofNat 6))⟩, ⟨(some (K.ofNat 4)), none, .as (.c .sn)⟩, ⟨(some (K.ofNat 5)), none, .as (.t (K.ofNat 12))⟩]
noncomputable def f18_r4 : List EOper := [⟨(some (K.ofNat 13)), none, .mv (.t (K.ofNat 1))⟩, ⟨(some (K.ofNat 14)), none, .call (.c (.fn (K.ofNat 55) [])) [(.t (K.ofNat 13))]⟩, ⟨(some (K.ofNat 15)), none, .call (.c (.fn (K.ofNat 57) [])) [(.t (K.ofNat 14))]⟩, ⟨(some (K.ofNat 4)), none, .as (.t (K.ofNat 15))⟩, ⟨(some (K.ofNat 5)), none, .as (.c (.i .i64 (.ofNat 0)))⟩]
noncomputable def f18_c : EC := (.seq (.reg f18_r0) (.seq (.seq (.reg f18_r1) (.seq (.reg f18_r2) (.cond (.t (K.ofNat 11)) (.seq (.reg f18_r3) .ret) .skip))) (.seq (.reg f18_r4) .ret)))
noncomputable def f18 : EF := ⟨16, [.tmp (K.ofNat 4), .tmp (K.ofNat 5)], f18_c, none⟩
theorem f18_rs : f18.rs = [.tmp (K.ofNat 4), .tmp (K.ofNat 5)] := of_eq_true (eq_self _)
section
variable {fs : T EF} {ro : Option K}
theorem snoc_ind {α : Type} {P : List α → Prop} (h0 : P []) (h1 : ∀ l a, P l → P (l ++ [a])) (l : List α) : P l := by
  have : ∀ m : List α, P m.reverse := by
    intro m
    induction m with
    | nil => exact h0
    | cons a m ih => rw [List.reverse_cons]; exact h1 _ _ ih
  have h := this l.reverse
  rwa [List.reverse_reverse] at h
noncomputable def cpad (C : List Int) (m : Nat) : List Int := C ++ List.replicate (m + 1 - C.length) 0
noncomputable def cstep (C : List Int) (m : Nat) : List Int := (cpad C m).set m ((cpad C m).getD m 0 + 1)
noncomputable def cntS (l : List Nat) : List Int := l.foldl (fun C k => cstep C (pop6 k)) []
theorem cntS_snoc {l : List Nat} {k : Nat} : cntS (l ++ [k]) = cstep (cntS l) (pop6 k) := by unfold cntS; rw [List.foldl_append]; rfl
theorem cpad_len {C : List Int} {m : Nat} : m < (cpad C m).length := by unfold cpad; rw [List.length_append, List.length_replicate]; omega
theorem cpad_bd {C : List Int} {m : Nat} {b : Int} (hb : 0 ≤ b) (h : ∀ x ∈ C, 0 ≤ x ∧ x ≤ b) : ∀ x ∈ cpad C m, 0 ≤ x ∧ x ≤ b := by
  intro x hx
  unfold cpad at hx
  rcases List.mem_append.1 hx with h1 | h1
  · exact h x h1
  · have := List.eq_of_mem_replicate h1; omega
theorem cntS_bd : ∀ (l : List Nat), ∀ x ∈ cntS l, 0 ≤ x ∧ x ≤ (l.length : Int) := by
  intro l
  refine snoc_ind (P := fun l => ∀ x ∈ cntS l, 0 ≤ x ∧ x ≤ (l.length : Int)) (fun x hx => by cases hx) (fun l k ih => ?_) l
  · intro x hx
    rw [cntS_snoc] at hx
    have h1 := cpad_bd (m := pop6 k) (b := (l.length : Int)) (by omega) ih
    unfold cstep at hx
    rw [List.length_append]
    rcases List.mem_or_eq_of_mem_set hx with h2 | h2
    · have := h1 x h2; simp; omega
    · have h3 : (cpad (cntS l) (pop6 k)).getD (pop6 k) 0 ∈ cpad (cntS l) (pop6 k) := by
        have := cpad_len (C := cntS l) (m := pop6 k)
        simp [List.getD, this]
      have := h1 _ h3; simp; omega
theorem pop6_le {k : Nat} : pop6 k ≤ 6 := by
  show k % 2 + (k / 2 % 2 + (k / 4 % 2 + (k / 8 % 2 + (k / 16 % 2 + k / 32 % 2)))) ≤ 6
  omega
theorem cntS_len : ∀ (l : List Nat), (cntS l).length ≤ 7 := by
  intro l
  refine snoc_ind (P := fun l => (cntS l).length ≤ 7) (by simp [cntS]) (fun l k ih => ?_) l
  · rw [cntS_snoc]
    unfold cstep cpad
    have := pop6_le (k := k)
    rw [List.length_set, List.length_append, List.length_replicate]
    omega
def f57_I0 (h : H) (B : Nat → Bool) (id1 id3 idf idl : K) (lb : Blk) (C : List Int) (m : Nat) (t : Nat) (fr : Fr) (h1 : H) : Prop := ∃ o, t ≤ m + 1 - C.length ∧ AccI iE h.nx.nat h id3 idl [(id1, .cells 64 (boolV B)), (idf, .cells 64 (boolV B))] o (C ++ List.replicate t 0) lb h1 ∧ fr.get (K.ofNat 3) = some (.p id3 0) ∧ fr.get (K.ofNat 5) = some (.i .i64 (m : Int))
theorem f57_inner {Q : Ex → Fr → H → Prop} {h h0 : H} {B : Nat → Bool} {id1 id3 idf idl : K} {lb : Blk} {C : List Int} {m : Nat} {fr : Fr} (hc : HC h) (hC : C.length ≤ 7) (hm : m ≤ 6)
    (hi : f57_I0 h B id1 id3 idf idl lb C m 0 fr h0)
    (hq : ∀ fr h1 o, AccI iE h.nx.nat h id3 idl [(id1, .cells 64 (boolV B)), (idf, .cells 64 (boolV B))] o (cpad C m) lb h1 → fr.get (K.ofNat 3) = some (.p id3 0) ∧ fr.get (K.ofNat 5) = some (.i .i64 (m : Int)) → Q (.exit 2) fr h1) :
    W fs ro (.loop f57_l0) Q fr h0 := by
  refine W_loop (f57_I0 h B id1 id3 idf idl lb C m) (fun t => m + 1 - C.length - t) ?_ 0 hi
  clear hi fr h0
  rintro t fr h1 ⟨o, ht, ha, g3, g5⟩
  have hc1 := ha.gr.hc hc
  have hlen : (C ++ List.replicate t (0 : Int)).length = C.length + t := by rw [List.length_append, List.length_replicate]
  unfold f57_l0
  by_cases hle : C.length + t ≤ m
  · have hle' : ((C ++ List.replicate t (0 : Int)).length : Int) ≤ (m : Int) := by rw [hlen]; omega
    obtain ⟨v', h', p1, p2, p3⟩ := ha.push (x := (0 : Int)) (c := .i .i64 0) rfl hc1 (by omega)
    simp (disch := omega) only [f57_r5, f57_r6, w_skip, w_reg, w_seq, w_cond, w_block, seqK_n, atK_n, loopK_n, ckB_b, cbB_b, true_and, x_nil, x_mv, x_bslice, x_ld, x_st, x_bin, x_len, x_app, kx, rvP_ok, okv_some, ev_t, ev_c, getV_some, putD_some, putD_none, bin_leq, oGet_s, cells1_i, fill_1, set_1, of0, getK_set, Nat.reduceEqDiff, ↓reduceIte, g3, g5, ha.ld, ha.sl.len, hle', decide_true, p1, p2]
    refine ⟨t + 1, by omega, v', by omega, ?_, by simp (disch := omega) only [getK_set, Nat.reduceEqDiff, ↓reduceIte, g3, g5, and_self]⟩
    rw [List.replicate_succ', ← List.append_assoc]; exact p3
  · have hle' : ¬ ((C ++ List.replicate t (0 : Int)).length : Int) ≤ (m : Int) := by rw [hlen]; omega
    simp (disch := omega) only [f57_r5, w_reg, w_seq, w_cond, w_exit, seqK_n, seqK_e, loopK_e, ckB_b, cbB_b, true_and, x_nil, x_mv, x_ld, x_bin, x_len, kx, rvP_ok, okv_some, ev_t, getV_some, putD_some, bin_leq, getK_set, Nat.reduceEqDiff, ↓reduceIte, Bool.false_eq_true, g3, g5, ha.ld, ha.sl.len, hle', decide_false]
    refine hq _ _ o ?_ (by simp (disch := omega) only [getK_set, Nat.reduceEqDiff, ↓reduceIte, g3, g5, and_self])
    have : t = m + 1 - C.length := by omega
    subst this; exact ha
theorem f57_ret {h : H} {B : Nat → Bool}
    (hp : ∀ m : Nat, m < 64 → ∀ h P, CallP fs (.fn (K.ofNat 75) []) [.i .i64 (m : Int)] h P = P (.i .i64 (pop6 m : Int)) h) (h78 : fs.get (K.ofNat 78) = some f78) (h91 : fs.get (K.ofNat 91) = some alF) (hc : HC h) :
    Ret fs f57 [.agg (boolV B)] h fun u h' => Sl iE h' u (cntS (mem64 B)) ∧ Own h.nx.nat u ∧ Grow h.nx.nat h h' := by
  apply ret_of rfl
  show W fs none f57_c _ _ _
  unfold f57_c
  have n1 := nx_new h (.cells 64 (boolV B))
  have n2 := nx_new (h.new (.cells 64 (boolV B))) (.cells 1 [.sn])
  have hA : Ar V.b ((h.new (.cells 64 (boolV B))).new (.cells 1 [.sn])) h.nx (arr B 64) := by
    unfold Ar; rw [arr_len, get_new_old (by omega), get_new_same]; rfl
  simp (disch := omega) only [f57_r0, f57_r1, f57_r2, w_reg, w_seq, seqK_n, x_nil, x_as, x_alloc, x_box, x_ldn, x_call, kx, rvP_ok, ev_t, ev_c, evs_nil, evs_cons, getV_some, putD_some, oGet_s, frame_1, getK_set, Nat.reduceEqDiff, ↓reduceIte, cells64 (boolV_len (B := B)), hA.ldn (n := 64) (by rw [arr_len])]
  refine (callP_0 (ef := f78) h78 rfl (f78_ret (boolV_len (B := B)))).mono ?_
  rintro u h1 ⟨rfl, rfl⟩
  simp (disch := omega) only [w_block, seqK_n, x_nil, kx, putD_some]
  have g0 : Grow h.nx.nat h ((h.new (.cells 64 (boolV B))).new (.cells 1 [.sn])) := (Grow.new (Nat.le_refl _) _).trans (Grow.new (by omega) _)
  have e3 : ((h.new (.cells 64 (boolV B))).new (.cells 1 [.sn])).get (h.new (.cells 64 (boolV B))).nx = .cells 1 [.sn] := get_new_same
  have e1 : ((h.new (.cells 64 (boolV B))).new (.cells 1 [.sn])).get h.nx = .cells 64 (boolV B) := by rw [get_new_old (by omega), get_new_same]
  generalize hid3 : (h.new (.cells 64 (boolV B))).nx = id3 at *
  generalize hh2 : (h.new (.cells 64 (boolV B))).new (.cells 1 [.sn]) = h2 at *
  have n3 := nx_new h2 (.cells 64 (boolV B))
  have hc2 := g0.hc hc
  have ga : Grow h2.nx.nat h2 (h2.new (.cells 64 (boolV B))) := Grow.new (Nat.le_refl _) _
  have ef : (h2.new (.cells 64 (boolV B))).get h2.nx = .cells 64 (boolV B) := get_new_same
  rw [← ga.old _ (by omega)] at e3 e1
  have g1 := g0.trans (ga.low (b := h.nx.nat) (by omega))
  generalize hh3 : h2.new (.cells 64 (boolV B)) = h3 at *
  have hc3 := g1.hc hc
  generalize hfr1 : T.set (K.ofNat 7) (V.fn (K.ofNat 91) [V.p h2.nx 0]) _ = fr1
  have f7 : fr1.get (K.ofNat 7) = some (.fn (K.ofNat 91) [.p h2.nx 0]) := by rw [← hfr1]; simp (disch := omega) only [getK_set, ↓reduceIte]
  have f3 : fr1.get (K.ofNat 3) = some (.p id3 0) := by rw [← hfr1]; simp (disch := omega) only [getK_set, Nat.reduceEqDiff, ↓reduceIte]
  clear hfr1
  have hlen := ysOf_len (B := B)
  have n4 := nx_new h3 (rdyB fr1 [(K.ofNat 8)] f57_a0 f57_b0)
  have hnew : Grow h3.nx.nat h3 (h3.new (rdyB fr1 [(K.ofNat 8)] f57_a0 f57_b0)) := Grow.new (Nat.le_refl _) _
  refine W_range (k := (K.ofNat 91)) (caps := [.p h2.nx 0]) (N := fun h => h.get h2.nx = .cells 64 (boolV B)) (ys := ysOf B) rfl (by simp (disch := omega) only [ev_t, getV_some, f7]) (all_yields h91 boolV_at)
    (fun j h5 => ∃ o lb, AccI iE h.nx.nat h id3 h3.nx [(h.nx, .cells 64 (boolV B)), (h2.nx, .cells 64 (boolV B))] o (cntS ((mem64 B).take j)) lb h5) (fun _ _ => False) (fun i h5 ⟨o, lb, ht⟩ => ht.kp (h2.nx, _) (by simp))
    ⟨.sn, _, Sl.nil, Own.sn, g1.trans (hnew.low (by omega)), by rw [hnew.old _ (by omega)]; exact e3, fun p hp => ?_, get_new_same, by omega, by omega, by omega, fun p hp => ?_⟩ ?_ ?_ (fun _ _ _ hf => hf.elim)
  · simp only [List.mem_cons, List.not_mem_nil, or_false] at hp
    rcases hp with rfl | rfl
    · rw [hnew.old _ (by show h.nx.nat < _; omega)]; exact e1
    · rw [hnew.old _ (by show h2.nx.nat < _; omega)]; exact ef
  · simp only [List.mem_cons, List.not_mem_nil, or_false] at hp
    rcases hp with rfl | rfl
    · exact ⟨by show h.nx.nat < _; omega, kNe (by show h.nx.nat < _; omega)⟩
    · exact ⟨by show h2.nx.nat < _; omega, (kNe (by show _ < h2.nx.nat; omega)).symm⟩
  · rintro j h5 hj ⟨o, lb, ht⟩ hrd
    have hj' : j < (mem64 B).length := by omega
    rw [ysOf_at hj]
    obtain rfl : lb = rdyB fr1 [(K.ofNat 8)] f57_a0 f57_b0 := ht.el.symm.trans hrd
    rw [show ∀ Q fr h, W fs (some h3.nx) f57_a0 Q fr h = X fs f57_r3 (Q .normal) fr h from fun _ _ _ => rfl]
    simp (disch := omega) only [f57_r3, rndA_n, x_nil, x_as, ev_t, getV_some, putD_some, getK_set, ↓reduceIte]
    refine ⟨ht.el, ?_⟩
    have ht7 := ht.loop (bsyB fr1 [(K.ofNat 8)] f57_a0 f57_b0)
    generalize h5.put h3.nx (bsyB fr1 [(K.ofNat 8)] f57_a0 f57_b0) = h7 at *
    have hx64 : (mem64 B)[j] < 64 := by
      have := List.getElem_mem hj'
      unfold mem64 at this
      rw [List.mem_filter, List.mem_range] at this
      exact this.1
    rw [show ∀ Q fr h, W fs (some h3.nx) f57_b0 Q fr h = X fs f57_r4 (seqK (W fs (some h3.nx) (.seq (.block 2 (.loop f57_l0)) (.reg f57_r7))) (atK 1 Q) .normal) fr h from fun _ _ _ => rfl]
    simp (disch := omega) only [f57_r4, w_seq, w_block, seqK_n, x_nil, x_mv, x_as, x_call, kx, ev_t, ev_c, evs_nil, evs_cons, getV_some, putD_some, getK_set, ↓reduceIte, hp _ hx64]
    refine f57_inner (h := h) (B := B) (id1 := h.nx) (id3 := id3) (idf := h2.nx) (idl := h3.nx) (lb := bsyB fr1 [(K.ofNat 8)] f57_a0 f57_b0) (C := cntS ((mem64 B).take j)) (m := pop6 (mem64 B)[j]) hc (cntS_len _) pop6_le ⟨o, by omega, by rw [List.replicate_zero, List.append_nil]; exact ht7, by simp (disch := omega) only [getK_set, Nat.reduceEqDiff, ↓reduceIte, f3, and_self]⟩ ?_
    rintro fr h8 o2 ha ⟨g3, g5⟩
    have hc8 := ha.gr.hc hc
    have hml := cpad_len (C := cntS ((mem64 B).take j)) (m := pop6 (mem64 B)[j])
    obtain ⟨p, hp1, hp2⟩ := ha.sl.at _ hml
    have hbd := cpad_bd (m := pop6 (mem64 B)[j]) (b := ((((mem64 B).take j).length : Nat) : Int)) (by omega) (cntS_bd ((mem64 B).take j)) _ (List.getElem_mem hml)
    have hl64 := mem64_len (B := B)
    have hlt : ((mem64 B).take j).length ≤ 64 := by rw [List.length_take]; omega
    obtain ⟨p2, id, m2, cs2, q1, q2, q3, ⟨off, nn, sz, q4⟩, q5⟩ := ha.sl.st hml (x := (cpad (cntS ((mem64 B).take j)) (pop6 (mem64 B)[j]))[pop6 (mem64 B)[j]] + 1) (c := .i .i64 ((cpad (cntS ((mem64 B).take j)) (pop6 (mem64 B)[j]))[pop6 (mem64 B)[j]] + 1)) rfl rfl hc8
    have hpp : p2 = p := by
      have h1 := hp1 .i64 h8
      have h2 := q1 .i64 h8
      rw [h1] at h2
      cases h2; rfl
    subst hpp
    have hid := ha.own id off nn sz q4
    have hfw : fw .i64 ((cpad (cntS ((mem64 B).take j)) (pop6 (mem64 B)[j]))[pop6 (mem64 B)[j]] + 1) = (cpad (cntS ((mem64 B).take j)) (pop6 (mem64 B)[j]))[pop6 (mem64 B)[j]] + 1 := fw64 (by omega) (by omega)
    simp (disch := omega) only [f57_r7, w_reg, seqK_n, atK_n, atK_e, rndK_n, x_nil, x_mv, x_ld, x_st, x_bin, x_iads, kx, rvP_ok, okv_some, ev_t, ev_c, getV_some, putD_some, putD_none, bin_add, of1, getK_set, Nat.reduceEqDiff, ↓reduceIte, g3, g5, ha.ld, hp1, hp2, iE, hfw, q2]
    have hfin := ha.turned q3 (Grow.put hid q5 _)
    refine ⟨hfin.el, o2, rdyB fr1 [(K.ofNat 8)] f57_a0 f57_b0, ?_⟩
    have hst : cntS ((mem64 B).take (j + 1)) = (cpad (cntS ((mem64 B).take j)) (pop6 (mem64 B)[j])).set (pop6 (mem64 B)[j]) ((cpad (cntS ((mem64 B).take j)) (pop6 (mem64 B)[j]))[pop6 (mem64 B)[j]] + 1) := by
      rw [List.take_succ_eq_append_getElem hj', cntS_snoc]
      unfold cstep
      rw [show (cpad (cntS ((mem64 B).take j)) (pop6 (mem64 B)[j])).getD (pop6 (mem64 B)[j]) 0 = (cpad (cntS ((mem64 B).take j)) (pop6 (mem64 B)[j]))[pop6 (mem64 B)[j]] by simp [List.getD, hml]]
    rw [hst]
    exact hfin.loop _
  · rintro h5 ⟨o, lb, ht⟩
    have ht2 := ht.loop .dead
    rw [hlen, List.take_length] at ht2
    simp (disch := omega) only [f57_r8, f57_rs, w_reg, w_seq, w_ret, seqK_n, atK_n, retK_r, x_nil, x_as, x_ld, kx, rvP_ok, ev_t, getV_some, putD_some, oGet_s, readRs_nil, readRs_t, retV_1, Option.some.injEq, exists_eq_left', getK_set, ↓reduceIte, f3, ht2.ld]
    exact ⟨ht2.sl, ht2.own.low (by omega), ht2.gr⟩
theorem f18_ret {h : H} {v : V} {S : List Int} {n : Int} (hp : ∀ a b h P, CallP fs (.fn (K.ofNat 54) []) [.i .i64 a, .i .i64 b] h P = P (.b (ptI a b)) h)
    (hp75 : ∀ m : Nat, m < 64 → ∀ h P, CallP fs (.fn (K.ofNat 75) []) [.i .i64 (m : Int)] h P = P (.i .i64 (pop6 m : Int)) h)
    (h16 : fs.get (K.ofNat 16) = some f16) (h55 : fs.get (K.ofNat 55) = some f55) (h57 : fs.get (K.ofNat 57) = some f57) (h78 : fs.get (K.ofNat 78) = some f78) (h91 : fs.get (K.ofNat 91) = some alF)
    (hv : Sl iE h v S) (hc : HC h) (hS : S.length ≤ 1000000) :
    Ret fs f18 [.i .i64 n, v] h fun r h' => ∃ u, r = .tup [u, .i .i64 (chkS n S)] ∧ Sl iE h' u (if chkS n S = 0 then cntS (mem64 (famB S)) else []) ∧ Own h.nx.nat u ∧ Grow h.nx.nat h h' := by
  apply ret_of rfl
  show W fs none f18_c _ _ _
  unfold f18_c
  simp (disch := omega) only [f18_r0, f18_r1, w_reg, w_seq, seqK_n, x_nil, x_mv, x_as, x_call, ev_t, ev_c, evs_nil, evs_cons, getV_some, putD_some, frame_2, of0, getK_set, Nat.reduceEqDiff, ↓reduceIte]
  refine (callP_0 (ef := f16) h16 rfl (f16_ret hp hv)).mono ?_
  rintro u h1 ⟨rfl, rfl⟩
  by_cases e : chkS n S = 0
  · simp (disch := omega) only [f18_r2, f18_r4, w_skip, w_reg, w_seq, w_cond, seqK_n, ckB_b, cbB_b, true_and, x_nil, x_mv, x_as, x_bin, x_call, kx, rvP_ok, okv_some, ev_t, ev_c, evs_nil, evs_cons, getV_some, putD_some, bin_neq, of0, getK_set, Nat.reduceEqDiff, ↓reduceIte, Bool.false_eq_true, e, ne_eq, not_true_eq_false, decide_false]
    refine (callP_0 (ef := f55) h55 rfl (f55_ret (S := S) hp hv hc hS)).mono ?_
    rintro u h2 ⟨rfl, g2⟩
    rw [famB_list]
    simp (disch := omega) only [x_call, kx, ev_t, ev_c, evs_nil, evs_cons, getV_some, putD_some, getK_set, ↓reduceIte]
    refine (callP_0 (ef := f57) h57 rfl (f57_ret (B := famB S) hp75 h78 h91 (g2.hc hc))).mono ?_
    rintro u h3 ⟨hs, ho, g3⟩
    simp (disch := omega) only [f18_rs, w_ret, seqK_n, retK_r, x_nil, x_as, kx, ev_t, ev_c, getV_some, putD_some, oGet_s, readRs_nil, readRs_t, retV_2, Option.some.injEq, exists_eq_left', getK_set, Nat.reduceEqDiff, ↓reduceIte]
    exact ⟨u, rfl, hs, ho.low g2.nx, g2.trans (g3.low g2.nx)⟩
  · simp (disch := omega) only [f18_r2, f18_r3, f18_rs, w_reg, w_seq, w_cond, w_ret, seqK_n, seqK_r, ckB_b, cbB_b, true_and, retK_r, x_nil, x_mv, x_as, x_bin, kx, rvP_ok, okv_some, ev_t, ev_c, getV_some, putD_some, bin_neq, oGet_s, readRs_nil, readRs_t, retV_2, of0, Option.some.injEq, exists_eq_left', getK_set, Nat.reduceEqDiff, ↓reduceIte, e, ne_eq, not_false_eq_true, decide_true]
    exact ⟨.sn, rfl, Sl.nil, Own.sn, Grow.refl _ _⟩
end
end Go.Ev
namespace Go.Ev
open Go Go.RowKit
noncomputable def f89_r0 : List EOper := [⟨(some (K.ofNat 2)), none, .box 64 (.t (K.ofNat 0))⟩, ⟨(some (K.ofNat 3)), none, .box 1 (.t (K.ofNat 1))⟩, ⟨(some (K.ofNat 4)), none, .as (.c (.i .i64 (.ofNat 0)))⟩]
noncomputable def f89_r1 : List EOper := [⟨(some (K.ofNat 5)), none, .alloc 1 [.sn]⟩]
noncomputable def f89_r2 : List EOper := [⟨(some (K.ofNat 7)), none, .ldn 64 (.t (K.ofNat 2))⟩, ⟨(some (K.ofNat 8)), none, .call (.c (.fn (K.ofNat 78) [])) [(.t (K.ofNat 7))]⟩]
noncomputable def f89_r3 : List EOper := [⟨(some (K.ofNat 6)), none, .as (.t (K.ofNat 9))⟩]
noncomputable def f89_a0 : EC := (.reg f89_r3)
noncomputable def f89_r4 : List Stage := [⟨[⟨(some (K.ofNat 10)), none, .mv (.t (K.ofNat 6))⟩, ⟨(some (K.ofNat 12)), none, .ld (.t (K.ofNat 3))⟩], [], (some ⟨(some (K.ofNat 11)), none, .call (.c (.fn (K.ofNat 75) [])) [(.t (K.ofNat 10))]⟩), []⟩, ⟨[⟨(some (K.ofNat 13)), none, .bin .eql (.t (K.ofNat 11)) (.t (K.ofNat 12))⟩], [⟨(some (K.ofNat 12)), none, .ld (.t (K.ofNat 3))⟩], none, []⟩]
noncomputable def f89_r5 : List Stage := [⟨[⟨(some (K.ofNat 14)), none, .ld (.t (K.ofNat 5))⟩, ⟨(some (K.ofNat 15)), none, .mv (.t (K.ofNat 6))⟩], [], (some ⟨(some (K.ofNat 16)), none, .call (.c (.fn (K.ofNat 93) [])) [(.t (K.ofNat 15))]⟩), []⟩, ⟨[⟨(some (K.ofNat 17)), none, .bslice 1 1 [(.i .u64 (.ofNat 0))] [(0, 1, (.t (K.ofNat 16)))]⟩], [⟨(some (K.ofNat 14)), none, .ld (.t (K.ofNat 5))⟩], (some ⟨(some (K.ofNat 18)), none, .app 1 (.t (K.ofNat 14)) (.t (K.ofNat 17))⟩), [(K.ofNat 17)]⟩, ⟨[], [], (some ⟨none, none, .st 1 (.t (K.ofNat 5)) (.t (K.ofNat 18))⟩), []⟩, ⟨[], [], none, []⟩]
noncomputable def f89_b0 : EC := (.block 1 (.seq (.draw f89_r4) (.cond (.t (K.ofNat 13)) (.draw f89_r5) .skip)))
noncomputable def f89_r6 : List EOper := [⟨(some (K.ofNat 19)), none, .ld (.t (K.ofNat 5))⟩, ⟨(some (K.ofNat 20)), none, .call (.c (.fn (K.ofNat 94) [])) [(.t (K.ofNat 19))]⟩, ⟨(some (K.ofNat 4)), none, .as (.t (K.ofNat 20))⟩]
noncomputable def f89_c : EC := (.seq (.reg f89_r0) (.seq (.reg f89_r1) (.seq (.seq (.reg f89_r2) (.block 0 (.rangeF (.t (K.ofNat 8)) [(K.ofNat 9)] f89_a0 f89_b0))) (.seq (.reg f89_r6) .ret))))
noncomputable def f89 : EF := ⟨21, [.tmp (K.ofNat 4)], f89_c, none⟩
theorem f89_rs : f89.rs = [.tmp (K.ofNat 4)] := of_eq_true (eq_self _)
section
variable {fs : T EF} {ro : Option K}
noncomputable def rowsOf (l : List Nat) (k : Nat) : List Nat := (l.filter fun x => decide (pop6 x = k)).map bordX
theorem rowsOf_snoc {l : List Nat} {x k : Nat} : rowsOf (l ++ [x]) k = if pop6 x = k then rowsOf l k ++ [bordX x] else rowsOf l k := by
  unfold rowsOf
  rw [List.filter_append, List.map_append]
  by_cases e : pop6 x = k <;> simp [e]
theorem rowsOf_len {l : List Nat} {k : Nat} : (rowsOf l k).length ≤ l.length := by unfold rowsOf; rw [List.length_map]; exact List.length_filter_le _ _
theorem bordX_lt {x : Nat} (hx : x < 64) : bordX x < 9223372036854775808 := by
  have := bordTo_lt hx (cornN x).length (Nat.le_refl _)
  rwa [show bordTo x (cornN x).length = bordX x by unfold bordTo bordX; rw [List.take_length]] at this
theorem rows_small {l : List Nat} {k : Nat} (h : ∀ x ∈ l, x < 64) : Small (rowsOf l k) := by
  intro y hy
  unfold rowsOf at hy
  obtain ⟨x, hx, rfl⟩ := List.mem_map.1 hy
  exact bordX_lt (h x (List.mem_filter.1 hx).1)
theorem mem64_lt {B : Nat → Bool} : ∀ x ∈ mem64 B, x < 64 := fun x hx => by
  unfold mem64 at hx
  rw [List.mem_filter, List.mem_range] at hx
  exact hx.1
/-- The rank of the borders of the faces of this size. -/
noncomputable def brS (B : Nat → Bool) (k : Nat) : Nat := rankS (rowsOf (mem64 B) k)
theorem f89_ret {h : H} {B : Nat → Bool} {k : Nat} {ef : EF} (hp75 : ∀ m : Nat, m < 64 → ∀ h P, CallP fs (.fn (K.ofNat 75) []) [.i .i64 (m : Int)] h P = P (.i .i64 (pop6 m : Int)) h)
    (h78 : fs.get (K.ofNat 78) = some f78) (h91 : fs.get (K.ofNat 91) = some alF) (h82 : fs.get (K.ofNat 82) = some f82) (h92 : fs.get (K.ofNat 92) = some coF) (h54 : fs.get (K.ofNat 54) = some ef) (hn : ef.nv = some (flatG partG)) (h93 : fs.get (K.ofNat 93) = some f93) (h94 : fs.get (K.ofNat 94) = some f94) (hc : HC h) :
    Ret fs f89 [.agg (boolV B), .i .i64 (k : Int)] h fun u h' => u = .i .i64 (brS B k : Int) ∧ Grow h.nx.nat h h' := by
  apply ret_of rfl
  show W fs none f89_c _ _ _
  unfold f89_c
  have n1 := nx_new h (.cells 64 (boolV B))
  have n2 := nx_new (h.new (.cells 64 (boolV B))) (.cells 1 [nE k])
  have n3 := nx_new ((h.new (.cells 64 (boolV B))).new (.cells 1 [nE k])) (.cells 1 [.sn])
  have hcn : cellsN 1 (.i .i64 (k : Int)) = some [nE k] := rfl
  have hA : Ar V.b (((h.new (.cells 64 (boolV B))).new (.cells 1 [nE k])).new (.cells 1 [.sn])) h.nx (arr B 64) := by
    unfold Ar; rw [arr_len, get_new_old (by omega), get_new_old (by omega), get_new_same]; rfl
  simp (disch := omega) only [f89_r0, f89_r1, f89_r2, w_reg, w_seq, seqK_n, x_nil, x_as, x_alloc, x_box, x_ldn, x_call, kx, rvP_ok, ev_t, ev_c, evs_nil, evs_cons, getV_some, putD_some, oGet_s, frame_2, of0, getK_set, Nat.reduceEqDiff, ↓reduceIte, cells64 (boolV_len (B := B)), hcn, hA.ldn (n := 64) (by rw [arr_len])]
  refine (callP_0 (ef := f78) h78 rfl (f78_ret (boolV_len (B := B)))).mono ?_
  rintro u h1 ⟨rfl, rfl⟩
  simp (disch := omega) only [w_block, seqK_n, x_nil, kx, putD_some]
  have g0 : Grow h.nx.nat h (((h.new (.cells 64 (boolV B))).new (.cells 1 [nE k])).new (.cells 1 [.sn])) := ((Grow.new (Nat.le_refl _) _).trans (Grow.new (by omega) _)).trans (Grow.new (by omega) _)
  have e5 : (((h.new (.cells 64 (boolV B))).new (.cells 1 [nE k])).new (.cells 1 [.sn])).get ((h.new (.cells 64 (boolV B))).new (.cells 1 [nE k])).nx = .cells 1 [.sn] := get_new_same
  have e3 : (((h.new (.cells 64 (boolV B))).new (.cells 1 [nE k])).new (.cells 1 [.sn])).get (h.new (.cells 64 (boolV B))).nx = .cells 1 [nE k] := by rw [get_new_old (by omega), get_new_same]
  generalize hid5 : ((h.new (.cells 64 (boolV B))).new (.cells 1 [nE k])).nx = id5 at *
  generalize hid3 : (h.new (.cells 64 (boolV B))).nx = id3 at *
  generalize hh2 : ((h.new (.cells 64 (boolV B))).new (.cells 1 [nE k])).new (.cells 1 [.sn]) = h2 at *
  have n4 := nx_new h2 (.cells 64 (boolV B))
  have hc2 := g0.hc hc
  have ga : Grow h2.nx.nat h2 (h2.new (.cells 64 (boolV B))) := Grow.new (Nat.le_refl _) _
  have ef : (h2.new (.cells 64 (boolV B))).get h2.nx = .cells 64 (boolV B) := get_new_same
  rw [← ga.old _ (by omega)] at e3 e5
  have g1 := g0.trans (ga.low (b := h.nx.nat) (by omega))
  generalize hh3 : h2.new (.cells 64 (boolV B)) = h3 at *
  have hc3 := g1.hc hc
  generalize hfr1 : T.set (K.ofNat 8) (V.fn (K.ofNat 91) [V.p h2.nx 0]) _ = fr1
  have f8 : fr1.get (K.ofNat 8) = some (.fn (K.ofNat 91) [.p h2.nx 0]) := by rw [← hfr1]; simp (disch := omega) only [getK_set, ↓reduceIte]
  have f3 : fr1.get (K.ofNat 3) = some (.p id3 0) := by rw [← hfr1]; simp (disch := omega) only [getK_set, Nat.reduceEqDiff, ↓reduceIte]
  have f5 : fr1.get (K.ofNat 5) = some (.p id5 0) := by rw [← hfr1]; simp (disch := omega) only [getK_set, Nat.reduceEqDiff, ↓reduceIte]
  clear hfr1
  have hlen := ysOf_len (B := B)
  have n5 := nx_new h3 (rdyB fr1 [(K.ofNat 9)] f89_a0 f89_b0)
  have hnew : Grow h3.nx.nat h3 (h3.new (rdyB fr1 [(K.ofNat 9)] f89_a0 f89_b0)) := Grow.new (Nat.le_refl _) _
  refine W_range (k := (K.ofNat 91)) (caps := [.p h2.nx 0]) (N := fun h => h.get h2.nx = .cells 64 (boolV B)) (ys := ysOf B) rfl (by simp (disch := omega) only [ev_t, getV_some, f8]) (all_yields h91 boolV_at)
    (fun j h5 => ∃ o lb, AccI uE h.nx.nat h id5 h3.nx [(id3, .cells 1 [nE k]), (h2.nx, .cells 64 (boolV B))] o (rowsOf ((mem64 B).take j) k) lb h5) (fun _ _ => False) (fun i h5 ⟨o, lb, ht⟩ => ht.kp (h2.nx, _) (by simp))
    ⟨.sn, _, Sl.nil, Own.sn, g1.trans (hnew.low (by omega)), by rw [hnew.old _ (by omega)]; exact e5, ?_, get_new_same, by omega, by omega, by omega, ?_⟩ ?_ ?_ (fun _ _ _ hf => hf.elim)
  · intro p hp
    rcases List.mem_cons.1 hp with rfl | hp
    · show H.get _ id3 = _
      rw [hnew.old _ (by omega)]; exact e3
    · obtain rfl := List.mem_singleton.1 hp
      show H.get _ h2.nx = _
      rw [hnew.old _ (by omega)]; exact ef
  · intro p hp
    rcases List.mem_cons.1 hp with rfl | hp
    · exact ⟨by show id3.nat < _; omega, kNe (show id3.nat < id5.nat by omega)⟩
    · obtain rfl := List.mem_singleton.1 hp
      exact ⟨by show h2.nx.nat < _; omega, (kNe (show id5.nat < h2.nx.nat by omega)).symm⟩
  · rintro j h5 hj ⟨o, lb, ht⟩ hrd
    have hj' : j < (mem64 B).length := by omega
    rw [ysOf_at hj]
    obtain rfl : lb = rdyB fr1 [(K.ofNat 9)] f89_a0 f89_b0 := ht.el.symm.trans hrd
    rw [show ∀ Q fr h, W fs (some h3.nx) f89_a0 Q fr h = X fs f89_r3 (Q .normal) fr h from fun _ _ _ => rfl]
    simp (disch := omega) only [f89_r3, rndA_n, x_nil, x_as, ev_t, getV_some, putD_some, getK_set, ↓reduceIte]
    refine ⟨ht.el, ?_⟩
    have ht7 := ht.loop (bsyB fr1 [(K.ofNat 9)] f89_a0 f89_b0)
    generalize h5.put h3.nx (bsyB fr1 [(K.ofNat 9)] f89_a0 f89_b0) = h7 at *
    have hc7 := ht7.gr.hc hc
    have hx64 := mem64_lt _ (List.getElem_mem hj')
    have hll := mem64_len (B := B)
    have hrl := rowsOf_len (l := (mem64 B).take j) (k := k)
    rw [List.length_take] at hrl
    have ld3 : loadV h7 (.p id3 0) one? = .ok (.i .i64 (k : Int)) h7 := load_p (ht7.kp (id3, .cells 1 [nE k]) (by simp)) rfl
    have hsn := rowsOf_snoc (l := (mem64 B).take j) (x := (mem64 B)[j]) (k := k)
    rw [← List.take_succ_eq_append_getElem hj'] at hsn
    rw [show ∀ Q fr h, W fs (some h3.nx) f89_b0 Q fr h = W fs (some h3.nx) (.block 1 (.seq (.draw f89_r4) (.cond (.t (K.ofNat 13)) (.draw f89_r5) .skip))) Q fr h from fun _ _ _ => rfl]
    by_cases e : pop6 (mem64 B)[j] = k
    · have e' : ((pop6 (mem64 B)[j] : Nat) : Int) = (k : Int) := by omega
      rw [if_pos e] at hsn
      simp (disch := omega) only [f89_r4, f89_r5, w_draw, w_seq, w_cond, w_block, seqK_n, ckB_b, cbB_b, true_and, x_nil, x_call, kx, kg, xg_nil, xg_mv, xg_ld, xg_bin, xd_cons, fresh_nil, stK_n, stK_s, stay_nil, stay_cons, again_ok, beq_i, stay_ld, rvP_ok, okv_some, ev_t, ev_c, evs_nil, evs_cons, getV_some, putD_some, bin_eql, of0, getK_set, Nat.reduceEqDiff, ↓reduceIte, f3, f5, ld3, hp75 _ hx64, e', decide_true, ht7.ld]
      refine (callP_0 (ef := f93) h93 rfl (f93_ret h82 h92 h54 hn hx64)).mono ?_
      rintro u h8 ⟨rfl, g8⟩
      have ht8 := ht7.grow hc7 g8
      have hc8 := ht8.gr.hc hc
      obtain ⟨v', h', p1, p2, p3⟩ := ht8.push (x := bordX (mem64 B)[j]) (c := .i .u64 (bordX (mem64 B)[j] : Int)) rfl hc8 (by omega)
      have ld5 : loadV (h8.new (.cells (1 * 1) [.i .u64 (bordX (mem64 B)[j] : Int)])) (.p id5 0) one? = .ok o _ := load_p (by rw [get_new_old (by have := ht8.nx; have := ht8.o1; omega)]; exact ht8.eb) rfl
      simp (disch := omega) only [atK_n, true_and, rndK_n, x_nil, x_st, x_app, kx, xg_nil, xg_bslice, xd_cons, fresh_nil, stK_n, stK_s, stay_nil, stay_cons, again_ok, stay_ld, rvP_ok, ev_t, getV_some, putD_some, putD_none, oGet_s, cells1_i, fill_1, set_1, Option.some.injEq, exists_eq_left', getK_set, Nat.reduceEqDiff, ↓reduceIte, f5, uE, hc8.dead, ld5, ht8.sl.beq, p1, p2]
      refine ⟨fresh_one (n := 1) (sz := 1) (by simp (disch := omega) only [getK_set, ↓reduceIte]), ?_⟩
      refine ⟨p3.el, v', rdyB fr1 [(K.ofNat 9)] f89_a0 f89_b0, ?_⟩
      rw [hsn]
      exact p3.loop _
    · have e' : ¬ ((pop6 (mem64 B)[j] : Nat) : Int) = (k : Int) := by omega
      rw [if_neg e] at hsn
      simp (disch := omega) only [f89_r4, f89_r5, w_skip, w_draw, w_seq, w_cond, w_block, seqK_n, atK_n, ckB_b, cbB_b, true_and, rndK_n, x_nil, x_call, kx, kg, xg_nil, xg_mv, xg_ld, xg_bin, xd_cons, fresh_nil, stK_n, stK_s, stay_nil, stay_cons, again_ok, beq_i, stay_ld, rvP_ok, okv_some, ev_t, ev_c, evs_nil, evs_cons, getV_some, putD_some, bin_eql, of0, getK_set, Nat.reduceEqDiff, ↓reduceIte, Bool.false_eq_true, f3, ld3, hp75 _ hx64, e', decide_false]
      refine ⟨ht7.el, o, rdyB fr1 [(K.ofNat 9)] f89_a0 f89_b0, ?_⟩
      rw [hsn]
      exact ht7.loop _
  · rintro h5 ⟨o, lb, ht⟩
    have ht2 := ht.loop .dead
    rw [hlen, List.take_length] at ht2
    have hll := mem64_len (B := B)
    have hrl := rowsOf_len (l := mem64 B) (k := k)
    simp (disch := omega) only [f89_r6, w_reg, w_seq, seqK_n, atK_n, x_ld, x_call, kx, rvP_ok, ev_t, ev_c, evs_nil, evs_cons, getV_some, putD_some, getK_set, ↓reduceIte, f5, ht2.ld]
    refine (callP_0 (ef := f94) h94 rfl (f94_ret (b := h3.nx.nat + 1) ht2.sl (rows_small mem64_lt) ht2.own ht2.nx (ht2.gr.hc hc) (by omega))).mono ?_
    rintro u h6 ⟨rfl, g6⟩
    simp (disch := omega) only [f89_rs, w_ret, seqK_n, retK_r, x_nil, x_as, kx, ev_t, getV_some, putD_some, oGet_s, readRs_nil, readRs_t, retV_1, Option.some.injEq, exists_eq_left', getK_set, ↓reduceIte]
    exact ⟨rfl, ht2.gr.trans (g6.low (by omega))⟩
end
end Go.Ev
namespace Go.Ev
open Go Go.RowKit
noncomputable def f64_r0 : List EOper := [⟨(some (K.ofNat 1)), none, .box 64 (.t (K.ofNat 0))⟩, ⟨(some (K.ofNat 2)), none, .as (.c .sn)⟩]
noncomputable def f64_r1 : List EOper := [⟨(some (K.ofNat 6)), none, .ldn 64 (.t (K.ofNat 1))⟩, ⟨(some (K.ofNat 7)), none, .call (.c (.fn (K.ofNat 57) [])) [(.t (K.ofNat 6))]⟩, ⟨(some (K.ofNat 3)), none, .as (.t (K.ofNat 7))⟩]
noncomputable def f64_r2 : List EOper := [⟨(some (K.ofNat 8)), none, .mv (.t (K.ofNat 3))⟩, ⟨(some (K.ofNat 9)), none, .len (.t (K.ofNat 8))⟩, ⟨(some (K.ofNat 10)), none, .bin .sub (.t (K.ofNat 9)) (.c (.i .i64 (.ofNat 1)))⟩, ⟨(some (K.ofNat 11)), none, .mkslice 1 [(.i .i64 (.ofNat 0))] (.t (K.ofNat 10))⟩, ⟨(some (K.ofNat 4)), none, .as (.t (K.ofNat 11))⟩]
noncomputable def f64_r3 : List EOper := [⟨(some (K.ofNat 12)), none, .mv (.t (K.ofNat 4))⟩, ⟨(some (K.ofNat 13)), none, .len (.t (K.ofNat 12))⟩, ⟨(some (K.ofNat 14)), none, .mv (.c (.i .i64 (.ofNat 0)))⟩]
noncomputable def f64_r4 : List EOper := [⟨(some (K.ofNat 15)), none, .bin .lss (.t (K.ofNat 14)) (.t (K.ofNat 13))⟩]
noncomputable def f64_r5 : List EOper := [⟨(some (K.ofNat 16)), none, .mv (.t (K.ofNat 14))⟩, ⟨(some (K.ofNat 5)), none, .as (.t (K.ofNat 16))⟩]
noncomputable def f64_r6 : List Stage := [⟨[⟨(some (K.ofNat 17)), none, .mv (.t (K.ofNat 4))⟩, ⟨(some (K.ofNat 18)), none, .mv (.t (K.ofNat 5))⟩, ⟨(some (K.ofNat 19)), none, .mv (.t (K.ofNat 3))⟩, ⟨(some (K.ofNat 20)), none, .mv (.t (K.ofNat 5))⟩, ⟨(some (K.ofNat 21)), none, .bin .add (.t (K.ofNat 20)) (.c (.i .i64 (.ofNat 1)))⟩, ⟨(some (K.ofNat 22)), none, .iads 1 (.t (K.ofNat 19)) (.t (K.ofNat 21))⟩, ⟨(some (K.ofNat 23)), none, .ld (.t (K.ofNat 22))⟩, ⟨(some (K.ofNat 24)), none, .ldn 64 (.t (K.ofNat 1))⟩, ⟨(some (K.ofNat 25)), none, .mv (.t (K.ofNat 5))⟩, ⟨(some (K.ofNat 26)), none, .bin .add (.t (K.ofNat 25)) (.c (.i .i64 (.ofNat 1)))⟩, ⟨(some (K.ofNat 29)), none, .ldn 64 (.t (K.ofNat 1))⟩, ⟨(some (K.ofNat 30)), none, .mv (.t (K.ofNat 5))⟩, ⟨(some (K.ofNat 31)), none, .bin .add (.t (K.ofNat 30)) (.c (.i .i64 (.ofNat 2)))⟩], [], (some ⟨(some (K.ofNat 27)), none, .call (.c (.fn (K.ofNat 89) [])) [(.t (K.ofNat 24)), (.t (K.ofNat 26))]⟩), []⟩, ⟨[⟨(some (K.ofNat 28)), none, .bin .sub (.t (K.ofNat 23)) (.t (K.ofNat 27))⟩], [⟨(some (K.ofNat 17)), none, .mv (.t (K.ofNat 4))⟩, ⟨(some (K.ofNat 18)), none, .mv (.t (K.ofNat 5))⟩, ⟨(some (K.ofNat 19)), none, .mv (.t (K.ofNat 3))⟩, ⟨(some (K.ofNat 20)), none, .mv (.t (K.ofNat 5))⟩, ⟨(some (K.ofNat 21)), none, .bin .add (.t (K.ofNat 20)) (.c (.i .i64 (.ofNat 1)))⟩, ⟨(some (K.ofNat 22)), none, .iads 1 (.t (K.ofNat 19)) (.t (K.ofNat 21))⟩, ⟨(some (K.ofNat 23)), none, .ld (.t (K.ofNat 22))⟩, ⟨(some (K.ofNat 29)), none, .ldn 64 (.t (K.ofNat 1))⟩, ⟨(some (K.ofNat 30)), none, .mv (.t (K.ofNat 5))⟩, ⟨(some (K.ofNat 31)), none, .bin .add (.t (K.ofNat 30)) (.c (.i .i64 (.ofNat 2)))⟩], (some ⟨(some (K.ofNat 32)), none, .call (.c (.fn (K.ofNat 89) [])) [(.t (K.ofNat 29)), (.t (K.ofNat 31))]⟩), []⟩, ⟨[⟨(some (K.ofNat 33)), none, .bin .sub (.t (K.ofNat 28)) (.t (K.ofNat 32))⟩, ⟨(some (K.ofNat 34)), none, .iads 1 (.t (K.ofNat 17)) (.t (K.ofNat 18))⟩], [⟨(some (K.ofNat 17)), none, .mv (.t (K.ofNat 4))⟩, ⟨(some (K.ofNat 18)), none, .mv (.t (K.ofNat 5))⟩, ⟨(some (K.ofNat 19)), none, .mv (.t (K.ofNat 3))⟩, ⟨(some (K.ofNat 20)), none, .mv (.t (K.ofNat 5))⟩, ⟨(some (K.ofNat 21)), none, .bin .add (.t (K.ofNat 20)) (.c (.i .i64 (.ofNat 1)))⟩, ⟨(some (K.ofNat 22)), none, .iads 1 (.t (K.ofNat 19)) (.t (K.ofNat 21))⟩, ⟨(some (K.ofNat 23)), none, .ld (.t (K.ofNat 22))⟩, ⟨(some (K.ofNat 28)), none, .bin .sub (.t (K.ofNat 23)) (.t (K.ofNat 27))⟩], (some ⟨none, none, .st 1 (.t (K.ofNat 34)) (.t (K.ofNat 33))⟩), []⟩, ⟨[], [], none, []⟩]
noncomputable def f64_r7 : List EOper := [⟨(some (K.ofNat 35)), none, .bin .add (.t (K.ofNat 14)) (.c (.i .i64 (.ofNat 1)))⟩, ⟨(some (K.ofNat 14)), none, .mv (.t (K.ofNat 35))⟩]
noncomputable def f64_l0 : EC := (.seq (.reg f64_r4) (.seq (.cond (.t (K.ofNat 15)) .skip (.exit 0)) (.seq (.block 1 (.seq (.reg f64_r5) (.draw f64_r6))) (.reg f64_r7))))
noncomputable def f64_r8 : List EOper := [⟨(some (K.ofNat 36)), none, .mv (.t (K.ofNat 4))⟩, ⟨(some (K.ofNat 2)), none, .as (.t (K.ofNat 36))⟩]
noncomputable def f64_c : EC := (.seq (.reg f64_r0) (.seq (.reg f64_r1) (.seq (.reg f64_r2) (.seq (.seq (.reg f64_r3) (.block 0 (.loop f64_l0))) (.seq (.reg f64_r8) .ret)))))
noncomputable def f64 : EF := ⟨37, [.tmp (K.ofNat 2)], f64_c, none⟩
theorem f64_rs : f64.rs = [.tmp (K.ofNat 2)] := of_eq_true (eq_self _)
noncomputable def f26_r0 : List EOper := [⟨(some (K.ofNat 4)), none, .as (.c .sn)⟩, ⟨(some (K.ofNat 5)), none, .as (.c (.i .i64 (.ofNat 0)))⟩]
noncomputable def f26_r1 : List EOper := [⟨(some (K.ofNat 7)), none, .mv (.t (K.ofNat 0))⟩, ⟨(some (K.ofNat 8)), none, .mv (.t (K.ofNat 1))⟩, ⟨(some (K.ofNat 9)), none, .call (.c (.fn (K.ofNat 16) [])) [(.t (K.ofNat 7)), (.t (K.ofNat 8))]⟩, ⟨(some (K.ofNat 6)), none, .as (.t (K.ofNat 9))⟩]
noncomputable def f26_r2 : List EOper := [⟨(some (K.ofNat 10)), none, .mv (.t (K.ofNat 6))⟩, ⟨(some (K.ofNat 11)), none, .bin .neq (.t (K.ofNat 10)) (.c (.i .i64 (.ofNat 0)))⟩]
noncomputable def f26_r3 : List EOper := [⟨(some (K.ofNat 12)), none, .mv (.t (K.ofNat 6))⟩, ⟨(some (K.ofNat 4)), none, .as (.c .sn)⟩, ⟨(some (K.ofNat 5)), none, .as (.t (K.ofNat 12))⟩]
noncomputable def f26_r4 : List EOper := [⟨(some (K.ofNat 13)), none, .mv (.t (K.ofNat 1))⟩, ⟨(some (K.ofNat 14)), none, .call (.c (.fn (K.ofNat 55) [])) [(.t (K.ofNat 13))]⟩, ⟨(some (K.ofNat 15)), none, .call (.c (.fn (K.ofNat 64) [])) [(.t (K.ofNat 14))]⟩, ⟨(some (K.ofNat 4)), none, .as (.t (K.ofNat 15))⟩, ⟨(some (K.ofNat 5)), none, .as (.c (.i .i64 (.ofNat 0)))⟩]
noncomputable def f26_c : EC := (.seq (.reg f26_r0) (.seq (.seq (.reg f26_r1) (.seq (.reg f26_r2) (.cond (.t (K.ofNat 11)) (.seq (.reg f26_r3) .ret) .skip))) (.seq (.reg f26_r4) .ret)))
noncomputable def f26 : EF := ⟨16, [.tmp (K.ofNat 4), .tmp (K.ofNat 5)], f26_c, none⟩
theorem f26_rs : f26.rs = [.tmp (K.ofNat 4), .tmp (K.ofNat 5)] := of_eq_true (eq_self _)
section
variable {fs : T EF} {ro : Option K}
theorem stay_ldn {n : Nat} {k : K} {x : EO} {fr : Fr} {h : H} : (stays fs goNo fr h ⟨some k, none, .ldn n x⟩ = true) = again (loadV h (ev fr x) (many? n)) (getV (fr.get k)) := chk_again
theorem beqL_b : ∀ l : List Bool, beqL (l.map V.b) (l.map V.b) = true
  | [] => rfl
  | a :: l => by
    show (a == a && beqL (l.map V.b) (l.map V.b)) = true
    rw [beqL_b l]; cases a <;> rfl
theorem beq_boolV {B : Nat → Bool} : beqV (.agg (boolV B)) (.agg (boolV B)) = true := beqL_b (arr B 64)
noncomputable def hvS (C : List Int) (B : Nat → Bool) (t : Nat) : Int := fw .i64 (fw .i64 (C.getD (t + 1) 0 - (brS B (t + 1) : Int)) - (brS B (t + 2) : Int))
noncomputable def hollS (C : List Int) (B : Nat → Bool) : List Int := (List.range (C.length - 1)).map (hvS C B)
def f64_I (h : H) (B : Nat → Bool) (id1 : K) (C : List Int) (v3 v4 : V) (n i : Nat) (fr : Fr) (h1 : H) : Prop := ∃ L, i ≤ n ∧ L.length = n ∧ (∀ t, t < i → L.getD t 0 = hvS C B t) ∧ Sl iE h1 v3 C ∧ Sl iE h1 v4 L ∧ (∀ id off n sz, v4 = .sl id off n sz → NotIn id v3 ∧ id ≠ id1) ∧ Own h.nx.nat v4 ∧ h1.get id1 = .cells 64 (boolV B) ∧ Grow h.nx.nat h h1 ∧ fr.get (K.ofNat 1) = some (.p id1 0) ∧ fr.get (K.ofNat 3) = some (v3) ∧ fr.get (K.ofNat 4) = some (v4) ∧ fr.get (K.ofNat 13) = some (.i .i64 (n : Int)) ∧ fr.get (K.ofNat 14) = some (.i .i64 (i : Int))
theorem f64_ret {h : H} {B : Nat → Bool} {ef : EF} (hp75 : ∀ m : Nat, m < 64 → ∀ h P, CallP fs (.fn (K.ofNat 75) []) [.i .i64 (m : Int)] h P = P (.i .i64 (pop6 m : Int)) h)
    (h57 : fs.get (K.ofNat 57) = some f57) (h78 : fs.get (K.ofNat 78) = some f78) (h91 : fs.get (K.ofNat 91) = some alF) (h82 : fs.get (K.ofNat 82) = some f82) (h92 : fs.get (K.ofNat 92) = some coF) (h54 : fs.get (K.ofNat 54) = some ef) (hn : ef.nv = some (flatG partG)) (h93 : fs.get (K.ofNat 93) = some f93) (h94 : fs.get (K.ofNat 94) = some f94) (h89 : fs.get (K.ofNat 89) = some f89) (hc : HC h) (hne : 1 ≤ (cntS (mem64 B)).length) :
    Ret fs f64 [.agg (boolV B)] h fun u h' => Sl iE h' u (hollS (cntS (mem64 B)) B) ∧ Own h.nx.nat u ∧ Grow h.nx.nat h h' := by
  apply ret_of rfl
  show W fs none f64_c _ _ _
  unfold f64_c
  have n1 := nx_new h (.cells 64 (boolV B))
  have g1 : Grow h.nx.nat h (h.new (.cells 64 (boolV B))) := Grow.new (Nat.le_refl _) _
  have e1 : (h.new (.cells 64 (boolV B))).get h.nx = .cells 64 (boolV B) := get_new_same
  have hA : Ar V.b (h.new (.cells 64 (boolV B))) h.nx (arr B 64) := by
    unfold Ar; rw [arr_len, get_new_same]; rfl
  have ldA : loadV (h.new (.cells 64 (boolV B))) (.p h.nx 0) (many? 64) = .ok (.agg (boolV B)) _ := hA.ldn (n := 64) (by rw [arr_len])
  simp (disch := omega) only [f64_r0, f64_r1, w_reg, w_seq, seqK_n, x_nil, x_as, x_box, x_ldn, x_call, kx, rvP_ok, ev_t, ev_c, evs_nil, evs_cons, getV_some, putD_some, oGet_s, frame_1, getK_set, Nat.reduceEqDiff, ↓reduceIte, cells64 (boolV_len (B := B)), ldA]
  generalize hh1 : h.new (.cells 64 (boolV B)) = h1 at *
  have hc1 := g1.hc hc
  refine (callP_0 (ef := f57) h57 rfl (f57_ret (B := B) hp75 h78 h91 hc1)).mono ?_
  rintro v3 h2 ⟨hs3, ho3, g2⟩
  have hl7 := cntS_len (mem64 B)
  generalize hC : cntS (mem64 B) = C at *
  have hc2 := g2.hc hc1
  have e2 : h2.get h.nx = .cells 64 (boolV B) := by rw [g2.old _ (by omega)]; exact e1
  have hsub : fw .i64 ((C.length : Int) - 1) = ((C.length - 1 : Nat) : Int) := by rw [fw64 (by omega) (by omega)]; omega
  have gg2 := g1.trans (g2.low (b := h.nx.nat) (by omega))
  have n2 := nx_new h2 (.cells ((C.length - 1) * 1) (rep [.i .i64 0] (C.length - 1)))
  have g3 : Grow h2.nx.nat h2 (h2.new (.cells ((C.length - 1) * 1) (rep [.i .i64 0] (C.length - 1)))) := Grow.new (Nat.le_refl _) _
  have hs4 := mks_sl (h := h2) (n := C.length - 1)
  simp (disch := omega) only [f64_r2, f64_r3, w_reg, w_seq, w_block, seqK_n, x_nil, x_mv, x_as, x_bin, x_mks, x_len, kx, rvP_ok, okv_some, ev_t, ev_c, getV_some, putD_some, bin_sub, len_sl, of0, of1, getK_set, ↓reduceIte, hs3.len, hsub, mks_ints (h := h2) (k := .i64) (n := C.length - 1) (by omega)]
  have hgr0 := gg2.nx
  have hgr1 := g2.nx
  have hdis0 : ∀ id off n sz, V.sl h2.nx 0 (C.length - 1) 1 = .sl id off n sz → NotIn id v3 ∧ id ≠ h.nx := by
    rintro id off n sz e; cases e
    refine ⟨fun off n sz e => ?_, (kNe (by omega)).symm⟩
    have := hs3.lt hc2 _ off n sz e
    omega
  have hown0 : Own h.nx.nat (.sl h2.nx 0 (C.length - 1) 1) := by
    rintro id off n sz e; cases e; omega
  refine W_loop (f64_I h B h.nx C v3 (.sl h2.nx 0 (C.length - 1) 1) (C.length - 1)) (fun i => C.length - 1 - i) ?_ 0 ⟨List.replicate (C.length - 1) 0, Nat.zero_le _, by simp, fun t ht => by omega, hs3.grow hc2 g3, hs4, hdis0, hown0, by rw [g3.old _ (by omega)]; exact e2, gg2.trans (g3.low (by omega)), by simp (disch := omega) only [getK_set, Nat.reduceEqDiff, ↓reduceIte, and_self, Int.natCast_zero]⟩
  generalize hv4 : V.sl h2.nx 0 (C.length - 1) 1 = v4
  generalize hid : h.nx = id1 at *
  rintro i fr h5 ⟨L, hi, hl, hL, hs3, hs4, hdis, hown, e1, hgr, gg1, gg3, gg4, gg13, gg14⟩
  have hc5 := hgr.hc hc
  unfold f64_l0
  by_cases hlt : i < C.length - 1
  · have hlt' : (i : Int) < ((C.length - 1 : Nat) : Int) := by omega
    have hiC : i + 1 < C.length := by omega
    have hg : C.getD (i + 1) 0 = C[i + 1] := by simp [List.getD, hiC]
    have hil : i < L.length := by omega
    have a1 : fw .i64 ((i : Int) + 1) = ((i + 1 : Nat) : Int) := by rw [fw64 (by omega) (by omega)]; omega
    have a2 : fw .i64 ((i : Int) + 2) = ((i + 2 : Nat) : Int) := by rw [fw64 (by omega) (by omega)]; omega
    obtain ⟨p, hp1, hp2, hp3⟩ := hs3.atb (i + 1) hiC
    have ldB : ∀ h' : H, h'.get id1 = .cells 64 (boolV B) → loadV h' (.p id1 0) (many? 64) = .ok (.agg (boolV B)) h' := fun h' e => by
      have hA : Ar V.b h' id1 (arr B 64) := by unfold Ar; rw [arr_len, e]; rfl
      exact hA.ldn (n := 64) (by rw [arr_len])
    have ldC : ∀ h' : H, Grow h5.nx.nat h5 h' → loadV h' p one? = .ok (.i .i64 C[i + 1]) h' := fun h' g => by
      obtain ⟨q, hq1, hq2, _⟩ := (hs3.grow hc5 g).atb (i + 1) hiC
      have := hp1 .i64 h'
      rw [hq1 .i64 h'] at this
      cases this; exact hq2
    have l1 := hc5.cells e1
    simp (disch := omega) only [f64_r4, f64_r5, f64_r6, w_skip, w_reg, w_draw, w_seq, w_cond, w_block, seqK_n, ckB_b, cbB_b, true_and, x_nil, x_mv, x_as, x_bin, x_call, kx, kg, xg_nil, xg_mv, xg_ld, xg_ldn, xg_bin, xg_iads, xd_cons, fresh_nil, stK_s, stay_nil, rvP_ok, okv_some, ev_t, ev_c, evs_nil, evs_cons, getV_some, putD_some, bin_add, bin_lss, of1, of2, getK_set, Nat.reduceEqDiff, ↓reduceIte, gg1, gg3, gg4, gg13, gg14, hlt', decide_true, a1, a2, hp1, ldC h5 (Grow.refl _ _), ldB h5 e1]
    refine (callP_0 (ef := f89) h89 rfl (f89_ret (B := B) (k := i + 1) hp75 h78 h91 h82 h92 h54 hn h93 h94 hc5)).mono ?_
    rintro u h6 ⟨rfl, g6⟩
    have hc6 := g6.hc hc5
    have e6 : h6.get id1 = .cells 64 (boolV B) := by rw [g6.old _ l1]; exact e1
    simp (disch := omega) only [true_and, x_nil, x_call, kx, kg, xg_nil, xg_bin, xd_cons, fresh_nil, stK_s, stay_nil, stay_cons, again_ok, stay_mv, beq_i, stay_iads, stay_ld, stay_bin, rvP_ok, okv_some, ev_t, ev_c, evs_nil, evs_cons, getV_some, putD_some, bin_add, bin_sub, getK_set, Nat.reduceEqDiff, ↓reduceIte, gg1, gg3, gg4, stay_ldn, a1, a2, hp1, hp3, ldC h6 g6, ldB h6 e6, beq_boolV, hs3.beq, hs4.beq, and_self]
    refine (callP_0 (ef := f89) h89 rfl (f89_ret (B := B) (k := i + 2) hp75 h78 h91 h82 h92 h54 hn h93 h94 hc6)).mono ?_
    rintro u h7 ⟨rfl, g7⟩
    have g67 := g6.trans (g7.low g6.nx)
    have hc7 := g67.hc hc5
    have e7 : h7.get id1 = .cells 64 (boolV B) := by rw [g67.old _ l1]; exact e1
    obtain ⟨p2, id, m2, cs2, q1, q2, q3, ⟨off, nn, sz, q4⟩, q5⟩ := (hs4.grow hc5 g67).st hil (x := hvS C B i) (c := .i .i64 (hvS C B i)) rfl rfl hc7
    have hhv : fw .i64 (fw .i64 (C[i + 1] - (brS B (i + 1) : Int)) - (brS B (i + 2) : Int)) = hvS C B i := by unfold hvS; rw [hg]
    have hid := hown id off nn sz q4
    obtain ⟨d1, d2⟩ := hdis id off nn sz q4
    simp (disch := omega) only [f64_r7, w_reg, seqK_n, atK_n, loopK_n, true_and, x_nil, x_mv, x_st, x_bin, kx, kg, xg_nil, xg_bin, xg_iads, xd_cons, fresh_nil, stK_n, stK_s, stay_nil, stay_cons, again_ok, stay_mv, beq_i, stay_iads, stay_ld, stay_bin, rvP_ok, okv_some, ev_t, ev_c, getV_some, putD_some, putD_none, bin_add, bin_sub, of1, getK_set, Nat.reduceEqDiff, ↓reduceIte, gg3, gg4, gg14, a1, hp1, hp3, q1, hhv, ldC h7 g67, hs3.beq, hs4.beq, and_self, q2]
    refine ⟨i + 1, by omega, L.set i (hvS C B i), hlt, by rw [List.length_set]; exact hl, fun t ht => ?_, (hs3.grow hc5 g67).put d1 _, q3, hdis, hown, by rw [get_put_other d2.symm]; exact e7, (hgr.trans (g67.low hgr.nx)).trans (Grow.put hid q5 _), by simp (disch := omega) only [getK_set, Nat.reduceEqDiff, ↓reduceIte, gg1, gg3, gg4, gg13, and_self, Int.natCast_add, Int.natCast_one]⟩
    by_cases e : t = i
    · subst e; simp [List.getD, hil]
    · have h1 := hL t (by omega)
      simp only [List.getD] at h1 ⊢
      rw [List.getElem?_set, if_neg (by omega)]; exact h1
  · obtain rfl : i = C.length - 1 := by omega
    have hlt' : ¬ ((C.length - 1 : Nat) : Int) < ((C.length - 1 : Nat) : Int) := by omega
    simp (disch := omega) only [f64_r4, f64_r8, f64_rs, w_reg, w_seq, w_cond, w_exit, w_ret, seqK_n, seqK_e, atK_e, loopK_e, ckB_b, cbB_b, true_and, retK_r, x_nil, x_mv, x_as, x_bin, kx, rvP_ok, okv_some, ev_t, getV_some, putD_some, bin_lss, oGet_s, readRs_nil, readRs_t, retV_1, Option.some.injEq, exists_eq_left', getK_set, Nat.reduceEqDiff, ↓reduceIte, Bool.false_eq_true, gg4, gg13, gg14, hlt', decide_false]
    have : L = hollS C B := by
      apply List.ext_getElem
      · unfold hollS; rw [List.length_map, List.length_range]; exact hl
      · intro t t1 t2
        have h1 := hL t (by omega)
        rw [show L.getD t 0 = L[t] by simp [List.getD, t1]] at h1
        rw [h1]; simp [hollS]
    rw [← this]
    exact ⟨hs4, by rw [← hid]; exact hown, by rw [← hid]; exact hgr⟩
theorem f26_ret {h : H} {v : V} {S : List Int} {n : Int} {ef : EF} (hp : ∀ a b h P, CallP fs (.fn (K.ofNat 54) []) [.i .i64 a, .i .i64 b] h P = P (.b (ptI a b)) h)
    (hp75 : ∀ m : Nat, m < 64 → ∀ h P, CallP fs (.fn (K.ofNat 75) []) [.i .i64 (m : Int)] h P = P (.i .i64 (pop6 m : Int)) h)
    (h16 : fs.get (K.ofNat 16) = some f16) (h55 : fs.get (K.ofNat 55) = some f55) (h57 : fs.get (K.ofNat 57) = some f57) (h78 : fs.get (K.ofNat 78) = some f78) (h91 : fs.get (K.ofNat 91) = some alF) (h82 : fs.get (K.ofNat 82) = some f82) (h92 : fs.get (K.ofNat 92) = some coF) (h54 : fs.get (K.ofNat 54) = some ef) (hn : ef.nv = some (flatG partG)) (h93 : fs.get (K.ofNat 93) = some f93) (h94 : fs.get (K.ofNat 94) = some f94) (h89 : fs.get (K.ofNat 89) = some f89) (h64 : fs.get (K.ofNat 64) = some f64)
    (hv : Sl iE h v S) (hc : HC h) (hS : S.length ≤ 1000000) (hne : chkS n S = 0 → 1 ≤ (cntS (mem64 (famB S))).length) :
    Ret fs f26 [.i .i64 n, v] h fun r h' => ∃ u, r = .tup [u, .i .i64 (chkS n S)] ∧ Sl iE h' u (if chkS n S = 0 then hollS (cntS (mem64 (famB S))) (famB S) else []) ∧ Own h.nx.nat u ∧ Grow h.nx.nat h h' := by
  apply ret_of rfl
  show W fs none f26_c _ _ _
  unfold f26_c
  simp (disch := omega) only [f26_r0, f26_r1, w_reg, w_seq, seqK_n, x_nil, x_mv, x_as, x_call, ev_t, ev_c, evs_nil, evs_cons, getV_some, putD_some, frame_2, of0, getK_set, Nat.reduceEqDiff, ↓reduceIte]
  refine (callP_0 (ef := f16) h16 rfl (f16_ret hp hv)).mono ?_
  rintro u h1 ⟨rfl, rfl⟩
  by_cases e : chkS n S = 0
  · simp (disch := omega) only [f26_r2, f26_r4, w_skip, w_reg, w_seq, w_cond, seqK_n, ckB_b, cbB_b, true_and, x_nil, x_mv, x_as, x_bin, x_call, kx, rvP_ok, okv_some, ev_t, ev_c, evs_nil, evs_cons, getV_some, putD_some, bin_neq, of0, getK_set, Nat.reduceEqDiff, ↓reduceIte, Bool.false_eq_true, e, ne_eq, not_true_eq_false, decide_false]
    refine (callP_0 (ef := f55) h55 rfl (f55_ret (S := S) hp hv hc hS)).mono ?_
    rintro u h2 ⟨rfl, g2⟩
    rw [famB_list]
    simp (disch := omega) only [x_call, kx, ev_t, ev_c, evs_nil, evs_cons, getV_some, putD_some, getK_set, ↓reduceIte]
    refine (callP_0 (ef := f64) h64 rfl (f64_ret (B := famB S) hp75 h57 h78 h91 h82 h92 h54 hn h93 h94 h89 (g2.hc hc) (hne e))).mono ?_
    rintro u h3 ⟨hs, ho, g3⟩
    simp (disch := omega) only [f26_rs, w_ret, seqK_n, retK_r, x_nil, x_as, kx, ev_t, ev_c, getV_some, putD_some, oGet_s, readRs_nil, readRs_t, retV_2, Option.some.injEq, exists_eq_left', getK_set, Nat.reduceEqDiff, ↓reduceIte]
    exact ⟨u, rfl, hs, ho.low g2.nx, g2.trans (g3.low g2.nx)⟩
  · simp (disch := omega) only [f26_r2, f26_r3, f26_rs, w_reg, w_seq, w_cond, w_ret, seqK_n, seqK_r, ckB_b, cbB_b, true_and, retK_r, x_nil, x_mv, x_as, x_bin, kx, rvP_ok, okv_some, ev_t, ev_c, getV_some, putD_some, bin_neq, oGet_s, readRs_nil, readRs_t, retV_2, of0, Option.some.injEq, exists_eq_left', getK_set, Nat.reduceEqDiff, ↓reduceIte, e, ne_eq, not_false_eq_true, decide_true]
    exact ⟨.sn, rfl, Sl.nil, Own.sn, Grow.refl _ _⟩
end
end Go.Ev
namespace Go.Ev
open Go Go.RowKit
noncomputable def f19_r0 : List EOper := [⟨(some (K.ofNat 4)), none, .as (.c .sn)⟩, ⟨(some (K.ofNat 5)), none, .as (.c (.i .i64 (.ofNat 0)))⟩]
noncomputable def f19_r1 : List EOper := [⟨(some (K.ofNat 10)), none, .mv (.t (K.ofNat 0))⟩, ⟨(some (K.ofNat 11)), none, .mv (.t (K.ofNat 1))⟩, ⟨(some (K.ofNat 12)), none, .call (.c (.fn (K.ofNat 16) [])) [(.t (K.ofNat 10)), (.t (K.ofNat 11))]⟩, ⟨(some (K.ofNat 6)), none, .as (.t (K.ofNat 12))⟩]
noncomputable def f19_r2 : List EOper := [⟨(some (K.ofNat 13)), none, .mv (.t (K.ofNat 6))⟩, ⟨(some (K.ofNat 14)), none, .bin .neq (.t (K.ofNat 13)) (.c (.i .i64 (.ofNat 0)))⟩]
noncomputable def f19_r3 : List EOper := [⟨(some (K.ofNat 15)), none, .mv (.t (K.ofNat 6))⟩, ⟨(some (K.ofNat 4)), none, .as (.c .sn)⟩, ⟨(some (K.ofNat 5)), none, .as (.t (K.ofNat 15))⟩]
noncomputable def f19_r4 : List EOper := [⟨(some (K.ofNat 16)), none, .mv (.t (K.ofNat 1))⟩, ⟨(some (K.ofNat 17)), none, .call (.c (.fn (K.ofNat 55) [])) [(.t (K.ofNat 16))]⟩, ⟨(some (K.ofNat 18)), none, .call (.c (.fn (K.ofNat 57) [])) [(.t (K.ofNat 17))]⟩, ⟨(some (K.ofNat 7)), none, .as (.t (K.ofNat 18))⟩]
noncomputable def f19_r5 : List EOper := [⟨(some (K.ofNat 19)), none, .mv (.t (K.ofNat 7))⟩, ⟨(some (K.ofNat 20)), none, .len (.t (K.ofNat 19))⟩, ⟨(some (K.ofNat 21)), none, .mv (.c (.i .i64 (.ofNat 0)))⟩]
noncomputable def f19_r6 : List EOper := [⟨(some (K.ofNat 22)), none, .bin .lss (.t (K.ofNat 21)) (.t (K.ofNat 20))⟩]
noncomputable def f19_r7 : List EOper := [⟨(some (K.ofNat 23)), none, .mv (.t (K.ofNat 21))⟩, ⟨(some (K.ofNat 8)), none, .as (.t (K.ofNat 23))⟩]
noncomputable def f19_r8 : List EOper := [⟨(some (K.ofNat 24)), none, .mv (.t (K.ofNat 8))⟩, ⟨(some (K.ofNat 9)), none, .as (.t (K.ofNat 24))⟩]
noncomputable def f19_r9 : List EOper := [⟨(some (K.ofNat 25)), none, .mv (.t (K.ofNat 9))⟩, ⟨(some (K.ofNat 26)), none, .bin .gtr (.t (K.ofNat 25)) (.c (.i .i64 (.ofNat 0)))⟩]
noncomputable def f19_r10 : List Stage := [⟨[⟨(some (K.ofNat 29)), none, .mv (.t (K.ofNat 7))⟩, ⟨(some (K.ofNat 30)), none, .mv (.t (K.ofNat 9))⟩, ⟨(some (K.ofNat 31)), none, .iads 1 (.t (K.ofNat 29)) (.t (K.ofNat 30))⟩, ⟨(some (K.ofNat 32)), none, .ld (.t (K.ofNat 31))⟩, ⟨(some (K.ofNat 33)), none, .mv (.t (K.ofNat 7))⟩, ⟨(some (K.ofNat 34)), none, .mv (.t (K.ofNat 9))⟩, ⟨(some (K.ofNat 35)), none, .bin .sub (.t (K.ofNat 34)) (.c (.i .i64 (.ofNat 1)))⟩, ⟨(some (K.ofNat 36)), none, .iads 1 (.t (K.ofNat 33)) (.t (K.ofNat 35))⟩, ⟨(some (K.ofNat 37)), none, .ld (.t (K.ofNat 36))⟩, ⟨(some (K.ofNat 38)), none, .bin .sub (.t (K.ofNat 32)) (.t (K.ofNat 37))⟩, ⟨(some (K.ofNat 39)), none, .iads 1 (.t (K.ofNat 29)) (.t (K.ofNat 30))⟩], [], (some ⟨none, none, .st 1 (.t (K.ofNat 39)) (.t (K.ofNat 38))⟩), []⟩, ⟨[], [], none, []⟩]
noncomputable def f19_r11 : List EOper := [⟨(some (K.ofNat 27)), none, .mv (.t (K.ofNat 9))⟩, ⟨(some (K.ofNat 28)), none, .bin .sub (.t (K.ofNat 27)) (.c (.i .i64 (.ofNat 1)))⟩, ⟨(some (K.ofNat 9)), none, .as (.t (K.ofNat 28))⟩]
noncomputable def f19_l0 : EC := (.seq (.seq (.reg f19_r9) (.cond (.t (K.ofNat 26)) .skip (.exit 2))) (.seq (.block 3 (.draw f19_r10)) (.reg f19_r11)))
noncomputable def f19_r12 : List EOper := [⟨(some (K.ofNat 40)), none, .bin .add (.t (K.ofNat 21)) (.c (.i .i64 (.ofNat 1)))⟩, ⟨(some (K.ofNat 21)), none, .mv (.t (K.ofNat 40))⟩]
noncomputable def f19_l1 : EC := (.seq (.reg f19_r6) (.seq (.cond (.t (K.ofNat 22)) .skip (.exit 0)) (.seq (.block 1 (.seq (.reg f19_r7) (.seq (.reg f19_r8) (.block 2 (.loop f19_l0))))) (.reg f19_r12))))
noncomputable def f19_r13 : List EOper := [⟨(some (K.ofNat 41)), none, .mv (.t (K.ofNat 7))⟩, ⟨(some (K.ofNat 4)), none, .as (.t (K.ofNat 41))⟩, ⟨(some (K.ofNat 5)), none, .as (.c (.i .i64 (.ofNat 0)))⟩]
noncomputable def f19_c : EC := (.seq (.reg f19_r0) (.seq (.seq (.reg f19_r1) (.seq (.reg f19_r2) (.cond (.t (K.ofNat 14)) (.seq (.reg f19_r3) .ret) .skip))) (.seq (.reg f19_r4) (.seq (.seq (.reg f19_r5) (.block 0 (.loop f19_l1))) (.seq (.reg f19_r13) .ret)))))
noncomputable def f19 : EF := ⟨42, [.tmp (K.ofNat 4), .tmp (K.ofNat 5)], f19_c, none⟩
theorem f19_rs : f19.rs = [.tmp (K.ofNat 4), .tmp (K.ofNat 5)] := of_eq_true (eq_self _)
noncomputable def f20_r0 : List EOper := [⟨(some (K.ofNat 4)), none, .as (.c (.i .i64 (.ofNat 0)))⟩, ⟨(some (K.ofNat 5)), none, .as (.c (.i .i64 (.ofNat 0)))⟩]
noncomputable def f20_r1 : List EOper := [⟨(some (K.ofNat 11)), none, .mv (.t (K.ofNat 0))⟩, ⟨(some (K.ofNat 12)), none, .mv (.t (K.ofNat 1))⟩, ⟨(some (K.ofNat 13)), none, .call (.c (.fn (K.ofNat 16) [])) [(.t (K.ofNat 11)), (.t (K.ofNat 12))]⟩, ⟨(some (K.ofNat 6)), none, .as (.t (K.ofNat 13))⟩]
noncomputable def f20_r2 : List EOper := [⟨(some (K.ofNat 14)), none, .mv (.t (K.ofNat 6))⟩, ⟨(some (K.ofNat 15)), none, .bin .neq (.t (K.ofNat 14)) (.c (.i .i64 (.ofNat 0)))⟩]
noncomputable def f20_r3 : List EOper := [⟨(some (K.ofNat 16)), none, .mv (.t (K.ofNat 6))⟩, ⟨(some (K.ofNat 4)), none, .as (.c (.i .i64 (.ofNat 0)))⟩, ⟨(some (K.ofNat 5)), none, .as (.t (K.ofNat 16))⟩]
noncomputable def f20_r4 : List EOper := [⟨(some (K.ofNat 7)), none, .as (.c (.i .i64 (.ofNat 0)))⟩, ⟨(some (K.ofNat 8)), none, .as (.c (.i .i64 (.ofNat 1)))⟩]
noncomputable def f20_r5 : List EOper := [⟨(some (K.ofNat 17)), none, .mv (.t (K.ofNat 1))⟩, ⟨(some (K.ofNat 18)), none, .call (.c (.fn (K.ofNat 55) [])) [(.t (K.ofNat 17))]⟩, ⟨(some (K.ofNat 19)), none, .call (.c (.fn (K.ofNat 57) [])) [(.t (K.ofNat 18))]⟩, ⟨(some (K.ofNat 20)), none, .slice 1 (.t (K.ofNat 19)) (some (.c (.i .i64 (.ofNat 1)))) none none⟩, ⟨(some (K.ofNat 21)), none, .len (.t (K.ofNat 20))⟩, ⟨(some (K.ofNat 22)), none, .mv (.c (.i .i64 (.ofNat 0)))⟩]
noncomputable def f20_r6 : List EOper := [⟨(some (K.ofNat 23)), none, .bin .lss (.t (K.ofNat 22)) (.t (K.ofNat 21))⟩]
noncomputable def f20_r7 : List EOper := [⟨(some (K.ofNat 24)), none, .iads 1 (.t (K.ofNat 20)) (.t (K.ofNat 22))⟩, ⟨(some (K.ofNat 25)), none, .ld (.t (K.ofNat 24))⟩, ⟨(some (K.ofNat 10)), none, .as (.t (K.ofNat 25))⟩]
noncomputable def f20_r8 : List EOper := [⟨(some (K.ofNat 26)), none, .mv (.t (K.ofNat 7))⟩, ⟨(some (K.ofNat 27)), none, .mv (.t (K.ofNat 8))⟩, ⟨(some (K.ofNat 28)), none, .mv (.t (K.ofNat 10))⟩, ⟨(some (K.ofNat 29)), none, .bin .mul (.t (K.ofNat 27)) (.t (K.ofNat 28))⟩, ⟨(some (K.ofNat 30)), none, .bin .add (.t (K.ofNat 26)) (.t (K.ofNat 29))⟩, ⟨(some (K.ofNat 7)), none, .as (.t (K.ofNat 30))⟩]
noncomputable def f20_r9 : List EOper := [⟨(some (K.ofNat 31)), none, .mv (.t (K.ofNat 8))⟩, ⟨(some (K.ofNat 32)), none, .neg (.t (K.ofNat 31))⟩, ⟨(some (K.ofNat 8)), none, .as (.t (K.ofNat 32))⟩]
noncomputable def f20_r10 : List EOper := [⟨(some (K.ofNat 33)), none, .bin .add (.t (K.ofNat 22)) (.c (.i .i64 (.ofNat 1)))⟩, ⟨(some (K.ofNat 22)), none, .mv (.t (K.ofNat 33))⟩]
noncomputable def f20_l0 : EC := (.seq (.reg f20_r6) (.seq (.cond (.t (K.ofNat 23)) .skip (.exit 0)) (.seq (.block 1 (.seq (.reg f20_r7) (.seq (.reg f20_r8) (.reg f20_r9)))) (.reg f20_r10))))
noncomputable def f20_r11 : List EOper := [⟨(some (K.ofNat 34)), none, .mv (.t (K.ofNat 7))⟩, ⟨(some (K.ofNat 4)), none, .as (.t (K.ofNat 34))⟩, ⟨(some (K.ofNat 5)), none, .as (.c (.i .i64 (.ofNat 0)))⟩]
noncomputable def f20_c : EC := (.seq (.reg f20_r0) (.seq (.seq (.reg f20_r1) (.seq (.reg f20_r2) (.cond (.t (K.ofNat 15)) (.seq (.reg f20_r3) .ret) .skip))) (.seq (.reg f20_r4) (.seq (.seq (.reg f20_r5) (.block 0 (.loop f20_l0))) (.seq (.reg f20_r11) .ret)))))
noncomputable def f20 : EF := ⟨35, [.tmp (K.ofNat 4), .tmp (K.ofNat 5)], f20_c, none⟩
theorem f20_rs : f20.rs = [.tmp (K.ofNat 4), .tmp (K.ofNat 5)] := of_eq_true (eq_self _)
section
variable {fs : T EF} {ro : Option K}
noncomputable def innerS : List Int → Nat → List Int
  | L, 0 => L
  | L, i + 1 => innerS (L.set (i + 1) (fw .i64 (L.getD (i + 1) 0 - L.getD i 0))) i
theorem innerS_len : ∀ (i : Nat) (L : List Int), (innerS L i).length = L.length
  | 0, L => rfl
  | i + 1, L => by rw [innerS, innerS_len i, List.length_set]
noncomputable def hsTo (L : List Int) (i : Nat) : List Int := (List.range i).foldl innerS L
theorem hsTo_succ {L : List Int} {i : Nat} : hsTo L (i + 1) = innerS (hsTo L i) i := by unfold hsTo; rw [List.range_succ, List.foldl_append]; rfl
theorem hsTo_len {L : List Int} : ∀ i, (hsTo L i).length = L.length
  | 0 => rfl
  | i + 1 => by rw [hsTo_succ, innerS_len, hsTo_len i]
noncomputable def hsS (L : List Int) : List Int := hsTo L L.length
def f19_I0 (h : H) (n : Nat) (last : Nat) (R : List Int) (v : V) (i : Nat) (fr : Fr) (h1 : H) : Prop := ∃ L, i < L.length ∧ L.length = n ∧ innerS L i = R ∧ Sl iE h1 v L ∧ Own h.nx.nat v ∧ Grow h.nx.nat h h1 ∧ fr.get (K.ofNat 7) = some (v) ∧ fr.get (K.ofNat 9) = some (.i .i64 (i : Int)) ∧ fr.get (K.ofNat 20) = some (.i .i64 (n : Int)) ∧ fr.get (K.ofNat 21) = some (.i .i64 (last : Int))
theorem f19_inner {Q : Ex → Fr → H → Prop} {h h0 : H} {n last : Nat} {R : List Int} {v : V} {i : Nat} {fr : Fr} (hc : HC h) (hn : n ≤ 7)
    (hi : f19_I0 h n last R v i fr h0)
    (hq : ∀ fr h1, Sl iE h1 v R → Grow h.nx.nat h h1 → fr.get (K.ofNat 7) = some (v) ∧ fr.get (K.ofNat 20) = some (.i .i64 (n : Int)) ∧ fr.get (K.ofNat 21) = some (.i .i64 (last : Int)) → Q (.exit 2) fr h1) :
    W fs ro (.loop f19_l0) Q fr h0 := by
  refine W_loop (f19_I0 h n last R v) (fun i => i) ?_ i hi
  clear hi fr h0 i
  rintro i fr h1 ⟨L, hi, hn', hR, hs, ho, hgr, g7, g9, g20, g21⟩
  have hc1 := hgr.hc hc
  unfold f19_l0
  cases i with
  | zero =>
    have h0 : ¬ (0 : Int) < ((0 : Nat) : Int) := by omega
    simp (disch := omega) only [f19_r9, w_reg, w_seq, w_cond, w_exit, seqK_n, seqK_e, loopK_e, ckB_b, cbB_b, true_and, x_nil, x_mv, x_bin, kx, rvP_ok, okv_some, ev_t, ev_c, getV_some, putD_some, bin_gtr, of0, getK_set, ↓reduceIte, Bool.false_eq_true, g9, h0, decide_false]
    exact hq _ _ (by rw [← hR]; exact hs) hgr (by simp (disch := omega) only [getK_set, Nat.reduceEqDiff, ↓reduceIte, g7, g20, g21, and_self])
  | succ i =>
    have h0 : (0 : Int) < ((i + 1 : Nat) : Int) := by omega
    obtain ⟨p, hp1, hp2⟩ := hs.at (i + 1) hi
    obtain ⟨p', hp1', hp2'⟩ := hs.at i (by omega)
    obtain ⟨p2, id, m2, cs2, q1, q2, q3, ⟨off, nn, sz, q4⟩, q5⟩ := hs.st hi (x := fw .i64 (L[i + 1] - L[i])) (c := .i .i64 (fw .i64 (L[i + 1] - L[i]))) rfl rfl hc1
    have hpp : p2 = p := by
      have h1' := hp1 .i64 h1
      have h2' := q1 .i64 h1
      rw [h1'] at h2'
      cases h2'; rfl
    subst hpp
    have hid := ho id off nn sz q4
    have hsub : fw .i64 (((i + 1 : Nat) : Int) - 1) = (i : Int) := by rw [fw64 (by omega) (by omega)]; omega
    simp (disch := omega) only [f19_r9, f19_r10, f19_r11, w_skip, w_reg, w_draw, w_seq, w_cond, w_block, seqK_n, atK_n, loopK_n, ckB_b, cbB_b, true_and, x_nil, x_mv, x_as, x_st, x_bin, kx, kg, xg_nil, xg_mv, xg_ld, xg_bin, xg_iads, xd_cons, fresh_nil, stK_n, stK_s, stay_nil, rvP_ok, okv_some, ev_t, ev_c, getV_some, putD_some, putD_none, bin_sub, bin_gtr, of0, of1, getK_set, Nat.reduceEqDiff, ↓reduceIte, g7, g9, h0, decide_true, hp1, hp2, hsub, hp1', hp2', iE, q2]
    refine ⟨i, by omega, L.set (i + 1) (fw .i64 (L[i + 1] - L[i])), by rw [List.length_set]; omega, by rw [List.length_set]; exact hn', ?_, q3, ho, hgr.trans (Grow.put hid q5 _), by simp (disch := omega) only [getK_set, Nat.reduceEqDiff, ↓reduceIte, g7, g20, g21, and_self]⟩
    rw [← hR, innerS]
    congr 2
    have hi2 : i < L.length := by omega
    simp [List.getD, hi, hi2]
def f19_I1 (h : H) (n : Nat) (C : List Int) (v : V) (i : Nat) (fr : Fr) (h1 : H) : Prop := i ≤ n ∧ Sl iE h1 v (hsTo C i) ∧ Own h.nx.nat v ∧ Grow h.nx.nat h h1 ∧ fr.get (K.ofNat 7) = some (v) ∧ fr.get (K.ofNat 20) = some (.i .i64 (n : Int)) ∧ fr.get (K.ofNat 21) = some (.i .i64 (i : Int))
theorem f19_ret {h : H} {v : V} {S : List Int} {n : Int} (hp : ∀ a b h P, CallP fs (.fn (K.ofNat 54) []) [.i .i64 a, .i .i64 b] h P = P (.b (ptI a b)) h)
    (hp75 : ∀ m : Nat, m < 64 → ∀ h P, CallP fs (.fn (K.ofNat 75) []) [.i .i64 (m : Int)] h P = P (.i .i64 (pop6 m : Int)) h)
    (h16 : fs.get (K.ofNat 16) = some f16) (h55 : fs.get (K.ofNat 55) = some f55) (h57 : fs.get (K.ofNat 57) = some f57) (h78 : fs.get (K.ofNat 78) = some f78) (h91 : fs.get (K.ofNat 91) = some alF)
    (hv : Sl iE h v S) (hc : HC h) (hS : S.length ≤ 1000000) :
    Ret fs f19 [.i .i64 n, v] h fun r h' => ∃ u, r = .tup [u, .i .i64 (chkS n S)] ∧ Sl iE h' u (if chkS n S = 0 then hsS (cntS (mem64 (famB S))) else []) ∧ Own h.nx.nat u ∧ Grow h.nx.nat h h' := by
  apply ret_of rfl
  show W fs none f19_c _ _ _
  unfold f19_c
  simp (disch := omega) only [f19_r0, f19_r1, w_reg, w_seq, seqK_n, x_nil, x_mv, x_as, x_call, ev_t, ev_c, evs_nil, evs_cons, getV_some, putD_some, frame_2, of0, getK_set, Nat.reduceEqDiff, ↓reduceIte]
  refine (callP_0 (ef := f16) h16 rfl (f16_ret hp hv)).mono ?_
  rintro u h1 ⟨rfl, rfl⟩
  by_cases e : chkS n S = 0
  · simp (disch := omega) only [f19_r2, f19_r4, w_skip, w_reg, w_seq, w_cond, seqK_n, ckB_b, cbB_b, true_and, x_nil, x_mv, x_as, x_bin, x_call, kx, rvP_ok, okv_some, ev_t, ev_c, evs_nil, evs_cons, getV_some, putD_some, bin_neq, of0, getK_set, Nat.reduceEqDiff, ↓reduceIte, Bool.false_eq_true, e, ne_eq, not_true_eq_false, decide_false]
    refine (callP_0 (ef := f55) h55 rfl (f55_ret (S := S) hp hv hc hS)).mono ?_
    rintro u h2 ⟨rfl, g2⟩
    rw [famB_list]
    simp (disch := omega) only [x_call, kx, ev_t, ev_c, evs_nil, evs_cons, getV_some, putD_some, getK_set, ↓reduceIte]
    refine (callP_0 (ef := f57) h57 rfl (f57_ret (B := famB S) hp75 h78 h91 (g2.hc hc))).mono ?_
    rintro u h3 ⟨hs, ho, g3⟩
    have hgr := g2.trans (g3.low g2.nx)
    have ho' := ho.low g2.nx
    have hl7 := cntS_len (mem64 (famB S))
    generalize cntS (mem64 (famB S)) = C at *
    simp (disch := omega) only [f19_r5, w_reg, w_seq, w_block, seqK_n, x_nil, x_mv, x_as, x_len, kx, rvP_ok, ev_t, ev_c, getV_some, putD_some, of0, getK_set, ↓reduceIte, hs.len]
    refine W_loop (f19_I1 h1 C.length C u) (fun i => C.length - i) ?_ 0 ⟨Nat.zero_le _, hs, ho', hgr, by simp (disch := omega) only [getK_set, Nat.reduceEqDiff, ↓reduceIte, and_self, Int.natCast_zero]⟩
    rintro i fr h4 ⟨hi, hs4, ho4, hgr4, g7, g20, g21⟩
    unfold f19_l1
    by_cases hlt : i < C.length
    · have hlt' : (i : Int) < (C.length : Int) := by omega
      simp (disch := omega) only [f19_r6, f19_r7, f19_r8, w_skip, w_reg, w_seq, w_cond, w_block, seqK_n, ckB_b, cbB_b, true_and, x_nil, x_mv, x_as, x_bin, kx, rvP_ok, okv_some, ev_t, getV_some, putD_some, bin_lss, getK_set, Nat.reduceEqDiff, ↓reduceIte, g20, g21, hlt', decide_true]
      refine f19_inner (h := h1) (n := C.length) (last := i) (R := hsTo C (i + 1)) (v := u) (i := i) hc hl7 ⟨hsTo C i, by rw [hsTo_len]; exact hlt, hsTo_len i, hsTo_succ.symm, hs4, ho4, hgr4, by simp (disch := omega) only [getK_set, Nat.reduceEqDiff, ↓reduceIte, g7, g20, g21, and_self]⟩ ?_
      rintro fr h5 hs5 hgr5 ⟨g7, g20, g21⟩
      simp (disch := omega) only [f19_r12, w_reg, seqK_n, atK_n, atK_e, loopK_n, x_nil, x_mv, x_bin, kx, rvP_ok, okv_some, ev_t, ev_c, getV_some, putD_some, bin_add, of1, getK_set, ↓reduceIte, g21, fw64]
      exact ⟨i + 1, by omega, hlt, hs5, ho4, hgr5, by simp (disch := omega) only [getK_set, Nat.reduceEqDiff, ↓reduceIte, g7, g20, and_self, Int.natCast_add, Int.natCast_one]⟩
    · obtain rfl : i = C.length := by omega
      have hlt' : ¬ (C.length : Int) < (C.length : Int) := by omega
      simp (disch := omega) only [f19_r6, f19_r13, f19_rs, w_reg, w_seq, w_cond, w_exit, w_ret, seqK_n, seqK_e, atK_e, loopK_e, ckB_b, cbB_b, true_and, retK_r, x_nil, x_mv, x_as, x_bin, kx, rvP_ok, okv_some, ev_t, ev_c, getV_some, putD_some, bin_lss, oGet_s, readRs_nil, readRs_t, retV_2, of0, Option.some.injEq, exists_eq_left', getK_set, Nat.reduceEqDiff, ↓reduceIte, Bool.false_eq_true, g7, g20, g21, hlt', decide_false]
      exact ⟨u, rfl, hs4, ho4, hgr4⟩
  · simp (disch := omega) only [f19_r2, f19_r3, f19_rs, w_reg, w_seq, w_cond, w_ret, seqK_n, seqK_r, ckB_b, cbB_b, true_and, retK_r, x_nil, x_mv, x_as, x_bin, kx, rvP_ok, okv_some, ev_t, ev_c, getV_some, putD_some, bin_neq, oGet_s, readRs_nil, readRs_t, retV_2, of0, Option.some.injEq, exists_eq_left', getK_set, Nat.reduceEqDiff, ↓reduceIte, e, ne_eq, not_false_eq_true, decide_true]
    exact ⟨.sn, rfl, Sl.nil, Own.sn, Grow.refl _ _⟩
/-- The sum with signs. -/
noncomputable def euS : List Int → Int → Int → Int
  | [], sum, _ => sum
  | x :: l, sum, sign => euS l (fw .i64 (sum + fw .i64 (sign * x))) (fw .i64 (isub 0 sign))
def f20_I (h : H) (v : V) (L : List Int) (R : Int) (i : Nat) (fr : Fr) (h1 : H) : Prop := ∃ sum sign, h1 = h ∧ i ≤ L.length ∧ euS (L.drop i) sum sign = R ∧ fr.get (K.ofNat 7) = some (.i .i64 sum) ∧ fr.get (K.ofNat 8) = some (.i .i64 sign) ∧ fr.get (K.ofNat 20) = some (v) ∧ fr.get (K.ofNat 21) = some (.i .i64 (L.length : Int)) ∧ fr.get (K.ofNat 22) = some (.i .i64 (i : Int))
theorem f20_ret {h : H} {v : V} {S : List Int} {n : Int} (hp : ∀ a b h P, CallP fs (.fn (K.ofNat 54) []) [.i .i64 a, .i .i64 b] h P = P (.b (ptI a b)) h)
    (hp75 : ∀ m : Nat, m < 64 → ∀ h P, CallP fs (.fn (K.ofNat 75) []) [.i .i64 (m : Int)] h P = P (.i .i64 (pop6 m : Int)) h)
    (h16 : fs.get (K.ofNat 16) = some f16) (h55 : fs.get (K.ofNat 55) = some f55) (h57 : fs.get (K.ofNat 57) = some f57) (h78 : fs.get (K.ofNat 78) = some f78) (h91 : fs.get (K.ofNat 91) = some alF)
    (hv : Sl iE h v S) (hc : HC h) (hS : S.length ≤ 1000000) (hne : chkS n S = 0 → 1 ≤ (cntS (mem64 (famB S))).length) :
    Ret fs f20 [.i .i64 n, v] h fun r h' => r = .tup [.i .i64 (if chkS n S = 0 then euS ((cntS (mem64 (famB S))).drop 1) 0 1 else 0), .i .i64 (chkS n S)] ∧ Grow h.nx.nat h h' := by
  apply ret_of rfl
  show W fs none f20_c _ _ _
  unfold f20_c
  simp (disch := omega) only [f20_r0, f20_r1, w_reg, w_seq, seqK_n, x_nil, x_mv, x_as, x_call, ev_t, ev_c, evs_nil, evs_cons, getV_some, putD_some, frame_2, of0, getK_set, Nat.reduceEqDiff, ↓reduceIte]
  refine (callP_0 (ef := f16) h16 rfl (f16_ret hp hv)).mono ?_
  rintro u h1 ⟨rfl, rfl⟩
  by_cases e : chkS n S = 0
  · simp (disch := omega) only [f20_r2, f20_r4, f20_r5, w_skip, w_reg, w_seq, w_cond, seqK_n, ckB_b, cbB_b, true_and, x_nil, x_mv, x_as, x_bin, x_call, kx, rvP_ok, okv_some, ev_t, ev_c, evs_nil, evs_cons, getV_some, putD_some, bin_neq, of0, of1, getK_set, Nat.reduceEqDiff, ↓reduceIte, Bool.false_eq_true, e, ne_eq, not_true_eq_false, decide_false]
    refine (callP_0 (ef := f55) h55 rfl (f55_ret (S := S) hp hv hc hS)).mono ?_
    rintro u h2 ⟨rfl, g2⟩
    rw [famB_list]
    simp (disch := omega) only [x_call, kx, ev_t, ev_c, evs_nil, evs_cons, getV_some, putD_some, getK_set, ↓reduceIte]
    refine (callP_0 (ef := f57) h57 rfl (f57_ret (B := famB S) hp75 h78 h91 (g2.hc hc))).mono ?_
    rintro u h3 ⟨hs, ho, g3⟩
    have hgr := g2.trans (g3.low g2.nx)
    have hl7 := cntS_len (mem64 (famB S))
    have hne := hne e
    generalize cntS (mem64 (famB S)) = C at *
    obtain ⟨w, x1, x2, _⟩ := hs.cut (lo := some (.i .i64 1)) (hi := none) (l := 1) (u := C.length) rfl bnd_none hne (Nat.le_refl _)
    rw [List.take_length] at x2
    have hdl : (C.drop 1).length ≤ 7 := by rw [List.length_drop]; omega
    simp (disch := omega) only [w_block, seqK_n, x_nil, x_mv, x_slice, sliceV_eq, Option.map_none, Option.map_some, x_len, kx, rvP_ok, ev_t, ev_c, getV_some, putD_some, getK_set, ↓reduceIte, x1, x2.len]
    generalize C.drop 1 = D at *
    refine W_loop (f20_I h3 w D (euS D 0 1)) (fun i => D.length - i) ?_ 0 ⟨0, 1, rfl, Nat.zero_le _, rfl, by simp (disch := omega) only [getK_set, Nat.reduceEqDiff, ↓reduceIte, and_self, Int.natCast_zero]⟩
    rintro i fr h4 ⟨sum, sign, rfl, hi, hR, g7, g8, g20, g21, g22⟩
    unfold f20_l0
    by_cases hlt : i < D.length
    · have hlt' : (i : Int) < (D.length : Int) := by omega
      obtain ⟨p, hp1, hp2⟩ := x2.at i hlt
      simp (disch := omega) only [f20_r6, f20_r7, f20_r8, f20_r9, f20_r10, w_skip, w_reg, w_seq, w_cond, w_block, seqK_n, atK_n, loopK_n, ckB_b, cbB_b, true_and, x_nil, x_mv, x_as, x_ld, x_bin, x_neg, x_iads, kx, rvP_ok, okv_some, ev_t, ev_c, getV_some, putD_some, bin_add, bin_mul, bin_lss, onI_i, of1, getK_set, Nat.reduceEqDiff, ↓reduceIte, g7, g8, g20, g21, g22, hlt', decide_true, hp1, hp2, iE]
      refine ⟨i + 1, by omega, fw .i64 (sum + fw .i64 (sign * D[i])), fw .i64 (isub 0 sign), rfl, hlt, ?_, by simp (disch := omega) only [getK_set, Nat.reduceEqDiff, ↓reduceIte, g20, g21, and_self, Int.natCast_add, Int.natCast_one, fw64]⟩
      rw [← hR, List.drop_eq_getElem_cons hlt]; rfl
    · obtain rfl : i = D.length := by omega
      have hlt' : ¬ (D.length : Int) < (D.length : Int) := by omega
      rw [List.drop_length] at hR
      have hR : sum = euS D 0 1 := hR
      simp (disch := omega) only [f20_r6, f20_r11, f20_rs, w_reg, w_seq, w_cond, w_exit, w_ret, seqK_n, seqK_e, atK_e, loopK_e, ckB_b, cbB_b, true_and, retK_r, x_nil, x_mv, x_as, x_bin, kx, rvP_ok, okv_some, ev_t, ev_c, getV_some, putD_some, bin_lss, oGet_s, readRs_nil, readRs_t, retV_2, of0, Option.some.injEq, exists_eq_left', getK_set, Nat.reduceEqDiff, ↓reduceIte, Bool.false_eq_true, g7, g21, g22, hlt', decide_false]
      exact ⟨by rw [hR], hgr⟩
  · simp (disch := omega) only [f20_r2, f20_r3, f20_rs, w_reg, w_seq, w_cond, w_ret, seqK_n, seqK_r, ckB_b, cbB_b, true_and, retK_r, x_nil, x_mv, x_as, x_bin, kx, rvP_ok, okv_some, ev_t, ev_c, getV_some, putD_some, bin_neq, oGet_s, readRs_nil, readRs_t, retV_2, of0, Option.some.injEq, exists_eq_left', getK_set, Nat.reduceEqDiff, ↓reduceIte, e, ne_eq, not_false_eq_true, decide_true]
    exact Grow.refl _ _
end
end Go.Ev
namespace Go.Ev
open Go Go.RowKit
section
variable {fs : T EF} {ro : Option K} {momL : Int → Int → List Int}
end
end Go.Ev
namespace Go.Ev
open Go Go.RowKit
theorem xor_zero {a b : Nat} : a ^^^ b = 0 ↔ a = b := by
  constructor
  · intro h
    apply Nat.eq_of_testBit_eq
    intro i
    have := congrArg (fun n => Nat.testBit n i) h
    simp only [Nat.testBit_xor, Nat.zero_testBit] at this
    cases h1 : a.testBit i <;> cases h2 : b.testBit i <;> simp_all
  · rintro rfl; exact Nat.xor_self a
theorem ptI_nat {a b : Nat} (ha : a < 64) (hb : b < 64) : ptI (a : Int) (b : Int) = decide (a &&& b = a) := by
  unfold ptI
  rw [ibits_nat (by show a ≤ 9223372036854775807; omega) (by show b ≤ 9223372036854775807; omega), ieq_eq]
  have : (((Nat.xor a (Nat.land a b) : Nat) : Int) == Int.ofNat 0) = decide (a ^^^ (a &&& b) = 0) := by
    show ((((a ^^^ (a &&& b)) : Nat) : Int) == ((0 : Nat) : Int)) = _
    by_cases h : a ^^^ (a &&& b) = 0 <;> simp [h]
  rw [this]
  by_cases h : a &&& b = a
  · rw [decide_eq_true h, decide_eq_true (xor_zero.2 h.symm)]
  · rw [decide_eq_false h, decide_eq_false (fun e => h (xor_zero.1 e).symm)]
theorem sub_trans {a b c : Nat} (h1 : a &&& b = a) (h2 : b &&& c = b) : a &&& c = a := by
  rw [← h1, Nat.and_assoc, h2]
/-- All are sets of six corners. -/
def Sets (S : List Int) : Prop := ∀ s ∈ S, ∃ t : Nat, t < 64 ∧ s = (t : Int)
end Go.Ev
