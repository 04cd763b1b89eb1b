/-
  Functions of the seat: Check.
  Functions of the seat: tame.
  Functions of the seat: rank.
  Functions of the seat: cornersOf, border.
  Functions of the seat: AppendSeq, Collect, list, Faces.
  Functions of the seat: counts, Counts.
  Functions of the seat: borderRank, hollows, Hollows.
  Functions of the seat: hollows, Hollows.
  Functions of the seat: Hs, Euler.
  The law ShellsMakes: its round.
  What is true of sets: the greatest of all parts of some sets are the greatest of these.
-/
import Derived.Test.YtneacehpoaambaaPd
namespace Go.Ev
open Go Go.RowKit
noncomputable def f16_r0 : List EOper := [⟨(some (K.ofNat 4)), none, .as (.c (.i .i64 (.ofNat 0)))⟩]
noncomputable def f16_r1 : List EOper := [⟨(some (K.ofNat 9)), none, .mv (.t (K.ofNat 0))⟩, ⟨(some (K.ofNat 10)), none, .bin .lss (.t (K.ofNat 9)) (.c (.i .i64 (.ofNat 1)))⟩, ⟨(some (K.ofNat 11)), none, .mv (.t (K.ofNat 10))⟩, ⟨(some (K.ofNat 12)), (some ((K.ofNat 11), false)), .mv (.t (K.ofNat 0))⟩, ⟨(some (K.ofNat 13)), (some ((K.ofNat 11), false)), .bin .gtr (.t (K.ofNat 12)) (.c (.i .i64 (.ofNat 6)))⟩, ⟨(some (K.ofNat 14)), none, .pick (.t (K.ofNat 11)) (.c (.b true)) (.t (K.ofNat 13))⟩]
noncomputable def f16_r2 : List EOper := [⟨(some (K.ofNat 4)), none, .as (.c (.i .i64 (.ofNat 1)))⟩]
noncomputable def f16_r3 : List EOper := [⟨(some (K.ofNat 15)), none, .mv (.t (K.ofNat 1))⟩, ⟨(some (K.ofNat 16)), none, .len (.t (K.ofNat 15))⟩, ⟨(some (K.ofNat 17)), none, .bin .lss (.t (K.ofNat 16)) (.c (.i .i64 (.ofNat 1)))⟩, ⟨(some (K.ofNat 18)), none, .mv (.t (K.ofNat 17))⟩, ⟨(some (K.ofNat 19)), (some ((K.ofNat 18), false)), .mv (.t (K.ofNat 1))⟩, ⟨(some (K.ofNat 20)), (some ((K.ofNat 18), false)), .len (.t (K.ofNat 19))⟩, ⟨(some (K.ofNat 21)), (some ((K.ofNat 18), false)), .bin .gtr (.t (K.ofNat 20)) (.c (.i .i64 (.ofNat 10)))⟩, ⟨(some (K.ofNat 22)), none, .pick (.t (K.ofNat 18)) (.c (.b true)) (.t (K.ofNat 21))⟩]
noncomputable def f16_r4 : List EOper := [⟨(some (K.ofNat 4)), none, .as (.c (.i .i64 (.ofNat 10)))⟩]
noncomputable def f16_r5 : List EOper := [⟨(some (K.ofNat 23)), none, .mv (.t (K.ofNat 1))⟩, ⟨(some (K.ofNat 24)), none, .len (.t (K.ofNat 23))⟩, ⟨(some (K.ofNat 25)), none, .mv (.c (.i .i64 (.ofNat 0)))⟩]
noncomputable def f16_r6 : List EOper := [⟨(some (K.ofNat 26)), none, .bin .lss (.t (K.ofNat 25)) (.t (K.ofNat 24))⟩]
noncomputable def f16_r7 : List EOper := [⟨(some (K.ofNat 27)), none, .mv (.t (K.ofNat 25))⟩, ⟨(some (K.ofNat 28)), none, .iads 1 (.t (K.ofNat 23)) (.t (K.ofNat 25))⟩, ⟨(some (K.ofNat 29)), none, .ld (.t (K.ofNat 28))⟩, ⟨(some (K.ofNat 5)), none, .as (.t (K.ofNat 27))⟩, ⟨(some (K.ofNat 6)), none, .as (.t (K.ofNat 29))⟩]
noncomputable def f16_r8 : List EOper := [⟨(some (K.ofNat 30)), none, .mv (.t (K.ofNat 6))⟩, ⟨(some (K.ofNat 31)), none, .bin .lss (.t (K.ofNat 30)) (.c (.i .i64 (.ofNat 1)))⟩, ⟨(some (K.ofNat 32)), none, .mv (.t (K.ofNat 31))⟩, ⟨(some (K.ofNat 33)), (some ((K.ofNat 32), false)), .mv (.t (K.ofNat 6))⟩, ⟨(some (K.ofNat 34)), (some ((K.ofNat 32), false)), .mv (.t (K.ofNat 0))⟩, ⟨(some (K.ofNat 35)), (some ((K.ofNat 32), false)), .bin .shl (.c (.i .i64 (.ofNat 1))) (.t (K.ofNat 34))⟩, ⟨(some (K.ofNat 36)), (some ((K.ofNat 32), false)), .bin .geq (.t (K.ofNat 33)) (.t (K.ofNat 35))⟩, ⟨(some (K.ofNat 37)), none, .pick (.t (K.ofNat 32)) (.c (.b true)) (.t (K.ofNat 36))⟩]
noncomputable def f16_r9 : List EOper := [⟨(some (K.ofNat 4)), none, .as (.c (.i .i64 (.ofNat 10)))⟩]
noncomputable def f16_r10 : List EOper := [⟨(some (K.ofNat 38)), none, .mv (.t (K.ofNat 1))⟩, ⟨(some (K.ofNat 39)), none, .mv (.t (K.ofNat 5))⟩, ⟨(some (K.ofNat 40)), none, .slice 1 (.t (K.ofNat 38)) none (some (.t (K.ofNat 39))) none⟩, ⟨(some (K.ofNat 41)), none, .len (.t (K.ofNat 40))⟩, ⟨(some (K.ofNat 42)), none, .mv (.c (.i .i64 (.ofNat 0)))⟩]
noncomputable def f16_r11 : List EOper := [⟨(some (K.ofNat 43)), none, .bin .lss (.t (K.ofNat 42)) (.t (K.ofNat 41))⟩]
noncomputable def f16_r12 : List EOper := [⟨(some (K.ofNat 44)), none, .iads 1 (.t (K.ofNat 40)) (.t (K.ofNat 42))⟩, ⟨(some (K.ofNat 45)), none, .ld (.t (K.ofNat 44))⟩, ⟨(some (K.ofNat 8)), none, .as (.t (K.ofNat 45))⟩]
noncomputable def f16_r13 : List EOper := [⟨(some (K.ofNat 46)), none, .mv (.t (K.ofNat 8))⟩, ⟨(some (K.ofNat 47)), none, .mv (.t (K.ofNat 6))⟩, ⟨(some (K.ofNat 48)), none, .bin .geq (.t (K.ofNat 46)) (.t (K.ofNat 47))⟩, ⟨(some (K.ofNat 49)), none, .mv (.t (K.ofNat 48))⟩, ⟨(some (K.ofNat 50)), (some ((K.ofNat 49), false)), .mv (.t (K.ofNat 8))⟩, ⟨(some (K.ofNat 51)), (some ((K.ofNat 49), false)), .mv (.t (K.ofNat 6))⟩, ⟨(some (K.ofNat 52)), (some ((K.ofNat 49), false)), .call (.c (.fn (K.ofNat 54) [])) [(.t (K.ofNat 50)), (.t (K.ofNat 51))]⟩, ⟨(some (K.ofNat 53)), none, .pick (.t (K.ofNat 49)) (.c (.b true)) (.t (K.ofNat 52))⟩]
noncomputable def f16_r14 : List EOper := [⟨(some (K.ofNat 4)), none, .as (.c (.i .i64 (.ofNat 10)))⟩]
noncomputable def f16_r15 : List EOper := [⟨(some (K.ofNat 54)), none, .bin .add (.t (K.ofNat 42)) (.c (.i .i64 (.ofNat 1)))⟩, ⟨(some (K.ofNat 42)), none, .mv (.t (K.ofNat 54))⟩]
noncomputable def f16_l0 : EC := (.seq (.reg f16_r11) (.seq (.cond (.t (K.ofNat 43)) .skip (.exit 2)) (.seq (.block 3 (.seq (.reg f16_r12) (.seq (.reg f16_r13) (.cond (.t (K.ofNat 53)) (.seq (.reg f16_r14) .ret) .skip)))) (.reg f16_r15))))
noncomputable def f16_r16 : List EOper := [⟨(some (K.ofNat 55)), none, .bin .add (.t (K.ofNat 25)) (.c (.i .i64 (.ofNat 1)))⟩, ⟨(some (K.ofNat 25)), none, .mv (.t (K.ofNat 55))⟩]
noncomputable def f16_l1 : EC := (.seq (.reg f16_r6) (.seq (.cond (.t (K.ofNat 26)) .skip (.exit 0)) (.seq (.block 1 (.seq (.reg f16_r7) (.seq (.seq (.reg f16_r8) (.cond (.t (K.ofNat 37)) (.seq (.reg f16_r9) .ret) .skip)) (.seq (.reg f16_r10) (.block 2 (.loop f16_l0)))))) (.reg f16_r16))))
noncomputable def f16_r17 : List EOper := [⟨(some (K.ofNat 4)), none, .as (.c (.i .i64 (.ofNat 0)))⟩]
noncomputable def f16_c : EC := (.seq (.reg f16_r0) (.seq (.seq (.reg f16_r1) (.cond (.t (K.ofNat 14)) (.seq (.reg f16_r2) .ret) .skip)) (.seq (.seq (.reg f16_r3) (.cond (.t (K.ofNat 22)) (.seq (.reg f16_r4) .ret) .skip)) (.seq (.seq (.reg f16_r5) (.block 0 (.loop f16_l1))) (.seq (.reg f16_r17) .ret)))))
noncomputable def f16 : EF := ⟨56, [.tmp (K.ofNat 4)], f16_c, none⟩
theorem f16_rs : f16.rs = [.tmp (K.ofNat 4)] := of_eq_true (eq_self _)
section
variable {fs : T EF} {ro : Option K}
noncomputable def pairOk (x y : Int) : Bool := decide (y < x) && !ptI y x
noncomputable def okAt (n : Int) (S : List Int) (i : Nat) : Bool := decide (1 ≤ S.getD i 0) && decide (S.getD i 0 < 2 ^ n.toNat) && (S.take i).all (pairOk (S.getD i 0))
noncomputable def goodS (n : Int) (S : List Int) : Bool := decide (1 ≤ S.length) && decide (S.length ≤ 10) && (List.range S.length).all (okAt n S)
noncomputable def chkS (n : Int) (S : List Int) : Int := if n < 1 ∨ 6 < n then 1 else if goodS n S = true then 0 else 10
def f16_I0 (h : H) (v u : V) (S T : List Int) (n x : Int) (i : Nat) (j : Nat) (fr : Fr) (h1 : H) : Prop := h1 = h ∧ j ≤ T.length ∧ (T.take j).all (pairOk x) = true ∧ fr.get (K.ofNat 0) = some (.i .i64 n) ∧ fr.get (K.ofNat 1) = some (v) ∧ fr.get (K.ofNat 6) = some (.i .i64 x) ∧ fr.get (K.ofNat 23) = some (v) ∧ fr.get (K.ofNat 24) = some (.i .i64 (S.length : Int)) ∧ fr.get (K.ofNat 25) = some (.i .i64 (i : Int)) ∧ fr.get (K.ofNat 40) = some (u) ∧ fr.get (K.ofNat 41) = some (.i .i64 (T.length : Int)) ∧ fr.get (K.ofNat 42) = some (.i .i64 (j : Int))
theorem f16_inner {Q : Ex → Fr → H → Prop} {h : H} {v u : V} {S T : List Int} {n x : Int} {i : Nat} {fr : Fr}
    (hp : ∀ a b h P, CallP fs (.fn (K.ofNat 54) []) [.i .i64 a, .i .i64 b] h P = P (.b (ptI a b)) h) (hu : Sl iE h u T) (hT : T.length ≤ 10)
    (hg : fr.get (K.ofNat 0) = some (.i .i64 n) ∧ fr.get (K.ofNat 1) = some (v) ∧ fr.get (K.ofNat 6) = some (.i .i64 x) ∧ fr.get (K.ofNat 23) = some (v) ∧ fr.get (K.ofNat 24) = some (.i .i64 (S.length : Int)) ∧ fr.get (K.ofNat 25) = some (.i .i64 (i : Int)) ∧ fr.get (K.ofNat 40) = some (u) ∧ fr.get (K.ofNat 41) = some (.i .i64 (T.length : Int)) ∧ fr.get (K.ofNat 42) = some (.i .i64 0))
    (hq1 : T.all (pairOk x) = true → ∀ fr, fr.get (K.ofNat 0) = some (.i .i64 n) ∧ fr.get (K.ofNat 1) = some (v) ∧ fr.get (K.ofNat 23) = some (v) ∧ fr.get (K.ofNat 24) = some (.i .i64 (S.length : Int)) ∧ fr.get (K.ofNat 25) = some (.i .i64 (i : Int)) → Q (.exit 2) fr h)
    (hq2 : T.all (pairOk x) = false → ∀ fr, fr.get (K.ofNat 4) = some (.i .i64 10) → Q .ret fr h) :
    W fs ro (.loop f16_l0) Q fr h := by
  refine W_loop (f16_I0 h v u S T n x i) (fun j => T.length - j) ?_ 0 ⟨rfl, by omega, by simp, hg⟩
  clear hg fr
  rintro j fr h1 ⟨rfl, hj, hal, g0, g1, g6, g23, g24, g25, g40, g41, g42⟩
  unfold f16_l0
  by_cases hlt : j < T.length
  · have hlt' : (j : Int) < (T.length : Int) := by omega
    obtain ⟨p, hp1, hp2⟩ := hu.at j hlt
    have hs := all_snoc (p := pairOk x) hlt
    rw [hal, Bool.true_and] at hs
    have bad : pairOk x T[j] = false → T.all (pairOk x) = false := fun hf => by
      rw [List.all_eq_false]; exact ⟨T[j], List.getElem_mem _, by rw [hf]; simp⟩
    by_cases e1 : x ≤ T[j]
    · have hb := bad (by unfold pairOk; rw [decide_eq_false (by omega)]; rfl)
      simp (disch := omega) only [f16_r11, f16_r12, f16_r13, f16_r14, w_skip, w_reg, w_seq, w_cond, w_block, w_ret, seqK_n, seqK_r, atK_r, loopK_r, ckB_b, cbB_b, okG_b, asG_f, true_and, x_nil, x_g, x_mv, x_as, x_pick, x_ld, x_bin, x_iads, kx, rvP_ok, okv_some, ev_t, ev_c, getV_some, putD_some, bin_lss, bin_geq, pick_b, of10, getK_set, Nat.reduceEqDiff, ↓reduceIte, Bool.false_eq_true, Bool.not_true, g6, g40, g41, g42, hlt', decide_true, hp1, hp2, iE, e1]
      exact hq2 hb _ (by simp (disch := omega) only [getK_set, ↓reduceIte])
    · cases e2 : ptI T[j] x
      · simp (disch := omega) only [f16_r11, f16_r12, f16_r13, f16_r15, w_skip, w_reg, w_seq, w_cond, w_block, seqK_n, atK_n, loopK_n, ckB_b, cbB_b, okG_b, asG_f, true_and, x_nil, x_g, x_mv, x_as, x_pick, x_ld, x_bin, x_iads, x_call, kx, rvP_ok, okv_some, ev_t, ev_c, evs_nil, evs_cons, getV_some, putD_some, bin_add, bin_lss, bin_geq, pick_b, of1, getK_set, Nat.reduceEqDiff, ↓reduceIte, Bool.false_eq_true, Bool.not_false, g6, g40, g41, g42, hlt', decide_true, decide_false, hp1, hp2, iE, e1, hp, e2, fw64]
        refine ⟨j + 1, by omega, rfl, hlt, by rw [hs]; unfold pairOk; rw [decide_eq_true (by omega), e2]; rfl, by simp (disch := omega) only [getK_set, Nat.reduceEqDiff, ↓reduceIte, g0, g1, g6, g23, g24, g25, g40, g41, and_self, Int.natCast_add, Int.natCast_one]⟩
      · have hb := bad (by unfold pairOk; rw [e2, Bool.not_true, Bool.and_false])
        simp (disch := omega) only [f16_r11, f16_r12, f16_r13, f16_r14, w_skip, w_reg, w_seq, w_cond, w_block, w_ret, seqK_n, seqK_r, atK_r, loopK_r, ckB_b, cbB_b, okG_b, asG_f, true_and, x_nil, x_g, x_mv, x_as, x_pick, x_ld, x_bin, x_iads, x_call, kx, rvP_ok, okv_some, ev_t, ev_c, evs_nil, evs_cons, getV_some, putD_some, bin_lss, bin_geq, pick_b, of10, getK_set, Nat.reduceEqDiff, ↓reduceIte, Bool.false_eq_true, Bool.not_false, g6, g40, g41, g42, hlt', decide_true, decide_false, hp1, hp2, iE, e1, hp, e2]
        exact hq2 hb _ (by simp (disch := omega) only [getK_set, ↓reduceIte])
  · obtain rfl : j = T.length := by omega
    rw [List.take_length] at hal
    have hlt' : ¬ (T.length : Int) < (T.length : Int) := by omega
    simp (disch := omega) only [f16_r11, w_reg, w_seq, w_cond, w_exit, seqK_n, seqK_e, loopK_e, ckB_b, cbB_b, true_and, x_nil, x_bin, kx, rvP_ok, okv_some, ev_t, getV_some, putD_some, bin_lss, getK_set, ↓reduceIte, Bool.false_eq_true, g41, g42, hlt', decide_false]
    exact hq1 hal _ (by simp (disch := omega) only [getK_set, Nat.reduceEqDiff, ↓reduceIte, g0, g1, g23, g24, g25, and_self])

theorem okAt_bad {n : Int} {S : List Int} {i : Nat} (hi : i < S.length) (h : okAt n S i = false) : goodS n S = false := by
  unfold goodS
  have : (List.range S.length).all (okAt n S) = false := by rw [List.all_eq_false]; exact ⟨i, by simpa using hi, by rw [h]; simp⟩
  rw [this, Bool.and_false]
def f16_I1 (h : H) (v : V) (S : List Int) (n : Int) (i : Nat) (fr : Fr) (h1 : H) : Prop := h1 = h ∧ i ≤ S.length ∧ (List.range i).all (okAt n S) = true ∧ fr.get (K.ofNat 0) = some (.i .i64 n) ∧ fr.get (K.ofNat 1) = some (v) ∧ fr.get (K.ofNat 23) = some (v) ∧ fr.get (K.ofNat 24) = some (.i .i64 (S.length : Int)) ∧ fr.get (K.ofNat 25) = some (.i .i64 (i : Int))
theorem f16_ret {h : H} {v : V} {S : List Int} {n : Int}
    (hp : ∀ a b h P, CallP fs (.fn (K.ofNat 54) []) [.i .i64 a, .i .i64 b] h P = P (.b (ptI a b)) h) (hv : Sl iE h v S) : Ret fs f16 [.i .i64 n, v] h fun u h' => u = .i .i64 (chkS n S) ∧ h' = h := by
  apply ret_of rfl
  show W fs none f16_c _ _ _
  unfold f16_c
  by_cases h1 : n < 1
  · have : chkS n S = 1 := by unfold chkS; rw [if_pos (.inl h1)]
    simp (disch := omega) only [f16_r0, f16_r1, f16_r2, f16_rs, w_reg, w_seq, w_cond, w_ret, seqK_n, seqK_r, ckB_b, cbB_b, okG_b, asG_f, retK_r, x_nil, x_g, x_mv, x_as, x_pick, x_bin, kx, rvP_ok, okv_some, ev_t, ev_c, getV_some, putD_some, bin_lss, pick_b, oGet_s, readRs_nil, readRs_t, retV_1, frame_2, of0, of1, of6, Option.some.injEq, exists_eq_left', getK_set, Nat.reduceEqDiff, ↓reduceIte, Bool.false_eq_true, Bool.not_true, h1, decide_true, this, and_self]
  by_cases h6 : 6 < n
  · have : chkS n S = 1 := by unfold chkS; rw [if_pos (.inr h6)]
    simp (disch := omega) only [f16_r0, f16_r1, f16_r2, f16_rs, w_reg, w_seq, w_cond, w_ret, seqK_n, seqK_r, ckB_b, cbB_b, okG_b, asG_f, retK_r, x_nil, x_g, x_mv, x_as, x_pick, x_bin, kx, rvP_ok, okv_some, ev_t, ev_c, getV_some, putD_some, bin_lss, bin_gtr, pick_b, oGet_s, readRs_nil, readRs_t, retV_1, frame_2, of0, of1, of6, Option.some.injEq, exists_eq_left', getK_set, Nat.reduceEqDiff, ↓reduceIte, Bool.false_eq_true, Bool.not_false, h1, h6, decide_true, decide_false, this, and_self]
  have hc10 : goodS n S = false → chkS n S = 10 := fun hf => by unfold chkS; rw [if_neg (by omega), hf]; rfl
  by_cases l1 : S.length < 1
  · have l1' : (S.length : Int) < 1 := by omega
    have := hc10 (by unfold goodS; rw [decide_eq_false (by omega)]; rfl)
    simp (disch := omega) only [f16_r0, f16_r1, f16_r3, f16_r4, f16_rs, w_skip, w_reg, w_seq, w_cond, w_ret, seqK_n, seqK_r, ckB_b, cbB_b, okG_b, asG_f, retK_r, x_nil, x_g, x_mv, x_as, x_pick, x_bin, x_len, kx, rvP_ok, okv_some, ev_t, ev_c, getV_some, putD_some, bin_lss, bin_gtr, pick_b, oGet_s, readRs_nil, readRs_t, retV_1, frame_2, of0, of1, of6, of10, Option.some.injEq, exists_eq_left', getK_set, Nat.reduceEqDiff, ↓reduceIte, Bool.false_eq_true, Bool.not_true, Bool.not_false, h1, h6, l1', hv.len, decide_true, decide_false, this, and_self]
  have l1' : ¬ (S.length : Int) < 1 := by omega
  by_cases l2 : 10 < S.length
  · have l2' : (10 : Int) < (S.length : Int) := by omega
    have := hc10 (by unfold goodS; rw [decide_eq_false (show ¬ S.length ≤ 10 by omega), Bool.and_false]; rfl)
    simp (disch := omega) only [f16_r0, f16_r1, f16_r3, f16_r4, f16_rs, w_skip, w_reg, w_seq, w_cond, w_ret, seqK_n, seqK_r, ckB_b, cbB_b, okG_b, asG_f, retK_r, x_nil, x_g, x_mv, x_as, x_pick, x_bin, x_len, kx, rvP_ok, okv_some, ev_t, ev_c, getV_some, putD_some, bin_lss, bin_gtr, pick_b, oGet_s, readRs_nil, readRs_t, retV_1, frame_2, of0, of1, of6, of10, Option.some.injEq, exists_eq_left', getK_set, Nat.reduceEqDiff, ↓reduceIte, Bool.false_eq_true, Bool.not_false, h1, h6, l1', l2', hv.len, decide_true, decide_false, this, and_self]
  have l2' : ¬ (10 : Int) < (S.length : Int) := by omega
  simp (disch := omega) only [f16_r0, f16_r1, f16_r3, f16_r5, w_skip, w_reg, w_seq, w_cond, w_block, seqK_n, ckB_b, cbB_b, okG_b, asG_f, true_and, x_nil, x_g, x_mv, x_as, x_pick, x_bin, x_len, kx, rvP_ok, okv_some, ev_t, ev_c, getV_some, putD_some, bin_lss, bin_gtr, pick_b, frame_2, of0, of1, of6, of10, getK_set, Nat.reduceEqDiff, ↓reduceIte, Bool.false_eq_true, Bool.not_false, h1, h6, l1', l2', hv.len, decide_false]
  refine W_loop (f16_I1 h v S n) (fun i => S.length - i) ?_ 0 ⟨rfl, by omega, by simp, by simp (disch := omega) only [getK_set, Nat.reduceEqDiff, ↓reduceIte, and_self, Int.natCast_zero]⟩
  rintro i fr h2 ⟨rfl, hi, hal, g0, g1, g23, g24, g25⟩
  unfold f16_l1
  by_cases hlt : i < S.length
  · have hlt' : (i : Int) < (S.length : Int) := by omega
    obtain ⟨p, hp1, hp2⟩ := hv.at i hlt
    have hgd : S.getD i 0 = S[i] := by simp [List.getD, hlt]
    by_cases e1 : S[i] < 1
    · have := hc10 (okAt_bad hlt (by unfold okAt; rw [hgd, decide_eq_false (by omega)]; rfl))
      simp (disch := omega) only [f16_r6, f16_r7, f16_r8, f16_r9, f16_rs, w_skip, w_reg, w_seq, w_cond, w_block, w_ret, seqK_n, seqK_r, atK_r, loopK_r, ckB_b, cbB_b, okG_b, asG_f, retK_r, x_nil, x_g, x_mv, x_as, x_pick, x_ld, x_bin, x_iads, kx, rvP_ok, okv_some, ev_t, ev_c, getV_some, putD_some, bin_lss, pick_b, oGet_s, readRs_nil, readRs_t, retV_1, of1, of10, Option.some.injEq, exists_eq_left', getK_set, Nat.reduceEqDiff, ↓reduceIte, Bool.false_eq_true, Bool.not_true, g23, g24, g25, hlt', decide_true, hp1, hp2, iE, e1, this, and_self]
    · by_cases e2 : (2 : Int) ^ n.toNat ≤ S[i]
      · have := hc10 (okAt_bad hlt (by unfold okAt; rw [hgd, decide_eq_false (show ¬ S[i] < 2 ^ n.toNat by omega), Bool.and_false]; rfl))
        simp (disch := omega) only [f16_r6, f16_r7, f16_r8, f16_r9, f16_rs, w_skip, w_reg, w_seq, w_cond, w_block, w_ret, seqK_n, seqK_r, atK_r, loopK_r, ckB_b, cbB_b, okG_b, asG_f, retK_r, x_nil, x_g, x_mv, x_as, x_pick, x_ld, x_bin, x_iads, kx, rvP_ok, okv_some, ev_t, ev_c, getV_some, putD_some, bin_lss, bin_geq, pick_b, oGet_s, readRs_nil, readRs_t, retV_1, of1, of10, Option.some.injEq, exists_eq_left', getK_set, Nat.reduceEqDiff, ↓reduceIte, Bool.false_eq_true, Bool.not_false, g0, g23, g24, g25, hlt', decide_true, decide_false, hp1, hp2, iE, e1, e2, bin_shl, shl_n, this, and_self]
      · obtain ⟨u, q1, q2, _⟩ := hv.cut (lo := none) (hi := some (.i .i64 (i : Int))) (l := 0) (u := i) bnd_none bnd_i (by omega) (by omega)
        rw [List.drop_zero] at q2
        have hlen : (S.take i).length = i := by rw [List.length_take]; omega
        simp (disch := omega) only [f16_r6, f16_r7, f16_r8, f16_r10, w_skip, w_reg, w_seq, w_cond, w_block, seqK_n, ckB_b, cbB_b, okG_b, asG_f, true_and, x_nil, x_g, x_mv, x_as, x_pick, x_ld, x_bin, x_slice, sliceV_eq, Option.map_none, Option.map_some, x_iads, x_len, kx, rvP_ok, okv_some, ev_t, ev_c, getV_some, putD_some, bin_lss, bin_geq, pick_b, of0, of1, getK_set, Nat.reduceEqDiff, ↓reduceIte, Bool.false_eq_true, Bool.not_false, g0, g1, g23, g24, g25, hlt', decide_true, decide_false, hp1, hp2, iE, e1, e2, bin_shl, shl_n, q1, q2.len]
        refine f16_inner (v := v) (u := u) (S := S) (T := S.take i) (n := n) (x := S[i]) (i := i) hp q2 (by omega) (by simp (disch := omega) only [getK_set, Nat.reduceEqDiff, ↓reduceIte, g0, g1, g23, g24, g25, and_self]) ?_ ?_
        · clear g0 g1 g23 g24 g25
          rintro hall fr ⟨g0, g1, g23, g24, g25⟩
          simp (disch := omega) only [f16_r16, w_reg, seqK_n, atK_n, atK_e, loopK_n, x_nil, x_mv, x_bin, kx, rvP_ok, okv_some, ev_t, ev_c, getV_some, putD_some, bin_add, of1, getK_set, ↓reduceIte, g25, fw64]
          refine ⟨i + 1, by omega, rfl, hlt, ?_, by simp (disch := omega) only [getK_set, Nat.reduceEqDiff, ↓reduceIte, g0, g1, g23, g24, and_self, Int.natCast_add, Int.natCast_one]⟩
          rw [List.range_succ, List.all_append, hal, Bool.true_and]
          simp only [List.all_cons, List.all_nil, Bool.and_true]
          unfold okAt
          rw [hgd, decide_eq_true (by omega), decide_eq_true (by omega), hall]; rfl
        · rintro hall fr g4
          have := hc10 (okAt_bad hlt (by unfold okAt; rw [hgd, hall, Bool.and_false]))
          simp (disch := omega) only [f16_rs, seqK_r, atK_r, loopK_r, retK_r, getV_some, oGet_s, readRs_nil, readRs_t, retV_1, Option.some.injEq, exists_eq_left', g4, this, and_self]
  · obtain rfl : i = S.length := by omega
    have hlt' : ¬ (S.length : Int) < (S.length : Int) := by omega
    have : chkS n S = 0 := by
      unfold chkS goodS
      rw [if_neg (by omega), hal, decide_eq_true (by omega), decide_eq_true (by omega)]; rfl
    simp (disch := omega) only [f16_r6, f16_r17, f16_rs, w_reg, w_seq, w_cond, w_exit, w_ret, seqK_n, seqK_e, atK_e, loopK_e, ckB_b, cbB_b, retK_r, x_nil, x_as, x_bin, kx, rvP_ok, okv_some, ev_t, ev_c, getV_some, putD_some, bin_lss, oGet_s, readRs_nil, readRs_t, retV_1, of0, Option.some.injEq, exists_eq_left', getK_set, ↓reduceIte, Bool.false_eq_true, g24, g25, hlt', decide_false, this, and_self]
end
end Go.Ev
namespace Go.Ev
open Go Go.RowKit
noncomputable def f30_r0 : List EOper := [⟨(some (K.ofNat 4)), none, .as (.c (.i .i64 (.ofNat 0)))⟩, ⟨(some (K.ofNat 5)), none, .as (.c .sn)⟩]
noncomputable def f30_r1 : List EOper := [⟨(some (K.ofNat 9)), none, .mv (.t (K.ofNat 0))⟩, ⟨(some (K.ofNat 10)), none, .conv .u64 (.t (K.ofNat 9))⟩, ⟨(some (K.ofNat 11)), none, .bin .rem (.t (K.ofNat 10)) (.c (.i .u64 (.ofNat 6)))⟩, ⟨(some (K.ofNat 12)), none, .conv .i64 (.t (K.ofNat 11))⟩, ⟨(some (K.ofNat 13)), none, .bin .add (.c (.i .i64 (.ofNat 1))) (.t (K.ofNat 12))⟩, ⟨(some (K.ofNat 0)), none, .as (.t (K.ofNat 13))⟩]
noncomputable def f30_r2 : List EOper := [⟨(some (K.ofNat 14)), none, .bslice 1 1 [(.i .i64 (.ofNat 0))] [(0, 1, (.c (.i .i64 (.ofNat 1))))]⟩, ⟨(some (K.ofNat 6)), none, .as (.t (K.ofNat 14))⟩]
noncomputable def f30_r3 : List EOper := [⟨(some (K.ofNat 7)), none, .as (.c (.i .i64 (.ofNat 0)))⟩]
noncomputable def f30_r4 : List EOper := [⟨(some (K.ofNat 15)), none, .mv (.t (K.ofNat 7))⟩, ⟨(some (K.ofNat 16)), none, .mv (.t (K.ofNat 1))⟩, ⟨(some (K.ofNat 17)), none, .len (.t (K.ofNat 16))⟩, ⟨(some (K.ofNat 18)), none, .bin .lss (.t (K.ofNat 15)) (.t (K.ofNat 17))⟩, ⟨(some (K.ofNat 19)), none, .mv (.t (K.ofNat 18))⟩, ⟨(some (K.ofNat 20)), (some ((K.ofNat 19), true)), .mv (.t (K.ofNat 7))⟩, ⟨(some (K.ofNat 21)), (some ((K.ofNat 19), true)), .bin .lss (.t (K.ofNat 20)) (.c (.i .i64 (.ofNat 10)))⟩, ⟨(some (K.ofNat 22)), none, .pick (.t (K.ofNat 19)) (.t (K.ofNat 21)) (.c (.b false))⟩]
noncomputable def f30_r5 : List Stage := [⟨[⟨(some (K.ofNat 25)), none, .mv (.t (K.ofNat 6))⟩, ⟨(some (K.ofNat 26)), none, .mv (.t (K.ofNat 1))⟩, ⟨(some (K.ofNat 27)), none, .mv (.t (K.ofNat 7))⟩, ⟨(some (K.ofNat 28)), none, .iads 1 (.t (K.ofNat 26)) (.t (K.ofNat 27))⟩, ⟨(some (K.ofNat 29)), none, .ld (.t (K.ofNat 28))⟩, ⟨(some (K.ofNat 30)), none, .conv .u64 (.t (K.ofNat 29))⟩, ⟨(some (K.ofNat 31)), none, .mv (.t (K.ofNat 0))⟩, ⟨(some (K.ofNat 32)), none, .bin .shl (.c (.i .u64 (.ofNat 1))) (.t (K.ofNat 31))⟩, ⟨(some (K.ofNat 33)), none, .bin .rem (.t (K.ofNat 30)) (.t (K.ofNat 32))⟩, ⟨(some (K.ofNat 34)), none, .conv .i64 (.t (K.ofNat 33))⟩, ⟨(some (K.ofNat 35)), none, .bslice 1 1 [(.i .i64 (.ofNat 0))] [(0, 1, (.t (K.ofNat 34)))]⟩], [], (some ⟨(some (K.ofNat 36)), none, .app 1 (.t (K.ofNat 25)) (.t (K.ofNat 35))⟩), [(K.ofNat 35)]⟩, ⟨[], [], (some ⟨(some (K.ofNat 6)), none, .as (.t (K.ofNat 36))⟩), []⟩, ⟨[], [], none, []⟩]
noncomputable def f30_r6 : List EOper := [⟨(some (K.ofNat 23)), none, .mv (.t (K.ofNat 7))⟩, ⟨(some (K.ofNat 24)), none, .bin .add (.t (K.ofNat 23)) (.c (.i .i64 (.ofNat 1)))⟩, ⟨(some (K.ofNat 7)), none, .as (.t (K.ofNat 24))⟩]
noncomputable def f30_l0 : EC := (.seq (.seq (.reg f30_r4) (.cond (.t (K.ofNat 22)) .skip (.exit 0))) (.seq (.block 1 (.draw f30_r5)) (.reg f30_r6)))
noncomputable def f30_r7 : List EOper := [⟨(some (K.ofNat 37)), none, .mv (.t (K.ofNat 6))⟩, ⟨(some (K.ofNat 38)), none, .call (.c (.fn (K.ofNat 49) [])) [(.t (K.ofNat 37))]⟩, ⟨(some (K.ofNat 8)), none, .as (.t (K.ofNat 38))⟩]
noncomputable def f30_r8 : List EOper := [⟨(some (K.ofNat 39)), none, .mv (.t (K.ofNat 8))⟩, ⟨(some (K.ofNat 40)), none, .len (.t (K.ofNat 39))⟩, ⟨(some (K.ofNat 41)), none, .bin .gtr (.t (K.ofNat 40)) (.c (.i .i64 (.ofNat 1)))⟩, ⟨(some (K.ofNat 42)), none, .mv (.t (K.ofNat 41))⟩, ⟨(some (K.ofNat 43)), (some ((K.ofNat 42), true)), .mv (.t (K.ofNat 8))⟩, ⟨(some (K.ofNat 44)), (some ((K.ofNat 42), true)), .iads 1 (.t (K.ofNat 43)) (.c (.i .i64 (.ofNat 0)))⟩, ⟨(some (K.ofNat 45)), (some ((K.ofNat 42), true)), .ld (.t (K.ofNat 44))⟩, ⟨(some (K.ofNat 46)), (some ((K.ofNat 42), true)), .bin .eql (.t (K.ofNat 45)) (.c (.i .i64 (.ofNat 0)))⟩, ⟨(some (K.ofNat 47)), none, .pick (.t (K.ofNat 42)) (.t (K.ofNat 46)) (.c (.b false))⟩]
noncomputable def f30_r9 : List EOper := [⟨(some (K.ofNat 48)), none, .mv (.t (K.ofNat 8))⟩, ⟨(some (K.ofNat 49)), none, .slice 1 (.t (K.ofNat 48)) (some (.c (.i .i64 (.ofNat 1)))) none none⟩, ⟨(some (K.ofNat 8)), none, .as (.t (K.ofNat 49))⟩]
noncomputable def f30_r10 : List Stage := [⟨[⟨(some (K.ofNat 50)), none, .mv (.t (K.ofNat 0))⟩, ⟨(some (K.ofNat 51)), none, .mv (.t (K.ofNat 8))⟩, ⟨(some (K.ofNat 52)), none, .mv (.t (K.ofNat 8))⟩, ⟨(some (K.ofNat 53)), none, .len (.t (K.ofNat 52))⟩, ⟨(some (K.ofNat 54)), none, .min (.t (K.ofNat 53)) (.c (.i .i64 (.ofNat 10)))⟩, ⟨(some (K.ofNat 55)), none, .mv (.t (K.ofNat 8))⟩, ⟨(some (K.ofNat 56)), none, .len (.t (K.ofNat 55))⟩, ⟨(some (K.ofNat 57)), none, .min (.t (K.ofNat 56)) (.c (.i .i64 (.ofNat 10)))⟩, ⟨(some (K.ofNat 58)), none, .slice 1 (.t (K.ofNat 51)) none (some (.t (K.ofNat 54))) (some (.t (K.ofNat 57)))⟩], [], (some ⟨(some (K.ofNat 4)), none, .as (.t (K.ofNat 50))⟩), []⟩, ⟨[], [⟨(some (K.ofNat 51)), none, .mv (.t (K.ofNat 8))⟩, ⟨(some (K.ofNat 52)), none, .mv (.t (K.ofNat 8))⟩, ⟨(some (K.ofNat 53)), none, .len (.t (K.ofNat 52))⟩, ⟨(some (K.ofNat 54)), none, .min (.t (K.ofNat 53)) (.c (.i .i64 (.ofNat 10)))⟩, ⟨(some (K.ofNat 55)), none, .mv (.t (K.ofNat 8))⟩, ⟨(some (K.ofNat 56)), none, .len (.t (K.ofNat 55))⟩, ⟨(some (K.ofNat 57)), none, .min (.t (K.ofNat 56)) (.c (.i .i64 (.ofNat 10)))⟩, ⟨(some (K.ofNat 58)), none, .slice 1 (.t (K.ofNat 51)) none (some (.t (K.ofNat 54))) (some (.t (K.ofNat 57)))⟩], (some ⟨(some (K.ofNat 5)), none, .as (.t (K.ofNat 58))⟩), []⟩, ⟨[], [], none, []⟩]
noncomputable def f30_c : EC := (.seq (.reg f30_r0) (.seq (.reg f30_r1) (.seq (.reg f30_r2) (.seq (.seq (.reg f30_r3) (.block 0 (.loop f30_l0))) (.seq (.reg f30_r7) (.seq (.seq (.reg f30_r8) (.cond (.t (K.ofNat 47)) (.reg f30_r9) .skip)) (.seq (.draw f30_r10) .ret)))))))
noncomputable def f30 : EF := ⟨59, [.tmp (K.ofNat 4), .tmp (K.ofNat 5)], f30_c, none⟩
theorem f30_rs : f30.rs = [.tmp (K.ofNat 4), .tmp (K.ofNat 5)] := of_eq_true (eq_self _)
section
variable {fs : T EF} {ro : Option K}
noncomputable def tameN (n : Int) : Int := fw .i64 (1 + fw .i64 ((fw .u64 n).tmod 6))
theorem tameN_in (n : Int) : 1 ≤ tameN n ∧ tameN n ≤ 6 := by
  have h0 : 0 ≤ fw .u64 n := by rw [fw_eq]; exact Int.emod_nonneg _ (by decide)
  obtain ⟨m, hm⟩ := Int.eq_ofNat_of_zero_le h0
  have h1 : (fw .u64 n).tmod 6 = ((m % 6 : Nat) : Int) := by rw [hm]; rfl
  unfold tameN
  have e1 : fw .i64 ((m % 6 : Nat) : Int) = ((m % 6 : Nat) : Int) := fw64 (by omega) (by omega)
  rw [h1, e1, fw64 (by omega) (by omega)]
  omega
noncomputable def tameX (N x : Int) : Int := fw .i64 ((fw .u64 x).tmod (2 ^ N.toNat))
noncomputable def tameS (N : Int) (L : List Int) (i : Nat) : List Int := 1 :: (L.take i).map (tameX N)
noncomputable def tameP (N : Int) (L : List Int) : List Int := (fun p : List Int => if 1 < p.length ∧ p[0]? = some 0 then p.drop 1 else p) (piecesTo (tameS N L 10) 64)
theorem tameS_succ {N : Int} {L : List Int} {i : Nat} (hi : i < L.length) : tameS N L (i + 1) = tameS N L i ++ [tameX N L[i]] := by
  unfold tameS; rw [List.take_succ_eq_append_getElem hi, List.map_append]; rfl
theorem tameS_len {N : Int} {L : List Int} {i : Nat} : (tameS N L i).length ≤ i + 1 := by
  unfold tameS; rw [List.length_cons, List.length_map, List.length_take]; omega
def f30_I (h : H) (v : V) (L : List Int) (N : Int) (i : Nat) (fr : Fr) (h1 : H) : Prop := ∃ o, i ≤ L.length ∧ i ≤ 10 ∧ Sl iE h1 o (tameS N L i) ∧ Own h.nx.nat o ∧ Grow h.nx.nat h h1 ∧ fr.get (K.ofNat 0) = some (.i .i64 N) ∧ fr.get (K.ofNat 1) = some (v) ∧ fr.get (K.ofNat 6) = some (o) ∧ fr.get (K.ofNat 7) = some (.i .i64 (i : Int))
theorem f30_loop {Q : Ex → Fr → H → Prop} {h h0 : H} {v : V} {L : List Int} {N : Int} {fr : Fr} (hv : Sr iE h v L) (hc : HC h) (hn1 : 1 ≤ N) (hn6 : N ≤ 6)
    (hi0 : f30_I h v L N 0 fr h0)
    (hq : ∀ fr h1 o, Sl iE h1 o (tameS N L 10) → Own h.nx.nat o → Grow h.nx.nat h h1 → fr.get (K.ofNat 0) = some (.i .i64 N) ∧ fr.get (K.ofNat 1) = some (v) ∧ fr.get (K.ofNat 6) = some (o) → Q (.exit 0) fr h1) :
    W fs ro (.loop f30_l0) Q fr h0 := by
  refine W_loop (f30_I h v L N) (fun i => L.length - i) ?_ 0 hi0
  clear hi0 fr
  rintro i fr h1 ⟨o, hi, hi2, hso, hoo, hgr, g0, g1, g6, g7⟩
  have hv1 := hv.grow hc hgr
  have hc1 := hgr.hc hc
  unfold f30_l0
  by_cases hlt : i < L.length
  · have hlt' : (i : Int) < (L.length : Int) := by omega
    by_cases h12 : i < 10
    · have h12' : (i : Int) < 10 := by omega
      obtain ⟨p, hp1, hp2⟩ := hv1.at i hlt
      have hpw : (2 : Int) ^ N.toNat ≠ 0 := by
        have : N = 1 ∨ N = 2 ∨ N = 3 ∨ N = 4 ∨ N = 5 ∨ N = 6 := by omega
        rcases this with rfl | rfl | rfl | rfl | rfl | rfl <;> decide
      have hrem : ∀ a, binV .rem (.i .u64 a) (.i .u64 (2 ^ N.toNat)) = some (.i .u64 (a.tmod (2 ^ N.toNat))) := fun a => bin_rem hpw
      obtain ⟨v', h', q1, q2, q3, q4, q5⟩ := Sl.push (e := iE) (L := tameS N L i) (x := tameX N L[i]) (c := .i .i64 (fw .i64 ((fw .u64 L[i]).tmod (2 ^ N.toNat)))) rfl hso hoo hgr.nx hc1 (by have := tameS_len (N := N) (L := L) (i := i); omega)
      simp (disch := omega) only [f30_r4, f30_r5, w_skip, w_reg, w_draw, w_seq, w_cond, w_block, seqK_n, atK_n, ckB_b, cbB_b, okG_b, asG_t, true_and, x_nil, x_g, x_mv, x_as, x_pick, x_bin, x_len, x_app, kx, kg, xg_nil, xg_mv, xg_ld, xg_bin, xg_conv, xg_iads, xg_bslice, xd_cons, fresh_nil, stK_n, stK_s, stay_nil, rvP_ok, okv_some, ev_t, ev_c, getV_some, putD_some, bin_lss, pick_b, onI_i, oGet_s, cells1_i, fill_1, set_1, of0, of1, of10, Option.some.injEq, exists_eq_left', getK_set, Nat.reduceEqDiff, ↓reduceIte, g0, g1, g6, g7, hv1.len, hlt', h12', decide_true, hp1, hp2, iE, bin_shl, shlu_n, hrem, hc1.dead, q1]
      refine ⟨fresh_one (n := 1) (sz := 1) (by simp (disch := omega) only [getK_set, ↓reduceIte]), ?_⟩
      simp (disch := omega) only [f30_r6, loopK_n, x_nil, x_mv, x_as, x_bin, kx, rvP_ok, okv_some, ev_t, ev_c, getV_some, putD_some, bin_add, of1, getK_set, Nat.reduceEqDiff, ↓reduceIte, g7, fw64]
      exact ⟨i + 1, by omega, v', hlt, h12, by rw [tameS_succ hlt]; exact q2, q3, hgr.trans q4, by simp (disch := omega) only [getK_set, Nat.reduceEqDiff, ↓reduceIte, g0, g1, and_self, Int.natCast_add, Int.natCast_one]⟩
    · have h12' : ¬ (i : Int) < 10 := by omega
      obtain rfl : i = 10 := by omega
      simp (disch := omega) only [f30_r4, w_reg, w_seq, w_cond, w_exit, seqK_n, seqK_e, loopK_e, ckB_b, cbB_b, okG_b, asG_t, true_and, x_nil, x_g, x_mv, x_pick, x_bin, x_len, kx, rvP_ok, okv_some, ev_t, ev_c, getV_some, putD_some, bin_lss, pick_b, of10, getK_set, Nat.reduceEqDiff, ↓reduceIte, Bool.false_eq_true, g1, g7, hv1.len, hlt', h12', decide_true, decide_false]
      exact hq _ _ o hso hoo hgr (by simp (disch := omega) only [getK_set, Nat.reduceEqDiff, ↓reduceIte, g0, g1, g6, and_self])
  · have hlt' : ¬ (i : Int) < (L.length : Int) := by omega
    simp (disch := omega) only [f30_r4, w_reg, w_seq, w_cond, w_exit, seqK_n, seqK_e, loopK_e, ckB_b, cbB_b, okG_b, asG_t, true_and, x_nil, x_g, x_mv, x_pick, x_bin, x_len, kx, rvP_ok, okv_some, ev_t, ev_c, getV_some, putD_some, bin_lss, pick_b, of10, getK_set, Nat.reduceEqDiff, ↓reduceIte, Bool.false_eq_true, g1, g7, hv1.len, hlt', decide_false]
    refine hq _ _ o ?_ hoo hgr (by simp (disch := omega) only [getK_set, Nat.reduceEqDiff, ↓reduceIte, g0, g1, g6, and_self])
    have : tameS N L 10 = tameS N L i := by
      unfold tameS
      rw [List.take_of_length_le (show L.length ≤ 10 by omega), List.take_of_length_le (show L.length ≤ i by omega)]
    rw [this]; exact hso
theorem f30_sr {h : H} {v : V} {L : List Int} {n : Int}
    (hp : ∀ a b h P, CallP fs (.fn (K.ofNat 53) []) [.i .i64 a, .i .i64 b] h P = P (.b (ptI a b)) h) (h49 : fs.get (K.ofNat 49) = some f49) (hv : Sr iE h v L) (hc : HC h) :
    Ret fs f30 [.i .i64 n, v] h fun r h' => ∃ u, r = .tup [.i .i64 (tameN n), u] ∧ Sl iE h' u ((tameP (tameN n) L).take 10) ∧ Own h.nx.nat u ∧ Grow h.nx.nat h h' := by
  apply ret_of rfl
  show W fs none f30_c _ _ _
  unfold f30_c
  obtain ⟨n1, n6⟩ := tameN_in n
  have hnn : fw .i64 (1 + fw .i64 ((fw .u64 n).tmod 6)) = tameN n := rfl
  simp (disch := omega) only [f30_r0, f30_r1, f30_r2, f30_r3, w_reg, w_seq, w_block, seqK_n, x_nil, x_mv, x_as, x_bslice, x_bin, x_conv, kx, rvP_ok, okv_some, ev_t, ev_c, getV_some, putD_some, bin_add, bin_rem, onI_i, oGet_s, frame_2, cells1_i, fill_1, set_1, of0, of1, of6, getK_set, Nat.reduceEqDiff, ↓reduceIte, hnn]
  refine f30_loop (h := h) (v := v) (L := L) (N := tameN n) hv hc n1 n6 ⟨.sl h.nx 0 1 1, by omega, by omega, Sl.lit (e := iE) (x := 1), fun _ _ _ _ e => by cases e; exact Nat.le_refl _, Grow.new (Nat.le_refl _) _, by simp (disch := omega) only [getK_set, Nat.reduceEqDiff, ↓reduceIte, and_self, Int.natCast_zero]⟩ ?_
  rintro fr h1 o hso hoo hgr ⟨g0, g1, g6⟩
  have hc1 := hgr.hc hc
  simp (disch := omega) only [f30_r7, w_reg, w_seq, seqK_n, atK_e, x_mv, x_call, ev_t, ev_c, evs_nil, evs_cons, getV_some, putD_some, getK_set, ↓reduceIte, g6]
  refine (callP_0 (ef := f49) h49 rfl (f49_ret hp hso (by have := tameS_len (N := tameN n) (L := L) (i := 10); omega) hc1)).mono ?_
  rintro w h2 ⟨hsw, how, gr2⟩
  have gr := hgr.trans (gr2.low hgr.nx)
  have how' : Own h.nx.nat w := how.low hgr.nx
  generalize hP : piecesTo (tameS (tameN n) L 10) 64 = P at *
  have hlenP : P.length ≤ 64 := by rw [← hP]; exact piecesTo_len
  -- the end
  have fin : ∀ (w : V) (M : List Int) (fr : Fr), Sl iE h2 w M → Own h.nx.nat w → M = tameP (tameN n) L → fr.get (K.ofNat 0) = some (.i .i64 (tameN n)) ∧ fr.get (K.ofNat 8) = some (w) →
      W fs none (.seq (.draw f30_r10) .ret) (retK f30 fun r h' => ∃ u, r = .tup [.i .i64 (tameN n), u] ∧ Sl iE h' u ((tameP (tameN n) L).take 10) ∧ Own h.nx.nat u ∧ Grow h.nx.nat h h') fr h2 := by
    clear g0 g1 g6 fr
    rintro w M fr hsw how hM ⟨g0, g8⟩
    have hmin : min (M.length : Int) 10 = ((min M.length 10 : Nat) : Int) := by omega
    obtain ⟨x, x1, x2, x3, _⟩ := Sl.cut3 (k := .i64) (k' := .i64) (m := min M.length 10) hsw (by omega)
    rw [show M.take (min M.length 10) = M.take 10 by rw [Nat.min_comm, List.take_eq_take_iff]; omega] at x2
    simp (disch := omega) only [f30_r10, f30_rs, w_draw, w_seq, w_ret, seqK_n, true_and, retK_r, x_nil, x_as, sliceV_eq, Option.map_none, Option.map_some, kg, xg_nil, xg_mv, xg_slice, xg_len, xg_min, xd_cons, fresh_nil, stK_n, stK_s, stay_nil, stay_cons, again_ok, stay_mv, stay_len, stay_min, stay_slice, beq_i, rvP_ok, ev_t, ev_c, getV_some, putD_some, oGet_s, min_ii, readRs_nil, readRs_t, retV_2, of10, Option.some.injEq, exists_eq_left', getK_set, Nat.reduceEqDiff, ↓reduceIte, g0, g8, hsw.len, hmin, x1, hsw.beq, x2.beq, and_self]
    exact ⟨x, rfl, by rw [← hM]; exact x2, x3 _ how, gr⟩
  by_cases h1 : 1 < P.length
  · have h1' : (1 : Int) < (P.length : Int) := by omega
    obtain ⟨p, hp1, hp2⟩ := hsw.at 0 (by omega)
    have hp1' : ∀ k h1, iadsV 1 w (.i k 0) h1 = .ok p h1 := fun k h1 => hp1 k h1
    have hz : P[0]? = some P[0] := by rw [List.getElem?_eq_getElem]
    by_cases e0 : P[0] = 0
    · obtain ⟨x, x1, x2, x3, _⟩ := hsw.cut (lo := some (.i .i64 1)) (hi := none) (l := 1) (u := P.length) rfl bnd_none (by omega) (Nat.le_refl _)
      rw [List.take_length] at x2
      simp (disch := omega) only [f30_r8, f30_r9, w_reg, w_draw, w_seq, w_cond, seqK_n, ckB_b, cbB_b, okG_b, asG_t, true_and, x_nil, x_g, x_mv, x_as, x_pick, x_ld, x_bin, x_slice, sliceV_eq, Option.map_none, Option.map_some, x_iads, x_len, kx, rvP_ok, okv_some, ev_t, ev_c, getV_some, putD_some, bin_eql, bin_gtr, pick_b, of0, of1, getK_set, Nat.reduceEqDiff, ↓reduceIte, hsw.len, h1', decide_true, hp1', hp2, iE, e0, x1]
      exact fin x (P.drop 1) _ x2 (x3 _ how') (by unfold tameP; rw [hP]; simp only []; rw [if_pos ⟨h1, by rw [hz, e0]⟩]) (by simp (disch := omega) only [getK_set, Nat.reduceEqDiff, ↓reduceIte, g0, and_self])
    · simp (disch := omega) only [f30_r8, f30_r9, w_skip, w_reg, w_draw, w_seq, w_cond, seqK_n, ckB_b, cbB_b, okG_b, asG_t, true_and, x_nil, x_g, x_mv, x_as, x_pick, x_ld, x_bin, x_iads, x_len, kx, rvP_ok, okv_some, ev_t, ev_c, getV_some, putD_some, bin_eql, bin_gtr, pick_b, of0, of1, getK_set, Nat.reduceEqDiff, ↓reduceIte, Bool.false_eq_true, hsw.len, h1', decide_true, decide_false, hp1', hp2, iE, e0]
      exact fin w P _ hsw how' (by unfold tameP; rw [hP]; simp only []; rw [if_neg (fun h => e0 (by rw [hz] at h; exact Option.some.inj h.2))]) (by simp (disch := omega) only [getK_set, Nat.reduceEqDiff, ↓reduceIte, g0, and_self])
  · have h1' : ¬ (1 : Int) < (P.length : Int) := by omega
    simp (disch := omega) only [f30_r8, f30_r9, w_skip, w_reg, w_draw, w_seq, w_cond, seqK_n, ckB_b, cbB_b, okG_b, asG_t, true_and, x_nil, x_g, x_mv, x_as, x_pick, x_bin, x_len, kx, rvP_ok, okv_some, ev_t, ev_c, getV_some, putD_some, bin_gtr, pick_b, of0, of1, getK_set, Nat.reduceEqDiff, ↓reduceIte, Bool.false_eq_true, hsw.len, h1', decide_false]
    exact fin w P _ hsw how' (by unfold tameP; rw [hP]; simp only []; rw [if_neg (fun h => h1 h.1)]) (by simp (disch := omega) only [getK_set, Nat.reduceEqDiff, ↓reduceIte, g0, and_self])
end
end Go.Ev
namespace Go.Ev
open Go Go.RowKit
noncomputable def f94_r0 : List EOper := [⟨(some (K.ofNat 2)), none, .as (.c (.i .i64 (.ofNat 0)))⟩]
noncomputable def f94_r1 : List EOper := [⟨(some (K.ofNat 3)), none, .as (.c (.i .i64 (.ofNat 0)))⟩]
noncomputable def f94_r2 : List EOper := [⟨(some (K.ofNat 8)), none, .mv (.t (K.ofNat 0))⟩, ⟨(some (K.ofNat 9)), none, .len (.t (K.ofNat 8))⟩, ⟨(some (K.ofNat 10)), none, .mv (.c (.i .i64 (.ofNat 0)))⟩]
noncomputable def f94_r3 : List EOper := [⟨(some (K.ofNat 11)), none, .bin .lss (.t (K.ofNat 10)) (.t (K.ofNat 9))⟩]
noncomputable def f94_r4 : List EOper := [⟨(some (K.ofNat 12)), none, .mv (.t (K.ofNat 10))⟩, ⟨(some (K.ofNat 4)), none, .as (.t (K.ofNat 12))⟩]
noncomputable def f94_r5 : List EOper := [⟨(some (K.ofNat 13)), none, .mv (.t (K.ofNat 0))⟩, ⟨(some (K.ofNat 14)), none, .mv (.t (K.ofNat 4))⟩, ⟨(some (K.ofNat 15)), none, .iads 1 (.t (K.ofNat 13)) (.t (K.ofNat 14))⟩, ⟨(some (K.ofNat 16)), none, .ld (.t (K.ofNat 15))⟩, ⟨(some (K.ofNat 5)), none, .as (.t (K.ofNat 16))⟩]
noncomputable def f94_r6 : List EOper := [⟨(some (K.ofNat 17)), none, .mv (.t (K.ofNat 5))⟩, ⟨(some (K.ofNat 18)), none, .bin .eql (.t (K.ofNat 17)) (.c (.i .u64 (.ofNat 0)))⟩]
noncomputable def f94_r7 : List EOper := [⟨(some (K.ofNat 19)), none, .mv (.t (K.ofNat 3))⟩, ⟨(some (K.ofNat 20)), none, .bin .add (.t (K.ofNat 19)) (.c (.i .i64 (.ofNat 1)))⟩, ⟨(some (K.ofNat 3)), none, .as (.t (K.ofNat 20))⟩]
noncomputable def f94_r8 : List EOper := [⟨(some (K.ofNat 21)), none, .mv (.t (K.ofNat 5))⟩, ⟨(some (K.ofNat 22)), none, .mv (.t (K.ofNat 5))⟩, ⟨(some (K.ofNat 23)), none, .neg (.t (K.ofNat 22))⟩, ⟨(some (K.ofNat 24)), none, .bin .and (.t (K.ofNat 21)) (.t (K.ofNat 23))⟩, ⟨(some (K.ofNat 6)), none, .as (.t (K.ofNat 24))⟩]
noncomputable def f94_r9 : List EOper := [⟨(some (K.ofNat 25)), none, .mv (.t (K.ofNat 4))⟩, ⟨(some (K.ofNat 26)), none, .bin .add (.t (K.ofNat 25)) (.c (.i .i64 (.ofNat 1)))⟩, ⟨(some (K.ofNat 7)), none, .as (.t (K.ofNat 26))⟩]
noncomputable def f94_r10 : List EOper := [⟨(some (K.ofNat 27)), none, .mv (.t (K.ofNat 7))⟩, ⟨(some (K.ofNat 28)), none, .mv (.t (K.ofNat 0))⟩, ⟨(some (K.ofNat 29)), none, .len (.t (K.ofNat 28))⟩, ⟨(some (K.ofNat 30)), none, .bin .lss (.t (K.ofNat 27)) (.t (K.ofNat 29))⟩]
noncomputable def f94_r11 : List EOper := [⟨(some (K.ofNat 33)), none, .mv (.t (K.ofNat 0))⟩, ⟨(some (K.ofNat 34)), none, .mv (.t (K.ofNat 7))⟩, ⟨(some (K.ofNat 35)), none, .iads 1 (.t (K.ofNat 33)) (.t (K.ofNat 34))⟩, ⟨(some (K.ofNat 36)), none, .ld (.t (K.ofNat 35))⟩, ⟨(some (K.ofNat 37)), none, .mv (.t (K.ofNat 6))⟩, ⟨(some (K.ofNat 38)), none, .bin .and (.t (K.ofNat 36)) (.t (K.ofNat 37))⟩, ⟨(some (K.ofNat 39)), none, .bin .neq (.t (K.ofNat 38)) (.c (.i .u64 (.ofNat 0)))⟩]
noncomputable def f94_r12 : List EOper := [⟨(some (K.ofNat 40)), none, .mv (.t (K.ofNat 0))⟩, ⟨(some (K.ofNat 41)), none, .mv (.t (K.ofNat 7))⟩, ⟨(some (K.ofNat 42)), none, .iads 1 (.t (K.ofNat 40)) (.t (K.ofNat 41))⟩, ⟨(some (K.ofNat 43)), none, .ld (.t (K.ofNat 42))⟩, ⟨(some (K.ofNat 44)), none, .mv (.t (K.ofNat 5))⟩, ⟨(some (K.ofNat 45)), none, .bin .xor (.t (K.ofNat 43)) (.t (K.ofNat 44))⟩, ⟨(some (K.ofNat 46)), none, .iads 1 (.t (K.ofNat 40)) (.t (K.ofNat 41))⟩, ⟨none, none, .st 1 (.t (K.ofNat 46)) (.t (K.ofNat 45))⟩]
noncomputable def f94_r13 : List EOper := [⟨(some (K.ofNat 31)), none, .mv (.t (K.ofNat 7))⟩, ⟨(some (K.ofNat 32)), none, .bin .add (.t (K.ofNat 31)) (.c (.i .i64 (.ofNat 1)))⟩, ⟨(some (K.ofNat 7)), none, .as (.t (K.ofNat 32))⟩]
noncomputable def f94_l0 : EC := (.seq (.seq (.reg f94_r10) (.cond (.t (K.ofNat 30)) .skip (.exit 2))) (.seq (.block 3 (.seq (.reg f94_r11) (.cond (.t (K.ofNat 39)) (.reg f94_r12) .skip))) (.reg f94_r13)))
noncomputable def f94_r14 : List EOper := [⟨(some (K.ofNat 47)), none, .bin .add (.t (K.ofNat 10)) (.c (.i .i64 (.ofNat 1)))⟩, ⟨(some (K.ofNat 10)), none, .mv (.t (K.ofNat 47))⟩]
noncomputable def f94_l1 : EC := (.seq (.reg f94_r3) (.seq (.cond (.t (K.ofNat 11)) .skip (.exit 0)) (.seq (.block 1 (.seq (.reg f94_r4) (.seq (.reg f94_r5) (.seq (.seq (.reg f94_r6) (.cond (.t (K.ofNat 18)) (.exit 1) .skip)) (.seq (.reg f94_r7) (.seq (.reg f94_r8) (.seq (.reg f94_r9) (.block 2 (.loop f94_l0))))))))) (.reg f94_r14))))
noncomputable def f94_r15 : List EOper := [⟨(some (K.ofNat 48)), none, .mv (.t (K.ofNat 3))⟩, ⟨(some (K.ofNat 2)), none, .as (.t (K.ofNat 48))⟩]
noncomputable def f94_c : EC := (.seq (.reg f94_r0) (.seq (.reg f94_r1) (.seq (.seq (.reg f94_r2) (.block 0 (.loop f94_l1))) (.seq (.reg f94_r15) .ret))))
noncomputable def f94 : EF := ⟨49, [.tmp (K.ofNat 2)], f94_c, none⟩
theorem f94_rs : f94.rs = [.tmp (K.ofNat 2)] := of_eq_true (eq_self _)
def low (p : Nat) : Nat := p &&& (18446744073709551616 - p)
theorem low_lt {p : Nat} : low p ≤ p := Nat.and_le_left
theorem neg_u {p : Nat} (h0 : 0 < p) (h1 : p < 9223372036854775808) : fw .u64 (isub 0 (p : Int)) = ((18446744073709551616 - p : Nat) : Int) := by
  rw [isub_eq, fw_eq]
  show (0 - (p : Int)) % 18446744073709551616 = _
  omega
theorem neg_i {p : Nat} (h0 : 0 < p) (h1 : p < 9223372036854775808) : fw .i64 (isub 0 (p : Int)) = Int.negSucc (p - 1) := by
  rw [isub_eq, fw64 (by omega) (by omega)]; omega
theorem and_n {k : IntKind} {m n : Nat} (hk : 9223372036854775807 ≤ kmax k) (hm : m < 9223372036854775808) (hn : n < 9223372036854775808) : binV .and (.i k (m : Int)) (.i k (n : Int)) = some (.i k ((m &&& n : Nat) : Int)) := bin_and (by omega) (by omega)
theorem xor_n {k : IntKind} {m n : Nat} (hk : 9223372036854775807 ≤ kmax k) (hm : m < 9223372036854775808) (hn : n < 9223372036854775808) : binV .xor (.i k (m : Int)) (.i k (n : Int)) = some (.i k ((m ^^^ n : Nat) : Int)) := bin_xor (by omega) (by omega)
theorem low_u {p : Nat} (h0 : 0 < p) (h1 : p < 9223372036854775808) : binV .and (.i .u64 (p : Int)) (.i .u64 (fw .u64 (isub 0 (p : Int)))) = some (.i .u64 (low p : Int)) := by
  rw [neg_u h0 h1, bin_and (by show _ ≤ 18446744073709551615; omega) (by show _ ≤ 18446744073709551615; omega)]; rfl
theorem low_i {p : Nat} (h0 : 0 < p) (h1 : p < 9223372036854775808) : binV .and (.i .i64 (p : Int)) (.i .i64 (fw .i64 (isub 0 (p : Int)))) = some (.i .i64 (low p : Int)) := by
  rw [neg_i h0 h1]
  show some (V.i .i64 (IntKind.wrap .i64 (((BitVec.ofInt 64 (p : Int)) &&& (BitVec.ofInt 64 (Int.negSucc (p - 1)))).toNat : Int))) = _
  have e1 : (BitVec.ofInt 64 (p : Int)).toNat = p := by rw [BitVec.toNat_ofInt]; omega
  have e2 : (BitVec.ofInt 64 (Int.negSucc (p - 1))).toNat = 18446744073709551616 - p := by rw [BitVec.toNat_ofInt]; omega
  rw [BitVec.toNat_and, e1, e2, ← fw_eq, fw64 (by omega) (by have := @low_lt p; unfold low at this; omega)]; rfl
def stepR (p r : Nat) : Nat := if r &&& low p ≠ 0 then r ^^^ p else r
theorem stepR_lt {p r : Nat} (hp : p < 9223372036854775808) (hr : r < 9223372036854775808) : stepR p r < 9223372036854775808 := by
  unfold stepR; split
  · exact Nat.xor_lt_two_pow (n := 63) hr hp
  · exact hr
def elR (p : Nat) : Nat → Nat → List Nat → List Nat
  | 0, _, L => L
  | m + 1, j, L => elR p m (j + 1) (L.set j (stepR p (L.getD j 0)))
def elK : Nat → Nat → List Nat → Nat → Nat
  | 0, _, _, c => c
  | m + 1, i, L, c => if L.getD i 0 = 0 then elK m (i + 1) L c else elK m (i + 1) (elR (L.getD i 0) m (i + 1) L) (c + 1)
/-- The rank, by elimination. -/
def rankS (L : List Nat) : Nat := elK L.length 0 L 0
def Small (L : List Nat) : Prop := ∀ x ∈ L, x < 9223372036854775808
theorem Small.at {L : List Nat} (h : Small L) {i : Nat} (hi : i < L.length) : L[i] < 9223372036854775808 := h _ (List.getElem_mem hi)
theorem Small.set {L : List Nat} (h : Small L) {i x : Nat} (hx : x < 9223372036854775808) : Small (L.set i x) := fun y hy => by
  rcases List.mem_or_eq_of_mem_set hy with h1 | rfl
  · exact h _ h1
  · exact hx
def uE (x : Nat) : V := .i .u64 (x : Int)
def nE (x : Nat) : V := .i .i64 (x : Int)
theorem kmu : 9223372036854775807 ≤ kmax .u64 := by decide
theorem kmi : 9223372036854775807 ≤ kmax .i64 := by decide
theorem set_same {L : List Nat} {j : Nat} (hj : j < L.length) : L.set j L[j] = L := by simp
section
variable {fs : T EF} {ro : Option K}
def f94_I0 (b : Nat) (h : H) (v : V) (p c i n : Nat) (R : List Nat) (j : Nat) (fr : Fr) (h1 : H) : Prop := ∃ L, j ≤ n ∧ L.length = n ∧ Small L ∧ elR p (n - j) j L = R ∧ Sl uE h1 v L ∧ Grow b h h1 ∧ fr.get (K.ofNat 0) = some (v) ∧ fr.get (K.ofNat 3) = some (.i .i64 (c : Int)) ∧ fr.get (K.ofNat 5) = some (.i .u64 (p : Int)) ∧ fr.get (K.ofNat 6) = some (.i .u64 (low p : Int)) ∧ fr.get (K.ofNat 7) = some (.i .i64 (j : Int)) ∧ fr.get (K.ofNat 9) = some (.i .i64 (n : Int)) ∧ fr.get (K.ofNat 10) = some (.i .i64 (i : Int))
theorem f94_inner {Q : Ex → Fr → H → Prop} {b : Nat} {h h0 : H} {v : V} {p c i n : Nat} {R : List Nat} {j : Nat} {fr : Fr} (hc : HC h) (ho : Own b v) (hp : p < 9223372036854775808) (hn : n ≤ 1000)
    (hi : f94_I0 b h v p c i n R j fr h0)
    (hq : ∀ fr h1, Small R → R.length = n → Sl uE h1 v R → Grow b h h1 → fr.get (K.ofNat 0) = some (v) ∧ fr.get (K.ofNat 3) = some (.i .i64 (c : Int)) ∧ fr.get (K.ofNat 9) = some (.i .i64 (n : Int)) ∧ fr.get (K.ofNat 10) = some (.i .i64 (i : Int)) → Q (.exit 2) fr h1) :
    W fs ro (.loop f94_l0) Q fr h0 := by
  refine W_loop (f94_I0 b h v p c i n R) (fun j => n - j) ?_ j hi
  clear hi fr h0 j
  rintro j fr h1 ⟨L, hj, hl, hsm, hR, hs, hgr, g0, g3, g5, g6, g7, g9, g10⟩
  have hc1 := hgr.hc hc
  have hlw := @low_lt p
  unfold f94_l0
  by_cases hlt : j < n
  · have hlt' : (j : Int) < (L.length : Int) := by omega
    have hjl : j < L.length := by omega
    obtain ⟨q, hp1, hp2⟩ := hs.at j hjl
    have hx := hsm.at hjl
    have hRn : elR p (n - (j + 1)) (j + 1) (L.set j (stepR p L[j])) = R := by
      rw [← hR, show n - j = (n - (j + 1)) + 1 by omega, elR]
      simp [List.getD, hjl]
    by_cases e : (L[j] &&& low p) = 0
    · have e' : ((L[j] &&& low p : Nat) : Int) = 0 := by omega
      have hst : stepR p L[j] = L[j] := by unfold stepR; rw [if_neg (by simpa using e)]
      rw [hst, set_same] at hRn
      simp (disch := omega) only [f94_r10, f94_r11, f94_r13, w_skip, w_reg, w_seq, w_cond, w_block, seqK_n, atK_n, loopK_n, ckB_b, cbB_b, true_and, x_nil, x_mv, x_as, x_ld, x_bin, x_iads, x_len, kx, rvP_ok, okv_some, ev_t, ev_c, getV_some, putD_some, bin_add, bin_neq, bin_lss, of0, of1, getK_set, Nat.reduceEqDiff, ↓reduceIte, Bool.false_eq_true, g0, g6, g7, hs.len, hlt', decide_true, hp1, hp2, uE, and_n kmu hx (show low p < 9223372036854775808 by omega), e', ne_eq, not_true_eq_false, decide_false, fw64]
      exact ⟨j + 1, by omega, L, hlt, hl, hsm, hRn, hs, hgr, by simp (disch := omega) only [getK_set, Nat.reduceEqDiff, ↓reduceIte, g0, g3, g5, g6, g9, g10, and_self, Int.natCast_add, Int.natCast_one]⟩
    · have e' : ¬ ((L[j] &&& low p : Nat) : Int) = 0 := by omega
      have hst : stepR p L[j] = L[j] ^^^ p := by unfold stepR; rw [if_pos e]
      rw [hst] at hRn
      have hxr := stepR_lt hp hx
      rw [hst] at hxr
      obtain ⟨p2, id, m2, cs2, q1, q2, q3, ⟨off, nn, sz, q4⟩, q5⟩ := hs.st hjl (x := L[j] ^^^ p) (c := .i .u64 ((L[j] ^^^ p : Nat) : Int)) rfl rfl hc1
      have hpp : p2 = q := by
        have h1' := hp1 .i64 h1
        have h2' := q1 .i64 h1
        rw [h1'] at h2'
        cases h2'; rfl
      subst hpp
      have hid := ho id off nn sz q4
      simp (disch := omega) only [f94_r10, f94_r11, f94_r12, f94_r13, w_skip, w_reg, w_seq, w_cond, w_block, seqK_n, atK_n, loopK_n, ckB_b, cbB_b, true_and, x_nil, x_mv, x_as, x_ld, x_st, x_bin, x_iads, x_len, kx, rvP_ok, okv_some, ev_t, ev_c, getV_some, putD_some, putD_none, bin_add, bin_neq, bin_lss, of0, of1, getK_set, Nat.reduceEqDiff, ↓reduceIte, g0, g5, g6, g7, hs.len, hlt', decide_true, hp1, hp2, uE, and_n kmu hx (show low p < 9223372036854775808 by omega), xor_n kmu hx hp, e', ne_eq, not_false_eq_true, q2, fw64]
      exact ⟨j + 1, by omega, L.set j (L[j] ^^^ p), hlt, by rw [List.length_set]; exact hl, hsm.set hxr, hRn, q3, hgr.trans (Grow.put hid q5 _), by simp (disch := omega) only [getK_set, Nat.reduceEqDiff, ↓reduceIte, g0, g3, g5, g6, g9, g10, and_self, Int.natCast_add, Int.natCast_one]⟩
  · have hjn : j = n := by omega
    subst hjn
    have hlt' : ¬ (j : Int) < (L.length : Int) := by omega
    rw [Nat.sub_self, elR] at hR
    subst hR
    simp (disch := omega) only [f94_r10, w_reg, w_seq, w_cond, w_exit, seqK_n, seqK_e, loopK_e, ckB_b, cbB_b, true_and, x_nil, x_mv, x_bin, x_len, kx, rvP_ok, okv_some, ev_t, getV_some, putD_some, bin_lss, getK_set, Nat.reduceEqDiff, ↓reduceIte, Bool.false_eq_true, g0, g7, hs.len, hlt', decide_false]
    exact hq _ _ hsm hl hs hgr (by simp (disch := omega) only [getK_set, Nat.reduceEqDiff, ↓reduceIte, g0, g3, g9, g10, and_self])
def f94_I1 (b : Nat) (h : H) (v : V) (n R : Nat) (i : Nat) (fr : Fr) (h1 : H) : Prop := ∃ L c, i ≤ n ∧ L.length = n ∧ c ≤ i ∧ Small L ∧ elK (n - i) i L c = R ∧ Sl uE h1 v L ∧ Grow b h h1 ∧ fr.get (K.ofNat 0) = some (v) ∧ fr.get (K.ofNat 3) = some (.i .i64 (c : Int)) ∧ fr.get (K.ofNat 9) = some (.i .i64 (n : Int)) ∧ fr.get (K.ofNat 10) = some (.i .i64 (i : Int))
theorem f94_ret {b : Nat} {h : H} {v : V} {L : List Nat} (hs : Sl uE h v L) (hsm : Small L) (ho : Own b v) (hb : b ≤ h.nx.nat) (hc : HC h) (hn : L.length ≤ 1000) :
    Ret fs f94 [v] h fun u h' => u = .i .i64 (rankS L : Int) ∧ Grow b h h' := by
  apply ret_of rfl
  show W fs none f94_c _ _ _
  unfold f94_c
  simp (disch := omega) only [f94_r0, f94_r1, f94_r2, w_reg, w_seq, w_block, seqK_n, x_nil, x_mv, x_as, x_len, kx, rvP_ok, ev_t, ev_c, getV_some, putD_some, frame_1, of0, getK_set, Nat.reduceEqDiff, ↓reduceIte, hs.len]
  refine W_loop (f94_I1 b h v L.length (rankS L)) (fun i => L.length - i) ?_ 0 ⟨L, 0, Nat.zero_le _, rfl, Nat.le_refl _, hsm, rfl, hs, Grow.refl _ _, by simp (disch := omega) only [getK_set, Nat.reduceEqDiff, ↓reduceIte, and_self, Int.natCast_zero]⟩
  generalize rankS L = R
  generalize L.length = n at *
  rintro i fr h1 ⟨L, c, hi, hl, hci, hsm, hR, hs, hgr, g0, g3, g9, g10⟩
  have hc1 := hgr.hc hc
  unfold f94_l1
  by_cases hlt : i < n
  · have hlt' : (i : Int) < (n : Int) := by omega
    have hil : i < L.length := by omega
    obtain ⟨q, hp1, hp2⟩ := hs.at i hil
    have hx := hsm.at hil
    have hg : L.getD i 0 = L[i] := by simp [List.getD, hil]
    rw [show n - i = (n - (i + 1)) + 1 by omega, elK, hg] at hR
    by_cases e : L[i] = 0
    · have e' : ((L[i] : Nat) : Int) = 0 := by omega
      rw [if_pos e] at hR
      simp (disch := omega) only [f94_r3, f94_r4, f94_r5, f94_r6, f94_r14, w_skip, w_reg, w_seq, w_cond, w_block, w_exit, seqK_n, seqK_e, atK_e, loopK_n, ckB_b, cbB_b, true_and, x_nil, x_mv, x_as, x_ld, x_bin, x_iads, kx, rvP_ok, okv_some, ev_t, ev_c, getV_some, putD_some, bin_add, bin_eql, bin_lss, of0, of1, getK_set, Nat.reduceEqDiff, ↓reduceIte, g0, g9, g10, hlt', decide_true, hp1, hp2, uE, e', fw64]
      exact ⟨i + 1, by omega, L, c, hlt, hl, by omega, hsm, hR, hs, hgr, by simp (disch := omega) only [getK_set, Nat.reduceEqDiff, ↓reduceIte, g0, g3, g9, and_self, Int.natCast_add, Int.natCast_one]⟩
    · have e' : ¬ ((L[i] : Nat) : Int) = 0 := by omega
      rw [if_neg e] at hR
      simp (disch := omega) only [f94_r3, f94_r4, f94_r5, f94_r6, f94_r7, f94_r8, f94_r9, w_skip, w_reg, w_seq, w_cond, w_block, seqK_n, ckB_b, cbB_b, true_and, x_nil, x_mv, x_as, x_ld, x_bin, x_neg, x_iads, kx, rvP_ok, okv_some, ev_t, ev_c, getV_some, putD_some, bin_add, bin_eql, bin_lss, onI_i, of0, of1, getK_set, Nat.reduceEqDiff, ↓reduceIte, Bool.false_eq_true, g0, g3, g9, g10, hlt', decide_true, decide_false, hp1, hp2, uE, e', fw64, low_u (show 0 < L[i] by omega) hx]
      refine f94_inner (b := b) (h := h) (v := v) (p := L[i]) (c := c + 1) (i := i) (n := n) (R := elR L[i] (n - (i + 1)) (i + 1) L) (j := i + 1) hc ho hx hn ⟨L, by omega, hl, hsm, rfl, hs, hgr, by simp (disch := omega) only [getK_set, Nat.reduceEqDiff, ↓reduceIte, g0, g9, g10, and_self, Int.natCast_add, Int.natCast_one]⟩ ?_
      rintro fr h2 hsm2 hl2 hs2 hgr2 ⟨g0, g3, g9, g10⟩
      simp (disch := omega) only [f94_r14, w_reg, seqK_n, atK_n, atK_e, loopK_n, x_nil, x_mv, x_bin, kx, rvP_ok, okv_some, ev_t, ev_c, getV_some, putD_some, bin_add, of1, getK_set, ↓reduceIte, g10, fw64]
      exact ⟨i + 1, by omega, _, c + 1, hlt, hl2, by omega, hsm2, hR, hs2, hgr2, by simp (disch := omega) only [getK_set, Nat.reduceEqDiff, ↓reduceIte, g0, g3, g9, and_self, Int.natCast_add, Int.natCast_one]⟩
  · obtain rfl : i = n := by omega
    have hlt' : ¬ (i : Int) < (i : Int) := by omega
    rw [Nat.sub_self, elK] at hR
    subst hR
    simp (disch := omega) only [f94_r3, f94_r15, f94_rs, w_reg, w_seq, w_cond, w_exit, w_ret, seqK_n, seqK_e, atK_e, loopK_e, ckB_b, cbB_b, true_and, retK_r, x_nil, x_mv, x_as, x_bin, kx, rvP_ok, okv_some, ev_t, getV_some, putD_some, bin_lss, oGet_s, readRs_nil, readRs_t, retV_1, Option.some.injEq, exists_eq_left', getK_set, Nat.reduceEqDiff, ↓reduceIte, Bool.false_eq_true, g3, g9, g10, hlt', decide_false, true_and]
    exact hgr
end
end Go.Ev
namespace Go.Ev
open Go Go.RowKit
noncomputable def f82_r0 : List EOper := [⟨(some (K.ofNat 1)), none, .box 1 (.t (K.ofNat 0))⟩, ⟨(some (K.ofNat 2)), none, .as (.c .fnil)⟩]
noncomputable def f82_r1 : List EOper := [⟨(some (K.ofNat 3)), none, .mkfn (K.ofNat 92) [(.t (K.ofNat 1))]⟩, ⟨(some (K.ofNat 2)), none, .as (.t (K.ofNat 3))⟩]
noncomputable def f82_c : EC := (.seq (.reg f82_r0) (.seq (.reg f82_r1) .ret))
noncomputable def f82 : EF := ⟨4, [.tmp (K.ofNat 2)], f82_c, none⟩
theorem f82_rs : f82.rs = [.tmp (K.ofNat 2)] := of_eq_true (eq_self _)
noncomputable def f93_r0 : List EOper := [⟨(some (K.ofNat 1)), none, .box 1 (.t (K.ofNat 0))⟩, ⟨(some (K.ofNat 2)), none, .as (.c (.i .u64 (.ofNat 0)))⟩]
noncomputable def f93_r1 : List EOper := [⟨(some (K.ofNat 3)), none, .alloc 1 [(.i .u64 (.ofNat 0))]⟩]
noncomputable def f93_r2 : List EOper := [⟨(some (K.ofNat 5)), none, .ld (.t (K.ofNat 1))⟩, ⟨(some (K.ofNat 6)), none, .call (.c (.fn (K.ofNat 82) [])) [(.t (K.ofNat 5))]⟩]
noncomputable def f93_r3 : List EOper := [⟨(some (K.ofNat 4)), none, .as (.t (K.ofNat 7))⟩]
noncomputable def f93_a0 : EC := (.reg f93_r3)
noncomputable def f93_r4 : List Stage := [⟨[⟨(some (K.ofNat 8)), none, .ld (.t (K.ofNat 3))⟩, ⟨(some (K.ofNat 9)), none, .ld (.t (K.ofNat 1))⟩, ⟨(some (K.ofNat 10)), none, .mv (.t (K.ofNat 4))⟩, ⟨(some (K.ofNat 11)), none, .bin .andNot (.t (K.ofNat 9)) (.t (K.ofNat 10))⟩, ⟨(some (K.ofNat 12)), none, .bin .shl (.c (.i .u64 (.ofNat 1))) (.t (K.ofNat 11))⟩, ⟨(some (K.ofNat 13)), none, .bin .xor (.t (K.ofNat 8)) (.t (K.ofNat 12))⟩], [], (some ⟨none, none, .st 1 (.t (K.ofNat 3)) (.t (K.ofNat 13))⟩), []⟩, ⟨[], [], none, []⟩]
noncomputable def f93_b0 : EC := (.block 1 (.draw f93_r4))
noncomputable def f93_r5 : List EOper := [⟨(some (K.ofNat 14)), none, .ld (.t (K.ofNat 3))⟩, ⟨(some (K.ofNat 2)), none, .as (.t (K.ofNat 14))⟩]
noncomputable def f93_c : EC := (.seq (.reg f93_r0) (.seq (.reg f93_r1) (.seq (.seq (.reg f93_r2) (.block 0 (.rangeF (.t (K.ofNat 6)) [(K.ofNat 7)] f93_a0 f93_b0))) (.seq (.reg f93_r5) .ret))))
noncomputable def f93 : EF := ⟨15, [.tmp (K.ofNat 2)], f93_c, none⟩
theorem f93_rs : f93.rs = [.tmp (K.ofNat 2)] := of_eq_true (eq_self _)
section
variable {fs : T EF} {ro : Option K}
/-- The corners of a set, one after another. -/
theorem corner_yields {k idp : K} {S : Int} {ef : EF} (hf : fs.get k = some coF) (hp : fs.get (.z (.z (.z (.o (.z .e))))) = some ef) (hn : ef.nv = some (flatG partG)) :
    Yields fs k [.p idp 0] (fun h => h.get idp = .cells 1 [.i .i64 S]) (((List.range 6).filter fun i => partB (cornI i) S).map fun (i : Nat) => V.i .i64 (cornI i)) := by
  intro id I D h hN h0 round
  have hlen : (((List.range 6).filter fun i => partB (cornI i) S).map fun (i : Nat) => V.i .i64 (cornI i)).length = cntB (fun i => partB (cornI i) S) 6 := by simp [cntB]
  rw [hlen]
  refine co_call (I := fun j h => I (cntB (fun i => partB (cornI i) S) j) h) (Q := D) hf hp hn (fun i h hi => hN _ _ hi) (fun j h hj hB hI => ?_) (fun j h hj hB hI => ?_) (by simpa [cntB] using h0)
  · have h1 := filter_at (B := fun i => partB (cornI i) S) hj hB
    have h2 : cntB (fun i => partB (cornI i) S) j < (((List.range 6).filter fun i => partB (cornI i) S).map fun (i : Nat) => V.i .i64 (cornI i)).length := by
      rw [List.length_map]; exact (List.getElem?_eq_some_iff.1 h1).1
    obtain ⟨b, h', r1, r2, r3⟩ := round (cntB (fun i => partB (cornI i) S) j) h h2 hI
    refine ⟨b, h', ?_, fun e => by rw [cntB_succ, if_pos hB]; exact r2 e, r3⟩
    have h3 : (((List.range 6).filter fun i => partB (cornI i) S).map fun (i : Nat) => V.i .i64 (cornI i))[cntB (fun i => partB (cornI i) S) j] = .i .i64 (cornI j) := by
      rw [List.getElem_map, (List.getElem?_eq_some_iff.1 h1).2]
    rw [← h3]; exact r1
  · rw [cntB_succ, hB]; simpa using hI
theorem f82_ret {h : H} {x : Int} : Ret fs f82 [.i .i64 x] h fun u h' => u = .fn (K.ofNat 92) [.p h.nx 0] ∧ h' = h.new (.cells 1 [.i .i64 x]) := by
  apply ret_of rfl
  show W fs none f82_c _ _ _
  unfold f82_c
  have : cellsN 1 (.i .i64 x) = some [.i .i64 x] := rfl
  simp (disch := omega) only [f82_r0, f82_r1, f82_rs, w_reg, w_seq, w_ret, seqK_n, retK_r, x_nil, x_as, x_box, x_mkfn, kx, rvP_ok, ev_t, ev_c, evs_nil, evs_cons, getV_some, putD_some, oGet_s, readRs_nil, readRs_t, retV_1, frame_1, Option.some.injEq, exists_eq_left', getK_set, Nat.reduceEqDiff, ↓reduceIte, this, and_self]
noncomputable def cornN (x : Nat) : List Nat := ((List.range 6).filter fun i => partB (cornI i) (x : Int)).map fun i => 2 ^ i
theorem cornI_eq : ∀ i, i < 6 → cornI i = ((2 ^ i : Nat) : Int) := by decide
theorem cornN_ys {x : Nat} : (((List.range 6).filter fun i => partB (cornI i) (x : Int)).map fun (i : Nat) => V.i .i64 (cornI i)) = (cornN x).map nE := by
  unfold cornN
  rw [List.map_map]
  apply List.map_congr_left
  intro i hi
  rw [List.mem_filter, List.mem_range] at hi
  show V.i .i64 (cornI i) = V.i .i64 ((2 ^ i : Nat) : Int)
  rw [cornI_eq i hi.1]
def lessC (x c : Nat) : Nat := Nat.xor x (Nat.land x c)
noncomputable def bordTo (x j : Nat) : Nat := ((cornN x).take j).foldl (fun s c => s ^^^ 2 ^ lessC x c) 0
noncomputable def bordX (x : Nat) : Nat := (cornN x).foldl (fun s c => s ^^^ 2 ^ lessC x c) 0
theorem bordTo_succ {x j : Nat} (hj : j < (cornN x).length) : bordTo x (j + 1) = bordTo x j ^^^ 2 ^ lessC x (cornN x)[j] := by
  unfold bordTo; rw [List.take_succ_eq_append_getElem hj, List.foldl_append]; rfl
theorem less_lt : ∀ x, x < 64 → ∀ c ∈ cornN x, c ≤ 32 ∧ lessC x c ≤ 62 := by decide +kernel
theorem bordTo_lt {x : Nat} (hx : x < 64) : ∀ j, j ≤ (cornN x).length → bordTo x j < 9223372036854775808
  | 0, _ => by unfold bordTo; simp
  | j + 1, hj => by
    rw [bordTo_succ hj]
    have h1 := (less_lt x hx _ (List.getElem_mem hj)).2
    have h2 : 2 ^ lessC x (cornN x)[j] < 2 ^ 63 := Nat.pow_lt_pow_right (by omega) (by omega)
    exact Nat.xor_lt_two_pow (n := 63) (bordTo_lt hx j (by omega)) h2
theorem andNot_n {m n : Nat} (hm : m < 9223372036854775808) (hn : n < 9223372036854775808) : binV .andNot (.i .i64 (m : Int)) (.i .i64 (n : Int)) = some (.i .i64 (lessC m n : Int)) := by
  have : binV .andNot (.i .i64 (m : Int)) (.i .i64 (n : Int)) = some (.i .i64 (ibits (fun m n => Nat.xor m (Nat.land m n)) (fun _ x y => x &&& ~~~y) .i64 m n)) := rfl
  rw [this, ibits_nat (by show _ ≤ 9223372036854775807; omega) (by show _ ≤ 9223372036854775807; omega)]; rfl
theorem shl_u {n : Nat} (hn : n ≤ 62) : binV .shl (.i .u64 1) (.i .i64 (n : Int)) = some (.i .u64 ((2 ^ n : Nat) : Int)) := by
  have h2 : 2 ^ n ≤ 4611686018427387904 := Nat.pow_le_pow_right (by omega) hn
  have h3 : ((2 ^ n : Nat) : Int) ≤ 4611686018427387904 := Int.ofNat_le.2 h2
  rw [bin_shl (by omega), show min (n : Int).toNat (IntKind.bits .u64) = n by show min (n : Int).toNat 64 = n; omega, Int.one_mul, show (2 : Int) ^ n = ((2 ^ n : Nat) : Int) by simp]
  rw [fwu64 (Int.natCast_nonneg _) (by omega)]
structure BorI (b : Nat) (h : H) (id1 id3 idf idl : K) (x s : Nat) (lb : Blk) (h1 : H) : Prop where
  gr : Grow b h h1
  e1 : h1.get id1 = .cells 1 [nE x]
  e3 : h1.get id3 = .cells 1 [uE s]
  ef : h1.get idf = .cells 1 [nE x]
  el : h1.get idl = lb
  nx : idl.nat + 1 ≤ h1.nx.nat
  o1 : id1.nat < id3.nat
  o3 : id3.nat < idf.nat
  of : idf.nat < idl.nat
  ob : b ≤ id1.nat
section
variable {b : Nat} {h h1 : H} {id1 id3 idf idl : K} {x s s' : Nat} {lb : Blk}
theorem BorI.loop (t : BorI b h id1 id3 idf idl x s lb h1) (lb' : Blk) : BorI b h id1 id3 idf idl x s lb' (h1.put idl lb') := by
  have := t.nx; have := t.o1; have := t.o3; have := t.of; have := t.ob
  exact ⟨t.gr.trans (Grow.put (by omega) (by omega) _), by rw [get_put_other (kNe (by omega))]; exact t.e1, by rw [get_put_other (kNe (by omega))]; exact t.e3, by rw [get_put_other (kNe (by omega))]; exact t.ef, get_put_same, t.nx, t.o1, t.o3, t.of, t.ob⟩
theorem BorI.put (t : BorI b h id1 id3 idf idl x s lb h1) : BorI b h id1 id3 idf idl x s' lb (h1.put id3 (.cells 1 [uE s'])) := by
  have := t.nx; have := t.o1; have := t.o3; have := t.of; have := t.ob
  exact ⟨t.gr.trans (Grow.put (by omega) (by omega) _), by rw [get_put_other (kNe (by omega))]; exact t.e1, get_put_same, by rw [get_put_other (kNe (by omega)).symm]; exact t.ef, by rw [get_put_other (kNe (by omega)).symm]; exact t.el, t.nx, t.o1, t.o3, t.of, t.ob⟩
end
theorem f93_ret {h : H} {x : Nat} {ef : EF} (h82 : fs.get (K.ofNat 82) = some f82) (h92 : fs.get (K.ofNat 92) = some coF) (h54 : fs.get (K.ofNat 54) = some ef) (hn : ef.nv = some (flatG partG)) (hx : x < 64) :
    Ret fs f93 [nE x] h fun u h' => u = uE (bordX x) ∧ Grow h.nx.nat h h' := by
  apply ret_of rfl
  show W fs none f93_c _ _ _
  unfold f93_c
  have hcn : cellsN 1 (nE x) = some [nE x] := rfl
  have n1 := nx_new h (.cells 1 [nE x])
  have n2 := nx_new (h.new (.cells 1 [nE x])) (.cells 1 [uE 0])
  have hu0 : V.i .u64 0 = uE 0 := rfl
  have e1 : ((h.new (.cells 1 [nE x])).new (.cells 1 [uE 0])).get h.nx = .cells 1 [nE x] := by rw [get_new_old (by omega), get_new_same]
  have e3 : ((h.new (.cells 1 [nE x])).new (.cells 1 [uE 0])).get (h.new (.cells 1 [nE x])).nx = .cells 1 [uE 0] := get_new_same
  have g0 : Grow h.nx.nat h ((h.new (.cells 1 [nE x])).new (.cells 1 [uE 0])) := (Grow.new (Nat.le_refl _) _).trans (Grow.new (by omega) _)
  have ld1 : loadV ((h.new (.cells 1 [nE x])).new (.cells 1 [uE 0])) (.p h.nx 0) one? = .ok (nE x) _ := load_p e1 rfl
  simp (disch := omega) only [f93_r0, f93_r1, f93_r2, w_reg, w_seq, seqK_n, x_nil, x_as, x_alloc, x_box, x_ld, x_call, kx, rvP_ok, ev_t, ev_c, evs_nil, evs_cons, getV_some, putD_some, oGet_s, frame_1, of0, getK_set, Nat.reduceEqDiff, ↓reduceIte, hcn, hu0, ld1]
  refine (callP_0 (ef := f82) h82 rfl (f82_ret (x := (x : Int)))).mono ?_
  rintro u h3 ⟨rfl, rfl⟩
  simp (disch := omega) only [w_block, seqK_n, x_nil, kx, putD_some]
  generalize hid3 : (h.new (.cells 1 [nE x])).nx = id3 at *
  generalize hh2 : (h.new (.cells 1 [nE x])).new (.cells 1 [uE 0]) = h2 at *
  have n3 := nx_new h2 (.cells 1 [nE x])
  have ga : Grow h2.nx.nat h2 (h2.new (.cells 1 [nE x])) := Grow.new (Nat.le_refl _) _
  have ef : (h2.new (.cells 1 [nE x])).get h2.nx = .cells 1 [nE x] := get_new_same
  rw [← ga.old _ (by omega)] at e3 e1
  have g1 := g0.trans (ga.low (b := h.nx.nat) (by omega))
  rw [show V.i .i64 (x : Int) = nE x from rfl]
  generalize hh3 : h2.new (.cells 1 [nE x]) = h3 at *
  generalize hfr1 : T.set (K.ofNat 6) (V.fn (K.ofNat 92) [V.p h2.nx 0]) _ = fr1
  have f6 : fr1.get (K.ofNat 6) = some (.fn (K.ofNat 92) [.p h2.nx 0]) := by rw [← hfr1]; simp (disch := omega) only [getK_set, ↓reduceIte]
  have f1 : fr1.get (K.ofNat 1) = some (.p h.nx 0) := by rw [← hfr1]; simp (disch := omega) only [getK_set, Nat.reduceEqDiff, ↓reduceIte]
  have f3 : fr1.get (K.ofNat 3) = some (.p id3 0) := by rw [← hfr1]; simp (disch := omega) only [getK_set, Nat.reduceEqDiff, ↓reduceIte]
  clear hfr1
  have n4 := nx_new h3 (rdyB fr1 [(K.ofNat 7)] f93_a0 f93_b0)
  have hnew : Grow h3.nx.nat h3 (h3.new (rdyB fr1 [(K.ofNat 7)] f93_a0 f93_b0)) := Grow.new (Nat.le_refl _) _
  have hy := corner_yields (fs := fs) (idp := h2.nx) (S := (x : Int)) h92 h54 hn
  rw [cornN_ys] at hy
  refine W_range (k := (K.ofNat 92)) (caps := [.p h2.nx 0]) (N := fun h => h.get h2.nx = .cells 1 [nE x]) (ys := (cornN x).map nE) rfl (by simp (disch := omega) only [ev_t, getV_some, f6]) hy
    (fun j h5 => ∃ lb, BorI h.nx.nat h h.nx id3 h2.nx h3.nx x (bordTo x j) lb h5) (fun _ _ => False) (fun i h5 ⟨lb, ht⟩ => ht.ef)
    ⟨_, g1.trans (hnew.low (by omega)), by rw [hnew.old _ (by omega)]; exact e1, by rw [hnew.old _ (by omega)]; exact e3, by rw [hnew.old _ (by omega)]; exact ef, get_new_same, by omega, by omega, by omega, by omega, Nat.le_refl _⟩ ?_ ?_ (fun _ _ _ hf => hf.elim)
  · rintro j h5 hj ⟨lb, ht⟩ hrd
    have hj' : j < (cornN x).length := by simpa using hj
    obtain rfl : lb = rdyB fr1 [(K.ofNat 7)] f93_a0 f93_b0 := ht.el.symm.trans hrd
    rw [List.getElem_map]
    rw [show ∀ Q fr h, W fs (some h3.nx) f93_a0 Q fr h = X fs f93_r3 (Q .normal) fr h from fun _ _ _ => rfl]
    simp (disch := omega) only [f93_r3, rndA_n, x_nil, x_as, ev_t, getV_some, putD_some, getK_set, ↓reduceIte]
    refine ⟨ht.el, ?_⟩
    have ht7 := ht.loop (bsyB fr1 [(K.ofNat 7)] f93_a0 f93_b0)
    generalize h5.put h3.nx (bsyB fr1 [(K.ofNat 7)] f93_a0 f93_b0) = h7 at *
    obtain ⟨c1, c2⟩ := less_lt x hx _ (List.getElem_mem hj')
    have hs := bordTo_succ hj'
    have hb := bordTo_lt hx j (by omega)
    have hb2 := bordTo_lt hx (j + 1) hj'
    have h2p : 2 ^ lessC x (cornN x)[j] < 9223372036854775808 := Nat.lt_of_lt_of_le (Nat.pow_lt_pow_right (a := 2) (by omega) (show lessC x (cornN x)[j] < 63 by omega)) (by decide)
    rw [show ∀ Q fr h, W fs (some h3.nx) f93_b0 Q fr h = XD fs f93_r4 (atK 1 Q .normal) fr h from fun _ _ _ => rfl]
    have hst : storeV h7 1 (.p id3 0) (.i .u64 ((bordTo x j ^^^ 2 ^ lessC x (cornN x)[j] : Nat) : Int)) = .ok undefV (h7.put id3 (.cells 1 [uE (bordTo x (j + 1))])) := by
      rw [store_p ht7.e3 rfl (by omega), hs]; rfl
    have ld1 : loadV h7 (.p h.nx 0) one? = .ok (nE x) h7 := load_p ht7.e1 rfl
    have ld3 : loadV h7 (.p id3 0) one? = .ok (uE (bordTo x j)) h7 := load_p ht7.e3 rfl
    unfold nE at ld1 ⊢
    unfold uE at ld3
    simp (disch := omega) only [f93_r4, atK_n, true_and, rndK_n, x_nil, x_st, kx, kg, xg_nil, xg_mv, xg_ld, xg_bin, xd_cons, fresh_nil, stK_n, stK_s, stay_nil, rvP_ok, okv_some, ev_t, ev_c, getV_some, putD_some, putD_none, of1, getK_set, Nat.reduceEqDiff, ↓reduceIte, f1, f3, ld1, ld3, andNot_n (show x < 9223372036854775808 by omega) (show (cornN x)[j] < 9223372036854775808 by omega), shl_u c2, xor_n kmu hb h2p, hst]
    refine ⟨ht7.put.el, rdyB fr1 [(K.ofNat 7)] f93_a0 f93_b0, ?_⟩
    exact ht7.put.loop _
  · rintro h5 ⟨lb, ht⟩
    have ht2 := ht.loop .dead
    rw [List.length_map] at ht2
    rw [show bordTo x (cornN x).length = bordX x by unfold bordTo bordX; rw [List.take_length]] at ht2
    have ld3 : loadV (h5.put h3.nx .dead) (.p id3 0) one? = .ok (uE (bordX x)) (h5.put h3.nx .dead) := load_p ht2.e3 rfl
    simp (disch := omega) only [f93_r5, f93_rs, w_reg, w_seq, w_ret, seqK_n, atK_n, true_and, retK_r, x_nil, x_as, x_ld, kx, rvP_ok, ev_t, getV_some, putD_some, oGet_s, readRs_nil, readRs_t, retV_1, Option.some.injEq, exists_eq_left', getK_set, ↓reduceIte, f3, ld3, true_and]
    exact ht2.gr
end
end Go.Ev
namespace Go.Ev
open Go Go.RowKit
noncomputable def f90_r0 : List EOper := [⟨(some (K.ofNat 2)), none, .box 1 (.t (K.ofNat 0))⟩, ⟨(some (K.ofNat 4)), none, .as (.c .sn)⟩]
noncomputable def f90_r1 : List EOper := [⟨(some (K.ofNat 6)), none, .mv (.t (K.ofNat 1))⟩]
noncomputable def f90_r2 : List EOper := [⟨(some (K.ofNat 5)), none, .as (.t (K.ofNat 7))⟩]
noncomputable def f90_a0 : EC := (.reg f90_r2)
noncomputable def f90_r3 : List EOper := [⟨(some (K.ofNat 8)), none, .ld (.t (K.ofNat 2))⟩, ⟨(some (K.ofNat 9)), none, .mv (.t (K.ofNat 5))⟩, ⟨(some (K.ofNat 10)), none, .bslice 1 1 [(.i .i64 (.ofNat 0))] [(0, 1, (.t (K.ofNat 9)))]⟩, ⟨(some (K.ofNat 11)), none, .app 1 (.t (K.ofNat 8)) (.t (K.ofNat 10))⟩, ⟨none, none, .st 1 (.t (K.ofNat 2)) (.t (K.ofNat 11))⟩]
noncomputable def f90_b0 : EC := (.block 1 (.reg f90_r3))
noncomputable def f90_r4 : List EOper := [⟨(some (K.ofNat 12)), none, .ld (.t (K.ofNat 2))⟩, ⟨(some (K.ofNat 4)), none, .as (.t (K.ofNat 12))⟩]
noncomputable def f90_c : EC := (.seq (.reg f90_r0) (.seq (.seq (.reg f90_r1) (.block 0 (.rangeF (.t (K.ofNat 6)) [(K.ofNat 7)] f90_a0 f90_b0))) (.seq (.reg f90_r4) .ret)))
noncomputable def f90 : EF := ⟨13, [.tmp (K.ofNat 4)], f90_c, none⟩
theorem f90_rs : f90.rs = [.tmp (K.ofNat 4)] := of_eq_true (eq_self _)
noncomputable def f77_r0 : List EOper := [⟨(some (K.ofNat 2)), none, .as (.c .sn)⟩]
noncomputable def f77_r1 : List EOper := [⟨(some (K.ofNat 3)), none, .mv (.t (K.ofNat 0))⟩, ⟨(some (K.ofNat 4)), none, .call (.c (.fn (K.ofNat 90) [])) [(.c .sn), (.t (K.ofNat 3))]⟩, ⟨(some (K.ofNat 2)), none, .as (.t (K.ofNat 4))⟩]
noncomputable def f77_c : EC := (.seq (.reg f77_r0) (.seq (.reg f77_r1) .ret))
noncomputable def f77 : EF := ⟨5, [.tmp (K.ofNat 2)], f77_c, none⟩
theorem f77_rs : f77.rs = [.tmp (K.ofNat 2)] := of_eq_true (eq_self _)
noncomputable def f56_r0 : List EOper := [⟨(some (K.ofNat 1)), none, .box 64 (.t (K.ofNat 0))⟩, ⟨(some (K.ofNat 2)), none, .as (.c .sn)⟩]
noncomputable def f56_r1 : List EOper := [⟨(some (K.ofNat 3)), none, .ldn 64 (.t (K.ofNat 1))⟩, ⟨(some (K.ofNat 4)), none, .call (.c (.fn (K.ofNat 78) [])) [(.t (K.ofNat 3))]⟩, ⟨(some (K.ofNat 5)), none, .call (.c (.fn (K.ofNat 77) [])) [(.t (K.ofNat 4))]⟩, ⟨(some (K.ofNat 2)), none, .as (.t (K.ofNat 5))⟩]
noncomputable def f56_c : EC := (.seq (.reg f56_r0) (.seq (.reg f56_r1) .ret))
noncomputable def f56 : EF := ⟨6, [.tmp (K.ofNat 2)], f56_c, none⟩
theorem f56_rs : f56.rs = [.tmp (K.ofNat 2)] := of_eq_true (eq_self _)
section
variable {fs : T EF} {ro : Option K}
theorem f90_ret {h : H} {k : K} {caps : List V} {N : H → Prop} {L : List Int} (hy : Yields fs k caps N (L.map iE)) (hN : ∀ h', Grow h.nx.nat h h' → N h') (hc : HC h) (hL : L.length ≤ 1000) :
    Ret fs f90 [.sn, .fn k caps] h fun u h' => Sl iE h' u L ∧ Own h.nx.nat u ∧ Grow h.nx.nat h h' := by
  apply ret_of rfl
  show W fs none f90_c _ _ _
  unfold f90_c
  simp (disch := omega) only [f90_r0, f90_r1, w_reg, w_seq, w_block, seqK_n, x_nil, x_mv, x_as, x_box, kx, rvP_ok, ev_t, ev_c, getV_some, putD_some, oGet_s, frame_2, cells1_sn, getK_set, Nat.reduceEqDiff, ↓reduceIte]
  have n1 := nx_new h (.cells 1 [.sn])
  have g1 : Grow h.nx.nat h (h.new (.cells 1 [.sn])) := Grow.new (Nat.le_refl _) _
  have e1 : (h.new (.cells 1 [.sn])).get h.nx = .cells 1 [.sn] := get_new_same
  generalize h.new (.cells 1 [.sn]) = h1 at *
  have hc1 := g1.hc hc
  generalize hfr1 : T.set (K.ofNat 6) (V.fn k caps) _ = fr1
  have f6 : fr1.get (K.ofNat 6) = some (.fn k caps) := by rw [← hfr1]; simp (disch := omega) only [getK_set, ↓reduceIte]
  have f2 : fr1.get (K.ofNat 2) = some (.p h.nx 0) := by rw [← hfr1]; simp (disch := omega) only [getK_set, Nat.reduceEqDiff, ↓reduceIte]
  clear hfr1
  have n2 := nx_new h1 (rdyB fr1 [(K.ofNat 7)] f90_a0 f90_b0)
  have g2 : Grow h1.nx.nat h1 (h1.new (rdyB fr1 [(K.ofNat 7)] f90_a0 f90_b0)) := Grow.new (Nat.le_refl _) _
  refine W_range (k := k) (caps := caps) (N := N) (ys := L.map iE) rfl (by simp (disch := omega) only [ev_t, getV_some, f6]) hy
    (fun j h5 => ∃ o lb, AccI iE h.nx.nat h h.nx h1.nx [] o (L.take j) lb h5) (fun _ _ => False) (fun i h5 ⟨o, lb, ht⟩ => hN _ ht.gr)
    ⟨.sn, _, Sl.nil, Own.sn, g1.trans (g2.low (by omega)), by rw [g2.old _ (by omega)]; exact e1, (fun p hp => by cases hp), get_new_same, by omega, by omega, Nat.le_refl _, (fun p hp => by cases hp)⟩ ?_ ?_ (fun _ _ _ hf => hf.elim)
  · rintro j h5 hj ⟨o, lb, ht⟩ hrd
    have hj' : j < L.length := by simpa using hj
    obtain rfl : lb = rdyB fr1 [(K.ofNat 7)] f90_a0 f90_b0 := ht.el.symm.trans hrd
    rw [List.getElem_map]
    rw [show ∀ Q fr h, W fs (some h1.nx) f90_a0 Q fr h = X fs f90_r2 (Q .normal) fr h from fun _ _ _ => rfl]
    simp (disch := omega) only [f90_r2, rndA_n, x_nil, x_as, ev_t, getV_some, putD_some, getK_set, ↓reduceIte]
    refine ⟨ht.el, ?_⟩
    have ht7 := ht.loop (bsyB fr1 [(K.ofNat 7)] f90_a0 f90_b0)
    generalize h5.put h1.nx (bsyB fr1 [(K.ofNat 7)] f90_a0 f90_b0) = h7 at *
    have hc7 := ht7.gr.hc hc
    obtain ⟨v', h', p1, p2, p3⟩ := ht7.push (x := L[j]) (c := .i .i64 L[j]) rfl hc7 (by rw [List.length_take]; omega)
    rw [show ∀ Q fr h, W fs (some h1.nx) f90_b0 Q fr h = X fs f90_r3 (atK 1 Q .normal) fr h from fun _ _ _ => rfl]
    simp (disch := omega) only [f90_r3, atK_n, rndK_n, x_nil, x_mv, x_bslice, x_ld, x_st, x_app, kx, rvP_ok, ev_t, getV_some, putD_some, putD_none, oGet_s, cells1_i, fill_1, set_1, of0, getK_set, Nat.reduceEqDiff, ↓reduceIte, f2, iE, ht7.ld, p1, p2]
    refine ⟨p3.el, v', rdyB fr1 [(K.ofNat 7)] f90_a0 f90_b0, ?_⟩
    rw [List.take_succ_eq_append_getElem hj']
    exact p3.loop _
  · rintro h5 ⟨o, lb, ht⟩
    have ht2 := ht.loop .dead
    rw [List.length_map, List.take_length] at ht2
    simp (disch := omega) only [f90_r4, f90_rs, w_reg, w_seq, w_ret, seqK_n, atK_n, retK_r, x_nil, x_as, x_ld, kx, rvP_ok, ev_t, getV_some, putD_some, oGet_s, readRs_nil, readRs_t, retV_1, Option.some.injEq, exists_eq_left', getK_set, ↓reduceIte, f2, ht2.ld]
    exact ⟨ht2.sl, ht2.own.low (by omega), ht2.gr⟩
theorem f77_ret {h : H} {k : K} {caps : List V} {N : H → Prop} {L : List Int} (h90 : fs.get (K.ofNat 90) = some f90) (hy : Yields fs k caps N (L.map iE)) (hN : ∀ h', Grow h.nx.nat h h' → N h') (hc : HC h) (hL : L.length ≤ 1000) :
    Ret fs f77 [.fn k caps] h fun u h' => Sl iE h' u L ∧ Own h.nx.nat u ∧ Grow h.nx.nat h h' := by
  apply ret_of rfl
  show W fs none f77_c _ _ _
  unfold f77_c
  simp (disch := omega) only [f77_r0, f77_r1, w_reg, w_seq, seqK_n, x_nil, x_mv, x_as, x_call, ev_t, ev_c, evs_nil, evs_cons, getV_some, putD_some, frame_1, getK_set, Nat.reduceEqDiff, ↓reduceIte]
  refine (callP_0 (ef := f90) h90 rfl (f90_ret hy hN hc hL)).mono ?_
  rintro u h1 hr
  simp (disch := omega) only [f77_rs, w_ret, seqK_n, retK_r, x_nil, x_as, kx, ev_t, getV_some, putD_some, oGet_s, readRs_nil, readRs_t, retV_1, Option.some.injEq, exists_eq_left', getK_set, ↓reduceIte]
  exact hr
def memI (B : Nat → Bool) : List Int := (mem64 B).map fun (k : Nat) => (k : Int)
theorem memI_len {B : Nat → Bool} : (memI B).length ≤ 64 := by unfold memI; rw [List.length_map]; exact mem64_len
theorem ysOf_eq {B : Nat → Bool} : ysOf B = (memI B).map iE := by unfold ysOf memI; rw [List.map_map]; rfl
theorem f56_ret {h : H} {B : Nat → Bool} (h77 : fs.get (K.ofNat 77) = some f77) (h90 : fs.get (K.ofNat 90) = some f90) (h78 : fs.get (K.ofNat 78) = some f78) (h91 : fs.get (K.ofNat 91) = some alF) (hc : HC h) :
    Ret fs f56 [.agg (boolV B)] h fun u h' => Sl iE h' u (memI B) ∧ Own h.nx.nat u ∧ Grow h.nx.nat h h' := by
  apply ret_of rfl
  show W fs none f56_c _ _ _
  unfold f56_c
  have n1 := nx_new h (.cells 64 (boolV B))
  have g1 : Grow h.nx.nat h (h.new (.cells 64 (boolV B))) := Grow.new (Nat.le_refl _) _
  have hA : Ar V.b (h.new (.cells 64 (boolV B))) h.nx (arr B 64) := by
    unfold Ar; rw [arr_len, get_new_same]; rfl
  simp (disch := omega) only [f56_r0, f56_r1, w_reg, w_seq, seqK_n, x_nil, x_as, x_box, x_ldn, x_call, kx, rvP_ok, ev_t, ev_c, evs_nil, evs_cons, getV_some, putD_some, oGet_s, frame_1, getK_set, Nat.reduceEqDiff, ↓reduceIte, cells64 (boolV_len (B := B)), hA.ldn (n := 64) (by rw [arr_len])]
  refine (callP_0 (ef := f78) h78 rfl (f78_ret (boolV_len (B := B)))).mono ?_
  rintro u h1 ⟨rfl, rfl⟩
  simp (disch := omega) only [x_call, kx, ev_t, ev_c, evs_nil, evs_cons, getV_some, putD_some, getK_set, ↓reduceIte]
  generalize hh1 : h.new (.cells 64 (boolV B)) = h1 at *
  have n2 := nx_new h1 (.cells 64 (boolV B))
  have g2 : Grow h1.nx.nat h1 (h1.new (.cells 64 (boolV B))) := Grow.new (Nat.le_refl _) _
  have hy := all_yields (fs := fs) (idp := h1.nx) h91 (boolV_at (B := B))
  rw [show (((List.range 64).filter B).map fun (i : Nat) => V.i .i64 (i : Int)) = (memI B).map iE from ysOf_eq] at hy
  refine (callP_0 (ef := f77) h77 rfl (f77_ret (k := (K.ofNat 91)) (caps := [.p h1.nx 0]) h90 hy (fun h' hg => by rw [hg.old _ (by omega)]; exact get_new_same) (g2.hc (g1.hc hc)) (by have := memI_len (B := B); omega))).mono ?_
  rintro u h3 ⟨hs, ho, g3⟩
  simp (disch := omega) only [f56_rs, w_ret, seqK_n, retK_r, x_nil, x_as, kx, ev_t, getV_some, putD_some, oGet_s, readRs_nil, readRs_t, retV_1, Option.some.injEq, exists_eq_left', getK_set, ↓reduceIte]
  exact ⟨hs, ho.low (by omega), g1.trans ((g2.low (by omega)).trans (g3.low (by omega)))⟩
theorem famB_list {S : List Int} : (arr (famB S) 64).map V.b = boolV (famB S) := rfl
end
end Go.Ev
namespace Go.Ev
open Go Go.RowKit
noncomputable def f57_r0 : List EOper := [⟨(some (K.ofNat 1)), none, .box 64 (.t (K.ofNat 0))⟩, ⟨(some (K.ofNat 2)), none, .as (.c .sn)⟩]
noncomputable def f57_r1 : List EOper := [⟨(some (K.ofNat 3)), none, .alloc 1 [.sn]⟩]
noncomputable def f57_r2 : List EOper := [⟨(some (K.ofNat 6)), none, .ldn 64 (.t (K.ofNat 1))⟩, ⟨(some (K.ofNat 7)), none, .call (.c (.fn (K.ofNat 78) [])) [(.t (K.ofNat 6))]⟩]
noncomputable def f57_r3 : List EOper := [⟨(some (K.ofNat 4)), none, .as (.t (K.ofNat 8))⟩]
noncomputable def f57_a0 : EC := (.reg f57_r3)
noncomputable def f57_r4 : List EOper := [⟨(some (K.ofNat 9)), none, .mv (.t (K.ofNat 4))⟩, ⟨(some (K.ofNat 10)), none, .call (.c (.fn (K.ofNat 75) [])) [(.t (K.ofNat 9))]⟩, ⟨(some (K.ofNat 5)), none, .as (.t (K.ofNat 10))⟩]
noncomputable def f57_r5 : List EOper := [⟨(some (K.ofNat 11)), none, .ld (.t (K.ofNat 3))⟩, ⟨(some (K.ofNat 12)), none, .len (.t (K.ofNat 11))⟩, ⟨(some (K.ofNat 13)), none, .mv (.t (K.ofNat 5))⟩, ⟨(some (K.ofNat 14)), none, .bin .leq (.t (K.ofNat 12)) (.t (K.ofNat 13))⟩]
noncomputable def f57_r6 : List EOper := [⟨(some (K.ofNat 15)), none, .ld (.t (K.ofNat 3))⟩, ⟨(some (K.ofNat 16)), none, .bslice 1 1 [(.i .i64 (.ofNat 0))] [(0, 1, (.c (.i .i64 (.ofNat 0))))]⟩, ⟨(some (K.ofNat 17)), none, .app 1 (.t (K.ofNat 15)) (.t (K.ofNat 16))⟩, ⟨none, none, .st 1 (.t (K.ofNat 3)) (.t (K.ofNat 17))⟩]
noncomputable def f57_l0 : EC := (.seq (.seq (.reg f57_r5) (.cond (.t (K.ofNat 14)) .skip (.exit 2))) (.block 3 (.reg f57_r6)))
noncomputable def f57_r7 : List EOper := [⟨(some (K.ofNat 18)), none, .ld (.t (K.ofNat 3))⟩, ⟨(some (K.ofNat 19)), none, .mv (.t (K.ofNat 5))⟩, ⟨(some (K.ofNat 20)), none, .iads 1 (.t (K.ofNat 18)) (.t (K.ofNat 19))⟩, ⟨(some (K.ofNat 21)), none, .ld (.t (K.ofNat 20))⟩, ⟨(some (K.ofNat 22)), none, .bin .add (.t (K.ofNat 21)) (.c (.i .i64 (.ofNat 1)))⟩, ⟨(some (K.ofNat 23)), none, .iads 1 (.t (K.ofNat 18)) (.t (K.ofNat 19))⟩, ⟨none, none, .st 1 (.t (K.ofNat 23)) (.t (K.ofNat 22))⟩]
noncomputable def f57_b0 : EC := (.block 1 (.seq (.reg f57_r4) (.seq (.block 2 (.loop f57_l0)) (.reg f57_r7))))
noncomputable def f57_r8 : List EOper := [⟨(some (K.ofNat 24)), none, .ld (.t (K.ofNat 3))⟩, ⟨(some (K.ofNat 2)), none, .as (.t (K.ofNat 24))⟩]
noncomputable def f57_c : EC := (.seq (.reg f57_r0) (.seq (.reg f57_r1) (.seq (.seq (.reg f57_r2) (.block 0 (.rangeF (.t (K.ofNat 7)) [(K.ofNat 8)] f57_a0 f57_b0))) (.seq (.reg f57_r8) .ret))))
noncomputable def f57 : EF := ⟨25, [.tmp (K.ofNat 2)], f57_c, none⟩
theorem f57_rs : f57.rs = [.tmp (K.ofNat 2)] := of_eq_true (eq_self _)
section
variable {fs : T EF} {ro : Option K}
theorem snoc_ind {α : Type} {P : List α → Prop} (h0 : P []) (h1 : ∀ l a, P l → P (l ++ [a])) (l : List α) : P l := by
  have : ∀ m : List α, P m.reverse := by
    intro m
    induction m with
    | nil => exact h0
    | cons a m ih => rw [List.reverse_cons]; exact h1 _ _ ih
  have h := this l.reverse
  rwa [List.reverse_reverse] at h
noncomputable def cpad (C : List Int) (m : Nat) : List Int := C ++ List.replicate (m + 1 - C.length) 0
noncomputable def cstep (C : List Int) (m : Nat) : List Int := (cpad C m).set m ((cpad C m).getD m 0 + 1)
noncomputable def cntS (l : List Nat) : List Int := l.foldl (fun C k => cstep C (pop6 k)) []
theorem cntS_snoc {l : List Nat} {k : Nat} : cntS (l ++ [k]) = cstep (cntS l) (pop6 k) := by unfold cntS; rw [List.foldl_append]; rfl
theorem cpad_len {C : List Int} {m : Nat} : m < (cpad C m).length := by unfold cpad; rw [List.length_append, List.length_replicate]; omega
theorem cpad_bd {C : List Int} {m : Nat} {b : Int} (hb : 0 ≤ b) (h : ∀ x ∈ C, 0 ≤ x ∧ x ≤ b) : ∀ x ∈ cpad C m, 0 ≤ x ∧ x ≤ b := by
  intro x hx
  unfold cpad at hx
  rcases List.mem_append.1 hx with h1 | h1
  · exact h x h1
  · have := List.eq_of_mem_replicate h1; omega
theorem cntS_bd : ∀ (l : List Nat), ∀ x ∈ cntS l, 0 ≤ x ∧ x ≤ (l.length : Int) := by
  intro l
  refine snoc_ind (P := fun l => ∀ x ∈ cntS l, 0 ≤ x ∧ x ≤ (l.length : Int)) (fun x hx => by cases hx) (fun l k ih => ?_) l
  · intro x hx
    rw [cntS_snoc] at hx
    have h1 := cpad_bd (m := pop6 k) (b := (l.length : Int)) (by omega) ih
    unfold cstep at hx
    rw [List.length_append]
    rcases List.mem_or_eq_of_mem_set hx with h2 | h2
    · have := h1 x h2; simp; omega
    · have h3 : (cpad (cntS l) (pop6 k)).getD (pop6 k) 0 ∈ cpad (cntS l) (pop6 k) := by
        have := cpad_len (C := cntS l) (m := pop6 k)
        simp [List.getD, this]
      have := h1 _ h3; simp; omega
theorem pop6_le {k : Nat} : pop6 k ≤ 6 := by
  show k % 2 + (k / 2 % 2 + (k / 4 % 2 + (k / 8 % 2 + (k / 16 % 2 + k / 32 % 2)))) ≤ 6
  omega
theorem cntS_len : ∀ (l : List Nat), (cntS l).length ≤ 7 := by
  intro l
  refine snoc_ind (P := fun l => (cntS l).length ≤ 7) (by simp [cntS]) (fun l k ih => ?_) l
  · rw [cntS_snoc]
    unfold cstep cpad
    have := pop6_le (k := k)
    rw [List.length_set, List.length_append, List.length_replicate]
    omega
def f57_I0 (h : H) (B : Nat → Bool) (id1 id3 idf idl : K) (lb : Blk) (C : List Int) (m : Nat) (t : Nat) (fr : Fr) (h1 : H) : Prop := ∃ o, t ≤ m + 1 - C.length ∧ AccI iE h.nx.nat h id3 idl [(id1, .cells 64 (boolV B)), (idf, .cells 64 (boolV B))] o (C ++ List.replicate t 0) lb h1 ∧ fr.get (K.ofNat 3) = some (.p id3 0) ∧ fr.get (K.ofNat 5) = some (.i .i64 (m : Int))
theorem f57_inner {Q : Ex → Fr → H → Prop} {h h0 : H} {B : Nat → Bool} {id1 id3 idf idl : K} {lb : Blk} {C : List Int} {m : Nat} {fr : Fr} (hc : HC h) (hC : C.length ≤ 7) (hm : m ≤ 6)
    (hi : f57_I0 h B id1 id3 idf idl lb C m 0 fr h0)
    (hq : ∀ fr h1 o, AccI iE h.nx.nat h id3 idl [(id1, .cells 64 (boolV B)), (idf, .cells 64 (boolV B))] o (cpad C m) lb h1 → fr.get (K.ofNat 3) = some (.p id3 0) ∧ fr.get (K.ofNat 5) = some (.i .i64 (m : Int)) → Q (.exit 2) fr h1) :
    W fs ro (.loop f57_l0) Q fr h0 := by
  refine W_loop (f57_I0 h B id1 id3 idf idl lb C m) (fun t => m + 1 - C.length - t) ?_ 0 hi
  clear hi fr h0
  rintro t fr h1 ⟨o, ht, ha, g3, g5⟩
  have hc1 := ha.gr.hc hc
  have hlen : (C ++ List.replicate t (0 : Int)).length = C.length + t := by rw [List.length_append, List.length_replicate]
  unfold f57_l0
  by_cases hle : C.length + t ≤ m
  · have hle' : ((C ++ List.replicate t (0 : Int)).length : Int) ≤ (m : Int) := by rw [hlen]; omega
    obtain ⟨v', h', p1, p2, p3⟩ := ha.push (x := (0 : Int)) (c := .i .i64 0) rfl hc1 (by omega)
    simp (disch := omega) only [f57_r5, f57_r6, w_skip, w_reg, w_seq, w_cond, w_block, seqK_n, atK_n, loopK_n, ckB_b, cbB_b, true_and, x_nil, x_mv, x_bslice, x_ld, x_st, x_bin, x_len, x_app, kx, rvP_ok, okv_some, ev_t, ev_c, getV_some, putD_some, putD_none, bin_leq, oGet_s, cells1_i, fill_1, set_1, of0, getK_set, Nat.reduceEqDiff, ↓reduceIte, g3, g5, ha.ld, ha.sl.len, hle', decide_true, p1, p2]
    refine ⟨t + 1, by omega, v', by omega, ?_, by simp (disch := omega) only [getK_set, Nat.reduceEqDiff, ↓reduceIte, g3, g5, and_self]⟩
    rw [List.replicate_succ', ← List.append_assoc]; exact p3
  · have hle' : ¬ ((C ++ List.replicate t (0 : Int)).length : Int) ≤ (m : Int) := by rw [hlen]; omega
    simp (disch := omega) only [f57_r5, w_reg, w_seq, w_cond, w_exit, seqK_n, seqK_e, loopK_e, ckB_b, cbB_b, true_and, x_nil, x_mv, x_ld, x_bin, x_len, kx, rvP_ok, okv_some, ev_t, getV_some, putD_some, bin_leq, getK_set, Nat.reduceEqDiff, ↓reduceIte, Bool.false_eq_true, g3, g5, ha.ld, ha.sl.len, hle', decide_false]
    refine hq _ _ o ?_ (by simp (disch := omega) only [getK_set, Nat.reduceEqDiff, ↓reduceIte, g3, g5, and_self])
    have : t = m + 1 - C.length := by omega
    subst this; exact ha
theorem f57_ret {h : H} {B : Nat → Bool}
    (hp : ∀ m : Nat, m < 64 → ∀ h P, CallP fs (.fn (K.ofNat 75) []) [.i .i64 (m : Int)] h P = P (.i .i64 (pop6 m : Int)) h) (h78 : fs.get (K.ofNat 78) = some f78) (h91 : fs.get (K.ofNat 91) = some alF) (hc : HC h) :
    Ret fs f57 [.agg (boolV B)] h fun u h' => Sl iE h' u (cntS (mem64 B)) ∧ Own h.nx.nat u ∧ Grow h.nx.nat h h' := by
  apply ret_of rfl
  show W fs none f57_c _ _ _
  unfold f57_c
  have n1 := nx_new h (.cells 64 (boolV B))
  have n2 := nx_new (h.new (.cells 64 (boolV B))) (.cells 1 [.sn])
  have hA : Ar V.b ((h.new (.cells 64 (boolV B))).new (.cells 1 [.sn])) h.nx (arr B 64) := by
    unfold Ar; rw [arr_len, get_new_old (by omega), get_new_same]; rfl
  simp (disch := omega) only [f57_r0, f57_r1, f57_r2, w_reg, w_seq, seqK_n, x_nil, x_as, x_alloc, x_box, x_ldn, x_call, kx, rvP_ok, ev_t, ev_c, evs_nil, evs_cons, getV_some, putD_some, oGet_s, frame_1, getK_set, Nat.reduceEqDiff, ↓reduceIte, cells64 (boolV_len (B := B)), hA.ldn (n := 64) (by rw [arr_len])]
  refine (callP_0 (ef := f78) h78 rfl (f78_ret (boolV_len (B := B)))).mono ?_
  rintro u h1 ⟨rfl, rfl⟩
  simp (disch := omega) only [w_block, seqK_n, x_nil, kx, putD_some]
  have g0 : Grow h.nx.nat h ((h.new (.cells 64 (boolV B))).new (.cells 1 [.sn])) := (Grow.new (Nat.le_refl _) _).trans (Grow.new (by omega) _)
  have e3 : ((h.new (.cells 64 (boolV B))).new (.cells 1 [.sn])).get (h.new (.cells 64 (boolV B))).nx = .cells 1 [.sn] := get_new_same
  have e1 : ((h.new (.cells 64 (boolV B))).new (.cells 1 [.sn])).get h.nx = .cells 64 (boolV B) := by rw [get_new_old (by omega), get_new_same]
  generalize hid3 : (h.new (.cells 64 (boolV B))).nx = id3 at *
  generalize hh2 : (h.new (.cells 64 (boolV B))).new (.cells 1 [.sn]) = h2 at *
  have n3 := nx_new h2 (.cells 64 (boolV B))
  have hc2 := g0.hc hc
  have ga : Grow h2.nx.nat h2 (h2.new (.cells 64 (boolV B))) := Grow.new (Nat.le_refl _) _
  have ef : (h2.new (.cells 64 (boolV B))).get h2.nx = .cells 64 (boolV B) := get_new_same
  rw [← ga.old _ (by omega)] at e3 e1
  have g1 := g0.trans (ga.low (b := h.nx.nat) (by omega))
  generalize hh3 : h2.new (.cells 64 (boolV B)) = h3 at *
  have hc3 := g1.hc hc
  generalize hfr1 : T.set (K.ofNat 7) (V.fn (K.ofNat 91) [V.p h2.nx 0]) _ = fr1
  have f7 : fr1.get (K.ofNat 7) = some (.fn (K.ofNat 91) [.p h2.nx 0]) := by rw [← hfr1]; simp (disch := omega) only [getK_set, ↓reduceIte]
  have f3 : fr1.get (K.ofNat 3) = some (.p id3 0) := by rw [← hfr1]; simp (disch := omega) only [getK_set, Nat.reduceEqDiff, ↓reduceIte]
  clear hfr1
  have hlen := ysOf_len (B := B)
  have n4 := nx_new h3 (rdyB fr1 [(K.ofNat 8)] f57_a0 f57_b0)
  have hnew : Grow h3.nx.nat h3 (h3.new (rdyB fr1 [(K.ofNat 8)] f57_a0 f57_b0)) := Grow.new (Nat.le_refl _) _
  refine W_range (k := (K.ofNat 91)) (caps := [.p h2.nx 0]) (N := fun h => h.get h2.nx = .cells 64 (boolV B)) (ys := ysOf B) rfl (by simp (disch := omega) only [ev_t, getV_some, f7]) (all_yields h91 boolV_at)
    (fun j h5 => ∃ o lb, AccI iE h.nx.nat h id3 h3.nx [(h.nx, .cells 64 (boolV B)), (h2.nx, .cells 64 (boolV B))] o (cntS ((mem64 B).take j)) lb h5) (fun _ _ => False) (fun i h5 ⟨o, lb, ht⟩ => ht.kp (h2.nx, _) (by simp))
    ⟨.sn, _, Sl.nil, Own.sn, g1.trans (hnew.low (by omega)), by rw [hnew.old _ (by omega)]; exact e3, fun p hp => ?_, get_new_same, by omega, by omega, by omega, fun p hp => ?_⟩ ?_ ?_ (fun _ _ _ hf => hf.elim)
  · simp only [List.mem_cons, List.not_mem_nil, or_false] at hp
    rcases hp with rfl | rfl
    · rw [hnew.old _ (by show h.nx.nat < _; omega)]; exact e1
    · rw [hnew.old _ (by show h2.nx.nat < _; omega)]; exact ef
  · simp only [List.mem_cons, List.not_mem_nil, or_false] at hp
    rcases hp with rfl | rfl
    · exact ⟨by show h.nx.nat < _; omega, kNe (by show h.nx.nat < _; omega)⟩
    · exact ⟨by show h2.nx.nat < _; omega, (kNe (by show _ < h2.nx.nat; omega)).symm⟩
  · rintro j h5 hj ⟨o, lb, ht⟩ hrd
    have hj' : j < (mem64 B).length := by omega
    rw [ysOf_at hj]
    obtain rfl : lb = rdyB fr1 [(K.ofNat 8)] f57_a0 f57_b0 := ht.el.symm.trans hrd
    rw [show ∀ Q fr h, W fs (some h3.nx) f57_a0 Q fr h = X fs f57_r3 (Q .normal) fr h from fun _ _ _ => rfl]
    simp (disch := omega) only [f57_r3, rndA_n, x_nil, x_as, ev_t, getV_some, putD_some, getK_set, ↓reduceIte]
    refine ⟨ht.el, ?_⟩
    have ht7 := ht.loop (bsyB fr1 [(K.ofNat 8)] f57_a0 f57_b0)
    generalize h5.put h3.nx (bsyB fr1 [(K.ofNat 8)] f57_a0 f57_b0) = h7 at *
    have hx64 : (mem64 B)[j] < 64 := by
      have := List.getElem_mem hj'
      unfold mem64 at this
      rw [List.mem_filter, List.mem_range] at this
      exact this.1
    rw [show ∀ Q fr h, W fs (some h3.nx) f57_b0 Q fr h = X fs f57_r4 (seqK (W fs (some h3.nx) (.seq (.block 2 (.loop f57_l0)) (.reg f57_r7))) (atK 1 Q) .normal) fr h from fun _ _ _ => rfl]
    simp (disch := omega) only [f57_r4, w_seq, w_block, seqK_n, x_nil, x_mv, x_as, x_call, kx, ev_t, ev_c, evs_nil, evs_cons, getV_some, putD_some, getK_set, ↓reduceIte, hp _ hx64]
    refine f57_inner (h := h) (B := B) (id1 := h.nx) (id3 := id3) (idf := h2.nx) (idl := h3.nx) (lb := bsyB fr1 [(K.ofNat 8)] f57_a0 f57_b0) (C := cntS ((mem64 B).take j)) (m := pop6 (mem64 B)[j]) hc (cntS_len _) pop6_le ⟨o, by omega, by rw [List.replicate_zero, List.append_nil]; exact ht7, by simp (disch := omega) only [getK_set, Nat.reduceEqDiff, ↓reduceIte, f3, and_self]⟩ ?_
    rintro fr h8 o2 ha ⟨g3, g5⟩
    have hc8 := ha.gr.hc hc
    have hml := cpad_len (C := cntS ((mem64 B).take j)) (m := pop6 (mem64 B)[j])
    obtain ⟨p, hp1, hp2⟩ := ha.sl.at _ hml
    have hbd := cpad_bd (m := pop6 (mem64 B)[j]) (b := ((((mem64 B).take j).length : Nat) : Int)) (by omega) (cntS_bd ((mem64 B).take j)) _ (List.getElem_mem hml)
    have hl64 := mem64_len (B := B)
    have hlt : ((mem64 B).take j).length ≤ 64 := by rw [List.length_take]; omega
    obtain ⟨p2, id, m2, cs2, q1, q2, q3, ⟨off, nn, sz, q4⟩, q5⟩ := ha.sl.st hml (x := (cpad (cntS ((mem64 B).take j)) (pop6 (mem64 B)[j]))[pop6 (mem64 B)[j]] + 1) (c := .i .i64 ((cpad (cntS ((mem64 B).take j)) (pop6 (mem64 B)[j]))[pop6 (mem64 B)[j]] + 1)) rfl rfl hc8
    have hpp : p2 = p := by
      have h1 := hp1 .i64 h8
      have h2 := q1 .i64 h8
      rw [h1] at h2
      cases h2; rfl
    subst hpp
    have hid := ha.own id off nn sz q4
    have hfw : fw .i64 ((cpad (cntS ((mem64 B).take j)) (pop6 (mem64 B)[j]))[pop6 (mem64 B)[j]] + 1) = (cpad (cntS ((mem64 B).take j)) (pop6 (mem64 B)[j]))[pop6 (mem64 B)[j]] + 1 := fw64 (by omega) (by omega)
    simp (disch := omega) only [f57_r7, w_reg, seqK_n, atK_n, atK_e, rndK_n, x_nil, x_mv, x_ld, x_st, x_bin, x_iads, kx, rvP_ok, okv_some, ev_t, ev_c, getV_some, putD_some, putD_none, bin_add, of1, getK_set, Nat.reduceEqDiff, ↓reduceIte, g3, g5, ha.ld, hp1, hp2, iE, hfw, q2]
    have hfin := ha.turned q3 (Grow.put hid q5 _)
    refine ⟨hfin.el, o2, rdyB fr1 [(K.ofNat 8)] f57_a0 f57_b0, ?_⟩
    have hst : cntS ((mem64 B).take (j + 1)) = (cpad (cntS ((mem64 B).take j)) (pop6 (mem64 B)[j])).set (pop6 (mem64 B)[j]) ((cpad (cntS ((mem64 B).take j)) (pop6 (mem64 B)[j]))[pop6 (mem64 B)[j]] + 1) := by
      rw [List.take_succ_eq_append_getElem hj', cntS_snoc]
      unfold cstep
      rw [show (cpad (cntS ((mem64 B).take j)) (pop6 (mem64 B)[j])).getD (pop6 (mem64 B)[j]) 0 = (cpad (cntS ((mem64 B).take j)) (pop6 (mem64 B)[j]))[pop6 (mem64 B)[j]] by simp [List.getD, hml]]
    rw [hst]
    exact hfin.loop _
  · rintro h5 ⟨o, lb, ht⟩
    have ht2 := ht.loop .dead
    rw [hlen, List.take_length] at ht2
    simp (disch := omega) only [f57_r8, f57_rs, w_reg, w_seq, w_ret, seqK_n, atK_n, retK_r, x_nil, x_as, x_ld, kx, rvP_ok, ev_t, getV_some, putD_some, oGet_s, readRs_nil, readRs_t, retV_1, Option.some.injEq, exists_eq_left', getK_set, ↓reduceIte, f3, ht2.ld]
    exact ⟨ht2.sl, ht2.own.low (by omega), ht2.gr⟩
end
end Go.Ev
namespace Go.Ev
open Go Go.RowKit
noncomputable def f89_r0 : List EOper := [⟨(some (K.ofNat 2)), none, .box 64 (.t (K.ofNat 0))⟩, ⟨(some (K.ofNat 3)), none, .box 1 (.t (K.ofNat 1))⟩, ⟨(some (K.ofNat 4)), none, .as (.c (.i .i64 (.ofNat 0)))⟩]
noncomputable def f89_r1 : List EOper := [⟨(some (K.ofNat 5)), none, .alloc 1 [.sn]⟩]
noncomputable def f89_r2 : List EOper := [⟨(some (K.ofNat 7)), none, .ldn 64 (.t (K.ofNat 2))⟩, ⟨(some (K.ofNat 8)), none, .call (.c (.fn (K.ofNat 78) [])) [(.t (K.ofNat 7))]⟩]
noncomputable def f89_r3 : List EOper := [⟨(some (K.ofNat 6)), none, .as (.t (K.ofNat 9))⟩]
noncomputable def f89_a0 : EC := (.reg f89_r3)
noncomputable def f89_r4 : List Stage := [⟨[⟨(some (K.ofNat 10)), none, .mv (.t (K.ofNat 6))⟩, ⟨(some (K.ofNat 12)), none, .ld (.t (K.ofNat 3))⟩], [], (some ⟨(some (K.ofNat 11)), none, .call (.c (.fn (K.ofNat 75) [])) [(.t (K.ofNat 10))]⟩), []⟩, ⟨[⟨(some (K.ofNat 13)), none, .bin .eql (.t (K.ofNat 11)) (.t (K.ofNat 12))⟩], [⟨(some (K.ofNat 12)), none, .ld (.t (K.ofNat 3))⟩], none, []⟩]
noncomputable def f89_r5 : List Stage := [⟨[⟨(some (K.ofNat 14)), none, .ld (.t (K.ofNat 5))⟩, ⟨(some (K.ofNat 15)), none, .mv (.t (K.ofNat 6))⟩], [], (some ⟨(some (K.ofNat 16)), none, .call (.c (.fn (K.ofNat 93) [])) [(.t (K.ofNat 15))]⟩), []⟩, ⟨[⟨(some (K.ofNat 17)), none, .bslice 1 1 [(.i .u64 (.ofNat 0))] [(0, 1, (.t (K.ofNat 16)))]⟩], [⟨(some (K.ofNat 14)), none, .ld (.t (K.ofNat 5))⟩], (some ⟨(some (K.ofNat 18)), none, .app 1 (.t (K.ofNat 14)) (.t (K.ofNat 17))⟩), [(K.ofNat 17)]⟩, ⟨[], [], (some ⟨none, none, .st 1 (.t (K.ofNat 5)) (.t (K.ofNat 18))⟩), []⟩, ⟨[], [], none, []⟩]
noncomputable def f89_b0 : EC := (.block 1 (.seq (.draw f89_r4) (.cond (.t (K.ofNat 13)) (.draw f89_r5) .skip)))
noncomputable def f89_r6 : List EOper := [⟨(some (K.ofNat 19)), none, .ld (.t (K.ofNat 5))⟩, ⟨(some (K.ofNat 20)), none, .call (.c (.fn (K.ofNat 94) [])) [(.t (K.ofNat 19))]⟩, ⟨(some (K.ofNat 4)), none, .as (.t (K.ofNat 20))⟩]
noncomputable def f89_c : EC := (.seq (.reg f89_r0) (.seq (.reg f89_r1) (.seq (.seq (.reg f89_r2) (.block 0 (.rangeF (.t (K.ofNat 8)) [(K.ofNat 9)] f89_a0 f89_b0))) (.seq (.reg f89_r6) .ret))))
noncomputable def f89 : EF := ⟨21, [.tmp (K.ofNat 4)], f89_c, none⟩
theorem f89_rs : f89.rs = [.tmp (K.ofNat 4)] := of_eq_true (eq_self _)
section
variable {fs : T EF} {ro : Option K}
noncomputable def rowsOf (l : List Nat) (k : Nat) : List Nat := (l.filter fun x => decide (pop6 x = k)).map bordX
theorem rowsOf_snoc {l : List Nat} {x k : Nat} : rowsOf (l ++ [x]) k = if pop6 x = k then rowsOf l k ++ [bordX x] else rowsOf l k := by
  unfold rowsOf
  rw [List.filter_append, List.map_append]
  by_cases e : pop6 x = k <;> simp [e]
theorem rowsOf_len {l : List Nat} {k : Nat} : (rowsOf l k).length ≤ l.length := by unfold rowsOf; rw [List.length_map]; exact List.length_filter_le _ _
theorem bordX_lt {x : Nat} (hx : x < 64) : bordX x < 9223372036854775808 := by
  have := bordTo_lt hx (cornN x).length (Nat.le_refl _)
  rwa [show bordTo x (cornN x).length = bordX x by unfold bordTo bordX; rw [List.take_length]] at this
theorem rows_small {l : List Nat} {k : Nat} (h : ∀ x ∈ l, x < 64) : Small (rowsOf l k) := by
  intro y hy
  unfold rowsOf at hy
  obtain ⟨x, hx, rfl⟩ := List.mem_map.1 hy
  exact bordX_lt (h x (List.mem_filter.1 hx).1)
theorem mem64_lt {B : Nat → Bool} : ∀ x ∈ mem64 B, x < 64 := fun x hx => by
  unfold mem64 at hx
  rw [List.mem_filter, List.mem_range] at hx
  exact hx.1
/-- The rank of the borders of the faces of this size. -/
noncomputable def brS (B : Nat → Bool) (k : Nat) : Nat := rankS (rowsOf (mem64 B) k)
theorem f89_ret {h : H} {B : Nat → Bool} {k : Nat} {ef : EF} (hp75 : ∀ m : Nat, m < 64 → ∀ h P, CallP fs (.fn (K.ofNat 75) []) [.i .i64 (m : Int)] h P = P (.i .i64 (pop6 m : Int)) h)
    (h78 : fs.get (K.ofNat 78) = some f78) (h91 : fs.get (K.ofNat 91) = some alF) (h82 : fs.get (K.ofNat 82) = some f82) (h92 : fs.get (K.ofNat 92) = some coF) (h54 : fs.get (K.ofNat 54) = some ef) (hn : ef.nv = some (flatG partG)) (h93 : fs.get (K.ofNat 93) = some f93) (h94 : fs.get (K.ofNat 94) = some f94) (hc : HC h) :
    Ret fs f89 [.agg (boolV B), .i .i64 (k : Int)] h fun u h' => u = .i .i64 (brS B k : Int) ∧ Grow h.nx.nat h h' := by
  apply ret_of rfl
  show W fs none f89_c _ _ _
  unfold f89_c
  have n1 := nx_new h (.cells 64 (boolV B))
  have n2 := nx_new (h.new (.cells 64 (boolV B))) (.cells 1 [nE k])
  have n3 := nx_new ((h.new (.cells 64 (boolV B))).new (.cells 1 [nE k])) (.cells 1 [.sn])
  have hcn : cellsN 1 (.i .i64 (k : Int)) = some [nE k] := rfl
  have hA : Ar V.b (((h.new (.cells 64 (boolV B))).new (.cells 1 [nE k])).new (.cells 1 [.sn])) h.nx (arr B 64) := by
    unfold Ar; rw [arr_len, get_new_old (by omega), get_new_old (by omega), get_new_same]; rfl
  simp (disch := omega) only [f89_r0, f89_r1, f89_r2, w_reg, w_seq, seqK_n, x_nil, x_as, x_alloc, x_box, x_ldn, x_call, kx, rvP_ok, ev_t, ev_c, evs_nil, evs_cons, getV_some, putD_some, oGet_s, frame_2, of0, getK_set, Nat.reduceEqDiff, ↓reduceIte, cells64 (boolV_len (B := B)), hcn, hA.ldn (n := 64) (by rw [arr_len])]
  refine (callP_0 (ef := f78) h78 rfl (f78_ret (boolV_len (B := B)))).mono ?_
  rintro u h1 ⟨rfl, rfl⟩
  simp (disch := omega) only [w_block, seqK_n, x_nil, kx, putD_some]
  have g0 : Grow h.nx.nat h (((h.new (.cells 64 (boolV B))).new (.cells 1 [nE k])).new (.cells 1 [.sn])) := ((Grow.new (Nat.le_refl _) _).trans (Grow.new (by omega) _)).trans (Grow.new (by omega) _)
  have e5 : (((h.new (.cells 64 (boolV B))).new (.cells 1 [nE k])).new (.cells 1 [.sn])).get ((h.new (.cells 64 (boolV B))).new (.cells 1 [nE k])).nx = .cells 1 [.sn] := get_new_same
  have e3 : (((h.new (.cells 64 (boolV B))).new (.cells 1 [nE k])).new (.cells 1 [.sn])).get (h.new (.cells 64 (boolV B))).nx = .cells 1 [nE k] := by rw [get_new_old (by omega), get_new_same]
  generalize hid5 : ((h.new (.cells 64 (boolV B))).new (.cells 1 [nE k])).nx = id5 at *
  generalize hid3 : (h.new (.cells 64 (boolV B))).nx = id3 at *
  generalize hh2 : ((h.new (.cells 64 (boolV B))).new (.cells 1 [nE k])).new (.cells 1 [.sn]) = h2 at *
  have n4 := nx_new h2 (.cells 64 (boolV B))
  have hc2 := g0.hc hc
  have ga : Grow h2.nx.nat h2 (h2.new (.cells 64 (boolV B))) := Grow.new (Nat.le_refl _) _
  have ef : (h2.new (.cells 64 (boolV B))).get h2.nx = .cells 64 (boolV B) := get_new_same
  rw [← ga.old _ (by omega)] at e3 e5
  have g1 := g0.trans (ga.low (b := h.nx.nat) (by omega))
  generalize hh3 : h2.new (.cells 64 (boolV B)) = h3 at *
  have hc3 := g1.hc hc
  generalize hfr1 : T.set (K.ofNat 8) (V.fn (K.ofNat 91) [V.p h2.nx 0]) _ = fr1
  have f8 : fr1.get (K.ofNat 8) = some (.fn (K.ofNat 91) [.p h2.nx 0]) := by rw [← hfr1]; simp (disch := omega) only [getK_set, ↓reduceIte]
  have f3 : fr1.get (K.ofNat 3) = some (.p id3 0) := by rw [← hfr1]; simp (disch := omega) only [getK_set, Nat.reduceEqDiff, ↓reduceIte]
  have f5 : fr1.get (K.ofNat 5) = some (.p id5 0) := by rw [← hfr1]; simp (disch := omega) only [getK_set, Nat.reduceEqDiff, ↓reduceIte]
  clear hfr1
  have hlen := ysOf_len (B := B)
  have n5 := nx_new h3 (rdyB fr1 [(K.ofNat 9)] f89_a0 f89_b0)
  have hnew : Grow h3.nx.nat h3 (h3.new (rdyB fr1 [(K.ofNat 9)] f89_a0 f89_b0)) := Grow.new (Nat.le_refl _) _
  refine W_range (k := (K.ofNat 91)) (caps := [.p h2.nx 0]) (N := fun h => h.get h2.nx = .cells 64 (boolV B)) (ys := ysOf B) rfl (by simp (disch := omega) only [ev_t, getV_some, f8]) (all_yields h91 boolV_at)
    (fun j h5 => ∃ o lb, AccI uE h.nx.nat h id5 h3.nx [(id3, .cells 1 [nE k]), (h2.nx, .cells 64 (boolV B))] o (rowsOf ((mem64 B).take j) k) lb h5) (fun _ _ => False) (fun i h5 ⟨o, lb, ht⟩ => ht.kp (h2.nx, _) (by simp))
    ⟨.sn, _, Sl.nil, Own.sn, g1.trans (hnew.low (by omega)), by rw [hnew.old _ (by omega)]; exact e5, ?_, get_new_same, by omega, by omega, by omega, ?_⟩ ?_ ?_ (fun _ _ _ hf => hf.elim)
  · intro p hp
    rcases List.mem_cons.1 hp with rfl | hp
    · show H.get _ id3 = _
      rw [hnew.old _ (by omega)]; exact e3
    · obtain rfl := List.mem_singleton.1 hp
      show H.get _ h2.nx = _
      rw [hnew.old _ (by omega)]; exact ef
  · intro p hp
    rcases List.mem_cons.1 hp with rfl | hp
    · exact ⟨by show id3.nat < _; omega, kNe (show id3.nat < id5.nat by omega)⟩
    · obtain rfl := List.mem_singleton.1 hp
      exact ⟨by show h2.nx.nat < _; omega, (kNe (show id5.nat < h2.nx.nat by omega)).symm⟩
  · rintro j h5 hj ⟨o, lb, ht⟩ hrd
    have hj' : j < (mem64 B).length := by omega
    rw [ysOf_at hj]
    obtain rfl : lb = rdyB fr1 [(K.ofNat 9)] f89_a0 f89_b0 := ht.el.symm.trans hrd
    rw [show ∀ Q fr h, W fs (some h3.nx) f89_a0 Q fr h = X fs f89_r3 (Q .normal) fr h from fun _ _ _ => rfl]
    simp (disch := omega) only [f89_r3, rndA_n, x_nil, x_as, ev_t, getV_some, putD_some, getK_set, ↓reduceIte]
    refine ⟨ht.el, ?_⟩
    have ht7 := ht.loop (bsyB fr1 [(K.ofNat 9)] f89_a0 f89_b0)
    generalize h5.put h3.nx (bsyB fr1 [(K.ofNat 9)] f89_a0 f89_b0) = h7 at *
    have hc7 := ht7.gr.hc hc
    have hx64 := mem64_lt _ (List.getElem_mem hj')
    have hll := mem64_len (B := B)
    have hrl := rowsOf_len (l := (mem64 B).take j) (k := k)
    rw [List.length_take] at hrl
    have ld3 : loadV h7 (.p id3 0) one? = .ok (.i .i64 (k : Int)) h7 := load_p (ht7.kp (id3, .cells 1 [nE k]) (by simp)) rfl
    have hsn := rowsOf_snoc (l := (mem64 B).take j) (x := (mem64 B)[j]) (k := k)
    rw [← List.take_succ_eq_append_getElem hj'] at hsn
    rw [show ∀ Q fr h, W fs (some h3.nx) f89_b0 Q fr h = W fs (some h3.nx) (.block 1 (.seq (.draw f89_r4) (.cond (.t (K.ofNat 13)) (.draw f89_r5) .skip))) Q fr h from fun _ _ _ => rfl]
    by_cases e : pop6 (mem64 B)[j] = k
    · have e' : ((pop6 (mem64 B)[j] : Nat) : Int) = (k : Int) := by omega
      rw [if_pos e] at hsn
      simp (disch := omega) only [f89_r4, f89_r5, w_draw, w_seq, w_cond, w_block, seqK_n, ckB_b, cbB_b, true_and, x_nil, x_call, kx, kg, xg_nil, xg_mv, xg_ld, xg_bin, xd_cons, fresh_nil, stK_n, stK_s, stay_nil, stay_cons, again_ok, beq_i, stay_ld, rvP_ok, okv_some, ev_t, ev_c, evs_nil, evs_cons, getV_some, putD_some, bin_eql, of0, getK_set, Nat.reduceEqDiff, ↓reduceIte, f3, f5, ld3, hp75 _ hx64, e', decide_true, ht7.ld]
      refine (callP_0 (ef := f93) h93 rfl (f93_ret h82 h92 h54 hn hx64)).mono ?_
      rintro u h8 ⟨rfl, g8⟩
      have ht8 := ht7.grow hc7 g8
      have hc8 := ht8.gr.hc hc
      obtain ⟨v', h', p1, p2, p3⟩ := ht8.push (x := bordX (mem64 B)[j]) (c := .i .u64 (bordX (mem64 B)[j] : Int)) rfl hc8 (by omega)
      have ld5 : loadV (h8.new (.cells (1 * 1) [.i .u64 (bordX (mem64 B)[j] : Int)])) (.p id5 0) one? = .ok o _ := load_p (by rw [get_new_old (by have := ht8.nx; have := ht8.o1; omega)]; exact ht8.eb) rfl
      simp (disch := omega) only [atK_n, true_and, rndK_n, x_nil, x_st, x_app, kx, xg_nil, xg_bslice, xd_cons, fresh_nil, stK_n, stK_s, stay_nil, stay_cons, again_ok, stay_ld, rvP_ok, ev_t, getV_some, putD_some, putD_none, oGet_s, cells1_i, fill_1, set_1, Option.some.injEq, exists_eq_left', getK_set, Nat.reduceEqDiff, ↓reduceIte, f5, uE, hc8.dead, ld5, ht8.sl.beq, p1, p2]
      refine ⟨fresh_one (n := 1) (sz := 1) (by simp (disch := omega) only [getK_set, ↓reduceIte]), ?_⟩
      refine ⟨p3.el, v', rdyB fr1 [(K.ofNat 9)] f89_a0 f89_b0, ?_⟩
      rw [hsn]
      exact p3.loop _
    · have e' : ¬ ((pop6 (mem64 B)[j] : Nat) : Int) = (k : Int) := by omega
      rw [if_neg e] at hsn
      simp (disch := omega) only [f89_r4, f89_r5, w_skip, w_draw, w_seq, w_cond, w_block, seqK_n, atK_n, ckB_b, cbB_b, true_and, rndK_n, x_nil, x_call, kx, kg, xg_nil, xg_mv, xg_ld, xg_bin, xd_cons, fresh_nil, stK_n, stK_s, stay_nil, stay_cons, again_ok, beq_i, stay_ld, rvP_ok, okv_some, ev_t, ev_c, evs_nil, evs_cons, getV_some, putD_some, bin_eql, of0, getK_set, Nat.reduceEqDiff, ↓reduceIte, Bool.false_eq_true, f3, ld3, hp75 _ hx64, e', decide_false]
      refine ⟨ht7.el, o, rdyB fr1 [(K.ofNat 9)] f89_a0 f89_b0, ?_⟩
      rw [hsn]
      exact ht7.loop _
  · rintro h5 ⟨o, lb, ht⟩
    have ht2 := ht.loop .dead
    rw [hlen, List.take_length] at ht2
    have hll := mem64_len (B := B)
    have hrl := rowsOf_len (l := mem64 B) (k := k)
    simp (disch := omega) only [f89_r6, w_reg, w_seq, seqK_n, atK_n, x_ld, x_call, kx, rvP_ok, ev_t, ev_c, evs_nil, evs_cons, getV_some, putD_some, getK_set, ↓reduceIte, f5, ht2.ld]
    refine (callP_0 (ef := f94) h94 rfl (f94_ret (b := h3.nx.nat + 1) ht2.sl (rows_small mem64_lt) ht2.own ht2.nx (ht2.gr.hc hc) (by omega))).mono ?_
    rintro u h6 ⟨rfl, g6⟩
    simp (disch := omega) only [f89_rs, w_ret, seqK_n, retK_r, x_nil, x_as, kx, ev_t, getV_some, putD_some, oGet_s, readRs_nil, readRs_t, retV_1, Option.some.injEq, exists_eq_left', getK_set, ↓reduceIte]
    exact ⟨rfl, ht2.gr.trans (g6.low (by omega))⟩
end
end Go.Ev
namespace Go.Ev
open Go Go.RowKit
noncomputable def f64_r0 : List EOper := [⟨(some (K.ofNat 1)), none, .box 64 (.t (K.ofNat 0))⟩, ⟨(some (K.ofNat 2)), none, .as (.c .sn)⟩]
noncomputable def f64_r1 : List EOper := [⟨(some (K.ofNat 6)), none, .ldn 64 (.t (K.ofNat 1))⟩, ⟨(some (K.ofNat 7)), none, .call (.c (.fn (K.ofNat 57) [])) [(.t (K.ofNat 6))]⟩, ⟨(some (K.ofNat 3)), none, .as (.t (K.ofNat 7))⟩]
noncomputable def f64_r2 : List EOper := [⟨(some (K.ofNat 8)), none, .mv (.t (K.ofNat 3))⟩, ⟨(some (K.ofNat 9)), none, .len (.t (K.ofNat 8))⟩, ⟨(some (K.ofNat 10)), none, .bin .sub (.t (K.ofNat 9)) (.c (.i .i64 (.ofNat 1)))⟩, ⟨(some (K.ofNat 11)), none, .mkslice 1 [(.i .i64 (.ofNat 0))] (.t (K.ofNat 10))⟩, ⟨(some (K.ofNat 4)), none, .as (.t (K.ofNat 11))⟩]
noncomputable def f64_r3 : List EOper := [⟨(some (K.ofNat 12)), none, .mv (.t (K.ofNat 4))⟩, ⟨(some (K.ofNat 13)), none, .len (.t (K.ofNat 12))⟩, ⟨(some (K.ofNat 14)), none, .mv (.c (.i .i64 (.ofNat 0)))⟩]
noncomputable def f64_r4 : List EOper := [⟨(some (K.ofNat 15)), none, .bin .lss (.t (K.ofNat 14)) (.t (K.ofNat 13))⟩]
noncomputable def f64_r5 : List EOper := [⟨(some (K.ofNat 16)), none, .mv (.t (K.ofNat 14))⟩, ⟨(some (K.ofNat 5)), none, .as (.t (K.ofNat 16))⟩]
noncomputable def f64_r6 : List Stage := [⟨[⟨(some (K.ofNat 17)), none, .mv (.t (K.ofNat 4))⟩, ⟨(some (K.ofNat 18)), none, .mv (.t (K.ofNat 5))⟩, ⟨(some (K.ofNat 19)), none, .mv (.t (K.ofNat 3))⟩, ⟨(some (K.ofNat 20)), none, .mv (.t (K.ofNat 5))⟩, ⟨(some (K.ofNat 21)), none, .bin .add (.t (K.ofNat 20)) (.c (.i .i64 (.ofNat 1)))⟩, ⟨(some (K.ofNat 22)), none, .iads 1 (.t (K.ofNat 19)) (.t (K.ofNat 21))⟩, ⟨(some (K.ofNat 23)), none, .ld (.t (K.ofNat 22))⟩, ⟨(some (K.ofNat 24)), none, .ldn 64 (.t (K.ofNat 1))⟩, ⟨(some (K.ofNat 25)), none, .mv (.t (K.ofNat 5))⟩, ⟨(some (K.ofNat 26)), none, .bin .add (.t (K.ofNat 25)) (.c (.i .i64 (.ofNat 1)))⟩, ⟨(some (K.ofNat 29)), none, .ldn 64 (.t (K.ofNat 1))⟩, ⟨(some (K.ofNat 30)), none, .mv (.t (K.ofNat 5))⟩, ⟨(some (K.ofNat 31)), none, .bin .add (.t (K.ofNat 30)) (.c (.i .i64 (.ofNat 2)))⟩], [], (some ⟨(some (K.ofNat 27)), none, .call (.c (.fn (K.ofNat 89) [])) [(.t (K.ofNat 24)), (.t (K.ofNat 26))]⟩), []⟩, ⟨[⟨(some (K.ofNat 28)), none, .bin .sub (.t (K.ofNat 23)) (.t (K.ofNat 27))⟩], [⟨(some (K.ofNat 17)), none, .mv (.t (K.ofNat 4))⟩, ⟨(some (K.ofNat 18)), none, .mv (.t (K.ofNat 5))⟩, ⟨(some (K.ofNat 19)), none, .mv (.t (K.ofNat 3))⟩, ⟨(some (K.ofNat 20)), none, .mv (.t (K.ofNat 5))⟩, ⟨(some (K.ofNat 21)), none, .bin .add (.t (K.ofNat 20)) (.c (.i .i64 (.ofNat 1)))⟩, ⟨(some (K.ofNat 22)), none, .iads 1 (.t (K.ofNat 19)) (.t (K.ofNat 21))⟩, ⟨(some (K.ofNat 23)), none, .ld (.t (K.ofNat 22))⟩, ⟨(some (K.ofNat 29)), none, .ldn 64 (.t (K.ofNat 1))⟩, ⟨(some (K.ofNat 30)), none, .mv (.t (K.ofNat 5))⟩, ⟨(some (K.ofNat 31)), none, .bin .add (.t (K.ofNat 30)) (.c (.i .i64 (.ofNat 2)))⟩], (some ⟨(some (K.ofNat 32)), none, .call (.c (.fn (K.ofNat 89) [])) [(.t (K.ofNat 29)), (.t (K.ofNat 31))]⟩), []⟩, ⟨[⟨(some (K.ofNat 33)), none, .bin .sub (.t (K.ofNat 28)) (.t (K.ofNat 32))⟩, ⟨(some (K.ofNat 34)), none, .iads 1 (.t (K.ofNat 17)) (.t (K.ofNat 18))⟩], [⟨(some (K.ofNat 17)), none, .mv (.t (K.ofNat 4))⟩, ⟨(some (K.ofNat 18)), none, .mv (.t (K.ofNat 5))⟩, ⟨(some (K.ofNat 19)), none, .mv (.t (K.ofNat 3))⟩, ⟨(some (K.ofNat 20)), none, .mv (.t (K.ofNat 5))⟩, ⟨(some (K.ofNat 21)), none, .bin .add (.t (K.ofNat 20)) (.c (.i .i64 (.ofNat 1)))⟩, ⟨(some (K.ofNat 22)), none, .iads 1 (.t (K.ofNat 19)) (.t (K.ofNat 21))⟩, ⟨(some (K.ofNat 23)), none, .ld (.t (K.ofNat 22))⟩, ⟨(some (K.ofNat 28)), none, .bin .sub (.t (K.ofNat 23)) (.t (K.ofNat 27))⟩], (some ⟨none, none, .st 1 (.t (K.ofNat 34)) (.t (K.ofNat 33))⟩), []⟩, ⟨[], [], none, []⟩]
noncomputable def f64_r7 : List EOper := [⟨(some (K.ofNat 35)), none, .bin .add (.t (K.ofNat 14)) (.c (.i .i64 (.ofNat 1)))⟩, ⟨(some (K.ofNat 14)), none, .mv (.t (K.ofNat 35))⟩]
noncomputable def f64_l0 : EC := (.seq (.reg f64_r4) (.seq (.cond (.t (K.ofNat 15)) .skip (.exit 0)) (.seq (.block 1 (.seq (.reg f64_r5) (.draw f64_r6))) (.reg f64_r7))))
noncomputable def f64_r8 : List EOper := [⟨(some (K.ofNat 36)), none, .mv (.t (K.ofNat 4))⟩, ⟨(some (K.ofNat 2)), none, .as (.t (K.ofNat 36))⟩]
noncomputable def f64_c : EC := (.seq (.reg f64_r0) (.seq (.reg f64_r1) (.seq (.reg f64_r2) (.seq (.seq (.reg f64_r3) (.block 0 (.loop f64_l0))) (.seq (.reg f64_r8) .ret)))))
noncomputable def f64 : EF := ⟨37, [.tmp (K.ofNat 2)], f64_c, none⟩
theorem f64_rs : f64.rs = [.tmp (K.ofNat 2)] := of_eq_true (eq_self _)
section
variable {fs : T EF} {ro : Option K}
theorem stay_ldn {n : Nat} {k : K} {x : EO} {fr : Fr} {h : H} : (stays fs goNo fr h ⟨some k, none, .ldn n x⟩ = true) = again (loadV h (ev fr x) (many? n)) (getV (fr.get k)) := chk_again
theorem beqL_b : ∀ l : List Bool, beqL (l.map V.b) (l.map V.b) = true
  | [] => rfl
  | a :: l => by
    show (a == a && beqL (l.map V.b) (l.map V.b)) = true
    rw [beqL_b l]; cases a <;> rfl
theorem beq_boolV {B : Nat → Bool} : beqV (.agg (boolV B)) (.agg (boolV B)) = true := beqL_b (arr B 64)
noncomputable def hvS (C : List Int) (B : Nat → Bool) (t : Nat) : Int := fw .i64 (fw .i64 (C.getD (t + 1) 0 - (brS B (t + 1) : Int)) - (brS B (t + 2) : Int))
noncomputable def hollS (C : List Int) (B : Nat → Bool) : List Int := (List.range (C.length - 1)).map (hvS C B)
def f64_I (h : H) (B : Nat → Bool) (id1 : K) (C : List Int) (v3 v4 : V) (n i : Nat) (fr : Fr) (h1 : H) : Prop := ∃ L, i ≤ n ∧ L.length = n ∧ (∀ t, t < i → L.getD t 0 = hvS C B t) ∧ Sl iE h1 v3 C ∧ Sl iE h1 v4 L ∧ (∀ id off n sz, v4 = .sl id off n sz → NotIn id v3 ∧ id ≠ id1) ∧ Own h.nx.nat v4 ∧ h1.get id1 = .cells 64 (boolV B) ∧ Grow h.nx.nat h h1 ∧ fr.get (K.ofNat 1) = some (.p id1 0) ∧ fr.get (K.ofNat 3) = some (v3) ∧ fr.get (K.ofNat 4) = some (v4) ∧ fr.get (K.ofNat 13) = some (.i .i64 (n : Int)) ∧ fr.get (K.ofNat 14) = some (.i .i64 (i : Int))
theorem f64_ret {h : H} {B : Nat → Bool} {ef : EF} (hp75 : ∀ m : Nat, m < 64 → ∀ h P, CallP fs (.fn (K.ofNat 75) []) [.i .i64 (m : Int)] h P = P (.i .i64 (pop6 m : Int)) h)
    (h57 : fs.get (K.ofNat 57) = some f57) (h78 : fs.get (K.ofNat 78) = some f78) (h91 : fs.get (K.ofNat 91) = some alF) (h82 : fs.get (K.ofNat 82) = some f82) (h92 : fs.get (K.ofNat 92) = some coF) (h54 : fs.get (K.ofNat 54) = some ef) (hn : ef.nv = some (flatG partG)) (h93 : fs.get (K.ofNat 93) = some f93) (h94 : fs.get (K.ofNat 94) = some f94) (h89 : fs.get (K.ofNat 89) = some f89) (hc : HC h) (hne : 1 ≤ (cntS (mem64 B)).length) :
    Ret fs f64 [.agg (boolV B)] h fun u h' => Sl iE h' u (hollS (cntS (mem64 B)) B) ∧ Own h.nx.nat u ∧ Grow h.nx.nat h h' := by
  apply ret_of rfl
  show W fs none f64_c _ _ _
  unfold f64_c
  have n1 := nx_new h (.cells 64 (boolV B))
  have g1 : Grow h.nx.nat h (h.new (.cells 64 (boolV B))) := Grow.new (Nat.le_refl _) _
  have e1 : (h.new (.cells 64 (boolV B))).get h.nx = .cells 64 (boolV B) := get_new_same
  have hA : Ar V.b (h.new (.cells 64 (boolV B))) h.nx (arr B 64) := by
    unfold Ar; rw [arr_len, get_new_same]; rfl
  have ldA : loadV (h.new (.cells 64 (boolV B))) (.p h.nx 0) (many? 64) = .ok (.agg (boolV B)) _ := hA.ldn (n := 64) (by rw [arr_len])
  simp (disch := omega) only [f64_r0, f64_r1, w_reg, w_seq, seqK_n, x_nil, x_as, x_box, x_ldn, x_call, kx, rvP_ok, ev_t, ev_c, evs_nil, evs_cons, getV_some, putD_some, oGet_s, frame_1, getK_set, Nat.reduceEqDiff, ↓reduceIte, cells64 (boolV_len (B := B)), ldA]
  generalize hh1 : h.new (.cells 64 (boolV B)) = h1 at *
  have hc1 := g1.hc hc
  refine (callP_0 (ef := f57) h57 rfl (f57_ret (B := B) hp75 h78 h91 hc1)).mono ?_
  rintro v3 h2 ⟨hs3, ho3, g2⟩
  have hl7 := cntS_len (mem64 B)
  generalize hC : cntS (mem64 B) = C at *
  have hc2 := g2.hc hc1
  have e2 : h2.get h.nx = .cells 64 (boolV B) := by rw [g2.old _ (by omega)]; exact e1
  have hsub : fw .i64 ((C.length : Int) - 1) = ((C.length - 1 : Nat) : Int) := by rw [fw64 (by omega) (by omega)]; omega
  have gg2 := g1.trans (g2.low (b := h.nx.nat) (by omega))
  have n2 := nx_new h2 (.cells ((C.length - 1) * 1) (rep [.i .i64 0] (C.length - 1)))
  have g3 : Grow h2.nx.nat h2 (h2.new (.cells ((C.length - 1) * 1) (rep [.i .i64 0] (C.length - 1)))) := Grow.new (Nat.le_refl _) _
  have hs4 := mks_sl (h := h2) (n := C.length - 1)
  simp (disch := omega) only [f64_r2, f64_r3, w_reg, w_seq, w_block, seqK_n, x_nil, x_mv, x_as, x_bin, x_mks, x_len, kx, rvP_ok, okv_some, ev_t, ev_c, getV_some, putD_some, bin_sub, len_sl, of0, of1, getK_set, ↓reduceIte, hs3.len, hsub, mks_ints (h := h2) (k := .i64) (n := C.length - 1) (by omega)]
  have hgr0 := gg2.nx
  have hgr1 := g2.nx
  have hdis0 : ∀ id off n sz, V.sl h2.nx 0 (C.length - 1) 1 = .sl id off n sz → NotIn id v3 ∧ id ≠ h.nx := by
    rintro id off n sz e; cases e
    refine ⟨fun off n sz e => ?_, (kNe (by omega)).symm⟩
    have := hs3.lt hc2 _ off n sz e
    omega
  have hown0 : Own h.nx.nat (.sl h2.nx 0 (C.length - 1) 1) := by
    rintro id off n sz e; cases e; omega
  refine W_loop (f64_I h B h.nx C v3 (.sl h2.nx 0 (C.length - 1) 1) (C.length - 1)) (fun i => C.length - 1 - i) ?_ 0 ⟨List.replicate (C.length - 1) 0, Nat.zero_le _, by simp, fun t ht => by omega, hs3.grow hc2 g3, hs4, hdis0, hown0, by rw [g3.old _ (by omega)]; exact e2, gg2.trans (g3.low (by omega)), by simp (disch := omega) only [getK_set, Nat.reduceEqDiff, ↓reduceIte, and_self, Int.natCast_zero]⟩
  generalize hv4 : V.sl h2.nx 0 (C.length - 1) 1 = v4
  generalize hid : h.nx = id1 at *
  rintro i fr h5 ⟨L, hi, hl, hL, hs3, hs4, hdis, hown, e1, hgr, gg1, gg3, gg4, gg13, gg14⟩
  have hc5 := hgr.hc hc
  unfold f64_l0
  by_cases hlt : i < C.length - 1
  · have hlt' : (i : Int) < ((C.length - 1 : Nat) : Int) := by omega
    have hiC : i + 1 < C.length := by omega
    have hg : C.getD (i + 1) 0 = C[i + 1] := by simp [List.getD, hiC]
    have hil : i < L.length := by omega
    have a1 : fw .i64 ((i : Int) + 1) = ((i + 1 : Nat) : Int) := by rw [fw64 (by omega) (by omega)]; omega
    have a2 : fw .i64 ((i : Int) + 2) = ((i + 2 : Nat) : Int) := by rw [fw64 (by omega) (by omega)]; omega
    obtain ⟨p, hp1, hp2, hp3⟩ := hs3.atb (i + 1) hiC
    have ldB : ∀ h' : H, h'.get id1 = .cells 64 (boolV B) → loadV h' (.p id1 0) (many? 64) = .ok (.agg (boolV B)) h' := fun h' e => by
      have hA : Ar V.b h' id1 (arr B 64) := by unfold Ar; rw [arr_len, e]; rfl
      exact hA.ldn (n := 64) (by rw [arr_len])
    have ldC : ∀ h' : H, Grow h5.nx.nat h5 h' → loadV h' p one? = .ok (.i .i64 C[i + 1]) h' := fun h' g => by
      obtain ⟨q, hq1, hq2, _⟩ := (hs3.grow hc5 g).atb (i + 1) hiC
      have := hp1 .i64 h'
      rw [hq1 .i64 h'] at this
      cases this; exact hq2
    have l1 := hc5.cells e1
    simp (disch := omega) only [f64_r4, f64_r5, f64_r6, w_skip, w_reg, w_draw, w_seq, w_cond, w_block, seqK_n, ckB_b, cbB_b, true_and, x_nil, x_mv, x_as, x_bin, x_call, kx, kg, xg_nil, xg_mv, xg_ld, xg_ldn, xg_bin, xg_iads, xd_cons, fresh_nil, stK_s, stay_nil, rvP_ok, okv_some, ev_t, ev_c, evs_nil, evs_cons, getV_some, putD_some, bin_add, bin_lss, of1, of2, getK_set, Nat.reduceEqDiff, ↓reduceIte, gg1, gg3, gg4, gg13, gg14, hlt', decide_true, a1, a2, hp1, ldC h5 (Grow.refl _ _), ldB h5 e1]
    refine (callP_0 (ef := f89) h89 rfl (f89_ret (B := B) (k := i + 1) hp75 h78 h91 h82 h92 h54 hn h93 h94 hc5)).mono ?_
    rintro u h6 ⟨rfl, g6⟩
    have hc6 := g6.hc hc5
    have e6 : h6.get id1 = .cells 64 (boolV B) := by rw [g6.old _ l1]; exact e1
    simp (disch := omega) only [true_and, x_nil, x_call, kx, kg, xg_nil, xg_bin, xd_cons, fresh_nil, stK_s, stay_nil, stay_cons, again_ok, stay_mv, beq_i, stay_iads, stay_ld, stay_bin, rvP_ok, okv_some, ev_t, ev_c, evs_nil, evs_cons, getV_some, putD_some, bin_add, bin_sub, getK_set, Nat.reduceEqDiff, ↓reduceIte, gg1, gg3, gg4, stay_ldn, a1, a2, hp1, hp3, ldC h6 g6, ldB h6 e6, beq_boolV, hs3.beq, hs4.beq, and_self]
    refine (callP_0 (ef := f89) h89 rfl (f89_ret (B := B) (k := i + 2) hp75 h78 h91 h82 h92 h54 hn h93 h94 hc6)).mono ?_
    rintro u h7 ⟨rfl, g7⟩
    have g67 := g6.trans (g7.low g6.nx)
    have hc7 := g67.hc hc5
    have e7 : h7.get id1 = .cells 64 (boolV B) := by rw [g67.old _ l1]; exact e1
    obtain ⟨p2, id, m2, cs2, q1, q2, q3, ⟨off, nn, sz, q4⟩, q5⟩ := (hs4.grow hc5 g67).st hil (x := hvS C B i) (c := .i .i64 (hvS C B i)) rfl rfl hc7
    have hhv : fw .i64 (fw .i64 (C[i + 1] - (brS B (i + 1) : Int)) - (brS B (i + 2) : Int)) = hvS C B i := by unfold hvS; rw [hg]
    have hid := hown id off nn sz q4
    obtain ⟨d1, d2⟩ := hdis id off nn sz q4
    simp (disch := omega) only [f64_r7, w_reg, seqK_n, atK_n, loopK_n, true_and, x_nil, x_mv, x_st, x_bin, kx, kg, xg_nil, xg_bin, xg_iads, xd_cons, fresh_nil, stK_n, stK_s, stay_nil, stay_cons, again_ok, stay_mv, beq_i, stay_iads, stay_ld, stay_bin, rvP_ok, okv_some, ev_t, ev_c, getV_some, putD_some, putD_none, bin_add, bin_sub, of1, getK_set, Nat.reduceEqDiff, ↓reduceIte, gg3, gg4, gg14, a1, hp1, hp3, q1, hhv, ldC h7 g67, hs3.beq, hs4.beq, and_self, q2]
    refine ⟨i + 1, by omega, L.set i (hvS C B i), hlt, by rw [List.length_set]; exact hl, fun t ht => ?_, (hs3.grow hc5 g67).put d1 _, q3, hdis, hown, by rw [get_put_other d2.symm]; exact e7, (hgr.trans (g67.low hgr.nx)).trans (Grow.put hid q5 _), by simp (disch := omega) only [getK_set, Nat.reduceEqDiff, ↓reduceIte, gg1, gg3, gg4, gg13, and_self, Int.natCast_add, Int.natCast_one]⟩
    by_cases e : t = i
    · subst e; simp [List.getD, hil]
    · have h1 := hL t (by omega)
      simp only [List.getD] at h1 ⊢
      rw [List.getElem?_set, if_neg (by omega)]; exact h1
  · obtain rfl : i = C.length - 1 := by omega
    have hlt' : ¬ ((C.length - 1 : Nat) : Int) < ((C.length - 1 : Nat) : Int) := by omega
    simp (disch := omega) only [f64_r4, f64_r8, f64_rs, w_reg, w_seq, w_cond, w_exit, w_ret, seqK_n, seqK_e, atK_e, loopK_e, ckB_b, cbB_b, true_and, retK_r, x_nil, x_mv, x_as, x_bin, kx, rvP_ok, okv_some, ev_t, getV_some, putD_some, bin_lss, oGet_s, readRs_nil, readRs_t, retV_1, Option.some.injEq, exists_eq_left', getK_set, Nat.reduceEqDiff, ↓reduceIte, Bool.false_eq_true, gg4, gg13, gg14, hlt', decide_false]
    have : L = hollS C B := by
      apply List.ext_getElem
      · unfold hollS; rw [List.length_map, List.length_range]; exact hl
      · intro t t1 t2
        have h1 := hL t (by omega)
        rw [show L.getD t 0 = L[t] by simp [List.getD, t1]] at h1
        rw [h1]; simp [hollS]
    rw [← this]
    exact ⟨hs4, by rw [← hid]; exact hown, by rw [← hid]; exact hgr⟩
end
end Go.Ev
namespace Go.Ev
open Go Go.RowKit
section
variable {fs : T EF} {ro : Option K}
noncomputable def innerS : List Int → Nat → List Int
  | L, 0 => L
  | L, i + 1 => innerS (L.set (i + 1) (fw .i64 (L.getD (i + 1) 0 - L.getD i 0))) i
noncomputable def hsTo (L : List Int) (i : Nat) : List Int := (List.range i).foldl innerS L
noncomputable def hsS (L : List Int) : List Int := hsTo L L.length
/-- The sum with signs. -/
noncomputable def euS : List Int → Int → Int → Int
  | [], sum, _ => sum
  | x :: l, sum, sign => euS l (fw .i64 (sum + fw .i64 (sign * x))) (fw .i64 (isub 0 sign))
end
end Go.Ev
namespace Go.Ev
open Go Go.RowKit
section
variable {fs : T EF} {ro : Option K} {momL : Int → Int → List Int}
end
end Go.Ev
namespace Go.Ev
open Go Go.RowKit
theorem xor_zero {a b : Nat} : a ^^^ b = 0 ↔ a = b := by
  constructor
  · intro h
    apply Nat.eq_of_testBit_eq
    intro i
    have := congrArg (fun n => Nat.testBit n i) h
    simp only [Nat.testBit_xor, Nat.zero_testBit] at this
    cases h1 : a.testBit i <;> cases h2 : b.testBit i <;> simp_all
  · rintro rfl; exact Nat.xor_self a
theorem ptI_nat {a b : Nat} (ha : a < 64) (hb : b < 64) : ptI (a : Int) (b : Int) = decide (a &&& b = a) := by
  unfold ptI
  rw [ibits_nat (by show a ≤ 9223372036854775807; omega) (by show b ≤ 9223372036854775807; omega), ieq_eq]
  have : (((Nat.xor a (Nat.land a b) : Nat) : Int) == Int.ofNat 0) = decide (a ^^^ (a &&& b) = 0) := by
    show ((((a ^^^ (a &&& b)) : Nat) : Int) == ((0 : Nat) : Int)) = _
    by_cases h : a ^^^ (a &&& b) = 0 <;> simp [h]
  rw [this]
  by_cases h : a &&& b = a
  · rw [decide_eq_true h, decide_eq_true (xor_zero.2 h.symm)]
  · rw [decide_eq_false h, decide_eq_false (fun e => h (xor_zero.1 e).symm)]
theorem sub_le {a b : Nat} (h : a &&& b = a) : a ≤ b := by rw [← h]; exact Nat.and_le_right
theorem sub_trans {a b c : Nat} (h1 : a &&& b = a) (h2 : b &&& c = b) : a &&& c = a := by
  rw [← h1, Nat.and_assoc, h2]
theorem sub_anti {a b : Nat} (h1 : a &&& b = a) (h2 : b &&& a = b) : a = b := by rw [← h1, Nat.and_comm, h2]
/-- All are sets of six corners. -/
def Sets (S : List Int) : Prop := ∀ s ∈ S, ∃ t : Nat, t < 64 ∧ s = (t : Int)
theorem topsTo_eq {B : Nat → Bool} : topsTo B 64 = ((List.range 64).filter fun (k : Nat) => isTop B k && B k).map fun (k : Nat) => (k : Int) := by
  unfold topsTo
  rw [List.take_of_length_le mem64_len]
  unfold mem64
  rw [List.filter_filter]
theorem isTop_iff {B : Nat → Bool} {x : Nat} : isTop B x = true ↔ ∀ y, y < 64 → B y = true → y = x ∨ ptI (x : Int) (y : Int) = false := by
  unfold isTop mem64
  simp only [List.all_eq_true, List.mem_filter, List.mem_range, Bool.not_eq_true', Bool.and_eq_false_iff, decide_eq_false_iff_not, ne_eq, Decidable.not_not, and_imp]
  constructor
  · intro h y h1 h2
    rcases h y h1 h2 with e | e
    · exact .inl (by omega)
    · exact .inr e
  · intro h y h1 h2
    rcases h y h1 h2 with e | e
    · exact .inl (by omega)
    · exact .inr e
theorem tops_pieces {S : List Int} (hS : Sets S) : topsTo (famB S) 64 = piecesTo S 64 := by
  rw [topsTo_eq]
  unfold piecesTo
  congr 1
  apply List.filter_congr
  intro k hk
  have hk : k < 64 := by simpa using hk
  have fam : ∀ y, y < 64 → (famB S y = true ↔ ∃ t : Nat, t < 64 ∧ (t : Int) ∈ S ∧ y &&& t = y) := by
    intro y hy
    unfold famB
    rw [List.any_eq_true]
    constructor
    · rintro ⟨s, hs, h⟩
      obtain ⟨t, ht, rfl⟩ := hS s hs
      rw [ptI_nat hy ht, decide_eq_true_eq] at h
      exact ⟨t, ht, hs, h⟩
    · rintro ⟨t, ht, hs, h⟩
      exact ⟨_, hs, by rw [ptI_nat hy ht, decide_eq_true_eq]; exact h⟩
  have hin : inP S (k : Int) = true ↔ (k : Int) ∈ S := by
    unfold inP
    rw [List.any_eq_true]
    constructor
    · rintro ⟨y, hy, e⟩
      have : y = (k : Int) := by simpa using e
      rw [← this]; exact hy
    · intro h; exact ⟨_, h, by simp⟩
  have hgr : grP S (k : Int) = true ↔ ∀ t : Nat, t < 64 → (t : Int) ∈ S → t = k ∨ ¬ k &&& t = k := by
    unfold grP
    rw [List.all_eq_true]
    constructor
    · intro h t ht hs
      have := h _ hs
      rw [ptI_nat hk ht] at this
      simp only [Bool.or_eq_true, decide_eq_true_eq, Bool.not_eq_true', decide_eq_false_iff_not] at this
      rcases this with e | e
      · exact .inl (by omega)
      · exact .inr e
    · intro h s hs
      obtain ⟨t, ht, rfl⟩ := hS s hs
      rw [ptI_nat hk ht]
      simp only [Bool.or_eq_true, decide_eq_true_eq, Bool.not_eq_true', decide_eq_false_iff_not]
      rcases h t ht hs with e | e
      · exact .inl (by omega)
      · exact .inr e
  rw [Bool.eq_iff_iff, Bool.and_eq_true, Bool.and_eq_true, isTop_iff, fam k hk, hin, hgr]
  constructor
  · rintro ⟨h1, t, ht, hs, hkt⟩
    have : t = k := by
      rcases h1 t ht ((fam t ht).2 ⟨t, ht, hs, Nat.and_self t⟩) with e | e
      · exact e
      · rw [ptI_nat hk ht, decide_eq_false_iff_not] at e; exact absurd hkt e
    subst this
    refine ⟨hs, fun u hu hus => ?_⟩
    rcases h1 u hu ((fam u hu).2 ⟨u, hu, hus, Nat.and_self u⟩) with e | e
    · exact .inl e
    · rw [ptI_nat hk hu, decide_eq_false_iff_not] at e; exact .inr e
  · rintro ⟨h1, h2⟩
    refine ⟨fun y hy hf => ?_, k, hk, h1, Nat.and_self k⟩
    obtain ⟨t, ht, hs, hyt⟩ := (fam y hy).1 hf
    rw [ptI_nat hk hy, decide_eq_false_iff_not]
    by_cases e : k &&& y = k
    · rcases h2 t ht hs with e2 | e2
      · subst e2; exact .inl (sub_anti hyt e)
      · exact absurd (sub_trans e hyt) e2
    · exact .inr e
/-- A greatest number. -/
theorem exists_max : ∀ (S : List Int), S ≠ [] → ∃ m ∈ S, ∀ s ∈ S, s ≤ m
  | [], h => absurd rfl h
  | [x], _ => ⟨x, by simp, by simp⟩
  | x :: y :: l, _ => by
    obtain ⟨m, hm, h⟩ := exists_max (y :: l) (by simp)
    by_cases e : m ≤ x
    · exact ⟨x, by simp, fun s hs => by
        rcases List.mem_cons.1 hs with rfl | h1
        · exact Int.le_refl _
        · exact Int.le_trans (h s h1) e⟩
    · exact ⟨m, List.mem_cons_of_mem _ hm, fun s hs => by
        rcases List.mem_cons.1 hs with rfl | h1
        · omega
        · exact h s h1⟩
end Go.Ev
