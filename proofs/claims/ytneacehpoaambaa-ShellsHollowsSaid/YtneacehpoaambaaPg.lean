/-
  Functions of the seat: Check.
  Functions of the seat: tame.
  Functions of the seat: AppendSeq, Collect, list, Faces.
  Functions of the seat: counts, Counts.
  Functions of the seat: Hs, Euler.
  Functions of the seat: the reference's Is, Faces, Counts, Euler.
  Functions of the seat: the reference's Hs.
  The law ShellsCounts.
-/
import Derived.Test.YtneacehpoaambaaPf
import Derived.Test.YtneacehpoaambaaPd
namespace Go.Ev
open Go Go.RowKit
noncomputable def f16_r0 : List EOper := [⟨(some (K.ofNat 4)), none, .as (.c (.i .i64 (.ofNat 0)))⟩]
noncomputable def f16_r1 : List EOper := [⟨(some (K.ofNat 9)), none, .mv (.t (K.ofNat 0))⟩, ⟨(some (K.ofNat 10)), none, .bin .lss (.t (K.ofNat 9)) (.c (.i .i64 (.ofNat 1)))⟩, ⟨(some (K.ofNat 11)), none, .mv (.t (K.ofNat 10))⟩, ⟨(some (K.ofNat 12)), (some ((K.ofNat 11), false)), .mv (.t (K.ofNat 0))⟩, ⟨(some (K.ofNat 13)), (some ((K.ofNat 11), false)), .bin .gtr (.t (K.ofNat 12)) (.c (.i .i64 (.ofNat 6)))⟩, ⟨(some (K.ofNat 14)), none, .pick (.t (K.ofNat 11)) (.c (.b true)) (.t (K.ofNat 13))⟩]
noncomputable def f16_r2 : List EOper := [⟨(some (K.ofNat 4)), none, .as (.c (.i .i64 (.ofNat 1)))⟩]
noncomputable def f16_r3 : List EOper := [⟨(some (K.ofNat 15)), none, .mv (.t (K.ofNat 1))⟩, ⟨(some (K.ofNat 16)), none, .len (.t (K.ofNat 15))⟩, ⟨(some (K.ofNat 17)), none, .bin .lss (.t (K.ofNat 16)) (.c (.i .i64 (.ofNat 1)))⟩, ⟨(some (K.ofNat 18)), none, .mv (.t (K.ofNat 17))⟩, ⟨(some (K.ofNat 19)), (some ((K.ofNat 18), false)), .mv (.t (K.ofNat 1))⟩, ⟨(some (K.ofNat 20)), (some ((K.ofNat 18), false)), .len (.t (K.ofNat 19))⟩, ⟨(some (K.ofNat 21)), (some ((K.ofNat 18), false)), .bin .gtr (.t (K.ofNat 20)) (.c (.i .i64 (.ofNat 10)))⟩, ⟨(some (K.ofNat 22)), none, .pick (.t (K.ofNat 18)) (.c (.b true)) (.t (K.ofNat 21))⟩]
noncomputable def f16_r4 : List EOper := [⟨(some (K.ofNat 4)), none, .as (.c (.i .i64 (.ofNat 10)))⟩]
noncomputable def f16_r5 : List EOper := [⟨(some (K.ofNat 23)), none, .mv (.t (K.ofNat 1))⟩, ⟨(some (K.ofNat 24)), none, .len (.t (K.ofNat 23))⟩, ⟨(some (K.ofNat 25)), none, .mv (.c (.i .i64 (.ofNat 0)))⟩]
noncomputable def f16_r6 : List EOper := [⟨(some (K.ofNat 26)), none, .bin .lss (.t (K.ofNat 25)) (.t (K.ofNat 24))⟩]
noncomputable def f16_r7 : List EOper := [⟨(some (K.ofNat 27)), none, .mv (.t (K.ofNat 25))⟩, ⟨(some (K.ofNat 28)), none, .iads 1 (.t (K.ofNat 23)) (.t (K.ofNat 25))⟩, ⟨(some (K.ofNat 29)), none, .ld (.t (K.ofNat 28))⟩, ⟨(some (K.ofNat 5)), none, .as (.t (K.ofNat 27))⟩, ⟨(some (K.ofNat 6)), none, .as (.t (K.ofNat 29))⟩]
noncomputable def f16_r8 : List EOper := [⟨(some (K.ofNat 30)), none, .mv (.t (K.ofNat 6))⟩, ⟨(some (K.ofNat 31)), none, .bin .lss (.t (K.ofNat 30)) (.c (.i .i64 (.ofNat 1)))⟩, ⟨(some (K.ofNat 32)), none, .mv (.t (K.ofNat 31))⟩, ⟨(some (K.ofNat 33)), (some ((K.ofNat 32), false)), .mv (.t (K.ofNat 6))⟩, ⟨(some (K.ofNat 34)), (some ((K.ofNat 32), false)), .mv (.t (K.ofNat 0))⟩, ⟨(some (K.ofNat 35)), (some ((K.ofNat 32), false)), .bin .shl (.c (.i .i64 (.ofNat 1))) (.t (K.ofNat 34))⟩, ⟨(some (K.ofNat 36)), (some ((K.ofNat 32), false)), .bin .geq (.t (K.ofNat 33)) (.t (K.ofNat 35))⟩, ⟨(some (K.ofNat 37)), none, .pick (.t (K.ofNat 32)) (.c (.b true)) (.t (K.ofNat 36))⟩]
noncomputable def f16_r9 : List EOper := [⟨(some (K.ofNat 4)), none, .as (.c (.i .i64 (.ofNat 10)))⟩]
noncomputable def f16_r10 : List EOper := [⟨(some (K.ofNat 38)), none, .mv (.t (K.ofNat 1))⟩, ⟨(some (K.ofNat 39)), none, .mv (.t (K.ofNat 5))⟩, ⟨(some (K.ofNat 40)), none, .slice 1 (.t (K.ofNat 38)) none (some (.t (K.ofNat 39))) none⟩, ⟨(some (K.ofNat 41)), none, .len (.t (K.ofNat 40))⟩, ⟨(some (K.ofNat 42)), none, .mv (.c (.i .i64 (.ofNat 0)))⟩]
noncomputable def f16_r11 : List EOper := [⟨(some (K.ofNat 43)), none, .bin .lss (.t (K.ofNat 42)) (.t (K.ofNat 41))⟩]
noncomputable def f16_r12 : List EOper := [⟨(some (K.ofNat 44)), none, .iads 1 (.t (K.ofNat 40)) (.t (K.ofNat 42))⟩, ⟨(some (K.ofNat 45)), none, .ld (.t (K.ofNat 44))⟩, ⟨(some (K.ofNat 8)), none, .as (.t (K.ofNat 45))⟩]
noncomputable def f16_r13 : List EOper := [⟨(some (K.ofNat 46)), none, .mv (.t (K.ofNat 8))⟩, ⟨(some (K.ofNat 47)), none, .mv (.t (K.ofNat 6))⟩, ⟨(some (K.ofNat 48)), none, .bin .geq (.t (K.ofNat 46)) (.t (K.ofNat 47))⟩, ⟨(some (K.ofNat 49)), none, .mv (.t (K.ofNat 48))⟩, ⟨(some (K.ofNat 50)), (some ((K.ofNat 49), false)), .mv (.t (K.ofNat 8))⟩, ⟨(some (K.ofNat 51)), (some ((K.ofNat 49), false)), .mv (.t (K.ofNat 6))⟩, ⟨(some (K.ofNat 52)), (some ((K.ofNat 49), false)), .call (.c (.fn (K.ofNat 54) [])) [(.t (K.ofNat 50)), (.t (K.ofNat 51))]⟩, ⟨(some (K.ofNat 53)), none, .pick (.t (K.ofNat 49)) (.c (.b true)) (.t (K.ofNat 52))⟩]
noncomputable def f16_r14 : List EOper := [⟨(some (K.ofNat 4)), none, .as (.c (.i .i64 (.ofNat 10)))⟩]
noncomputable def f16_r15 : List EOper := [⟨(some (K.ofNat 54)), none, .bin .add (.t (K.ofNat 42)) (.c (.i .i64 (.ofNat 1)))⟩, ⟨(some (K.ofNat 42)), none, .mv (.t (K.ofNat 54))⟩]
noncomputable def f16_l0 : EC := (.seq (.reg f16_r11) (.seq (.cond (.t (K.ofNat 43)) .skip (.exit 2)) (.seq (.block 3 (.seq (.reg f16_r12) (.seq (.reg f16_r13) (.cond (.t (K.ofNat 53)) (.seq (.reg f16_r14) .ret) .skip)))) (.reg f16_r15))))
noncomputable def f16_r16 : List EOper := [⟨(some (K.ofNat 55)), none, .bin .add (.t (K.ofNat 25)) (.c (.i .i64 (.ofNat 1)))⟩, ⟨(some (K.ofNat 25)), none, .mv (.t (K.ofNat 55))⟩]
noncomputable def f16_l1 : EC := (.seq (.reg f16_r6) (.seq (.cond (.t (K.ofNat 26)) .skip (.exit 0)) (.seq (.block 1 (.seq (.reg f16_r7) (.seq (.seq (.reg f16_r8) (.cond (.t (K.ofNat 37)) (.seq (.reg f16_r9) .ret) .skip)) (.seq (.reg f16_r10) (.block 2 (.loop f16_l0)))))) (.reg f16_r16))))
noncomputable def f16_r17 : List EOper := [⟨(some (K.ofNat 4)), none, .as (.c (.i .i64 (.ofNat 0)))⟩]
noncomputable def f16_c : EC := (.seq (.reg f16_r0) (.seq (.seq (.reg f16_r1) (.cond (.t (K.ofNat 14)) (.seq (.reg f16_r2) .ret) .skip)) (.seq (.seq (.reg f16_r3) (.cond (.t (K.ofNat 22)) (.seq (.reg f16_r4) .ret) .skip)) (.seq (.seq (.reg f16_r5) (.block 0 (.loop f16_l1))) (.seq (.reg f16_r17) .ret)))))
noncomputable def f16 : EF := ⟨56, [.tmp (K.ofNat 4)], f16_c, none⟩
theorem f16_rs : f16.rs = [.tmp (K.ofNat 4)] := of_eq_true (eq_self _)
section
variable {fs : T EF} {ro : Option K}
noncomputable def pairOk (x y : Int) : Bool := decide (y < x) && !ptI y x
noncomputable def okAt (n : Int) (S : List Int) (i : Nat) : Bool := decide (1 ≤ S.getD i 0) && decide (S.getD i 0 < 2 ^ n.toNat) && (S.take i).all (pairOk (S.getD i 0))
noncomputable def goodS (n : Int) (S : List Int) : Bool := decide (1 ≤ S.length) && decide (S.length ≤ 10) && (List.range S.length).all (okAt n S)
noncomputable def chkS (n : Int) (S : List Int) : Int := if n < 1 ∨ 6 < n then 1 else if goodS n S = true then 0 else 10
def f16_I0 (h : H) (v u : V) (S T : List Int) (n x : Int) (i : Nat) (j : Nat) (fr : Fr) (h1 : H) : Prop := h1 = h ∧ j ≤ T.length ∧ (T.take j).all (pairOk x) = true ∧ fr.get (K.ofNat 0) = some (.i .i64 n) ∧ fr.get (K.ofNat 1) = some (v) ∧ fr.get (K.ofNat 6) = some (.i .i64 x) ∧ fr.get (K.ofNat 23) = some (v) ∧ fr.get (K.ofNat 24) = some (.i .i64 (S.length : Int)) ∧ fr.get (K.ofNat 25) = some (.i .i64 (i : Int)) ∧ fr.get (K.ofNat 40) = some (u) ∧ fr.get (K.ofNat 41) = some (.i .i64 (T.length : Int)) ∧ fr.get (K.ofNat 42) = some (.i .i64 (j : Int))
theorem f16_inner {Q : Ex → Fr → H → Prop} {h : H} {v u : V} {S T : List Int} {n x : Int} {i : Nat} {fr : Fr}
    (hp : ∀ a b h P, CallP fs (.fn (K.ofNat 54) []) [.i .i64 a, .i .i64 b] h P = P (.b (ptI a b)) h) (hu : Sl iE h u T) (hT : T.length ≤ 10)
    (hg : fr.get (K.ofNat 0) = some (.i .i64 n) ∧ fr.get (K.ofNat 1) = some (v) ∧ fr.get (K.ofNat 6) = some (.i .i64 x) ∧ fr.get (K.ofNat 23) = some (v) ∧ fr.get (K.ofNat 24) = some (.i .i64 (S.length : Int)) ∧ fr.get (K.ofNat 25) = some (.i .i64 (i : Int)) ∧ fr.get (K.ofNat 40) = some (u) ∧ fr.get (K.ofNat 41) = some (.i .i64 (T.length : Int)) ∧ fr.get (K.ofNat 42) = some (.i .i64 0))
    (hq1 : T.all (pairOk x) = true → ∀ fr, fr.get (K.ofNat 0) = some (.i .i64 n) ∧ fr.get (K.ofNat 1) = some (v) ∧ fr.get (K.ofNat 23) = some (v) ∧ fr.get (K.ofNat 24) = some (.i .i64 (S.length : Int)) ∧ fr.get (K.ofNat 25) = some (.i .i64 (i : Int)) → Q (.exit 2) fr h)
    (hq2 : T.all (pairOk x) = false → ∀ fr, fr.get (K.ofNat 4) = some (.i .i64 10) → Q .ret fr h) :
    W fs ro (.loop f16_l0) Q fr h := by
  refine W_loop (f16_I0 h v u S T n x i) (fun j => T.length - j) ?_ 0 ⟨rfl, by omega, by simp, hg⟩
  clear hg fr
  rintro j fr h1 ⟨rfl, hj, hal, g0, g1, g6, g23, g24, g25, g40, g41, g42⟩
  unfold f16_l0
  by_cases hlt : j < T.length
  · have hlt' : (j : Int) < (T.length : Int) := by omega
    obtain ⟨p, hp1, hp2⟩ := hu.at j hlt
    have hs := all_snoc (p := pairOk x) hlt
    rw [hal, Bool.true_and] at hs
    have bad : pairOk x T[j] = false → T.all (pairOk x) = false := fun hf => by
      rw [List.all_eq_false]; exact ⟨T[j], List.getElem_mem _, by rw [hf]; simp⟩
    by_cases e1 : x ≤ T[j]
    · have hb := bad (by unfold pairOk; rw [decide_eq_false (by omega)]; rfl)
      simp (disch := omega) only [f16_r11, f16_r12, f16_r13, f16_r14, w_skip, w_reg, w_seq, w_cond, w_block, w_ret, seqK_n, seqK_r, atK_r, loopK_r, ckB_b, cbB_b, okG_b, asG_f, true_and, x_nil, x_g, x_mv, x_as, x_pick, x_ld, x_bin, x_iads, kx, rvP_ok, okv_some, ev_t, ev_c, getV_some, putD_some, bin_lss, bin_geq, pick_b, of10, getK_set, Nat.reduceEqDiff, ↓reduceIte, Bool.false_eq_true, Bool.not_true, g6, g40, g41, g42, hlt', decide_true, hp1, hp2, iE, e1]
      exact hq2 hb _ (by simp (disch := omega) only [getK_set, ↓reduceIte])
    · cases e2 : ptI T[j] x
      · simp (disch := omega) only [f16_r11, f16_r12, f16_r13, f16_r15, w_skip, w_reg, w_seq, w_cond, w_block, seqK_n, atK_n, loopK_n, ckB_b, cbB_b, okG_b, asG_f, true_and, x_nil, x_g, x_mv, x_as, x_pick, x_ld, x_bin, x_iads, x_call, kx, rvP_ok, okv_some, ev_t, ev_c, evs_nil, evs_cons, getV_some, putD_some, bin_add, bin_lss, bin_geq, pick_b, of1, getK_set, Nat.reduceEqDiff, ↓reduceIte, Bool.false_eq_true, Bool.not_false, g6, g40, g41, g42, hlt', decide_true, decide_false, hp1, hp2, iE, e1, hp, e2, fw64]
        refine ⟨j + 1, by omega, rfl, hlt, by rw [hs]; unfold pairOk; rw [decide_eq_true (by omega), e2]; rfl, by simp (disch := omega) only [getK_set, Nat.reduceEqDiff, ↓reduceIte, g0, g1, g6, g23, g24, g25, g40, g41, and_self, Int.natCast_add, Int.natCast_one]⟩
      · have hb := bad (by unfold pairOk; rw [e2, Bool.not_true, Bool.and_false])
        simp (disch := omega) only [f16_r11, f16_r12, f16_r13, f16_r14, w_skip, w_reg, w_seq, w_cond, w_block, w_ret, seqK_n, seqK_r, atK_r, loopK_r, ckB_b, cbB_b, okG_b, asG_f, true_and, x_nil, x_g, x_mv, x_as, x_pick, x_ld, x_bin, x_iads, x_call, kx, rvP_ok, okv_some, ev_t, ev_c, evs_nil, evs_cons, getV_some, putD_some, bin_lss, bin_geq, pick_b, of10, getK_set, Nat.reduceEqDiff, ↓reduceIte, Bool.false_eq_true, Bool.not_false, g6, g40, g41, g42, hlt', decide_true, decide_false, hp1, hp2, iE, e1, hp, e2]
        exact hq2 hb _ (by simp (disch := omega) only [getK_set, ↓reduceIte])
  · obtain rfl : j = T.length := by omega
    rw [List.take_length] at hal
    have hlt' : ¬ (T.length : Int) < (T.length : Int) := by omega
    simp (disch := omega) only [f16_r11, w_reg, w_seq, w_cond, w_exit, seqK_n, seqK_e, loopK_e, ckB_b, cbB_b, true_and, x_nil, x_bin, kx, rvP_ok, okv_some, ev_t, getV_some, putD_some, bin_lss, getK_set, ↓reduceIte, Bool.false_eq_true, g41, g42, hlt', decide_false]
    exact hq1 hal _ (by simp (disch := omega) only [getK_set, Nat.reduceEqDiff, ↓reduceIte, g0, g1, g23, g24, g25, and_self])

theorem okAt_bad {n : Int} {S : List Int} {i : Nat} (hi : i < S.length) (h : okAt n S i = false) : goodS n S = false := by
  unfold goodS
  have : (List.range S.length).all (okAt n S) = false := by rw [List.all_eq_false]; exact ⟨i, by simpa using hi, by rw [h]; simp⟩
  rw [this, Bool.and_false]
def f16_I1 (h : H) (v : V) (S : List Int) (n : Int) (i : Nat) (fr : Fr) (h1 : H) : Prop := h1 = h ∧ i ≤ S.length ∧ (List.range i).all (okAt n S) = true ∧ fr.get (K.ofNat 0) = some (.i .i64 n) ∧ fr.get (K.ofNat 1) = some (v) ∧ fr.get (K.ofNat 23) = some (v) ∧ fr.get (K.ofNat 24) = some (.i .i64 (S.length : Int)) ∧ fr.get (K.ofNat 25) = some (.i .i64 (i : Int))
theorem f16_ret {h : H} {v : V} {S : List Int} {n : Int}
    (hp : ∀ a b h P, CallP fs (.fn (K.ofNat 54) []) [.i .i64 a, .i .i64 b] h P = P (.b (ptI a b)) h) (hv : Sl iE h v S) : Ret fs f16 [.i .i64 n, v] h fun u h' => u = .i .i64 (chkS n S) ∧ h' = h := by
  apply ret_of rfl
  show W fs none f16_c _ _ _
  unfold f16_c
  by_cases h1 : n < 1
  · have : chkS n S = 1 := by unfold chkS; rw [if_pos (.inl h1)]
    simp (disch := omega) only [f16_r0, f16_r1, f16_r2, f16_rs, w_reg, w_seq, w_cond, w_ret, seqK_n, seqK_r, ckB_b, cbB_b, okG_b, asG_f, retK_r, x_nil, x_g, x_mv, x_as, x_pick, x_bin, kx, rvP_ok, okv_some, ev_t, ev_c, getV_some, putD_some, bin_lss, pick_b, oGet_s, readRs_nil, readRs_t, retV_1, frame_2, of0, of1, of6, Option.some.injEq, exists_eq_left', getK_set, Nat.reduceEqDiff, ↓reduceIte, Bool.false_eq_true, Bool.not_true, h1, decide_true, this, and_self]
  by_cases h6 : 6 < n
  · have : chkS n S = 1 := by unfold chkS; rw [if_pos (.inr h6)]
    simp (disch := omega) only [f16_r0, f16_r1, f16_r2, f16_rs, w_reg, w_seq, w_cond, w_ret, seqK_n, seqK_r, ckB_b, cbB_b, okG_b, asG_f, retK_r, x_nil, x_g, x_mv, x_as, x_pick, x_bin, kx, rvP_ok, okv_some, ev_t, ev_c, getV_some, putD_some, bin_lss, bin_gtr, pick_b, oGet_s, readRs_nil, readRs_t, retV_1, frame_2, of0, of1, of6, Option.some.injEq, exists_eq_left', getK_set, Nat.reduceEqDiff, ↓reduceIte, Bool.false_eq_true, Bool.not_false, h1, h6, decide_true, decide_false, this, and_self]
  have hc10 : goodS n S = false → chkS n S = 10 := fun hf => by unfold chkS; rw [if_neg (by omega), hf]; rfl
  by_cases l1 : S.length < 1
  · have l1' : (S.length : Int) < 1 := by omega
    have := hc10 (by unfold goodS; rw [decide_eq_false (by omega)]; rfl)
    simp (disch := omega) only [f16_r0, f16_r1, f16_r3, f16_r4, f16_rs, w_skip, w_reg, w_seq, w_cond, w_ret, seqK_n, seqK_r, ckB_b, cbB_b, okG_b, asG_f, retK_r, x_nil, x_g, x_mv, x_as, x_pick, x_bin, x_len, kx, rvP_ok, okv_some, ev_t, ev_c, getV_some, putD_some, bin_lss, bin_gtr, pick_b, oGet_s, readRs_nil, readRs_t, retV_1, frame_2, of0, of1, of6, of10, Option.some.injEq, exists_eq_left', getK_set, Nat.reduceEqDiff, ↓reduceIte, Bool.false_eq_true, Bool.not_true, Bool.not_false, h1, h6, l1', hv.len, decide_true, decide_false, this, and_self]
  have l1' : ¬ (S.length : Int) < 1 := by omega
  by_cases l2 : 10 < S.length
  · have l2' : (10 : Int) < (S.length : Int) := by omega
    have := hc10 (by unfold goodS; rw [decide_eq_false (show ¬ S.length ≤ 10 by omega), Bool.and_false]; rfl)
    simp (disch := omega) only [f16_r0, f16_r1, f16_r3, f16_r4, f16_rs, w_skip, w_reg, w_seq, w_cond, w_ret, seqK_n, seqK_r, ckB_b, cbB_b, okG_b, asG_f, retK_r, x_nil, x_g, x_mv, x_as, x_pick, x_bin, x_len, kx, rvP_ok, okv_some, ev_t, ev_c, getV_some, putD_some, bin_lss, bin_gtr, pick_b, oGet_s, readRs_nil, readRs_t, retV_1, frame_2, of0, of1, of6, of10, Option.some.injEq, exists_eq_left', getK_set, Nat.reduceEqDiff, ↓reduceIte, Bool.false_eq_true, Bool.not_false, h1, h6, l1', l2', hv.len, decide_true, decide_false, this, and_self]
  have l2' : ¬ (10 : Int) < (S.length : Int) := by omega
  simp (disch := omega) only [f16_r0, f16_r1, f16_r3, f16_r5, w_skip, w_reg, w_seq, w_cond, w_block, seqK_n, ckB_b, cbB_b, okG_b, asG_f, true_and, x_nil, x_g, x_mv, x_as, x_pick, x_bin, x_len, kx, rvP_ok, okv_some, ev_t, ev_c, getV_some, putD_some, bin_lss, bin_gtr, pick_b, frame_2, of0, of1, of6, of10, getK_set, Nat.reduceEqDiff, ↓reduceIte, Bool.false_eq_true, Bool.not_false, h1, h6, l1', l2', hv.len, decide_false]
  refine W_loop (f16_I1 h v S n) (fun i => S.length - i) ?_ 0 ⟨rfl, by omega, by simp, by simp (disch := omega) only [getK_set, Nat.reduceEqDiff, ↓reduceIte, and_self, Int.natCast_zero]⟩
  rintro i fr h2 ⟨rfl, hi, hal, g0, g1, g23, g24, g25⟩
  unfold f16_l1
  by_cases hlt : i < S.length
  · have hlt' : (i : Int) < (S.length : Int) := by omega
    obtain ⟨p, hp1, hp2⟩ := hv.at i hlt
    have hgd : S.getD i 0 = S[i] := by simp [List.getD, hlt]
    by_cases e1 : S[i] < 1
    · have := hc10 (okAt_bad hlt (by unfold okAt; rw [hgd, decide_eq_false (by omega)]; rfl))
      simp (disch := omega) only [f16_r6, f16_r7, f16_r8, f16_r9, f16_rs, w_skip, w_reg, w_seq, w_cond, w_block, w_ret, seqK_n, seqK_r, atK_r, loopK_r, ckB_b, cbB_b, okG_b, asG_f, retK_r, x_nil, x_g, x_mv, x_as, x_pick, x_ld, x_bin, x_iads, kx, rvP_ok, okv_some, ev_t, ev_c, getV_some, putD_some, bin_lss, pick_b, oGet_s, readRs_nil, readRs_t, retV_1, of1, of10, Option.some.injEq, exists_eq_left', getK_set, Nat.reduceEqDiff, ↓reduceIte, Bool.false_eq_true, Bool.not_true, g23, g24, g25, hlt', decide_true, hp1, hp2, iE, e1, this, and_self]
    · by_cases e2 : (2 : Int) ^ n.toNat ≤ S[i]
      · have := hc10 (okAt_bad hlt (by unfold okAt; rw [hgd, decide_eq_false (show ¬ S[i] < 2 ^ n.toNat by omega), Bool.and_false]; rfl))
        simp (disch := omega) only [f16_r6, f16_r7, f16_r8, f16_r9, f16_rs, w_skip, w_reg, w_seq, w_cond, w_block, w_ret, seqK_n, seqK_r, atK_r, loopK_r, ckB_b, cbB_b, okG_b, asG_f, retK_r, x_nil, x_g, x_mv, x_as, x_pick, x_ld, x_bin, x_iads, kx, rvP_ok, okv_some, ev_t, ev_c, getV_some, putD_some, bin_lss, bin_geq, pick_b, oGet_s, readRs_nil, readRs_t, retV_1, of1, of10, Option.some.injEq, exists_eq_left', getK_set, Nat.reduceEqDiff, ↓reduceIte, Bool.false_eq_true, Bool.not_false, g0, g23, g24, g25, hlt', decide_true, decide_false, hp1, hp2, iE, e1, e2, bin_shl, shl_n, this, and_self]
      · obtain ⟨u, q1, q2, _⟩ := hv.cut (lo := none) (hi := some (.i .i64 (i : Int))) (l := 0) (u := i) bnd_none bnd_i (by omega) (by omega)
        rw [List.drop_zero] at q2
        have hlen : (S.take i).length = i := by rw [List.length_take]; omega
        simp (disch := omega) only [f16_r6, f16_r7, f16_r8, f16_r10, w_skip, w_reg, w_seq, w_cond, w_block, seqK_n, ckB_b, cbB_b, okG_b, asG_f, true_and, x_nil, x_g, x_mv, x_as, x_pick, x_ld, x_bin, x_slice, sliceV_eq, Option.map_none, Option.map_some, x_iads, x_len, kx, rvP_ok, okv_some, ev_t, ev_c, getV_some, putD_some, bin_lss, bin_geq, pick_b, of0, of1, getK_set, Nat.reduceEqDiff, ↓reduceIte, Bool.false_eq_true, Bool.not_false, g0, g1, g23, g24, g25, hlt', decide_true, decide_false, hp1, hp2, iE, e1, e2, bin_shl, shl_n, q1, q2.len]
        refine f16_inner (v := v) (u := u) (S := S) (T := S.take i) (n := n) (x := S[i]) (i := i) hp q2 (by omega) (by simp (disch := omega) only [getK_set, Nat.reduceEqDiff, ↓reduceIte, g0, g1, g23, g24, g25, and_self]) ?_ ?_
        · clear g0 g1 g23 g24 g25
          rintro hall fr ⟨g0, g1, g23, g24, g25⟩
          simp (disch := omega) only [f16_r16, w_reg, seqK_n, atK_n, atK_e, loopK_n, x_nil, x_mv, x_bin, kx, rvP_ok, okv_some, ev_t, ev_c, getV_some, putD_some, bin_add, of1, getK_set, ↓reduceIte, g25, fw64]
          refine ⟨i + 1, by omega, rfl, hlt, ?_, by simp (disch := omega) only [getK_set, Nat.reduceEqDiff, ↓reduceIte, g0, g1, g23, g24, and_self, Int.natCast_add, Int.natCast_one]⟩
          rw [List.range_succ, List.all_append, hal, Bool.true_and]
          simp only [List.all_cons, List.all_nil, Bool.and_true]
          unfold okAt
          rw [hgd, decide_eq_true (by omega), decide_eq_true (by omega), hall]; rfl
        · rintro hall fr g4
          have := hc10 (okAt_bad hlt (by unfold okAt; rw [hgd, hall, Bool.and_false]))
          simp (disch := omega) only [f16_rs, seqK_r, atK_r, loopK_r, retK_r, getV_some, oGet_s, readRs_nil, readRs_t, retV_1, Option.some.injEq, exists_eq_left', g4, this, and_self]
  · obtain rfl : i = S.length := by omega
    have hlt' : ¬ (S.length : Int) < (S.length : Int) := by omega
    have : chkS n S = 0 := by
      unfold chkS goodS
      rw [if_neg (by omega), hal, decide_eq_true (by omega), decide_eq_true (by omega)]; rfl
    simp (disch := omega) only [f16_r6, f16_r17, f16_rs, w_reg, w_seq, w_cond, w_exit, w_ret, seqK_n, seqK_e, atK_e, loopK_e, ckB_b, cbB_b, retK_r, x_nil, x_as, x_bin, kx, rvP_ok, okv_some, ev_t, ev_c, getV_some, putD_some, bin_lss, oGet_s, readRs_nil, readRs_t, retV_1, of0, Option.some.injEq, exists_eq_left', getK_set, ↓reduceIte, Bool.false_eq_true, g24, g25, hlt', decide_false, this, and_self]
end
end Go.Ev
namespace Go.Ev
open Go Go.RowKit
noncomputable def f30_r0 : List EOper := [⟨(some (K.ofNat 4)), none, .as (.c (.i .i64 (.ofNat 0)))⟩, ⟨(some (K.ofNat 5)), none, .as (.c .sn)⟩]
noncomputable def f30_r1 : List EOper := [⟨(some (K.ofNat 9)), none, .mv (.t (K.ofNat 0))⟩, ⟨(some (K.ofNat 10)), none, .conv .u64 (.t (K.ofNat 9))⟩, ⟨(some (K.ofNat 11)), none, .bin .rem (.t (K.ofNat 10)) (.c (.i .u64 (.ofNat 6)))⟩, ⟨(some (K.ofNat 12)), none, .conv .i64 (.t (K.ofNat 11))⟩, ⟨(some (K.ofNat 13)), none, .bin .add (.c (.i .i64 (.ofNat 1))) (.t (K.ofNat 12))⟩, ⟨(some (K.ofNat 0)), none, .as (.t (K.ofNat 13))⟩]
noncomputable def f30_r2 : List EOper := [⟨(some (K.ofNat 14)), none, .bslice 1 1 [(.i .i64 (.ofNat 0))] [(0, 1, (.c (.i .i64 (.ofNat 1))))]⟩, ⟨(some (K.ofNat 6)), none, .as (.t (K.ofNat 14))⟩]
noncomputable def f30_r3 : List EOper := [⟨(some (K.ofNat 7)), none, .as (.c (.i .i64 (.ofNat 0)))⟩]
noncomputable def f30_r4 : List EOper := [⟨(some (K.ofNat 15)), none, .mv (.t (K.ofNat 7))⟩, ⟨(some (K.ofNat 16)), none, .mv (.t (K.ofNat 1))⟩, ⟨(some (K.ofNat 17)), none, .len (.t (K.ofNat 16))⟩, ⟨(some (K.ofNat 18)), none, .bin .lss (.t (K.ofNat 15)) (.t (K.ofNat 17))⟩, ⟨(some (K.ofNat 19)), none, .mv (.t (K.ofNat 18))⟩, ⟨(some (K.ofNat 20)), (some ((K.ofNat 19), true)), .mv (.t (K.ofNat 7))⟩, ⟨(some (K.ofNat 21)), (some ((K.ofNat 19), true)), .bin .lss (.t (K.ofNat 20)) (.c (.i .i64 (.ofNat 10)))⟩, ⟨(some (K.ofNat 22)), none, .pick (.t (K.ofNat 19)) (.t (K.ofNat 21)) (.c (.b false))⟩]
noncomputable def f30_r5 : List Stage := [⟨[⟨(some (K.ofNat 25)), none, .mv (.t (K.ofNat 6))⟩, ⟨(some (K.ofNat 26)), none, .mv (.t (K.ofNat 1))⟩, ⟨(some (K.ofNat 27)), none, .mv (.t (K.ofNat 7))⟩, ⟨(some (K.ofNat 28)), none, .iads 1 (.t (K.ofNat 26)) (.t (K.ofNat 27))⟩, ⟨(some (K.ofNat 29)), none, .ld (.t (K.ofNat 28))⟩, ⟨(some (K.ofNat 30)), none, .conv .u64 (.t (K.ofNat 29))⟩, ⟨(some (K.ofNat 31)), none, .mv (.t (K.ofNat 0))⟩, ⟨(some (K.ofNat 32)), none, .bin .shl (.c (.i .u64 (.ofNat 1))) (.t (K.ofNat 31))⟩, ⟨(some (K.ofNat 33)), none, .bin .rem (.t (K.ofNat 30)) (.t (K.ofNat 32))⟩, ⟨(some (K.ofNat 34)), none, .conv .i64 (.t (K.ofNat 33))⟩, ⟨(some (K.ofNat 35)), none, .bslice 1 1 [(.i .i64 (.ofNat 0))] [(0, 1, (.t (K.ofNat 34)))]⟩], [], (some ⟨(some (K.ofNat 36)), none, .app 1 (.t (K.ofNat 25)) (.t (K.ofNat 35))⟩), [(K.ofNat 35)]⟩, ⟨[], [], (some ⟨(some (K.ofNat 6)), none, .as (.t (K.ofNat 36))⟩), []⟩, ⟨[], [], none, []⟩]
noncomputable def f30_r6 : List EOper := [⟨(some (K.ofNat 23)), none, .mv (.t (K.ofNat 7))⟩, ⟨(some (K.ofNat 24)), none, .bin .add (.t (K.ofNat 23)) (.c (.i .i64 (.ofNat 1)))⟩, ⟨(some (K.ofNat 7)), none, .as (.t (K.ofNat 24))⟩]
noncomputable def f30_l0 : EC := (.seq (.seq (.reg f30_r4) (.cond (.t (K.ofNat 22)) .skip (.exit 0))) (.seq (.block 1 (.draw f30_r5)) (.reg f30_r6)))
noncomputable def f30_r7 : List EOper := [⟨(some (K.ofNat 37)), none, .mv (.t (K.ofNat 6))⟩, ⟨(some (K.ofNat 38)), none, .call (.c (.fn (K.ofNat 49) [])) [(.t (K.ofNat 37))]⟩, ⟨(some (K.ofNat 8)), none, .as (.t (K.ofNat 38))⟩]
noncomputable def f30_r8 : List EOper := [⟨(some (K.ofNat 39)), none, .mv (.t (K.ofNat 8))⟩, ⟨(some (K.ofNat 40)), none, .len (.t (K.ofNat 39))⟩, ⟨(some (K.ofNat 41)), none, .bin .gtr (.t (K.ofNat 40)) (.c (.i .i64 (.ofNat 1)))⟩, ⟨(some (K.ofNat 42)), none, .mv (.t (K.ofNat 41))⟩, ⟨(some (K.ofNat 43)), (some ((K.ofNat 42), true)), .mv (.t (K.ofNat 8))⟩, ⟨(some (K.ofNat 44)), (some ((K.ofNat 42), true)), .iads 1 (.t (K.ofNat 43)) (.c (.i .i64 (.ofNat 0)))⟩, ⟨(some (K.ofNat 45)), (some ((K.ofNat 42), true)), .ld (.t (K.ofNat 44))⟩, ⟨(some (K.ofNat 46)), (some ((K.ofNat 42), true)), .bin .eql (.t (K.ofNat 45)) (.c (.i .i64 (.ofNat 0)))⟩, ⟨(some (K.ofNat 47)), none, .pick (.t (K.ofNat 42)) (.t (K.ofNat 46)) (.c (.b false))⟩]
noncomputable def f30_r9 : List EOper := [⟨(some (K.ofNat 48)), none, .mv (.t (K.ofNat 8))⟩, ⟨(some (K.ofNat 49)), none, .slice 1 (.t (K.ofNat 48)) (some (.c (.i .i64 (.ofNat 1)))) none none⟩, ⟨(some (K.ofNat 8)), none, .as (.t (K.ofNat 49))⟩]
noncomputable def f30_r10 : List Stage := [⟨[⟨(some (K.ofNat 50)), none, .mv (.t (K.ofNat 0))⟩, ⟨(some (K.ofNat 51)), none, .mv (.t (K.ofNat 8))⟩, ⟨(some (K.ofNat 52)), none, .mv (.t (K.ofNat 8))⟩, ⟨(some (K.ofNat 53)), none, .len (.t (K.ofNat 52))⟩, ⟨(some (K.ofNat 54)), none, .min (.t (K.ofNat 53)) (.c (.i .i64 (.ofNat 10)))⟩, ⟨(some (K.ofNat 55)), none, .mv (.t (K.ofNat 8))⟩, ⟨(some (K.ofNat 56)), none, .len (.t (K.ofNat 55))⟩, ⟨(some (K.ofNat 57)), none, .min (.t (K.ofNat 56)) (.c (.i .i64 (.ofNat 10)))⟩, ⟨(some (K.ofNat 58)), none, .slice 1 (.t (K.ofNat 51)) none (some (.t (K.ofNat 54))) (some (.t (K.ofNat 57)))⟩], [], (some ⟨(some (K.ofNat 4)), none, .as (.t (K.ofNat 50))⟩), []⟩, ⟨[], [⟨(some (K.ofNat 51)), none, .mv (.t (K.ofNat 8))⟩, ⟨(some (K.ofNat 52)), none, .mv (.t (K.ofNat 8))⟩, ⟨(some (K.ofNat 53)), none, .len (.t (K.ofNat 52))⟩, ⟨(some (K.ofNat 54)), none, .min (.t (K.ofNat 53)) (.c (.i .i64 (.ofNat 10)))⟩, ⟨(some (K.ofNat 55)), none, .mv (.t (K.ofNat 8))⟩, ⟨(some (K.ofNat 56)), none, .len (.t (K.ofNat 55))⟩, ⟨(some (K.ofNat 57)), none, .min (.t (K.ofNat 56)) (.c (.i .i64 (.ofNat 10)))⟩, ⟨(some (K.ofNat 58)), none, .slice 1 (.t (K.ofNat 51)) none (some (.t (K.ofNat 54))) (some (.t (K.ofNat 57)))⟩], (some ⟨(some (K.ofNat 5)), none, .as (.t (K.ofNat 58))⟩), []⟩, ⟨[], [], none, []⟩]
noncomputable def f30_c : EC := (.seq (.reg f30_r0) (.seq (.reg f30_r1) (.seq (.reg f30_r2) (.seq (.seq (.reg f30_r3) (.block 0 (.loop f30_l0))) (.seq (.reg f30_r7) (.seq (.seq (.reg f30_r8) (.cond (.t (K.ofNat 47)) (.reg f30_r9) .skip)) (.seq (.draw f30_r10) .ret)))))))
noncomputable def f30 : EF := ⟨59, [.tmp (K.ofNat 4), .tmp (K.ofNat 5)], f30_c, none⟩
theorem f30_rs : f30.rs = [.tmp (K.ofNat 4), .tmp (K.ofNat 5)] := of_eq_true (eq_self _)
section
variable {fs : T EF} {ro : Option K}
noncomputable def tameN (n : Int) : Int := fw .i64 (1 + fw .i64 ((fw .u64 n).tmod 6))
theorem tameN_in (n : Int) : 1 ≤ tameN n ∧ tameN n ≤ 6 := by
  have h0 : 0 ≤ fw .u64 n := by rw [fw_eq]; exact Int.emod_nonneg _ (by decide)
  obtain ⟨m, hm⟩ := Int.eq_ofNat_of_zero_le h0
  have h1 : (fw .u64 n).tmod 6 = ((m % 6 : Nat) : Int) := by rw [hm]; rfl
  unfold tameN
  have e1 : fw .i64 ((m % 6 : Nat) : Int) = ((m % 6 : Nat) : Int) := fw64 (by omega) (by omega)
  rw [h1, e1, fw64 (by omega) (by omega)]
  omega
noncomputable def tameX (N x : Int) : Int := fw .i64 ((fw .u64 x).tmod (2 ^ N.toNat))
noncomputable def tameS (N : Int) (L : List Int) (i : Nat) : List Int := 1 :: (L.take i).map (tameX N)
noncomputable def tameP (N : Int) (L : List Int) : List Int := (fun p : List Int => if 1 < p.length ∧ p[0]? = some 0 then p.drop 1 else p) (piecesTo (tameS N L 10) 64)
theorem tameS_succ {N : Int} {L : List Int} {i : Nat} (hi : i < L.length) : tameS N L (i + 1) = tameS N L i ++ [tameX N L[i]] := by
  unfold tameS; rw [List.take_succ_eq_append_getElem hi, List.map_append]; rfl
theorem tameS_len {N : Int} {L : List Int} {i : Nat} : (tameS N L i).length ≤ i + 1 := by
  unfold tameS; rw [List.length_cons, List.length_map, List.length_take]; omega
def f30_I (h : H) (v : V) (L : List Int) (N : Int) (i : Nat) (fr : Fr) (h1 : H) : Prop := ∃ o, i ≤ L.length ∧ i ≤ 10 ∧ Sl iE h1 o (tameS N L i) ∧ Own h.nx.nat o ∧ Grow h.nx.nat h h1 ∧ fr.get (K.ofNat 0) = some (.i .i64 N) ∧ fr.get (K.ofNat 1) = some (v) ∧ fr.get (K.ofNat 6) = some (o) ∧ fr.get (K.ofNat 7) = some (.i .i64 (i : Int))
theorem f30_loop {Q : Ex → Fr → H → Prop} {h h0 : H} {v : V} {L : List Int} {N : Int} {fr : Fr} (hv : Sl iE h v L) (hc : HC h) (hn1 : 1 ≤ N) (hn6 : N ≤ 6)
    (hi0 : f30_I h v L N 0 fr h0)
    (hq : ∀ fr h1 o, Sl iE h1 o (tameS N L 10) → Own h.nx.nat o → Grow h.nx.nat h h1 → fr.get (K.ofNat 0) = some (.i .i64 N) ∧ fr.get (K.ofNat 1) = some (v) ∧ fr.get (K.ofNat 6) = some (o) → Q (.exit 0) fr h1) :
    W fs ro (.loop f30_l0) Q fr h0 := by
  refine W_loop (f30_I h v L N) (fun i => L.length - i) ?_ 0 hi0
  clear hi0 fr
  rintro i fr h1 ⟨o, hi, hi2, hso, hoo, hgr, g0, g1, g6, g7⟩
  have hv1 := hv.grow hc hgr
  have hc1 := hgr.hc hc
  unfold f30_l0
  by_cases hlt : i < L.length
  · have hlt' : (i : Int) < (L.length : Int) := by omega
    by_cases h12 : i < 10
    · have h12' : (i : Int) < 10 := by omega
      obtain ⟨p, hp1, hp2⟩ := hv1.at i hlt
      have hpw : (2 : Int) ^ N.toNat ≠ 0 := by
        have : N = 1 ∨ N = 2 ∨ N = 3 ∨ N = 4 ∨ N = 5 ∨ N = 6 := by omega
        rcases this with rfl | rfl | rfl | rfl | rfl | rfl <;> decide
      have hrem : ∀ a, binV .rem (.i .u64 a) (.i .u64 (2 ^ N.toNat)) = some (.i .u64 (a.tmod (2 ^ N.toNat))) := fun a => bin_rem hpw
      obtain ⟨v', h', q1, q2, q3, q4, q5⟩ := Sl.push (e := iE) (L := tameS N L i) (x := tameX N L[i]) (c := .i .i64 (fw .i64 ((fw .u64 L[i]).tmod (2 ^ N.toNat)))) rfl hso hoo hgr.nx hc1 (by have := tameS_len (N := N) (L := L) (i := i); omega)
      simp (disch := omega) only [f30_r4, f30_r5, w_skip, w_reg, w_draw, w_seq, w_cond, w_block, seqK_n, atK_n, ckB_b, cbB_b, okG_b, asG_t, true_and, x_nil, x_g, x_mv, x_as, x_pick, x_bin, x_len, x_app, kx, kg, xg_nil, xg_mv, xg_ld, xg_bin, xg_conv, xg_iads, xg_bslice, xd_cons, fresh_nil, stK_n, stK_s, stay_nil, rvP_ok, okv_some, ev_t, ev_c, getV_some, putD_some, bin_lss, pick_b, onI_i, oGet_s, cells1_i, fill_1, set_1, of0, of1, of10, Option.some.injEq, exists_eq_left', getK_set, Nat.reduceEqDiff, ↓reduceIte, g0, g1, g6, g7, hv1.len, hlt', h12', decide_true, hp1, hp2, iE, bin_shl, shlu_n, hrem, hc1.dead, q1]
      refine ⟨fresh_one (n := 1) (sz := 1) (by simp (disch := omega) only [getK_set, ↓reduceIte]), ?_⟩
      simp (disch := omega) only [f30_r6, loopK_n, x_nil, x_mv, x_as, x_bin, kx, rvP_ok, okv_some, ev_t, ev_c, getV_some, putD_some, bin_add, of1, getK_set, Nat.reduceEqDiff, ↓reduceIte, g7, fw64]
      exact ⟨i + 1, by omega, v', hlt, h12, by rw [tameS_succ hlt]; exact q2, q3, hgr.trans q4, by simp (disch := omega) only [getK_set, Nat.reduceEqDiff, ↓reduceIte, g0, g1, and_self, Int.natCast_add, Int.natCast_one]⟩
    · have h12' : ¬ (i : Int) < 10 := by omega
      obtain rfl : i = 10 := by omega
      simp (disch := omega) only [f30_r4, w_reg, w_seq, w_cond, w_exit, seqK_n, seqK_e, loopK_e, ckB_b, cbB_b, okG_b, asG_t, true_and, x_nil, x_g, x_mv, x_pick, x_bin, x_len, kx, rvP_ok, okv_some, ev_t, ev_c, getV_some, putD_some, bin_lss, pick_b, of10, getK_set, Nat.reduceEqDiff, ↓reduceIte, Bool.false_eq_true, g1, g7, hv1.len, hlt', h12', decide_true, decide_false]
      exact hq _ _ o hso hoo hgr (by simp (disch := omega) only [getK_set, Nat.reduceEqDiff, ↓reduceIte, g0, g1, g6, and_self])
  · have hlt' : ¬ (i : Int) < (L.length : Int) := by omega
    simp (disch := omega) only [f30_r4, w_reg, w_seq, w_cond, w_exit, seqK_n, seqK_e, loopK_e, ckB_b, cbB_b, okG_b, asG_t, true_and, x_nil, x_g, x_mv, x_pick, x_bin, x_len, kx, rvP_ok, okv_some, ev_t, ev_c, getV_some, putD_some, bin_lss, pick_b, of10, getK_set, Nat.reduceEqDiff, ↓reduceIte, Bool.false_eq_true, g1, g7, hv1.len, hlt', decide_false]
    refine hq _ _ o ?_ hoo hgr (by simp (disch := omega) only [getK_set, Nat.reduceEqDiff, ↓reduceIte, g0, g1, g6, and_self])
    have : tameS N L 10 = tameS N L i := by
      unfold tameS
      rw [List.take_of_length_le (show L.length ≤ 10 by omega), List.take_of_length_le (show L.length ≤ i by omega)]
    rw [this]; exact hso
theorem f30_ret {h : H} {v : V} {L : List Int} {n : Int}
    (hp : ∀ a b h P, CallP fs (.fn (K.ofNat 53) []) [.i .i64 a, .i .i64 b] h P = P (.b (ptI a b)) h) (h49 : fs.get (K.ofNat 49) = some f49) (hv : Sl iE h v L) (hc : HC h) :
    Ret fs f30 [.i .i64 n, v] h fun r h' => ∃ u, r = .tup [.i .i64 (tameN n), u] ∧ Sl iE h' u ((tameP (tameN n) L).take 10) ∧ Own h.nx.nat u ∧ Grow h.nx.nat h h' := by
  apply ret_of rfl
  show W fs none f30_c _ _ _
  unfold f30_c
  obtain ⟨n1, n6⟩ := tameN_in n
  have hnn : fw .i64 (1 + fw .i64 ((fw .u64 n).tmod 6)) = tameN n := rfl
  simp (disch := omega) only [f30_r0, f30_r1, f30_r2, f30_r3, w_reg, w_seq, w_block, seqK_n, x_nil, x_mv, x_as, x_bslice, x_bin, x_conv, kx, rvP_ok, okv_some, ev_t, ev_c, getV_some, putD_some, bin_add, bin_rem, onI_i, oGet_s, frame_2, cells1_i, fill_1, set_1, of0, of1, of6, getK_set, Nat.reduceEqDiff, ↓reduceIte, hnn]
  refine f30_loop (h := h) (v := v) (L := L) (N := tameN n) hv hc n1 n6 ⟨.sl h.nx 0 1 1, by omega, by omega, Sl.lit (e := iE) (x := 1), fun _ _ _ _ e => by cases e; exact Nat.le_refl _, Grow.new (Nat.le_refl _) _, by simp (disch := omega) only [getK_set, Nat.reduceEqDiff, ↓reduceIte, and_self, Int.natCast_zero]⟩ ?_
  rintro fr h1 o hso hoo hgr ⟨g0, g1, g6⟩
  have hc1 := hgr.hc hc
  simp (disch := omega) only [f30_r7, w_reg, w_seq, seqK_n, atK_e, x_mv, x_call, ev_t, ev_c, evs_nil, evs_cons, getV_some, putD_some, getK_set, ↓reduceIte, g6]
  refine (callP_0 (ef := f49) h49 rfl (f49_ret hp hso (by have := tameS_len (N := tameN n) (L := L) (i := 10); omega) hc1)).mono ?_
  rintro w h2 ⟨hsw, how, gr2⟩
  have gr := hgr.trans (gr2.low hgr.nx)
  have how' : Own h.nx.nat w := how.low hgr.nx
  generalize hP : piecesTo (tameS (tameN n) L 10) 64 = P at *
  have hlenP : P.length ≤ 64 := by rw [← hP]; exact piecesTo_len
  -- the end
  have fin : ∀ (w : V) (M : List Int) (fr : Fr), Sl iE h2 w M → Own h.nx.nat w → M = tameP (tameN n) L → fr.get (K.ofNat 0) = some (.i .i64 (tameN n)) ∧ fr.get (K.ofNat 8) = some (w) →
      W fs none (.seq (.draw f30_r10) .ret) (retK f30 fun r h' => ∃ u, r = .tup [.i .i64 (tameN n), u] ∧ Sl iE h' u ((tameP (tameN n) L).take 10) ∧ Own h.nx.nat u ∧ Grow h.nx.nat h h') fr h2 := by
    clear g0 g1 g6 fr
    rintro w M fr hsw how hM ⟨g0, g8⟩
    have hmin : min (M.length : Int) 10 = ((min M.length 10 : Nat) : Int) := by omega
    obtain ⟨x, x1, x2, x3, _⟩ := Sl.cut3 (k := .i64) (k' := .i64) (m := min M.length 10) hsw (by omega)
    rw [show M.take (min M.length 10) = M.take 10 by rw [Nat.min_comm, List.take_eq_take_iff]; omega] at x2
    simp (disch := omega) only [f30_r10, f30_rs, w_draw, w_seq, w_ret, seqK_n, true_and, retK_r, x_nil, x_as, sliceV_eq, Option.map_none, Option.map_some, kg, xg_nil, xg_mv, xg_slice, xg_len, xg_min, xd_cons, fresh_nil, stK_n, stK_s, stay_nil, stay_cons, again_ok, stay_mv, stay_len, stay_min, stay_slice, beq_i, rvP_ok, ev_t, ev_c, getV_some, putD_some, oGet_s, min_ii, readRs_nil, readRs_t, retV_2, of10, Option.some.injEq, exists_eq_left', getK_set, Nat.reduceEqDiff, ↓reduceIte, g0, g8, hsw.len, hmin, x1, hsw.beq, x2.beq, and_self]
    exact ⟨x, rfl, by rw [← hM]; exact x2, x3 _ how, gr⟩
  by_cases h1 : 1 < P.length
  · have h1' : (1 : Int) < (P.length : Int) := by omega
    obtain ⟨p, hp1, hp2⟩ := hsw.at 0 (by omega)
    have hp1' : ∀ k h1, iadsV 1 w (.i k 0) h1 = .ok p h1 := fun k h1 => hp1 k h1
    have hz : P[0]? = some P[0] := by rw [List.getElem?_eq_getElem]
    by_cases e0 : P[0] = 0
    · obtain ⟨x, x1, x2, x3, _⟩ := hsw.cut (lo := some (.i .i64 1)) (hi := none) (l := 1) (u := P.length) rfl bnd_none (by omega) (Nat.le_refl _)
      rw [List.take_length] at x2
      simp (disch := omega) only [f30_r8, f30_r9, w_reg, w_draw, w_seq, w_cond, seqK_n, ckB_b, cbB_b, okG_b, asG_t, true_and, x_nil, x_g, x_mv, x_as, x_pick, x_ld, x_bin, x_slice, sliceV_eq, Option.map_none, Option.map_some, x_iads, x_len, kx, rvP_ok, okv_some, ev_t, ev_c, getV_some, putD_some, bin_eql, bin_gtr, pick_b, of0, of1, getK_set, Nat.reduceEqDiff, ↓reduceIte, hsw.len, h1', decide_true, hp1', hp2, iE, e0, x1]
      exact fin x (P.drop 1) _ x2 (x3 _ how') (by unfold tameP; rw [hP]; simp only []; rw [if_pos ⟨h1, by rw [hz, e0]⟩]) (by simp (disch := omega) only [getK_set, Nat.reduceEqDiff, ↓reduceIte, g0, and_self])
    · simp (disch := omega) only [f30_r8, f30_r9, w_skip, w_reg, w_draw, w_seq, w_cond, seqK_n, ckB_b, cbB_b, okG_b, asG_t, true_and, x_nil, x_g, x_mv, x_as, x_pick, x_ld, x_bin, x_iads, x_len, kx, rvP_ok, okv_some, ev_t, ev_c, getV_some, putD_some, bin_eql, bin_gtr, pick_b, of0, of1, getK_set, Nat.reduceEqDiff, ↓reduceIte, Bool.false_eq_true, hsw.len, h1', decide_true, decide_false, hp1', hp2, iE, e0]
      exact fin w P _ hsw how' (by unfold tameP; rw [hP]; simp only []; rw [if_neg (fun h => e0 (by rw [hz] at h; exact Option.some.inj h.2))]) (by simp (disch := omega) only [getK_set, Nat.reduceEqDiff, ↓reduceIte, g0, and_self])
  · have h1' : ¬ (1 : Int) < (P.length : Int) := by omega
    simp (disch := omega) only [f30_r8, f30_r9, w_skip, w_reg, w_draw, w_seq, w_cond, seqK_n, ckB_b, cbB_b, okG_b, asG_t, true_and, x_nil, x_g, x_mv, x_as, x_pick, x_bin, x_len, kx, rvP_ok, okv_some, ev_t, ev_c, getV_some, putD_some, bin_gtr, pick_b, of0, of1, getK_set, Nat.reduceEqDiff, ↓reduceIte, Bool.false_eq_true, hsw.len, h1', decide_false]
    exact fin w P _ hsw how' (by unfold tameP; rw [hP]; simp only []; rw [if_neg (fun h => h1 h.1)]) (by simp (disch := omega) only [getK_set, Nat.reduceEqDiff, ↓reduceIte, g0, and_self])
end
end Go.Ev
namespace Go.Ev
open Go Go.RowKit
noncomputable def f90_r0 : List EOper := [⟨(some (K.ofNat 2)), none, .box 1 (.t (K.ofNat 0))⟩, ⟨(some (K.ofNat 4)), none, .as (.c .sn)⟩]
noncomputable def f90_r1 : List EOper := [⟨(some (K.ofNat 6)), none, .mv (.t (K.ofNat 1))⟩]
noncomputable def f90_r2 : List EOper := [⟨(some (K.ofNat 5)), none, .as (.t (K.ofNat 7))⟩]
noncomputable def f90_a0 : EC := (.reg f90_r2)
noncomputable def f90_r3 : List EOper := [⟨(some (K.ofNat 8)), none, .ld (.t (K.ofNat 2))⟩, ⟨(some (K.ofNat 9)), none, .mv (.t (K.ofNat 5))⟩, ⟨(some (K.ofNat 10)), none, .bslice 1 1 [(.i .i64 (.ofNat 0))] [(0, 1, (.t (K.ofNat 9)))]⟩, ⟨(some (K.ofNat 11)), none, .app 1 (.t (K.ofNat 8)) (.t (K.ofNat 10))⟩, ⟨none, none, .st 1 (.t (K.ofNat 2)) (.t (K.ofNat 11))⟩]
noncomputable def f90_b0 : EC := (.block 1 (.reg f90_r3))
noncomputable def f90_r4 : List EOper := [⟨(some (K.ofNat 12)), none, .ld (.t (K.ofNat 2))⟩, ⟨(some (K.ofNat 4)), none, .as (.t (K.ofNat 12))⟩]
noncomputable def f90_c : EC := (.seq (.reg f90_r0) (.seq (.seq (.reg f90_r1) (.block 0 (.rangeF (.t (K.ofNat 6)) [(K.ofNat 7)] f90_a0 f90_b0))) (.seq (.reg f90_r4) .ret)))
noncomputable def f90 : EF := ⟨13, [.tmp (K.ofNat 4)], f90_c, none⟩
theorem f90_rs : f90.rs = [.tmp (K.ofNat 4)] := of_eq_true (eq_self _)
noncomputable def f77_r0 : List EOper := [⟨(some (K.ofNat 2)), none, .as (.c .sn)⟩]
noncomputable def f77_r1 : List EOper := [⟨(some (K.ofNat 3)), none, .mv (.t (K.ofNat 0))⟩, ⟨(some (K.ofNat 4)), none, .call (.c (.fn (K.ofNat 90) [])) [(.c .sn), (.t (K.ofNat 3))]⟩, ⟨(some (K.ofNat 2)), none, .as (.t (K.ofNat 4))⟩]
noncomputable def f77_c : EC := (.seq (.reg f77_r0) (.seq (.reg f77_r1) .ret))
noncomputable def f77 : EF := ⟨5, [.tmp (K.ofNat 2)], f77_c, none⟩
theorem f77_rs : f77.rs = [.tmp (K.ofNat 2)] := of_eq_true (eq_self _)
noncomputable def f56_r0 : List EOper := [⟨(some (K.ofNat 1)), none, .box 64 (.t (K.ofNat 0))⟩, ⟨(some (K.ofNat 2)), none, .as (.c .sn)⟩]
noncomputable def f56_r1 : List EOper := [⟨(some (K.ofNat 3)), none, .ldn 64 (.t (K.ofNat 1))⟩, ⟨(some (K.ofNat 4)), none, .call (.c (.fn (K.ofNat 78) [])) [(.t (K.ofNat 3))]⟩, ⟨(some (K.ofNat 5)), none, .call (.c (.fn (K.ofNat 77) [])) [(.t (K.ofNat 4))]⟩, ⟨(some (K.ofNat 2)), none, .as (.t (K.ofNat 5))⟩]
noncomputable def f56_c : EC := (.seq (.reg f56_r0) (.seq (.reg f56_r1) .ret))
noncomputable def f56 : EF := ⟨6, [.tmp (K.ofNat 2)], f56_c, none⟩
theorem f56_rs : f56.rs = [.tmp (K.ofNat 2)] := of_eq_true (eq_self _)
noncomputable def f17_r0 : List EOper := [⟨(some (K.ofNat 4)), none, .as (.c .sn)⟩, ⟨(some (K.ofNat 5)), none, .as (.c (.i .i64 (.ofNat 0)))⟩]
noncomputable def f17_r1 : List EOper := [⟨(some (K.ofNat 7)), none, .mv (.t (K.ofNat 0))⟩, ⟨(some (K.ofNat 8)), none, .mv (.t (K.ofNat 1))⟩, ⟨(some (K.ofNat 9)), none, .call (.c (.fn (K.ofNat 16) [])) [(.t (K.ofNat 7)), (.t (K.ofNat 8))]⟩, ⟨(some (K.ofNat 6)), none, .as (.t (K.ofNat 9))⟩]
noncomputable def f17_r2 : List EOper := [⟨(some (K.ofNat 10)), none, .mv (.t (K.ofNat 6))⟩, ⟨(some (K.ofNat 11)), none, .bin .neq (.t (K.ofNat 10)) (.c (.i .i64 (.ofNat 0)))⟩]
noncomputable def f17_r3 : List EOper := [⟨(some (K.ofNat 12)), none, .mv (.t (K.ofNat 6))⟩, ⟨(some (K.ofNat 4)), none, .as (.c .sn)⟩, ⟨(some (K.ofNat 5)), none, .as (.t (K.ofNat 12))⟩]
noncomputable def f17_r4 : List EOper := [⟨(some (K.ofNat 13)), none, .mv (.t (K.ofNat 1))⟩, ⟨(some (K.ofNat 14)), none, .call (.c (.fn (K.ofNat 55) [])) [(.t (K.ofNat 13))]⟩, ⟨(some (K.ofNat 15)), none, .call (.c (.fn (K.ofNat 56) [])) [(.t (K.ofNat 14))]⟩, ⟨(some (K.ofNat 4)), none, .as (.t (K.ofNat 15))⟩, ⟨(some (K.ofNat 5)), none, .as (.c (.i .i64 (.ofNat 0)))⟩]
noncomputable def f17_c : EC := (.seq (.reg f17_r0) (.seq (.seq (.reg f17_r1) (.seq (.reg f17_r2) (.cond (.t (K.ofNat 11)) (.seq (.reg f17_r3) .ret) .skip))) (.seq (.reg f17_r4) .ret)))
noncomputable def f17 : EF := ⟨16, [.tmp (K.ofNat 4), .tmp (K.ofNat 5)], f17_c, none⟩
theorem f17_rs : f17.rs = [.tmp (K.ofNat 4), .tmp (K.ofNat 5)] := of_eq_true (eq_self _)
section
variable {fs : T EF} {ro : Option K}
theorem f90_ret {h : H} {k : K} {caps : List V} {N : H → Prop} {L : List Int} (hy : Yields fs k caps N (L.map iE)) (hN : ∀ h', Grow h.nx.nat h h' → N h') (hc : HC h) (hL : L.length ≤ 1000) :
    Ret fs f90 [.sn, .fn k caps] h fun u h' => Sl iE h' u L ∧ Own h.nx.nat u ∧ Grow h.nx.nat h h' := by
  apply ret_of rfl
  show W fs none f90_c _ _ _
  unfold f90_c
  simp (disch := omega) only [f90_r0, f90_r1, w_reg, w_seq, w_block, seqK_n, x_nil, x_mv, x_as, x_box, kx, rvP_ok, ev_t, ev_c, getV_some, putD_some, oGet_s, frame_2, cells1_sn, getK_set, Nat.reduceEqDiff, ↓reduceIte]
  have n1 := nx_new h (.cells 1 [.sn])
  have g1 : Grow h.nx.nat h (h.new (.cells 1 [.sn])) := Grow.new (Nat.le_refl _) _
  have e1 : (h.new (.cells 1 [.sn])).get h.nx = .cells 1 [.sn] := get_new_same
  generalize h.new (.cells 1 [.sn]) = h1 at *
  have hc1 := g1.hc hc
  generalize hfr1 : T.set (K.ofNat 6) (V.fn k caps) _ = fr1
  have f6 : fr1.get (K.ofNat 6) = some (.fn k caps) := by rw [← hfr1]; simp (disch := omega) only [getK_set, ↓reduceIte]
  have f2 : fr1.get (K.ofNat 2) = some (.p h.nx 0) := by rw [← hfr1]; simp (disch := omega) only [getK_set, Nat.reduceEqDiff, ↓reduceIte]
  clear hfr1
  have n2 := nx_new h1 (rdyB fr1 [(K.ofNat 7)] f90_a0 f90_b0)
  have g2 : Grow h1.nx.nat h1 (h1.new (rdyB fr1 [(K.ofNat 7)] f90_a0 f90_b0)) := Grow.new (Nat.le_refl _) _
  refine W_range (k := k) (caps := caps) (N := N) (ys := L.map iE) rfl (by simp (disch := omega) only [ev_t, getV_some, f6]) hy
    (fun j h5 => ∃ o lb, AccI iE h.nx.nat h h.nx h1.nx [] o (L.take j) lb h5) (fun _ _ => False) (fun i h5 ⟨o, lb, ht⟩ => hN _ ht.gr)
    ⟨.sn, _, Sl.nil, Own.sn, g1.trans (g2.low (by omega)), by rw [g2.old _ (by omega)]; exact e1, (fun p hp => by cases hp), get_new_same, by omega, by omega, Nat.le_refl _, (fun p hp => by cases hp)⟩ ?_ ?_ (fun _ _ _ hf => hf.elim)
  · rintro j h5 hj ⟨o, lb, ht⟩ hrd
    have hj' : j < L.length := by simpa using hj
    obtain rfl : lb = rdyB fr1 [(K.ofNat 7)] f90_a0 f90_b0 := ht.el.symm.trans hrd
    rw [List.getElem_map]
    rw [show ∀ Q fr h, W fs (some h1.nx) f90_a0 Q fr h = X fs f90_r2 (Q .normal) fr h from fun _ _ _ => rfl]
    simp (disch := omega) only [f90_r2, rndA_n, x_nil, x_as, ev_t, getV_some, putD_some, getK_set, ↓reduceIte]
    refine ⟨ht.el, ?_⟩
    have ht7 := ht.loop (bsyB fr1 [(K.ofNat 7)] f90_a0 f90_b0)
    generalize h5.put h1.nx (bsyB fr1 [(K.ofNat 7)] f90_a0 f90_b0) = h7 at *
    have hc7 := ht7.gr.hc hc
    obtain ⟨v', h', p1, p2, p3⟩ := ht7.push (x := L[j]) (c := .i .i64 L[j]) rfl hc7 (by rw [List.length_take]; omega)
    rw [show ∀ Q fr h, W fs (some h1.nx) f90_b0 Q fr h = X fs f90_r3 (atK 1 Q .normal) fr h from fun _ _ _ => rfl]
    simp (disch := omega) only [f90_r3, atK_n, rndK_n, x_nil, x_mv, x_bslice, x_ld, x_st, x_app, kx, rvP_ok, ev_t, getV_some, putD_some, putD_none, oGet_s, cells1_i, fill_1, set_1, of0, getK_set, Nat.reduceEqDiff, ↓reduceIte, f2, iE, ht7.ld, p1, p2]
    refine ⟨p3.el, v', rdyB fr1 [(K.ofNat 7)] f90_a0 f90_b0, ?_⟩
    rw [List.take_succ_eq_append_getElem hj']
    exact p3.loop _
  · rintro h5 ⟨o, lb, ht⟩
    have ht2 := ht.loop .dead
    rw [List.length_map, List.take_length] at ht2
    simp (disch := omega) only [f90_r4, f90_rs, w_reg, w_seq, w_ret, seqK_n, atK_n, retK_r, x_nil, x_as, x_ld, kx, rvP_ok, ev_t, getV_some, putD_some, oGet_s, readRs_nil, readRs_t, retV_1, Option.some.injEq, exists_eq_left', getK_set, ↓reduceIte, f2, ht2.ld]
    exact ⟨ht2.sl, ht2.own.low (by omega), ht2.gr⟩
theorem f77_ret {h : H} {k : K} {caps : List V} {N : H → Prop} {L : List Int} (h90 : fs.get (K.ofNat 90) = some f90) (hy : Yields fs k caps N (L.map iE)) (hN : ∀ h', Grow h.nx.nat h h' → N h') (hc : HC h) (hL : L.length ≤ 1000) :
    Ret fs f77 [.fn k caps] h fun u h' => Sl iE h' u L ∧ Own h.nx.nat u ∧ Grow h.nx.nat h h' := by
  apply ret_of rfl
  show W fs none f77_c _ _ _
  unfold f77_c
  simp (disch := omega) only [f77_r0, f77_r1, w_reg, w_seq, seqK_n, x_nil, x_mv, x_as, x_call, ev_t, ev_c, evs_nil, evs_cons, getV_some, putD_some, frame_1, getK_set, Nat.reduceEqDiff, ↓reduceIte]
  refine (callP_0 (ef := f90) h90 rfl (f90_ret hy hN hc hL)).mono ?_
  rintro u h1 hr
  simp (disch := omega) only [f77_rs, w_ret, seqK_n, retK_r, x_nil, x_as, kx, ev_t, getV_some, putD_some, oGet_s, readRs_nil, readRs_t, retV_1, Option.some.injEq, exists_eq_left', getK_set, ↓reduceIte]
  exact hr
def memI (B : Nat → Bool) : List Int := (mem64 B).map fun (k : Nat) => (k : Int)
theorem memI_len {B : Nat → Bool} : (memI B).length ≤ 64 := by unfold memI; rw [List.length_map]; exact mem64_len
theorem ysOf_eq {B : Nat → Bool} : ysOf B = (memI B).map iE := by unfold ysOf memI; rw [List.map_map]; rfl
theorem f56_ret {h : H} {B : Nat → Bool} (h77 : fs.get (K.ofNat 77) = some f77) (h90 : fs.get (K.ofNat 90) = some f90) (h78 : fs.get (K.ofNat 78) = some f78) (h91 : fs.get (K.ofNat 91) = some alF) (hc : HC h) :
    Ret fs f56 [.agg (boolV B)] h fun u h' => Sl iE h' u (memI B) ∧ Own h.nx.nat u ∧ Grow h.nx.nat h h' := by
  apply ret_of rfl
  show W fs none f56_c _ _ _
  unfold f56_c
  have n1 := nx_new h (.cells 64 (boolV B))
  have g1 : Grow h.nx.nat h (h.new (.cells 64 (boolV B))) := Grow.new (Nat.le_refl _) _
  have hA : Ar V.b (h.new (.cells 64 (boolV B))) h.nx (arr B 64) := by
    unfold Ar; rw [arr_len, get_new_same]; rfl
  simp (disch := omega) only [f56_r0, f56_r1, w_reg, w_seq, seqK_n, x_nil, x_as, x_box, x_ldn, x_call, kx, rvP_ok, ev_t, ev_c, evs_nil, evs_cons, getV_some, putD_some, oGet_s, frame_1, getK_set, Nat.reduceEqDiff, ↓reduceIte, cells64 (boolV_len (B := B)), hA.ldn (n := 64) (by rw [arr_len])]
  refine (callP_0 (ef := f78) h78 rfl (f78_ret (boolV_len (B := B)))).mono ?_
  rintro u h1 ⟨rfl, rfl⟩
  simp (disch := omega) only [x_call, kx, ev_t, ev_c, evs_nil, evs_cons, getV_some, putD_some, getK_set, ↓reduceIte]
  generalize hh1 : h.new (.cells 64 (boolV B)) = h1 at *
  have n2 := nx_new h1 (.cells 64 (boolV B))
  have g2 : Grow h1.nx.nat h1 (h1.new (.cells 64 (boolV B))) := Grow.new (Nat.le_refl _) _
  have hy := all_yields (fs := fs) (idp := h1.nx) h91 (boolV_at (B := B))
  rw [show (((List.range 64).filter B).map fun (i : Nat) => V.i .i64 (i : Int)) = (memI B).map iE from ysOf_eq] at hy
  refine (callP_0 (ef := f77) h77 rfl (f77_ret (k := (K.ofNat 91)) (caps := [.p h1.nx 0]) h90 hy (fun h' hg => by rw [hg.old _ (by omega)]; exact get_new_same) (g2.hc (g1.hc hc)) (by have := memI_len (B := B); omega))).mono ?_
  rintro u h3 ⟨hs, ho, g3⟩
  simp (disch := omega) only [f56_rs, w_ret, seqK_n, retK_r, x_nil, x_as, kx, ev_t, getV_some, putD_some, oGet_s, readRs_nil, readRs_t, retV_1, Option.some.injEq, exists_eq_left', getK_set, ↓reduceIte]
  exact ⟨hs, ho.low (by omega), g1.trans ((g2.low (by omega)).trans (g3.low (by omega)))⟩
theorem famB_list {S : List Int} : (arr (famB S) 64).map V.b = boolV (famB S) := rfl
theorem f17_ret {h : H} {v : V} {S : List Int} {n : Int} (hp : ∀ a b h P, CallP fs (.fn (K.ofNat 54) []) [.i .i64 a, .i .i64 b] h P = P (.b (ptI a b)) h) (h16 : fs.get (K.ofNat 16) = some f16) (h55 : fs.get (K.ofNat 55) = some f55) (h56 : fs.get (K.ofNat 56) = some f56) (h77 : fs.get (K.ofNat 77) = some f77) (h90 : fs.get (K.ofNat 90) = some f90) (h78 : fs.get (K.ofNat 78) = some f78) (h91 : fs.get (K.ofNat 91) = some alF)
    (hv : Sl iE h v S) (hc : HC h) (hS : S.length ≤ 1000000) :
    Ret fs f17 [.i .i64 n, v] h fun r h' => ∃ u, r = .tup [u, .i .i64 (chkS n S)] ∧ Sl iE h' u (if chkS n S = 0 then memI (famB S) else []) ∧ Own h.nx.nat u ∧ Grow h.nx.nat h h' := by
  apply ret_of rfl
  show W fs none f17_c _ _ _
  unfold f17_c
  simp (disch := omega) only [f17_r0, f17_r1, w_reg, w_seq, seqK_n, x_nil, x_mv, x_as, x_call, ev_t, ev_c, evs_nil, evs_cons, getV_some, putD_some, frame_2, of0, getK_set, Nat.reduceEqDiff, ↓reduceIte]
  refine (callP_0 (ef := f16) h16 rfl (f16_ret hp hv)).mono ?_
  rintro u h1 ⟨rfl, rfl⟩
  by_cases e : chkS n S = 0
  · simp (disch := omega) only [f17_r2, f17_r4, w_skip, w_reg, w_seq, w_cond, seqK_n, ckB_b, cbB_b, true_and, x_nil, x_mv, x_as, x_bin, x_call, kx, rvP_ok, okv_some, ev_t, ev_c, evs_nil, evs_cons, getV_some, putD_some, bin_neq, of0, getK_set, Nat.reduceEqDiff, ↓reduceIte, Bool.false_eq_true, e, ne_eq, not_true_eq_false, decide_false]
    refine (callP_0 (ef := f55) h55 rfl (f55_ret (S := S) hp hv hc hS)).mono ?_
    rintro u h2 ⟨rfl, g2⟩
    rw [famB_list]
    simp (disch := omega) only [x_call, kx, ev_t, ev_c, evs_nil, evs_cons, getV_some, putD_some, getK_set, ↓reduceIte]
    refine (callP_0 (ef := f56) h56 rfl (f56_ret (B := famB S) h77 h90 h78 h91 (g2.hc hc))).mono ?_
    rintro u h3 ⟨hs, ho, g3⟩
    simp (disch := omega) only [f17_rs, w_ret, seqK_n, retK_r, x_nil, x_as, kx, ev_t, ev_c, getV_some, putD_some, oGet_s, readRs_nil, readRs_t, retV_2, Option.some.injEq, exists_eq_left', getK_set, Nat.reduceEqDiff, ↓reduceIte]
    exact ⟨u, rfl, hs, ho.low g2.nx, g2.trans (g3.low g2.nx)⟩
  · simp (disch := omega) only [f17_r2, f17_r3, f17_rs, w_reg, w_seq, w_cond, w_ret, seqK_n, seqK_r, ckB_b, cbB_b, true_and, retK_r, x_nil, x_mv, x_as, x_bin, kx, rvP_ok, okv_some, ev_t, ev_c, getV_some, putD_some, bin_neq, oGet_s, readRs_nil, readRs_t, retV_2, of0, Option.some.injEq, exists_eq_left', getK_set, Nat.reduceEqDiff, ↓reduceIte, e, ne_eq, not_false_eq_true, decide_true]
    exact ⟨.sn, rfl, Sl.nil, Own.sn, Grow.refl _ _⟩
end
end Go.Ev
namespace Go.Ev
open Go Go.RowKit
noncomputable def f57_r0 : List EOper := [⟨(some (K.ofNat 1)), none, .box 64 (.t (K.ofNat 0))⟩, ⟨(some (K.ofNat 2)), none, .as (.c .sn)⟩]
noncomputable def f57_r1 : List EOper := [⟨(some (K.ofNat 3)), none, .alloc 1 [.sn]⟩]
noncomputable def f57_r2 : List EOper := [⟨(some (K.ofNat 6)), none, .ldn 64 (.t (K.ofNat 1))⟩, ⟨(some (K.ofNat 7)), none, .call (.c (.fn (K.ofNat 78) [])) [(.t (K.ofNat 6))]⟩]
noncomputable def f57_r3 : List EOper := [⟨(some (K.ofNat 4)), none, .as (.t (K.ofNat 8))⟩]
noncomputable def f57_a0 : EC := (.reg f57_r3)
noncomputable def f57_r4 : List EOper := [⟨(some (K.ofNat 9)), none, .mv (.t (K.ofNat 4))⟩, ⟨(some (K.ofNat 10)), none, .call (.c (.fn (K.ofNat 75) [])) [(.t (K.ofNat 9))]⟩, ⟨(some (K.ofNat 5)), none, .as (.t (K.ofNat 10))⟩]
noncomputable def f57_r5 : List EOper := [⟨(some (K.ofNat 11)), none, .ld (.t (K.ofNat 3))⟩, ⟨(some (K.ofNat 12)), none, .len (.t (K.ofNat 11))⟩, ⟨(some (K.ofNat 13)), none, .mv (.t (K.ofNat 5))⟩, ⟨(some (K.ofNat 14)), none, .bin .leq (.t (K.ofNat 12)) (.t (K.ofNat 13))⟩]
noncomputable def f57_r6 : List EOper := [⟨(some (K.ofNat 15)), none, .ld (.t (K.ofNat 3))⟩, ⟨(some (K.ofNat 16)), none, .bslice 1 1 [(.i .i64 (.ofNat 0))] [(0, 1, (.c (.i .i64 (.ofNat 0))))]⟩, ⟨(some (K.ofNat 17)), none, .app 1 (.t (K.ofNat 15)) (.t (K.ofNat 16))⟩, ⟨none, none, .st 1 (.t (K.ofNat 3)) (.t (K.ofNat 17))⟩]
noncomputable def f57_l0 : EC := (.seq (.seq (.reg f57_r5) (.cond (.t (K.ofNat 14)) .skip (.exit 2))) (.block 3 (.reg f57_r6)))
noncomputable def f57_r7 : List EOper := [⟨(some (K.ofNat 18)), none, .ld (.t (K.ofNat 3))⟩, ⟨(some (K.ofNat 19)), none, .mv (.t (K.ofNat 5))⟩, ⟨(some (K.ofNat 20)), none, .iads 1 (.t (K.ofNat 18)) (.t (K.ofNat 19))⟩, ⟨(some (K.ofNat 21)), none, .ld (.t (K.ofNat 20))⟩, ⟨(some (K.ofNat 22)), none, .bin .add (.t (K.ofNat 21)) (.c (.i .i64 (.ofNat 1)))⟩, ⟨(some (K.ofNat 23)), none, .iads 1 (.t (K.ofNat 18)) (.t (K.ofNat 19))⟩, ⟨none, none, .st 1 (.t (K.ofNat 23)) (.t (K.ofNat 22))⟩]
noncomputable def f57_b0 : EC := (.block 1 (.seq (.reg f57_r4) (.seq (.block 2 (.loop f57_l0)) (.reg f57_r7))))
noncomputable def f57_r8 : List EOper := [⟨(some (K.ofNat 24)), none, .ld (.t (K.ofNat 3))⟩, ⟨(some (K.ofNat 2)), none, .as (.t (K.ofNat 24))⟩]
noncomputable def f57_c : EC := (.seq (.reg f57_r0) (.seq (.reg f57_r1) (.seq (.seq (.reg f57_r2) (.block 0 (.rangeF (.t (K.ofNat 7)) [(K.ofNat 8)] f57_a0 f57_b0))) (.seq (.reg f57_r8) .ret))))
noncomputable def f57 : EF := ⟨25, [.tmp (K.ofNat 2)], f57_c, none⟩
theorem f57_rs : f57.rs = [.tmp (K.ofNat 2)] := of_eq_true (eq_self _)
noncomputable def f18_r0 : List EOper := [⟨(some (K.ofNat 4)), none, .as (.c .sn)⟩, ⟨(some (K.ofNat 5)), none, .as (.c (.i .i64 (.ofNat 0)))⟩]
noncomputable def f18_r1 : List EOper := [⟨(some (K.ofNat 7)), none, .mv (.t (K.ofNat 0))⟩, ⟨(some (K.ofNat 8)), none, .mv (.t (K.ofNat 1))⟩, ⟨(some (K.ofNat 9)), none, .call (.c (.fn (K.ofNat 16) [])) [(.t (K.ofNat 7)), (.t (K.ofNat 8))]⟩, ⟨(some (K.ofNat 6)), none, .as (.t (K.ofNat 9))⟩]
noncomputable def f18_r2 : List EOper := [⟨(some (K.ofNat 10)), none, .mv (.t (K.ofNat 6))⟩, ⟨(some (K.ofNat 11)), none, .bin .neq (.t (K.ofNat 10)) (.c (.i .i64 (.ofNat 0)))⟩]
noncomputable def f18_r3 : List EOper := [⟨(some (K.ofNat 12)), none, .mv (.t (K.ofNat 6))⟩, ⟨(some (K.ofNat 4)), none, .as (.c .sn)⟩, ⟨(some (K.ofNat 5)), none, .as (.t (K.ofNat 12))⟩]
noncomputable def f18_r4 : List EOper := [⟨(some (K.ofNat 13)), none, .mv (.t (K.ofNat 1))⟩, ⟨(some (K.ofNat 14)), none, .call (.c (.fn (K.ofNat 55) [])) [(.t (K.ofNat 13))]⟩, ⟨(some (K.ofNat 15)), none, .call (.c (.fn (K.ofNat 57) [])) [(.t (K.ofNat 14))]⟩, ⟨(some (K.ofNat 4)), none, .as (.t (K.ofNat 15))⟩, ⟨(some (K.ofNat 5)), none, .as (.c (.i .i64 (.ofNat 0)))⟩]
noncomputable def f18_c : EC := (.seq (.reg f18_r0) (.seq (.seq (.reg f18_r1) (.seq (.reg f18_r2) (.cond (.t (K.ofNat 11)) (.seq (.reg f18_r3) .ret) .skip))) (.seq (.reg f18_r4) .ret)))
noncomputable def f18 : EF := ⟨16, [.tmp (K.ofNat 4), .tmp (K.ofNat 5)], f18_c, none⟩
theorem f18_rs : f18.rs = [.tmp (K.ofNat 4), .tmp (K.ofNat 5)] := of_eq_true (eq_self _)
section
variable {fs : T EF} {ro : Option K}
theorem snoc_ind {α : Type} {P : List α → Prop} (h0 : P []) (h1 : ∀ l a, P l → P (l ++ [a])) (l : List α) : P l := by
  have : ∀ m : List α, P m.reverse := by
    intro m
    induction m with
    | nil => exact h0
    | cons a m ih => rw [List.reverse_cons]; exact h1 _ _ ih
  have h := this l.reverse
  rwa [List.reverse_reverse] at h
noncomputable def cpad (C : List Int) (m : Nat) : List Int := C ++ List.replicate (m + 1 - C.length) 0
noncomputable def cstep (C : List Int) (m : Nat) : List Int := (cpad C m).set m ((cpad C m).getD m 0 + 1)
noncomputable def cntS (l : List Nat) : List Int := l.foldl (fun C k => cstep C (pop6 k)) []
theorem cntS_snoc {l : List Nat} {k : Nat} : cntS (l ++ [k]) = cstep (cntS l) (pop6 k) := by unfold cntS; rw [List.foldl_append]; rfl
theorem cpad_len {C : List Int} {m : Nat} : m < (cpad C m).length := by unfold cpad; rw [List.length_append, List.length_replicate]; omega
theorem cpad_bd {C : List Int} {m : Nat} {b : Int} (hb : 0 ≤ b) (h : ∀ x ∈ C, 0 ≤ x ∧ x ≤ b) : ∀ x ∈ cpad C m, 0 ≤ x ∧ x ≤ b := by
  intro x hx
  unfold cpad at hx
  rcases List.mem_append.1 hx with h1 | h1
  · exact h x h1
  · have := List.eq_of_mem_replicate h1; omega
theorem cntS_bd : ∀ (l : List Nat), ∀ x ∈ cntS l, 0 ≤ x ∧ x ≤ (l.length : Int) := by
  intro l
  refine snoc_ind (P := fun l => ∀ x ∈ cntS l, 0 ≤ x ∧ x ≤ (l.length : Int)) (fun x hx => by cases hx) (fun l k ih => ?_) l
  · intro x hx
    rw [cntS_snoc] at hx
    have h1 := cpad_bd (m := pop6 k) (b := (l.length : Int)) (by omega) ih
    unfold cstep at hx
    rw [List.length_append]
    rcases List.mem_or_eq_of_mem_set hx with h2 | h2
    · have := h1 x h2; simp; omega
    · have h3 : (cpad (cntS l) (pop6 k)).getD (pop6 k) 0 ∈ cpad (cntS l) (pop6 k) := by
        have := cpad_len (C := cntS l) (m := pop6 k)
        simp [List.getD, this]
      have := h1 _ h3; simp; omega
theorem pop6_le {k : Nat} : pop6 k ≤ 6 := by
  show k % 2 + (k / 2 % 2 + (k / 4 % 2 + (k / 8 % 2 + (k / 16 % 2 + k / 32 % 2)))) ≤ 6
  omega
theorem cntS_len : ∀ (l : List Nat), (cntS l).length ≤ 7 := by
  intro l
  refine snoc_ind (P := fun l => (cntS l).length ≤ 7) (by simp [cntS]) (fun l k ih => ?_) l
  · rw [cntS_snoc]
    unfold cstep cpad
    have := pop6_le (k := k)
    rw [List.length_set, List.length_append, List.length_replicate]
    omega
def f57_I0 (h : H) (B : Nat → Bool) (id1 id3 idf idl : K) (lb : Blk) (C : List Int) (m : Nat) (t : Nat) (fr : Fr) (h1 : H) : Prop := ∃ o, t ≤ m + 1 - C.length ∧ AccI iE h.nx.nat h id3 idl [(id1, .cells 64 (boolV B)), (idf, .cells 64 (boolV B))] o (C ++ List.replicate t 0) lb h1 ∧ fr.get (K.ofNat 3) = some (.p id3 0) ∧ fr.get (K.ofNat 5) = some (.i .i64 (m : Int))
theorem f57_inner {Q : Ex → Fr → H → Prop} {h h0 : H} {B : Nat → Bool} {id1 id3 idf idl : K} {lb : Blk} {C : List Int} {m : Nat} {fr : Fr} (hc : HC h) (hC : C.length ≤ 7) (hm : m ≤ 6)
    (hi : f57_I0 h B id1 id3 idf idl lb C m 0 fr h0)
    (hq : ∀ fr h1 o, AccI iE h.nx.nat h id3 idl [(id1, .cells 64 (boolV B)), (idf, .cells 64 (boolV B))] o (cpad C m) lb h1 → fr.get (K.ofNat 3) = some (.p id3 0) ∧ fr.get (K.ofNat 5) = some (.i .i64 (m : Int)) → Q (.exit 2) fr h1) :
    W fs ro (.loop f57_l0) Q fr h0 := by
  refine W_loop (f57_I0 h B id1 id3 idf idl lb C m) (fun t => m + 1 - C.length - t) ?_ 0 hi
  clear hi fr h0
  rintro t fr h1 ⟨o, ht, ha, g3, g5⟩
  have hc1 := ha.gr.hc hc
  have hlen : (C ++ List.replicate t (0 : Int)).length = C.length + t := by rw [List.length_append, List.length_replicate]
  unfold f57_l0
  by_cases hle : C.length + t ≤ m
  · have hle' : ((C ++ List.replicate t (0 : Int)).length : Int) ≤ (m : Int) := by rw [hlen]; omega
    obtain ⟨v', h', p1, p2, p3⟩ := ha.push (x := (0 : Int)) (c := .i .i64 0) rfl hc1 (by omega)
    simp (disch := omega) only [f57_r5, f57_r6, w_skip, w_reg, w_seq, w_cond, w_block, seqK_n, atK_n, loopK_n, ckB_b, cbB_b, true_and, x_nil, x_mv, x_bslice, x_ld, x_st, x_bin, x_len, x_app, kx, rvP_ok, okv_some, ev_t, ev_c, getV_some, putD_some, putD_none, bin_leq, oGet_s, cells1_i, fill_1, set_1, of0, getK_set, Nat.reduceEqDiff, ↓reduceIte, g3, g5, ha.ld, ha.sl.len, hle', decide_true, p1, p2]
    refine ⟨t + 1, by omega, v', by omega, ?_, by simp (disch := omega) only [getK_set, Nat.reduceEqDiff, ↓reduceIte, g3, g5, and_self]⟩
    rw [List.replicate_succ', ← List.append_assoc]; exact p3
  · have hle' : ¬ ((C ++ List.replicate t (0 : Int)).length : Int) ≤ (m : Int) := by rw [hlen]; omega
    simp (disch := omega) only [f57_r5, w_reg, w_seq, w_cond, w_exit, seqK_n, seqK_e, loopK_e, ckB_b, cbB_b, true_and, x_nil, x_mv, x_ld, x_bin, x_len, kx, rvP_ok, okv_some, ev_t, getV_some, putD_some, bin_leq, getK_set, Nat.reduceEqDiff, ↓reduceIte, Bool.false_eq_true, g3, g5, ha.ld, ha.sl.len, hle', decide_false]
    refine hq _ _ o ?_ (by simp (disch := omega) only [getK_set, Nat.reduceEqDiff, ↓reduceIte, g3, g5, and_self])
    have : t = m + 1 - C.length := by omega
    subst this; exact ha
theorem f57_ret {h : H} {B : Nat → Bool}
    (hp : ∀ m : Nat, m < 64 → ∀ h P, CallP fs (.fn (K.ofNat 75) []) [.i .i64 (m : Int)] h P = P (.i .i64 (pop6 m : Int)) h) (h78 : fs.get (K.ofNat 78) = some f78) (h91 : fs.get (K.ofNat 91) = some alF) (hc : HC h) :
    Ret fs f57 [.agg (boolV B)] h fun u h' => Sl iE h' u (cntS (mem64 B)) ∧ Own h.nx.nat u ∧ Grow h.nx.nat h h' := by
  apply ret_of rfl
  show W fs none f57_c _ _ _
  unfold f57_c
  have n1 := nx_new h (.cells 64 (boolV B))
  have n2 := nx_new (h.new (.cells 64 (boolV B))) (.cells 1 [.sn])
  have hA : Ar V.b ((h.new (.cells 64 (boolV B))).new (.cells 1 [.sn])) h.nx (arr B 64) := by
    unfold Ar; rw [arr_len, get_new_old (by omega), get_new_same]; rfl
  simp (disch := omega) only [f57_r0, f57_r1, f57_r2, w_reg, w_seq, seqK_n, x_nil, x_as, x_alloc, x_box, x_ldn, x_call, kx, rvP_ok, ev_t, ev_c, evs_nil, evs_cons, getV_some, putD_some, oGet_s, frame_1, getK_set, Nat.reduceEqDiff, ↓reduceIte, cells64 (boolV_len (B := B)), hA.ldn (n := 64) (by rw [arr_len])]
  refine (callP_0 (ef := f78) h78 rfl (f78_ret (boolV_len (B := B)))).mono ?_
  rintro u h1 ⟨rfl, rfl⟩
  simp (disch := omega) only [w_block, seqK_n, x_nil, kx, putD_some]
  have g0 : Grow h.nx.nat h ((h.new (.cells 64 (boolV B))).new (.cells 1 [.sn])) := (Grow.new (Nat.le_refl _) _).trans (Grow.new (by omega) _)
  have e3 : ((h.new (.cells 64 (boolV B))).new (.cells 1 [.sn])).get (h.new (.cells 64 (boolV B))).nx = .cells 1 [.sn] := get_new_same
  have e1 : ((h.new (.cells 64 (boolV B))).new (.cells 1 [.sn])).get h.nx = .cells 64 (boolV B) := by rw [get_new_old (by omega), get_new_same]
  generalize hid3 : (h.new (.cells 64 (boolV B))).nx = id3 at *
  generalize hh2 : (h.new (.cells 64 (boolV B))).new (.cells 1 [.sn]) = h2 at *
  have n3 := nx_new h2 (.cells 64 (boolV B))
  have hc2 := g0.hc hc
  have ga : Grow h2.nx.nat h2 (h2.new (.cells 64 (boolV B))) := Grow.new (Nat.le_refl _) _
  have ef : (h2.new (.cells 64 (boolV B))).get h2.nx = .cells 64 (boolV B) := get_new_same
  rw [← ga.old _ (by omega)] at e3 e1
  have g1 := g0.trans (ga.low (b := h.nx.nat) (by omega))
  generalize hh3 : h2.new (.cells 64 (boolV B)) = h3 at *
  have hc3 := g1.hc hc
  generalize hfr1 : T.set (K.ofNat 7) (V.fn (K.ofNat 91) [V.p h2.nx 0]) _ = fr1
  have f7 : fr1.get (K.ofNat 7) = some (.fn (K.ofNat 91) [.p h2.nx 0]) := by rw [← hfr1]; simp (disch := omega) only [getK_set, ↓reduceIte]
  have f3 : fr1.get (K.ofNat 3) = some (.p id3 0) := by rw [← hfr1]; simp (disch := omega) only [getK_set, Nat.reduceEqDiff, ↓reduceIte]
  clear hfr1
  have hlen := ysOf_len (B := B)
  have n4 := nx_new h3 (rdyB fr1 [(K.ofNat 8)] f57_a0 f57_b0)
  have hnew : Grow h3.nx.nat h3 (h3.new (rdyB fr1 [(K.ofNat 8)] f57_a0 f57_b0)) := Grow.new (Nat.le_refl _) _
  refine W_range (k := (K.ofNat 91)) (caps := [.p h2.nx 0]) (N := fun h => h.get h2.nx = .cells 64 (boolV B)) (ys := ysOf B) rfl (by simp (disch := omega) only [ev_t, getV_some, f7]) (all_yields h91 boolV_at)
    (fun j h5 => ∃ o lb, AccI iE h.nx.nat h id3 h3.nx [(h.nx, .cells 64 (boolV B)), (h2.nx, .cells 64 (boolV B))] o (cntS ((mem64 B).take j)) lb h5) (fun _ _ => False) (fun i h5 ⟨o, lb, ht⟩ => ht.kp (h2.nx, _) (by simp))
    ⟨.sn, _, Sl.nil, Own.sn, g1.trans (hnew.low (by omega)), by rw [hnew.old _ (by omega)]; exact e3, fun p hp => ?_, get_new_same, by omega, by omega, by omega, fun p hp => ?_⟩ ?_ ?_ (fun _ _ _ hf => hf.elim)
  · simp only [List.mem_cons, List.not_mem_nil, or_false] at hp
    rcases hp with rfl | rfl
    · rw [hnew.old _ (by show h.nx.nat < _; omega)]; exact e1
    · rw [hnew.old _ (by show h2.nx.nat < _; omega)]; exact ef
  · simp only [List.mem_cons, List.not_mem_nil, or_false] at hp
    rcases hp with rfl | rfl
    · exact ⟨by show h.nx.nat < _; omega, kNe (by show h.nx.nat < _; omega)⟩
    · exact ⟨by show h2.nx.nat < _; omega, (kNe (by show _ < h2.nx.nat; omega)).symm⟩
  · rintro j h5 hj ⟨o, lb, ht⟩ hrd
    have hj' : j < (mem64 B).length := by omega
    rw [ysOf_at hj]
    obtain rfl : lb = rdyB fr1 [(K.ofNat 8)] f57_a0 f57_b0 := ht.el.symm.trans hrd
    rw [show ∀ Q fr h, W fs (some h3.nx) f57_a0 Q fr h = X fs f57_r3 (Q .normal) fr h from fun _ _ _ => rfl]
    simp (disch := omega) only [f57_r3, rndA_n, x_nil, x_as, ev_t, getV_some, putD_some, getK_set, ↓reduceIte]
    refine ⟨ht.el, ?_⟩
    have ht7 := ht.loop (bsyB fr1 [(K.ofNat 8)] f57_a0 f57_b0)
    generalize h5.put h3.nx (bsyB fr1 [(K.ofNat 8)] f57_a0 f57_b0) = h7 at *
    have hx64 : (mem64 B)[j] < 64 := by
      have := List.getElem_mem hj'
      unfold mem64 at this
      rw [List.mem_filter, List.mem_range] at this
      exact this.1
    rw [show ∀ Q fr h, W fs (some h3.nx) f57_b0 Q fr h = X fs f57_r4 (seqK (W fs (some h3.nx) (.seq (.block 2 (.loop f57_l0)) (.reg f57_r7))) (atK 1 Q) .normal) fr h from fun _ _ _ => rfl]
    simp (disch := omega) only [f57_r4, w_seq, w_block, seqK_n, x_nil, x_mv, x_as, x_call, kx, ev_t, ev_c, evs_nil, evs_cons, getV_some, putD_some, getK_set, ↓reduceIte, hp _ hx64]
    refine f57_inner (h := h) (B := B) (id1 := h.nx) (id3 := id3) (idf := h2.nx) (idl := h3.nx) (lb := bsyB fr1 [(K.ofNat 8)] f57_a0 f57_b0) (C := cntS ((mem64 B).take j)) (m := pop6 (mem64 B)[j]) hc (cntS_len _) pop6_le ⟨o, by omega, by rw [List.replicate_zero, List.append_nil]; exact ht7, by simp (disch := omega) only [getK_set, Nat.reduceEqDiff, ↓reduceIte, f3, and_self]⟩ ?_
    rintro fr h8 o2 ha ⟨g3, g5⟩
    have hc8 := ha.gr.hc hc
    have hml := cpad_len (C := cntS ((mem64 B).take j)) (m := pop6 (mem64 B)[j])
    obtain ⟨p, hp1, hp2⟩ := ha.sl.at _ hml
    have hbd := cpad_bd (m := pop6 (mem64 B)[j]) (b := ((((mem64 B).take j).length : Nat) : Int)) (by omega) (cntS_bd ((mem64 B).take j)) _ (List.getElem_mem hml)
    have hl64 := mem64_len (B := B)
    have hlt : ((mem64 B).take j).length ≤ 64 := by rw [List.length_take]; omega
    obtain ⟨p2, id, m2, cs2, q1, q2, q3, ⟨off, nn, sz, q4⟩, q5⟩ := ha.sl.st hml (x := (cpad (cntS ((mem64 B).take j)) (pop6 (mem64 B)[j]))[pop6 (mem64 B)[j]] + 1) (c := .i .i64 ((cpad (cntS ((mem64 B).take j)) (pop6 (mem64 B)[j]))[pop6 (mem64 B)[j]] + 1)) rfl rfl hc8
    have hpp : p2 = p := by
      have h1 := hp1 .i64 h8
      have h2 := q1 .i64 h8
      rw [h1] at h2
      cases h2; rfl
    subst hpp
    have hid := ha.own id off nn sz q4
    have hfw : fw .i64 ((cpad (cntS ((mem64 B).take j)) (pop6 (mem64 B)[j]))[pop6 (mem64 B)[j]] + 1) = (cpad (cntS ((mem64 B).take j)) (pop6 (mem64 B)[j]))[pop6 (mem64 B)[j]] + 1 := fw64 (by omega) (by omega)
    simp (disch := omega) only [f57_r7, w_reg, seqK_n, atK_n, atK_e, rndK_n, x_nil, x_mv, x_ld, x_st, x_bin, x_iads, kx, rvP_ok, okv_some, ev_t, ev_c, getV_some, putD_some, putD_none, bin_add, of1, getK_set, Nat.reduceEqDiff, ↓reduceIte, g3, g5, ha.ld, hp1, hp2, iE, hfw, q2]
    have hfin := ha.turned q3 (Grow.put hid q5 _)
    refine ⟨hfin.el, o2, rdyB fr1 [(K.ofNat 8)] f57_a0 f57_b0, ?_⟩
    have hst : cntS ((mem64 B).take (j + 1)) = (cpad (cntS ((mem64 B).take j)) (pop6 (mem64 B)[j])).set (pop6 (mem64 B)[j]) ((cpad (cntS ((mem64 B).take j)) (pop6 (mem64 B)[j]))[pop6 (mem64 B)[j]] + 1) := by
      rw [List.take_succ_eq_append_getElem hj', cntS_snoc]
      unfold cstep
      rw [show (cpad (cntS ((mem64 B).take j)) (pop6 (mem64 B)[j])).getD (pop6 (mem64 B)[j]) 0 = (cpad (cntS ((mem64 B).take j)) (pop6 (mem64 B)[j]))[pop6 (mem64 B)[j]] by simp [List.getD, hml]]
    rw [hst]
    exact hfin.loop _
  · rintro h5 ⟨o, lb, ht⟩
    have ht2 := ht.loop .dead
    rw [hlen, List.take_length] at ht2
    simp (disch := omega) only [f57_r8, f57_rs, w_reg, w_seq, w_ret, seqK_n, atK_n, retK_r, x_nil, x_as, x_ld, kx, rvP_ok, ev_t, getV_some, putD_some, oGet_s, readRs_nil, readRs_t, retV_1, Option.some.injEq, exists_eq_left', getK_set, ↓reduceIte, f3, ht2.ld]
    exact ⟨ht2.sl, ht2.own.low (by omega), ht2.gr⟩
theorem f18_ret {h : H} {v : V} {S : List Int} {n : Int} (hp : ∀ a b h P, CallP fs (.fn (K.ofNat 54) []) [.i .i64 a, .i .i64 b] h P = P (.b (ptI a b)) h)
    (hp75 : ∀ m : Nat, m < 64 → ∀ h P, CallP fs (.fn (K.ofNat 75) []) [.i .i64 (m : Int)] h P = P (.i .i64 (pop6 m : Int)) h)
    (h16 : fs.get (K.ofNat 16) = some f16) (h55 : fs.get (K.ofNat 55) = some f55) (h57 : fs.get (K.ofNat 57) = some f57) (h78 : fs.get (K.ofNat 78) = some f78) (h91 : fs.get (K.ofNat 91) = some alF)
    (hv : Sl iE h v S) (hc : HC h) (hS : S.length ≤ 1000000) :
    Ret fs f18 [.i .i64 n, v] h fun r h' => ∃ u, r = .tup [u, .i .i64 (chkS n S)] ∧ Sl iE h' u (if chkS n S = 0 then cntS (mem64 (famB S)) else []) ∧ Own h.nx.nat u ∧ Grow h.nx.nat h h' := by
  apply ret_of rfl
  show W fs none f18_c _ _ _
  unfold f18_c
  simp (disch := omega) only [f18_r0, f18_r1, w_reg, w_seq, seqK_n, x_nil, x_mv, x_as, x_call, ev_t, ev_c, evs_nil, evs_cons, getV_some, putD_some, frame_2, of0, getK_set, Nat.reduceEqDiff, ↓reduceIte]
  refine (callP_0 (ef := f16) h16 rfl (f16_ret hp hv)).mono ?_
  rintro u h1 ⟨rfl, rfl⟩
  by_cases e : chkS n S = 0
  · simp (disch := omega) only [f18_r2, f18_r4, w_skip, w_reg, w_seq, w_cond, seqK_n, ckB_b, cbB_b, true_and, x_nil, x_mv, x_as, x_bin, x_call, kx, rvP_ok, okv_some, ev_t, ev_c, evs_nil, evs_cons, getV_some, putD_some, bin_neq, of0, getK_set, Nat.reduceEqDiff, ↓reduceIte, Bool.false_eq_true, e, ne_eq, not_true_eq_false, decide_false]
    refine (callP_0 (ef := f55) h55 rfl (f55_ret (S := S) hp hv hc hS)).mono ?_
    rintro u h2 ⟨rfl, g2⟩
    rw [famB_list]
    simp (disch := omega) only [x_call, kx, ev_t, ev_c, evs_nil, evs_cons, getV_some, putD_some, getK_set, ↓reduceIte]
    refine (callP_0 (ef := f57) h57 rfl (f57_ret (B := famB S) hp75 h78 h91 (g2.hc hc))).mono ?_
    rintro u h3 ⟨hs, ho, g3⟩
    simp (disch := omega) only [f18_rs, w_ret, seqK_n, retK_r, x_nil, x_as, kx, ev_t, ev_c, getV_some, putD_some, oGet_s, readRs_nil, readRs_t, retV_2, Option.some.injEq, exists_eq_left', getK_set, Nat.reduceEqDiff, ↓reduceIte]
    exact ⟨u, rfl, hs, ho.low g2.nx, g2.trans (g3.low g2.nx)⟩
  · simp (disch := omega) only [f18_r2, f18_r3, f18_rs, w_reg, w_seq, w_cond, w_ret, seqK_n, seqK_r, ckB_b, cbB_b, true_and, retK_r, x_nil, x_mv, x_as, x_bin, kx, rvP_ok, okv_some, ev_t, ev_c, getV_some, putD_some, bin_neq, oGet_s, readRs_nil, readRs_t, retV_2, of0, Option.some.injEq, exists_eq_left', getK_set, Nat.reduceEqDiff, ↓reduceIte, e, ne_eq, not_false_eq_true, decide_true]
    exact ⟨.sn, rfl, Sl.nil, Own.sn, Grow.refl _ _⟩
end
end Go.Ev
namespace Go.Ev
open Go Go.RowKit
noncomputable def f19_r0 : List EOper := [⟨(some (K.ofNat 4)), none, .as (.c .sn)⟩, ⟨(some (K.ofNat 5)), none, .as (.c (.i .i64 (.ofNat 0)))⟩]
noncomputable def f19_r1 : List EOper := [⟨(some (K.ofNat 10)), none, .mv (.t (K.ofNat 0))⟩, ⟨(some (K.ofNat 11)), none, .mv (.t (K.ofNat 1))⟩, ⟨(some (K.ofNat 12)), none, .call (.c (.fn (K.ofNat 16) [])) [(.t (K.ofNat 10)), (.t (K.ofNat 11))]⟩, ⟨(some (K.ofNat 6)), none, .as (.t (K.ofNat 12))⟩]
noncomputable def f19_r2 : List EOper := [⟨(some (K.ofNat 13)), none, .mv (.t (K.ofNat 6))⟩, ⟨(some (K.ofNat 14)), none, .bin .neq (.t (K.ofNat 13)) (.c (.i .i64 (.ofNat 0)))⟩]
noncomputable def f19_r3 : List EOper := [⟨(some (K.ofNat 15)), none, .mv (.t (K.ofNat 6))⟩, ⟨(some (K.ofNat 4)), none, .as (.c .sn)⟩, ⟨(some (K.ofNat 5)), none, .as (.t (K.ofNat 15))⟩]
noncomputable def f19_r4 : List EOper := [⟨(some (K.ofNat 16)), none, .mv (.t (K.ofNat 1))⟩, ⟨(some (K.ofNat 17)), none, .call (.c (.fn (K.ofNat 55) [])) [(.t (K.ofNat 16))]⟩, ⟨(some (K.ofNat 18)), none, .call (.c (.fn (K.ofNat 57) [])) [(.t (K.ofNat 17))]⟩, ⟨(some (K.ofNat 7)), none, .as (.t (K.ofNat 18))⟩]
noncomputable def f19_r5 : List EOper := [⟨(some (K.ofNat 19)), none, .mv (.t (K.ofNat 7))⟩, ⟨(some (K.ofNat 20)), none, .len (.t (K.ofNat 19))⟩, ⟨(some (K.ofNat 21)), none, .mv (.c (.i .i64 (.ofNat 0)))⟩]
noncomputable def f19_r6 : List EOper := [⟨(some (K.ofNat 22)), none, .bin .lss (.t (K.ofNat 21)) (.t (K.ofNat 20))⟩]
noncomputable def f19_r7 : List EOper := [⟨(some (K.ofNat 23)), none, .mv (.t (K.ofNat 21))⟩, ⟨(some (K.ofNat 8)), none, .as (.t (K.ofNat 23))⟩]
noncomputable def f19_r8 : List EOper := [⟨(some (K.ofNat 24)), none, .mv (.t (K.ofNat 8))⟩, ⟨(some (K.ofNat 9)), none, .as (.t (K.ofNat 24))⟩]
noncomputable def f19_r9 : List EOper := [⟨(some (K.ofNat 25)), none, .mv (.t (K.ofNat 9))⟩, ⟨(some (K.ofNat 26)), none, .bin .gtr (.t (K.ofNat 25)) (.c (.i .i64 (.ofNat 0)))⟩]
noncomputable def f19_r10 : List Stage := [⟨[⟨(some (K.ofNat 29)), none, .mv (.t (K.ofNat 7))⟩, ⟨(some (K.ofNat 30)), none, .mv (.t (K.ofNat 9))⟩, ⟨(some (K.ofNat 31)), none, .iads 1 (.t (K.ofNat 29)) (.t (K.ofNat 30))⟩, ⟨(some (K.ofNat 32)), none, .ld (.t (K.ofNat 31))⟩, ⟨(some (K.ofNat 33)), none, .mv (.t (K.ofNat 7))⟩, ⟨(some (K.ofNat 34)), none, .mv (.t (K.ofNat 9))⟩, ⟨(some (K.ofNat 35)), none, .bin .sub (.t (K.ofNat 34)) (.c (.i .i64 (.ofNat 1)))⟩, ⟨(some (K.ofNat 36)), none, .iads 1 (.t (K.ofNat 33)) (.t (K.ofNat 35))⟩, ⟨(some (K.ofNat 37)), none, .ld (.t (K.ofNat 36))⟩, ⟨(some (K.ofNat 38)), none, .bin .sub (.t (K.ofNat 32)) (.t (K.ofNat 37))⟩, ⟨(some (K.ofNat 39)), none, .iads 1 (.t (K.ofNat 29)) (.t (K.ofNat 30))⟩], [], (some ⟨none, none, .st 1 (.t (K.ofNat 39)) (.t (K.ofNat 38))⟩), []⟩, ⟨[], [], none, []⟩]
noncomputable def f19_r11 : List EOper := [⟨(some (K.ofNat 27)), none, .mv (.t (K.ofNat 9))⟩, ⟨(some (K.ofNat 28)), none, .bin .sub (.t (K.ofNat 27)) (.c (.i .i64 (.ofNat 1)))⟩, ⟨(some (K.ofNat 9)), none, .as (.t (K.ofNat 28))⟩]
noncomputable def f19_l0 : EC := (.seq (.seq (.reg f19_r9) (.cond (.t (K.ofNat 26)) .skip (.exit 2))) (.seq (.block 3 (.draw f19_r10)) (.reg f19_r11)))
noncomputable def f19_r12 : List EOper := [⟨(some (K.ofNat 40)), none, .bin .add (.t (K.ofNat 21)) (.c (.i .i64 (.ofNat 1)))⟩, ⟨(some (K.ofNat 21)), none, .mv (.t (K.ofNat 40))⟩]
noncomputable def f19_l1 : EC := (.seq (.reg f19_r6) (.seq (.cond (.t (K.ofNat 22)) .skip (.exit 0)) (.seq (.block 1 (.seq (.reg f19_r7) (.seq (.reg f19_r8) (.block 2 (.loop f19_l0))))) (.reg f19_r12))))
noncomputable def f19_r13 : List EOper := [⟨(some (K.ofNat 41)), none, .mv (.t (K.ofNat 7))⟩, ⟨(some (K.ofNat 4)), none, .as (.t (K.ofNat 41))⟩, ⟨(some (K.ofNat 5)), none, .as (.c (.i .i64 (.ofNat 0)))⟩]
noncomputable def f19_c : EC := (.seq (.reg f19_r0) (.seq (.seq (.reg f19_r1) (.seq (.reg f19_r2) (.cond (.t (K.ofNat 14)) (.seq (.reg f19_r3) .ret) .skip))) (.seq (.reg f19_r4) (.seq (.seq (.reg f19_r5) (.block 0 (.loop f19_l1))) (.seq (.reg f19_r13) .ret)))))
noncomputable def f19 : EF := ⟨42, [.tmp (K.ofNat 4), .tmp (K.ofNat 5)], f19_c, none⟩
theorem f19_rs : f19.rs = [.tmp (K.ofNat 4), .tmp (K.ofNat 5)] := of_eq_true (eq_self _)
noncomputable def f20_r0 : List EOper := [⟨(some (K.ofNat 4)), none, .as (.c (.i .i64 (.ofNat 0)))⟩, ⟨(some (K.ofNat 5)), none, .as (.c (.i .i64 (.ofNat 0)))⟩]
noncomputable def f20_r1 : List EOper := [⟨(some (K.ofNat 11)), none, .mv (.t (K.ofNat 0))⟩, ⟨(some (K.ofNat 12)), none, .mv (.t (K.ofNat 1))⟩, ⟨(some (K.ofNat 13)), none, .call (.c (.fn (K.ofNat 16) [])) [(.t (K.ofNat 11)), (.t (K.ofNat 12))]⟩, ⟨(some (K.ofNat 6)), none, .as (.t (K.ofNat 13))⟩]
noncomputable def f20_r2 : List EOper := [⟨(some (K.ofNat 14)), none, .mv (.t (K.ofNat 6))⟩, ⟨(some (K.ofNat 15)), none, .bin .neq (.t (K.ofNat 14)) (.c (.i .i64 (.ofNat 0)))⟩]
noncomputable def f20_r3 : List EOper := [⟨(some (K.ofNat 16)), none, .mv (.t (K.ofNat 6))⟩, ⟨(some (K.ofNat 4)), none, .as (.c (.i .i64 (.ofNat 0)))⟩, ⟨(some (K.ofNat 5)), none, .as (.t (K.ofNat 16))⟩]
noncomputable def f20_r4 : List EOper := [⟨(some (K.ofNat 7)), none, .as (.c (.i .i64 (.ofNat 0)))⟩, ⟨(some (K.ofNat 8)), none, .as (.c (.i .i64 (.ofNat 1)))⟩]
noncomputable def f20_r5 : List EOper := [⟨(some (K.ofNat 17)), none, .mv (.t (K.ofNat 1))⟩, ⟨(some (K.ofNat 18)), none, .call (.c (.fn (K.ofNat 55) [])) [(.t (K.ofNat 17))]⟩, ⟨(some (K.ofNat 19)), none, .call (.c (.fn (K.ofNat 57) [])) [(.t (K.ofNat 18))]⟩, ⟨(some (K.ofNat 20)), none, .slice 1 (.t (K.ofNat 19)) (some (.c (.i .i64 (.ofNat 1)))) none none⟩, ⟨(some (K.ofNat 21)), none, .len (.t (K.ofNat 20))⟩, ⟨(some (K.ofNat 22)), none, .mv (.c (.i .i64 (.ofNat 0)))⟩]
noncomputable def f20_r6 : List EOper := [⟨(some (K.ofNat 23)), none, .bin .lss (.t (K.ofNat 22)) (.t (K.ofNat 21))⟩]
noncomputable def f20_r7 : List EOper := [⟨(some (K.ofNat 24)), none, .iads 1 (.t (K.ofNat 20)) (.t (K.ofNat 22))⟩, ⟨(some (K.ofNat 25)), none, .ld (.t (K.ofNat 24))⟩, ⟨(some (K.ofNat 10)), none, .as (.t (K.ofNat 25))⟩]
noncomputable def f20_r8 : List EOper := [⟨(some (K.ofNat 26)), none, .mv (.t (K.ofNat 7))⟩, ⟨(some (K.ofNat 27)), none, .mv (.t (K.ofNat 8))⟩, ⟨(some (K.ofNat 28)), none, .mv (.t (K.ofNat 10))⟩, ⟨(some (K.ofNat 29)), none, .bin .mul (.t (K.ofNat 27)) (.t (K.ofNat 28))⟩, ⟨(some (K.ofNat 30)), none, .bin .add (.t (K.ofNat 26)) (.t (K.ofNat 29))⟩, ⟨(some (K.ofNat 7)), none, .as (.t (K.ofNat 30))⟩]
noncomputable def f20_r9 : List EOper := [⟨(some (K.ofNat 31)), none, .mv (.t (K.ofNat 8))⟩, ⟨(some (K.ofNat 32)), none, .neg (.t (K.ofNat 31))⟩, ⟨(some (K.ofNat 8)), none, .as (.t (K.ofNat 32))⟩]
noncomputable def f20_r10 : List EOper := [⟨(some (K.ofNat 33)), none, .bin .add (.t (K.ofNat 22)) (.c (.i .i64 (.ofNat 1)))⟩, ⟨(some (K.ofNat 22)), none, .mv (.t (K.ofNat 33))⟩]
noncomputable def f20_l0 : EC := (.seq (.reg f20_r6) (.seq (.cond (.t (K.ofNat 23)) .skip (.exit 0)) (.seq (.block 1 (.seq (.reg f20_r7) (.seq (.reg f20_r8) (.reg f20_r9)))) (.reg f20_r10))))
noncomputable def f20_r11 : List EOper := [⟨(some (K.ofNat 34)), none, .mv (.t (K.ofNat 7))⟩, ⟨(some (K.ofNat 4)), none, .as (.t (K.ofNat 34))⟩, ⟨(some (K.ofNat 5)), none, .as (.c (.i .i64 (.ofNat 0)))⟩]
noncomputable def f20_c : EC := (.seq (.reg f20_r0) (.seq (.seq (.reg f20_r1) (.seq (.reg f20_r2) (.cond (.t (K.ofNat 15)) (.seq (.reg f20_r3) .ret) .skip))) (.seq (.reg f20_r4) (.seq (.seq (.reg f20_r5) (.block 0 (.loop f20_l0))) (.seq (.reg f20_r11) .ret)))))
noncomputable def f20 : EF := ⟨35, [.tmp (K.ofNat 4), .tmp (K.ofNat 5)], f20_c, none⟩
theorem f20_rs : f20.rs = [.tmp (K.ofNat 4), .tmp (K.ofNat 5)] := of_eq_true (eq_self _)
section
variable {fs : T EF} {ro : Option K}
noncomputable def innerS : List Int → Nat → List Int
  | L, 0 => L
  | L, i + 1 => innerS (L.set (i + 1) (fw .i64 (L.getD (i + 1) 0 - L.getD i 0))) i
theorem innerS_len : ∀ (i : Nat) (L : List Int), (innerS L i).length = L.length
  | 0, L => rfl
  | i + 1, L => by rw [innerS, innerS_len i, List.length_set]
noncomputable def hsTo (L : List Int) (i : Nat) : List Int := (List.range i).foldl innerS L
theorem hsTo_succ {L : List Int} {i : Nat} : hsTo L (i + 1) = innerS (hsTo L i) i := by unfold hsTo; rw [List.range_succ, List.foldl_append]; rfl
theorem hsTo_len {L : List Int} : ∀ i, (hsTo L i).length = L.length
  | 0 => rfl
  | i + 1 => by rw [hsTo_succ, innerS_len, hsTo_len i]
noncomputable def hsS (L : List Int) : List Int := hsTo L L.length
def f19_I0 (h : H) (n : Nat) (last : Nat) (R : List Int) (v : V) (i : Nat) (fr : Fr) (h1 : H) : Prop := ∃ L, i < L.length ∧ L.length = n ∧ innerS L i = R ∧ Sl iE h1 v L ∧ Own h.nx.nat v ∧ Grow h.nx.nat h h1 ∧ fr.get (K.ofNat 7) = some (v) ∧ fr.get (K.ofNat 9) = some (.i .i64 (i : Int)) ∧ fr.get (K.ofNat 20) = some (.i .i64 (n : Int)) ∧ fr.get (K.ofNat 21) = some (.i .i64 (last : Int))
theorem f19_inner {Q : Ex → Fr → H → Prop} {h h0 : H} {n last : Nat} {R : List Int} {v : V} {i : Nat} {fr : Fr} (hc : HC h) (hn : n ≤ 7)
    (hi : f19_I0 h n last R v i fr h0)
    (hq : ∀ fr h1, Sl iE h1 v R → Grow h.nx.nat h h1 → fr.get (K.ofNat 7) = some (v) ∧ fr.get (K.ofNat 20) = some (.i .i64 (n : Int)) ∧ fr.get (K.ofNat 21) = some (.i .i64 (last : Int)) → Q (.exit 2) fr h1) :
    W fs ro (.loop f19_l0) Q fr h0 := by
  refine W_loop (f19_I0 h n last R v) (fun i => i) ?_ i hi
  clear hi fr h0 i
  rintro i fr h1 ⟨L, hi, hn', hR, hs, ho, hgr, g7, g9, g20, g21⟩
  have hc1 := hgr.hc hc
  unfold f19_l0
  cases i with
  | zero =>
    have h0 : ¬ (0 : Int) < ((0 : Nat) : Int) := by omega
    simp (disch := omega) only [f19_r9, w_reg, w_seq, w_cond, w_exit, seqK_n, seqK_e, loopK_e, ckB_b, cbB_b, true_and, x_nil, x_mv, x_bin, kx, rvP_ok, okv_some, ev_t, ev_c, getV_some, putD_some, bin_gtr, of0, getK_set, ↓reduceIte, Bool.false_eq_true, g9, h0, decide_false]
    exact hq _ _ (by rw [← hR]; exact hs) hgr (by simp (disch := omega) only [getK_set, Nat.reduceEqDiff, ↓reduceIte, g7, g20, g21, and_self])
  | succ i =>
    have h0 : (0 : Int) < ((i + 1 : Nat) : Int) := by omega
    obtain ⟨p, hp1, hp2⟩ := hs.at (i + 1) hi
    obtain ⟨p', hp1', hp2'⟩ := hs.at i (by omega)
    obtain ⟨p2, id, m2, cs2, q1, q2, q3, ⟨off, nn, sz, q4⟩, q5⟩ := hs.st hi (x := fw .i64 (L[i + 1] - L[i])) (c := .i .i64 (fw .i64 (L[i + 1] - L[i]))) rfl rfl hc1
    have hpp : p2 = p := by
      have h1' := hp1 .i64 h1
      have h2' := q1 .i64 h1
      rw [h1'] at h2'
      cases h2'; rfl
    subst hpp
    have hid := ho id off nn sz q4
    have hsub : fw .i64 (((i + 1 : Nat) : Int) - 1) = (i : Int) := by rw [fw64 (by omega) (by omega)]; omega
    simp (disch := omega) only [f19_r9, f19_r10, f19_r11, w_skip, w_reg, w_draw, w_seq, w_cond, w_block, seqK_n, atK_n, loopK_n, ckB_b, cbB_b, true_and, x_nil, x_mv, x_as, x_st, x_bin, kx, kg, xg_nil, xg_mv, xg_ld, xg_bin, xg_iads, xd_cons, fresh_nil, stK_n, stK_s, stay_nil, rvP_ok, okv_some, ev_t, ev_c, getV_some, putD_some, putD_none, bin_sub, bin_gtr, of0, of1, getK_set, Nat.reduceEqDiff, ↓reduceIte, g7, g9, h0, decide_true, hp1, hp2, hsub, hp1', hp2', iE, q2]
    refine ⟨i, by omega, L.set (i + 1) (fw .i64 (L[i + 1] - L[i])), by rw [List.length_set]; omega, by rw [List.length_set]; exact hn', ?_, q3, ho, hgr.trans (Grow.put hid q5 _), by simp (disch := omega) only [getK_set, Nat.reduceEqDiff, ↓reduceIte, g7, g20, g21, and_self]⟩
    rw [← hR, innerS]
    congr 2
    have hi2 : i < L.length := by omega
    simp [List.getD, hi, hi2]
def f19_I1 (h : H) (n : Nat) (C : List Int) (v : V) (i : Nat) (fr : Fr) (h1 : H) : Prop := i ≤ n ∧ Sl iE h1 v (hsTo C i) ∧ Own h.nx.nat v ∧ Grow h.nx.nat h h1 ∧ fr.get (K.ofNat 7) = some (v) ∧ fr.get (K.ofNat 20) = some (.i .i64 (n : Int)) ∧ fr.get (K.ofNat 21) = some (.i .i64 (i : Int))
theorem f19_ret {h : H} {v : V} {S : List Int} {n : Int} (hp : ∀ a b h P, CallP fs (.fn (K.ofNat 54) []) [.i .i64 a, .i .i64 b] h P = P (.b (ptI a b)) h)
    (hp75 : ∀ m : Nat, m < 64 → ∀ h P, CallP fs (.fn (K.ofNat 75) []) [.i .i64 (m : Int)] h P = P (.i .i64 (pop6 m : Int)) h)
    (h16 : fs.get (K.ofNat 16) = some f16) (h55 : fs.get (K.ofNat 55) = some f55) (h57 : fs.get (K.ofNat 57) = some f57) (h78 : fs.get (K.ofNat 78) = some f78) (h91 : fs.get (K.ofNat 91) = some alF)
    (hv : Sl iE h v S) (hc : HC h) (hS : S.length ≤ 1000000) :
    Ret fs f19 [.i .i64 n, v] h fun r h' => ∃ u, r = .tup [u, .i .i64 (chkS n S)] ∧ Sl iE h' u (if chkS n S = 0 then hsS (cntS (mem64 (famB S))) else []) ∧ Own h.nx.nat u ∧ Grow h.nx.nat h h' := by
  apply ret_of rfl
  show W fs none f19_c _ _ _
  unfold f19_c
  simp (disch := omega) only [f19_r0, f19_r1, w_reg, w_seq, seqK_n, x_nil, x_mv, x_as, x_call, ev_t, ev_c, evs_nil, evs_cons, getV_some, putD_some, frame_2, of0, getK_set, Nat.reduceEqDiff, ↓reduceIte]
  refine (callP_0 (ef := f16) h16 rfl (f16_ret hp hv)).mono ?_
  rintro u h1 ⟨rfl, rfl⟩
  by_cases e : chkS n S = 0
  · simp (disch := omega) only [f19_r2, f19_r4, w_skip, w_reg, w_seq, w_cond, seqK_n, ckB_b, cbB_b, true_and, x_nil, x_mv, x_as, x_bin, x_call, kx, rvP_ok, okv_some, ev_t, ev_c, evs_nil, evs_cons, getV_some, putD_some, bin_neq, of0, getK_set, Nat.reduceEqDiff, ↓reduceIte, Bool.false_eq_true, e, ne_eq, not_true_eq_false, decide_false]
    refine (callP_0 (ef := f55) h55 rfl (f55_ret (S := S) hp hv hc hS)).mono ?_
    rintro u h2 ⟨rfl, g2⟩
    rw [famB_list]
    simp (disch := omega) only [x_call, kx, ev_t, ev_c, evs_nil, evs_cons, getV_some, putD_some, getK_set, ↓reduceIte]
    refine (callP_0 (ef := f57) h57 rfl (f57_ret (B := famB S) hp75 h78 h91 (g2.hc hc))).mono ?_
    rintro u h3 ⟨hs, ho, g3⟩
    have hgr := g2.trans (g3.low g2.nx)
    have ho' := ho.low g2.nx
    have hl7 := cntS_len (mem64 (famB S))
    generalize cntS (mem64 (famB S)) = C at *
    simp (disch := omega) only [f19_r5, w_reg, w_seq, w_block, seqK_n, x_nil, x_mv, x_as, x_len, kx, rvP_ok, ev_t, ev_c, getV_some, putD_some, of0, getK_set, ↓reduceIte, hs.len]
    refine W_loop (f19_I1 h1 C.length C u) (fun i => C.length - i) ?_ 0 ⟨Nat.zero_le _, hs, ho', hgr, by simp (disch := omega) only [getK_set, Nat.reduceEqDiff, ↓reduceIte, and_self, Int.natCast_zero]⟩
    rintro i fr h4 ⟨hi, hs4, ho4, hgr4, g7, g20, g21⟩
    unfold f19_l1
    by_cases hlt : i < C.length
    · have hlt' : (i : Int) < (C.length : Int) := by omega
      simp (disch := omega) only [f19_r6, f19_r7, f19_r8, w_skip, w_reg, w_seq, w_cond, w_block, seqK_n, ckB_b, cbB_b, true_and, x_nil, x_mv, x_as, x_bin, kx, rvP_ok, okv_some, ev_t, getV_some, putD_some, bin_lss, getK_set, Nat.reduceEqDiff, ↓reduceIte, g20, g21, hlt', decide_true]
      refine f19_inner (h := h1) (n := C.length) (last := i) (R := hsTo C (i + 1)) (v := u) (i := i) hc hl7 ⟨hsTo C i, by rw [hsTo_len]; exact hlt, hsTo_len i, hsTo_succ.symm, hs4, ho4, hgr4, by simp (disch := omega) only [getK_set, Nat.reduceEqDiff, ↓reduceIte, g7, g20, g21, and_self]⟩ ?_
      rintro fr h5 hs5 hgr5 ⟨g7, g20, g21⟩
      simp (disch := omega) only [f19_r12, w_reg, seqK_n, atK_n, atK_e, loopK_n, x_nil, x_mv, x_bin, kx, rvP_ok, okv_some, ev_t, ev_c, getV_some, putD_some, bin_add, of1, getK_set, ↓reduceIte, g21, fw64]
      exact ⟨i + 1, by omega, hlt, hs5, ho4, hgr5, by simp (disch := omega) only [getK_set, Nat.reduceEqDiff, ↓reduceIte, g7, g20, and_self, Int.natCast_add, Int.natCast_one]⟩
    · obtain rfl : i = C.length := by omega
      have hlt' : ¬ (C.length : Int) < (C.length : Int) := by omega
      simp (disch := omega) only [f19_r6, f19_r13, f19_rs, w_reg, w_seq, w_cond, w_exit, w_ret, seqK_n, seqK_e, atK_e, loopK_e, ckB_b, cbB_b, true_and, retK_r, x_nil, x_mv, x_as, x_bin, kx, rvP_ok, okv_some, ev_t, ev_c, getV_some, putD_some, bin_lss, oGet_s, readRs_nil, readRs_t, retV_2, of0, Option.some.injEq, exists_eq_left', getK_set, Nat.reduceEqDiff, ↓reduceIte, Bool.false_eq_true, g7, g20, g21, hlt', decide_false]
      exact ⟨u, rfl, hs4, ho4, hgr4⟩
  · simp (disch := omega) only [f19_r2, f19_r3, f19_rs, w_reg, w_seq, w_cond, w_ret, seqK_n, seqK_r, ckB_b, cbB_b, true_and, retK_r, x_nil, x_mv, x_as, x_bin, kx, rvP_ok, okv_some, ev_t, ev_c, getV_some, putD_some, bin_neq, oGet_s, readRs_nil, readRs_t, retV_2, of0, Option.some.injEq, exists_eq_left', getK_set, Nat.reduceEqDiff, ↓reduceIte, e, ne_eq, not_false_eq_true, decide_true]
    exact ⟨.sn, rfl, Sl.nil, Own.sn, Grow.refl _ _⟩
/-- The sum with signs. -/
noncomputable def euS : List Int → Int → Int → Int
  | [], sum, _ => sum
  | x :: l, sum, sign => euS l (fw .i64 (sum + fw .i64 (sign * x))) (fw .i64 (isub 0 sign))
def f20_I (h : H) (v : V) (L : List Int) (R : Int) (i : Nat) (fr : Fr) (h1 : H) : Prop := ∃ sum sign, h1 = h ∧ i ≤ L.length ∧ euS (L.drop i) sum sign = R ∧ fr.get (K.ofNat 7) = some (.i .i64 sum) ∧ fr.get (K.ofNat 8) = some (.i .i64 sign) ∧ fr.get (K.ofNat 20) = some (v) ∧ fr.get (K.ofNat 21) = some (.i .i64 (L.length : Int)) ∧ fr.get (K.ofNat 22) = some (.i .i64 (i : Int))
theorem f20_ret {h : H} {v : V} {S : List Int} {n : Int} (hp : ∀ a b h P, CallP fs (.fn (K.ofNat 54) []) [.i .i64 a, .i .i64 b] h P = P (.b (ptI a b)) h)
    (hp75 : ∀ m : Nat, m < 64 → ∀ h P, CallP fs (.fn (K.ofNat 75) []) [.i .i64 (m : Int)] h P = P (.i .i64 (pop6 m : Int)) h)
    (h16 : fs.get (K.ofNat 16) = some f16) (h55 : fs.get (K.ofNat 55) = some f55) (h57 : fs.get (K.ofNat 57) = some f57) (h78 : fs.get (K.ofNat 78) = some f78) (h91 : fs.get (K.ofNat 91) = some alF)
    (hv : Sl iE h v S) (hc : HC h) (hS : S.length ≤ 1000000) (hne : chkS n S = 0 → 1 ≤ (cntS (mem64 (famB S))).length) :
    Ret fs f20 [.i .i64 n, v] h fun r h' => r = .tup [.i .i64 (if chkS n S = 0 then euS ((cntS (mem64 (famB S))).drop 1) 0 1 else 0), .i .i64 (chkS n S)] ∧ Grow h.nx.nat h h' := by
  apply ret_of rfl
  show W fs none f20_c _ _ _
  unfold f20_c
  simp (disch := omega) only [f20_r0, f20_r1, w_reg, w_seq, seqK_n, x_nil, x_mv, x_as, x_call, ev_t, ev_c, evs_nil, evs_cons, getV_some, putD_some, frame_2, of0, getK_set, Nat.reduceEqDiff, ↓reduceIte]
  refine (callP_0 (ef := f16) h16 rfl (f16_ret hp hv)).mono ?_
  rintro u h1 ⟨rfl, rfl⟩
  by_cases e : chkS n S = 0
  · simp (disch := omega) only [f20_r2, f20_r4, f20_r5, w_skip, w_reg, w_seq, w_cond, seqK_n, ckB_b, cbB_b, true_and, x_nil, x_mv, x_as, x_bin, x_call, kx, rvP_ok, okv_some, ev_t, ev_c, evs_nil, evs_cons, getV_some, putD_some, bin_neq, of0, of1, getK_set, Nat.reduceEqDiff, ↓reduceIte, Bool.false_eq_true, e, ne_eq, not_true_eq_false, decide_false]
    refine (callP_0 (ef := f55) h55 rfl (f55_ret (S := S) hp hv hc hS)).mono ?_
    rintro u h2 ⟨rfl, g2⟩
    rw [famB_list]
    simp (disch := omega) only [x_call, kx, ev_t, ev_c, evs_nil, evs_cons, getV_some, putD_some, getK_set, ↓reduceIte]
    refine (callP_0 (ef := f57) h57 rfl (f57_ret (B := famB S) hp75 h78 h91 (g2.hc hc))).mono ?_
    rintro u h3 ⟨hs, ho, g3⟩
    have hgr := g2.trans (g3.low g2.nx)
    have hl7 := cntS_len (mem64 (famB S))
    have hne := hne e
    generalize cntS (mem64 (famB S)) = C at *
    obtain ⟨w, x1, x2, _⟩ := hs.cut (lo := some (.i .i64 1)) (hi := none) (l := 1) (u := C.length) rfl bnd_none hne (Nat.le_refl _)
    rw [List.take_length] at x2
    have hdl : (C.drop 1).length ≤ 7 := by rw [List.length_drop]; omega
    simp (disch := omega) only [w_block, seqK_n, x_nil, x_mv, x_slice, sliceV_eq, Option.map_none, Option.map_some, x_len, kx, rvP_ok, ev_t, ev_c, getV_some, putD_some, getK_set, ↓reduceIte, x1, x2.len]
    generalize C.drop 1 = D at *
    refine W_loop (f20_I h3 w D (euS D 0 1)) (fun i => D.length - i) ?_ 0 ⟨0, 1, rfl, Nat.zero_le _, rfl, by simp (disch := omega) only [getK_set, Nat.reduceEqDiff, ↓reduceIte, and_self, Int.natCast_zero]⟩
    rintro i fr h4 ⟨sum, sign, rfl, hi, hR, g7, g8, g20, g21, g22⟩
    unfold f20_l0
    by_cases hlt : i < D.length
    · have hlt' : (i : Int) < (D.length : Int) := by omega
      obtain ⟨p, hp1, hp2⟩ := x2.at i hlt
      simp (disch := omega) only [f20_r6, f20_r7, f20_r8, f20_r9, f20_r10, w_skip, w_reg, w_seq, w_cond, w_block, seqK_n, atK_n, loopK_n, ckB_b, cbB_b, true_and, x_nil, x_mv, x_as, x_ld, x_bin, x_neg, x_iads, kx, rvP_ok, okv_some, ev_t, ev_c, getV_some, putD_some, bin_add, bin_mul, bin_lss, onI_i, of1, getK_set, Nat.reduceEqDiff, ↓reduceIte, g7, g8, g20, g21, g22, hlt', decide_true, hp1, hp2, iE]
      refine ⟨i + 1, by omega, fw .i64 (sum + fw .i64 (sign * D[i])), fw .i64 (isub 0 sign), rfl, hlt, ?_, by simp (disch := omega) only [getK_set, Nat.reduceEqDiff, ↓reduceIte, g20, g21, and_self, Int.natCast_add, Int.natCast_one, fw64]⟩
      rw [← hR, List.drop_eq_getElem_cons hlt]; rfl
    · obtain rfl : i = D.length := by omega
      have hlt' : ¬ (D.length : Int) < (D.length : Int) := by omega
      rw [List.drop_length] at hR
      have hR : sum = euS D 0 1 := hR
      simp (disch := omega) only [f20_r6, f20_r11, f20_rs, w_reg, w_seq, w_cond, w_exit, w_ret, seqK_n, seqK_e, atK_e, loopK_e, ckB_b, cbB_b, true_and, retK_r, x_nil, x_mv, x_as, x_bin, kx, rvP_ok, okv_some, ev_t, ev_c, getV_some, putD_some, bin_lss, oGet_s, readRs_nil, readRs_t, retV_2, of0, Option.some.injEq, exists_eq_left', getK_set, Nat.reduceEqDiff, ↓reduceIte, Bool.false_eq_true, g7, g21, g22, hlt', decide_false]
      exact ⟨by rw [hR], hgr⟩
  · simp (disch := omega) only [f20_r2, f20_r3, f20_rs, w_reg, w_seq, w_cond, w_ret, seqK_n, seqK_r, ckB_b, cbB_b, true_and, retK_r, x_nil, x_mv, x_as, x_bin, kx, rvP_ok, okv_some, ev_t, ev_c, getV_some, putD_some, bin_neq, oGet_s, readRs_nil, readRs_t, retV_2, of0, Option.some.injEq, exists_eq_left', getK_set, Nat.reduceEqDiff, ↓reduceIte, e, ne_eq, not_false_eq_true, decide_true]
    exact Grow.refl _ _
end
end Go.Ev
namespace Go.Ev
open Go Go.RowKit
noncomputable def f45_r0 : List EOper := [⟨(some (K.ofNat 4)), none, .as (.c (.b false))⟩]
noncomputable def f45_r1 : List EOper := [⟨(some (K.ofNat 5)), none, .as (.c (.i .i64 (.ofNat 0)))⟩]
noncomputable def f45_r2 : List EOper := [⟨(some (K.ofNat 6)), none, .mv (.t (K.ofNat 5))⟩, ⟨(some (K.ofNat 7)), none, .mv (.t (K.ofNat 0))⟩, ⟨(some (K.ofNat 8)), none, .len (.t (K.ofNat 7))⟩, ⟨(some (K.ofNat 9)), none, .bin .lss (.t (K.ofNat 6)) (.t (K.ofNat 8))⟩]
noncomputable def f45_r3 : List EOper := [⟨(some (K.ofNat 12)), none, .mv (.t (K.ofNat 1))⟩, ⟨(some (K.ofNat 13)), none, .mv (.t (K.ofNat 0))⟩, ⟨(some (K.ofNat 14)), none, .mv (.t (K.ofNat 5))⟩, ⟨(some (K.ofNat 15)), none, .iads 1 (.t (K.ofNat 13)) (.t (K.ofNat 14))⟩, ⟨(some (K.ofNat 16)), none, .ld (.t (K.ofNat 15))⟩, ⟨(some (K.ofNat 17)), none, .call (.c (.fn (K.ofNat 53) [])) [(.t (K.ofNat 12)), (.t (K.ofNat 16))]⟩]
noncomputable def f45_r4 : List EOper := [⟨(some (K.ofNat 4)), none, .as (.c (.b true))⟩]
noncomputable def f45_r5 : List EOper := [⟨(some (K.ofNat 10)), none, .mv (.t (K.ofNat 5))⟩, ⟨(some (K.ofNat 11)), none, .bin .add (.t (K.ofNat 10)) (.c (.i .i64 (.ofNat 1)))⟩, ⟨(some (K.ofNat 5)), none, .as (.t (K.ofNat 11))⟩]
noncomputable def f45_l0 : EC := (.seq (.seq (.reg f45_r2) (.cond (.t (K.ofNat 9)) .skip (.exit 0))) (.seq (.block 1 (.seq (.reg f45_r3) (.cond (.t (K.ofNat 17)) (.seq (.reg f45_r4) .ret) .skip))) (.reg f45_r5)))
noncomputable def f45_r6 : List EOper := [⟨(some (K.ofNat 4)), none, .as (.c (.b false))⟩]
noncomputable def f45_c : EC := (.seq (.reg f45_r0) (.seq (.seq (.reg f45_r1) (.block 0 (.loop f45_l0))) (.seq (.reg f45_r6) .ret)))
noncomputable def f45 : EF := ⟨18, [.tmp (K.ofNat 4)], f45_c, none⟩
theorem f45_rs : f45.rs = [.tmp (K.ofNat 4)] := of_eq_true (eq_self _)
noncomputable def f33_r0 : List EOper := [⟨(some (K.ofNat 4)), none, .as (.c .sn)⟩]
noncomputable def f33_r1 : List EOper := [⟨(some (K.ofNat 5)), none, .as (.c .sn)⟩]
noncomputable def f33_r2 : List EOper := [⟨(some (K.ofNat 6)), none, .as (.c (.i .i64 (.ofNat 0)))⟩]
noncomputable def f33_r3 : List EOper := [⟨(some (K.ofNat 7)), none, .mv (.t (K.ofNat 6))⟩, ⟨(some (K.ofNat 8)), none, .mv (.t (K.ofNat 0))⟩, ⟨(some (K.ofNat 9)), none, .bin .shl (.c (.i .i64 (.ofNat 1))) (.t (K.ofNat 8))⟩, ⟨(some (K.ofNat 10)), none, .bin .lss (.t (K.ofNat 7)) (.t (K.ofNat 9))⟩]
noncomputable def f33_r4 : List EOper := [⟨(some (K.ofNat 13)), none, .mv (.t (K.ofNat 1))⟩, ⟨(some (K.ofNat 14)), none, .mv (.t (K.ofNat 6))⟩, ⟨(some (K.ofNat 15)), none, .call (.c (.fn (K.ofNat 45) [])) [(.t (K.ofNat 13)), (.t (K.ofNat 14))]⟩]
noncomputable def f33_r5 : List EOper := [⟨(some (K.ofNat 16)), none, .mv (.t (K.ofNat 5))⟩, ⟨(some (K.ofNat 17)), none, .mv (.t (K.ofNat 6))⟩, ⟨(some (K.ofNat 18)), none, .bslice 1 1 [(.i .i64 (.ofNat 0))] [(0, 1, (.t (K.ofNat 17)))]⟩, ⟨(some (K.ofNat 19)), none, .app 1 (.t (K.ofNat 16)) (.t (K.ofNat 18))⟩, ⟨(some (K.ofNat 5)), none, .as (.t (K.ofNat 19))⟩]
noncomputable def f33_r6 : List EOper := [⟨(some (K.ofNat 11)), none, .mv (.t (K.ofNat 6))⟩, ⟨(some (K.ofNat 12)), none, .bin .add (.t (K.ofNat 11)) (.c (.i .i64 (.ofNat 1)))⟩, ⟨(some (K.ofNat 6)), none, .as (.t (K.ofNat 12))⟩]
noncomputable def f33_l0 : EC := (.seq (.seq (.reg f33_r3) (.cond (.t (K.ofNat 10)) .skip (.exit 0))) (.seq (.block 1 (.seq (.reg f33_r4) (.cond (.t (K.ofNat 15)) (.reg f33_r5) .skip))) (.reg f33_r6)))
noncomputable def f33_r7 : List EOper := [⟨(some (K.ofNat 20)), none, .mv (.t (K.ofNat 5))⟩, ⟨(some (K.ofNat 4)), none, .as (.t (K.ofNat 20))⟩]
noncomputable def f33_c : EC := (.seq (.reg f33_r0) (.seq (.reg f33_r1) (.seq (.seq (.reg f33_r2) (.block 0 (.loop f33_l0))) (.seq (.reg f33_r7) .ret))))
noncomputable def f33 : EF := ⟨21, [.tmp (K.ofNat 4)], f33_c, none⟩
theorem f33_rs : f33.rs = [.tmp (K.ofNat 4)] := of_eq_true (eq_self _)
noncomputable def f31_r0 : List EOper := [⟨(some (K.ofNat 4)), none, .as (.c .sn)⟩]
noncomputable def f31_r1 : List EOper := [⟨(some (K.ofNat 5)), none, .as (.c (.i .i64 (.ofNat 0)))⟩]
noncomputable def f31_r2 : List EOper := [⟨(some (K.ofNat 6)), none, .as (.c (.i .i64 (.ofNat 0)))⟩]
noncomputable def f31_r3 : List EOper := [⟨(some (K.ofNat 10)), none, .mv (.t (K.ofNat 6))⟩, ⟨(some (K.ofNat 11)), none, .mv (.t (K.ofNat 1))⟩, ⟨(some (K.ofNat 12)), none, .len (.t (K.ofNat 11))⟩, ⟨(some (K.ofNat 13)), none, .bin .lss (.t (K.ofNat 10)) (.t (K.ofNat 12))⟩]
noncomputable def f31_r4 : List EOper := [⟨(some (K.ofNat 16)), none, .mv (.t (K.ofNat 5))⟩, ⟨(some (K.ofNat 17)), none, .mv (.t (K.ofNat 1))⟩, ⟨(some (K.ofNat 18)), none, .mv (.t (K.ofNat 6))⟩, ⟨(some (K.ofNat 19)), none, .iads 1 (.t (K.ofNat 17)) (.t (K.ofNat 18))⟩, ⟨(some (K.ofNat 20)), none, .ld (.t (K.ofNat 19))⟩, ⟨(some (K.ofNat 21)), none, .call (.c (.fn (K.ofNat 52) [])) [(.t (K.ofNat 20))]⟩, ⟨(some (K.ofNat 22)), none, .max (.t (K.ofNat 16)) (.t (K.ofNat 21))⟩, ⟨(some (K.ofNat 5)), none, .as (.t (K.ofNat 22))⟩]
noncomputable def f31_r5 : List EOper := [⟨(some (K.ofNat 14)), none, .mv (.t (K.ofNat 6))⟩, ⟨(some (K.ofNat 15)), none, .bin .add (.t (K.ofNat 14)) (.c (.i .i64 (.ofNat 1)))⟩, ⟨(some (K.ofNat 6)), none, .as (.t (K.ofNat 15))⟩]
noncomputable def f31_l0 : EC := (.seq (.seq (.reg f31_r3) (.cond (.t (K.ofNat 13)) .skip (.exit 0))) (.seq (.block 1 (.reg f31_r4)) (.reg f31_r5)))
noncomputable def f31_r6 : List EOper := [⟨(some (K.ofNat 23)), none, .mv (.t (K.ofNat 5))⟩, ⟨(some (K.ofNat 24)), none, .bin .add (.t (K.ofNat 23)) (.c (.i .i64 (.ofNat 1)))⟩, ⟨(some (K.ofNat 25)), none, .mkslice 1 [(.i .i64 (.ofNat 0))] (.t (K.ofNat 24))⟩, ⟨(some (K.ofNat 7)), none, .as (.t (K.ofNat 25))⟩]
noncomputable def f31_r7 : List EOper := [⟨(some (K.ofNat 26)), none, .mv (.t (K.ofNat 0))⟩, ⟨(some (K.ofNat 27)), none, .mv (.t (K.ofNat 1))⟩, ⟨(some (K.ofNat 28)), none, .call (.c (.fn (K.ofNat 33) [])) [(.t (K.ofNat 26)), (.t (K.ofNat 27))]⟩, ⟨(some (K.ofNat 8)), none, .as (.t (K.ofNat 28))⟩]
noncomputable def f31_r8 : List EOper := [⟨(some (K.ofNat 9)), none, .as (.c (.i .i64 (.ofNat 0)))⟩]
noncomputable def f31_r9 : List EOper := [⟨(some (K.ofNat 29)), none, .mv (.t (K.ofNat 9))⟩, ⟨(some (K.ofNat 30)), none, .mv (.t (K.ofNat 8))⟩, ⟨(some (K.ofNat 31)), none, .len (.t (K.ofNat 30))⟩, ⟨(some (K.ofNat 32)), none, .bin .lss (.t (K.ofNat 29)) (.t (K.ofNat 31))⟩]
noncomputable def f31_r10 : List EOper := [⟨(some (K.ofNat 35)), none, .mv (.t (K.ofNat 7))⟩, ⟨(some (K.ofNat 36)), none, .mv (.t (K.ofNat 8))⟩, ⟨(some (K.ofNat 37)), none, .mv (.t (K.ofNat 9))⟩, ⟨(some (K.ofNat 38)), none, .iads 1 (.t (K.ofNat 36)) (.t (K.ofNat 37))⟩, ⟨(some (K.ofNat 39)), none, .ld (.t (K.ofNat 38))⟩, ⟨(some (K.ofNat 40)), none, .call (.c (.fn (K.ofNat 52) [])) [(.t (K.ofNat 39))]⟩, ⟨(some (K.ofNat 41)), none, .iads 1 (.t (K.ofNat 35)) (.t (K.ofNat 40))⟩, ⟨(some (K.ofNat 42)), none, .ld (.t (K.ofNat 41))⟩, ⟨(some (K.ofNat 43)), none, .bin .add (.t (K.ofNat 42)) (.c (.i .i64 (.ofNat 1)))⟩, ⟨(some (K.ofNat 44)), none, .iads 1 (.t (K.ofNat 35)) (.t (K.ofNat 40))⟩, ⟨none, none, .st 1 (.t (K.ofNat 44)) (.t (K.ofNat 43))⟩]
noncomputable def f31_r11 : List EOper := [⟨(some (K.ofNat 33)), none, .mv (.t (K.ofNat 9))⟩, ⟨(some (K.ofNat 34)), none, .bin .add (.t (K.ofNat 33)) (.c (.i .i64 (.ofNat 1)))⟩, ⟨(some (K.ofNat 9)), none, .as (.t (K.ofNat 34))⟩]
noncomputable def f31_l1 : EC := (.seq (.seq (.reg f31_r9) (.cond (.t (K.ofNat 32)) .skip (.exit 2))) (.seq (.block 3 (.reg f31_r10)) (.reg f31_r11)))
noncomputable def f31_r12 : List EOper := [⟨(some (K.ofNat 45)), none, .mv (.t (K.ofNat 7))⟩, ⟨(some (K.ofNat 4)), none, .as (.t (K.ofNat 45))⟩]
noncomputable def f31_c : EC := (.seq (.reg f31_r0) (.seq (.reg f31_r1) (.seq (.seq (.reg f31_r2) (.block 0 (.loop f31_l0))) (.seq (.reg f31_r6) (.seq (.reg f31_r7) (.seq (.seq (.reg f31_r8) (.block 2 (.loop f31_l1))) (.seq (.reg f31_r12) .ret)))))))
noncomputable def f31 : EF := ⟨46, [.tmp (K.ofNat 4)], f31_c, none⟩
theorem f31_rs : f31.rs = [.tmp (K.ofNat 4)] := of_eq_true (eq_self _)
noncomputable def f35_r0 : List EOper := [⟨(some (K.ofNat 2)), none, .as (.c (.i .i64 (.ofNat 0)))⟩]
noncomputable def f35_r1 : List EOper := [⟨(some (K.ofNat 3)), none, .as (.c (.i .i64 (.ofNat 0)))⟩]
noncomputable def f35_r2 : List EOper := [⟨(some (K.ofNat 4)), none, .as (.c (.i .i64 (.ofNat 1)))⟩]
noncomputable def f35_r3 : List EOper := [⟨(some (K.ofNat 5)), none, .mv (.t (K.ofNat 4))⟩, ⟨(some (K.ofNat 6)), none, .mv (.t (K.ofNat 0))⟩, ⟨(some (K.ofNat 7)), none, .len (.t (K.ofNat 6))⟩, ⟨(some (K.ofNat 8)), none, .bin .lss (.t (K.ofNat 5)) (.t (K.ofNat 7))⟩]
noncomputable def f35_r4 : List EOper := [⟨(some (K.ofNat 11)), none, .mv (.t (K.ofNat 3))⟩, ⟨(some (K.ofNat 12)), none, .mv (.t (K.ofNat 0))⟩, ⟨(some (K.ofNat 13)), none, .mv (.t (K.ofNat 4))⟩, ⟨(some (K.ofNat 14)), none, .iads 1 (.t (K.ofNat 12)) (.t (K.ofNat 13))⟩, ⟨(some (K.ofNat 15)), none, .ld (.t (K.ofNat 14))⟩, ⟨(some (K.ofNat 16)), none, .mv (.t (K.ofNat 4))⟩, ⟨(some (K.ofNat 17)), none, .bin .rem (.t (K.ofNat 16)) (.c (.i .i64 (.ofNat 2)))⟩, ⟨(some (K.ofNat 18)), none, .bin .mul (.c (.i .i64 (.ofNat 2))) (.t (K.ofNat 17))⟩, ⟨(some (K.ofNat 19)), none, .bin .sub (.t (K.ofNat 18)) (.c (.i .i64 (.ofNat 1)))⟩, ⟨(some (K.ofNat 20)), none, .bin .mul (.t (K.ofNat 15)) (.t (K.ofNat 19))⟩, ⟨(some (K.ofNat 21)), none, .bin .add (.t (K.ofNat 11)) (.t (K.ofNat 20))⟩, ⟨(some (K.ofNat 3)), none, .as (.t (K.ofNat 21))⟩]
noncomputable def f35_r5 : List EOper := [⟨(some (K.ofNat 9)), none, .mv (.t (K.ofNat 4))⟩, ⟨(some (K.ofNat 10)), none, .bin .add (.t (K.ofNat 9)) (.c (.i .i64 (.ofNat 1)))⟩, ⟨(some (K.ofNat 4)), none, .as (.t (K.ofNat 10))⟩]
noncomputable def f35_l0 : EC := (.seq (.seq (.reg f35_r3) (.cond (.t (K.ofNat 8)) .skip (.exit 0))) (.seq (.block 1 (.reg f35_r4)) (.reg f35_r5)))
noncomputable def f35_r6 : List EOper := [⟨(some (K.ofNat 22)), none, .mv (.t (K.ofNat 3))⟩, ⟨(some (K.ofNat 2)), none, .as (.t (K.ofNat 22))⟩]
noncomputable def f35_c : EC := (.seq (.reg f35_r0) (.seq (.reg f35_r1) (.seq (.seq (.reg f35_r2) (.block 0 (.loop f35_l0))) (.seq (.reg f35_r6) .ret))))
noncomputable def f35 : EF := ⟨23, [.tmp (K.ofNat 2)], f35_c, none⟩
theorem f35_rs : f35.rs = [.tmp (K.ofNat 2)] := of_eq_true (eq_self _)
section
variable {fs : T EF} {ro : Option K}
noncomputable def isF (S : List Int) (x : Int) : Bool := S.any fun s => ptI x s
def f45_I (h : H) (v : V) (S : List Int) (x : Int) (i : Nat) (fr : Fr) (h1 : H) : Prop := h1 = h ∧ i ≤ S.length ∧ (S.take i).any (fun s => ptI x s) = false ∧ fr.get (K.ofNat 0) = some (v) ∧ fr.get (K.ofNat 1) = some (.i .i64 x) ∧ fr.get (K.ofNat 5) = some (.i .i64 (i : Int))
theorem f45_ret {h : H} {v : V} {S : List Int} {x : Int} (hp : ∀ a b h P, CallP fs (.fn (K.ofNat 53) []) [.i .i64 a, .i .i64 b] h P = P (.b (ptI a b)) h) (hv : Sl iE h v S) (hS : S.length ≤ 1000000) :
    Ret fs f45 [v, .i .i64 x] h fun u h' => u = .b (isF S x) ∧ h' = h := by
  apply ret_of rfl
  show W fs none f45_c _ _ _
  unfold f45_c
  simp (disch := omega) only [f45_r0, f45_r1, w_reg, w_seq, w_block, seqK_n, x_nil, x_as, ev_c, putD_some, frame_2, of0]
  refine W_loop (f45_I h v S x) (fun i => S.length - i) ?_ 0 ⟨rfl, Nat.zero_le _, by simp, by simp (disch := omega) only [getK_set, Nat.reduceEqDiff, ↓reduceIte, and_self, Int.natCast_zero]⟩
  rintro i fr h1 ⟨rfl, hi, hal, g0, g1, g5⟩
  unfold f45_l0
  by_cases hlt : i < S.length
  · have hlt' : (i : Int) < (S.length : Int) := by omega
    obtain ⟨p, hp1, hp2⟩ := hv.at i hlt
    have hs := any_snoc (p := fun s => ptI x s) hlt
    rw [hal, Bool.false_or] at hs
    cases e : ptI x S[i]
    · simp (disch := omega) only [f45_r2, f45_r3, f45_r5, w_skip, w_reg, w_seq, w_cond, w_block, seqK_n, atK_n, loopK_n, ckB_b, cbB_b, true_and, x_nil, x_mv, x_as, x_ld, x_bin, x_iads, x_call, x_len, kx, rvP_ok, okv_some, ev_t, ev_c, evs_nil, evs_cons, getV_some, putD_some, bin_add, bin_lss, of1, getK_set, Nat.reduceEqDiff, ↓reduceIte, Bool.false_eq_true, g0, g1, g5, hv.len, hlt', decide_true, hp1, hp2, iE, hp, e, fw64]
      exact ⟨i + 1, by omega, rfl, hlt, by rw [hs, e], by simp (disch := omega) only [getK_set, Nat.reduceEqDiff, ↓reduceIte, g0, g1, and_self, Int.natCast_add, Int.natCast_one]⟩
    · have : isF S x = true := by unfold isF; rw [List.any_eq_true]; exact ⟨S[i], List.getElem_mem _, e⟩
      simp (disch := omega) only [f45_r2, f45_r3, f45_r4, f45_rs, w_skip, w_reg, w_seq, w_cond, w_block, w_ret, seqK_n, seqK_r, atK_r, loopK_r, ckB_b, cbB_b, retK_r, x_nil, x_mv, x_as, x_ld, x_bin, x_iads, x_call, x_len, kx, rvP_ok, okv_some, ev_t, ev_c, evs_nil, evs_cons, getV_some, putD_some, bin_lss, oGet_s, readRs_nil, readRs_t, retV_1, Option.some.injEq, exists_eq_left', getK_set, Nat.reduceEqDiff, ↓reduceIte, g0, g1, g5, hv.len, hlt', decide_true, hp1, hp2, iE, hp, e, this, and_self]
  · obtain rfl : i = S.length := by omega
    rw [List.take_length] at hal
    have : isF S x = false := hal
    have hlt' : ¬ (S.length : Int) < (S.length : Int) := by omega
    simp (disch := omega) only [f45_r2, f45_r6, f45_rs, w_reg, w_seq, w_cond, w_exit, w_ret, seqK_n, seqK_e, atK_e, loopK_e, ckB_b, cbB_b, retK_r, x_nil, x_mv, x_as, x_bin, x_len, kx, rvP_ok, okv_some, ev_t, ev_c, getV_some, putD_some, bin_lss, oGet_s, readRs_nil, readRs_t, retV_1, Option.some.injEq, exists_eq_left', getK_set, Nat.reduceEqDiff, ↓reduceIte, Bool.false_eq_true, g0, g5, hv.len, hlt', decide_false, this, and_self]
noncomputable def facTo (S : List Int) (i : Nat) : List Int := ((List.range i).filter fun (k : Nat) => isF S (k : Int)).map fun (k : Nat) => (k : Int)
theorem facTo_succ {S : List Int} {i : Nat} : facTo S (i + 1) = if isF S (i : Int) = true then facTo S i ++ [(i : Int)] else facTo S i := by
  unfold facTo
  rw [List.range_succ, List.filter_append, List.map_append]
  cases h : isF S (i : Int) <;> simp [h]
theorem facTo_len {S : List Int} {i : Nat} : (facTo S i).length ≤ i := by
  unfold facTo; rw [List.length_map]
  exact Nat.le_trans (List.length_filter_le _ _) (by simp)
def f33_I (h : H) (v : V) (S : List Int) (n : Int) (i : Nat) (fr : Fr) (h1 : H) : Prop := ∃ o, i ≤ 2 ^ n.toNat ∧ Sl iE h1 o (facTo S i) ∧ Own h.nx.nat o ∧ Grow h.nx.nat h h1 ∧ fr.get (K.ofNat 0) = some (.i .i64 n) ∧ fr.get (K.ofNat 1) = some (v) ∧ fr.get (K.ofNat 5) = some (o) ∧ fr.get (K.ofNat 6) = some (.i .i64 (i : Int))
theorem pow_n {n : Int} (h1 : 1 ≤ n) (h6 : n ≤ 6) : 2 ^ n.toNat ≤ 64 ∧ ((2 ^ n.toNat : Nat) : Int) = (2 : Int) ^ n.toNat := by
  have : n = 1 ∨ n = 2 ∨ n = 3 ∨ n = 4 ∨ n = 5 ∨ n = 6 := by omega
  rcases this with rfl | rfl | rfl | rfl | rfl | rfl <;> decide
theorem f33_ret {h : H} {v : V} {S : List Int} {n : Int} (hp : ∀ a b h P, CallP fs (.fn (K.ofNat 53) []) [.i .i64 a, .i .i64 b] h P = P (.b (ptI a b)) h) (h45 : fs.get (K.ofNat 45) = some f45) (hv : Sl iE h v S) (hc : HC h) (hS : S.length ≤ 1000000) (hn1 : 1 ≤ n) (hn6 : n ≤ 6) :
    Ret fs f33 [.i .i64 n, v] h fun u h' => Sl iE h' u (facTo S (2 ^ n.toNat)) ∧ Own h.nx.nat u ∧ Grow h.nx.nat h h' := by
  apply ret_of rfl
  show W fs none f33_c _ _ _
  unfold f33_c
  obtain ⟨hpw, hpe⟩ := pow_n hn1 hn6
  simp (disch := omega) only [f33_r0, f33_r1, f33_r2, w_reg, w_seq, w_block, seqK_n, x_nil, x_as, ev_c, putD_some, frame_2, of0]
  refine W_loop (f33_I h v S n) (fun i => 2 ^ n.toNat - i) ?_ 0 ⟨.sn, Nat.zero_le _, Sl.nil, Own.sn, Grow.refl _ _, by simp (disch := omega) only [getK_set, Nat.reduceEqDiff, ↓reduceIte, and_self, Int.natCast_zero]⟩
  rintro i fr h1 ⟨o, hi, hso, hoo, hgr, g0, g1, g5, g6⟩
  have hc1 := hgr.hc hc
  have hv1 := hv.grow hc hgr
  unfold f33_l0
  by_cases hlt : i < 2 ^ n.toNat
  · have hlt' : (i : Int) < (2 : Int) ^ n.toNat := by omega
    simp (disch := omega) only [f33_r3, f33_r4, w_skip, w_reg, w_seq, w_cond, w_block, seqK_n, ckB_b, cbB_b, true_and, x_nil, x_mv, x_bin, x_call, kx, rvP_ok, okv_some, ev_t, ev_c, evs_nil, evs_cons, getV_some, putD_some, bin_lss, of1, getK_set, Nat.reduceEqDiff, ↓reduceIte, g0, g1, g6, bin_shl, shl_n, hlt', decide_true]
    refine (callP_0 (ef := f45) h45 rfl (f45_ret (x := (i : Int)) hp hv1 hS)).mono ?_
    rintro u h2 ⟨rfl, rfl⟩
    cases e : isF S (i : Int)
    · simp (disch := omega) only [f33_r6, w_skip, w_reg, w_cond, seqK_n, atK_n, loopK_n, ckB_b, cbB_b, true_and, x_nil, x_mv, x_as, x_bin, kx, rvP_ok, okv_some, ev_t, ev_c, getV_some, putD_some, bin_add, of1, getK_set, Nat.reduceEqDiff, ↓reduceIte, Bool.false_eq_true, g6, fw64]
      exact ⟨i + 1, by omega, o, hlt, by rw [facTo_succ, e]; exact hso, hoo, hgr, by simp (disch := omega) only [getK_set, Nat.reduceEqDiff, ↓reduceIte, g0, g1, g5, and_self, Int.natCast_add, Int.natCast_one]⟩
    · obtain ⟨v', h', p1, p2, p3, p4, p5⟩ := Sl.push (L := facTo S i) (x := (i : Int)) (c := .i .i64 i) rfl hso hoo hgr.nx hc1 (by have := facTo_len (S := S) (i := i); omega)
      simp (disch := omega) only [f33_r5, f33_r6, w_reg, w_cond, seqK_n, atK_n, loopK_n, ckB_b, cbB_b, true_and, x_nil, x_mv, x_as, x_bslice, x_bin, x_app, kx, rvP_ok, okv_some, ev_t, ev_c, getV_some, putD_some, bin_add, oGet_s, cells1_i, fill_1, set_1, of0, of1, getK_set, Nat.reduceEqDiff, ↓reduceIte, g5, g6, p1, fw64]
      exact ⟨i + 1, by omega, v', hlt, by rw [facTo_succ, e]; exact p2, p3, hgr.trans p4, by simp (disch := omega) only [getK_set, Nat.reduceEqDiff, ↓reduceIte, g0, g1, and_self, Int.natCast_add, Int.natCast_one]⟩
  · obtain rfl : i = 2 ^ n.toNat := by omega
    have hlt' : ¬ ((2 ^ n.toNat : Nat) : Int) < (2 : Int) ^ n.toNat := by omega
    simp (disch := omega) only [f33_r3, f33_r7, f33_rs, w_reg, w_seq, w_cond, w_exit, w_ret, seqK_n, seqK_e, atK_e, loopK_e, ckB_b, cbB_b, true_and, retK_r, x_nil, x_mv, x_as, x_bin, kx, rvP_ok, okv_some, ev_t, ev_c, getV_some, putD_some, bin_lss, oGet_s, readRs_nil, readRs_t, retV_1, of1, Option.some.injEq, exists_eq_left', getK_set, Nat.reduceEqDiff, ↓reduceIte, Bool.false_eq_true, g0, g5, g6, bin_shl, shl_n, hlt', decide_false]
    exact ⟨hso, hoo, hgr⟩
/-- The greatest number of elements. -/
noncomputable def maxS (S : List Int) : Nat := S.foldl (fun d s => max d (pop6 s.toNat)) 0
theorem maxS_snoc {S : List Int} {s : Int} : maxS (S ++ [s]) = max (maxS S) (pop6 s.toNat) := by unfold maxS; rw [List.foldl_append]; rfl
theorem maxS_le : ∀ S : List Int, maxS S ≤ 6 := by
  intro S
  refine snoc_ind (P := fun S => maxS S ≤ 6) (Nat.zero_le _) (fun l k ih => ?_) S
  rw [maxS_snoc]; have := pop6_le (k := k.toNat); omega
def f31_I0 (h : H) (v : V) (S : List Int) (n : Int) (i : Nat) (fr : Fr) (h1 : H) : Prop := h1 = h ∧ i ≤ S.length ∧ fr.get (K.ofNat 0) = some (.i .i64 n) ∧ fr.get (K.ofNat 1) = some (v) ∧ fr.get (K.ofNat 5) = some (.i .i64 (maxS (S.take i) : Int)) ∧ fr.get (K.ofNat 6) = some (.i .i64 (i : Int))
noncomputable def bump (C : List Int) (k : Nat) : List Int := C.set (pop6 k) (C.getD (pop6 k) 0 + 1)
noncomputable def rcnt (d : Nat) (l : List Nat) : List Int := l.foldl bump (List.replicate (d + 1) 0)
theorem rcnt_snoc {d : Nat} {l : List Nat} {k : Nat} : rcnt d (l ++ [k]) = bump (rcnt d l) k := by unfold rcnt; rw [List.foldl_append]; rfl
theorem rcnt_len {d : Nat} : ∀ l, (rcnt d l).length = d + 1 := by
  intro l
  refine snoc_ind (P := fun l => (rcnt d l).length = d + 1) (by simp [rcnt]) (fun l k ih => ?_) l
  rw [rcnt_snoc, bump, List.length_set, ih]
theorem rcnt_bd {d : Nat} : ∀ (l : List Nat), ∀ x ∈ rcnt d l, 0 ≤ x ∧ x ≤ (l.length : Int) := by
  intro l
  refine snoc_ind (P := fun l => ∀ x ∈ rcnt d l, 0 ≤ x ∧ x ≤ (l.length : Int)) (fun x hx => ?_) (fun l k ih x hx => ?_) l
  · have := List.eq_of_mem_replicate (show x ∈ List.replicate (d + 1) (0 : Int) from hx); simp; omega
  · rw [rcnt_snoc] at hx
    unfold bump at hx
    rw [List.length_append]
    rcases List.mem_or_eq_of_mem_set hx with h2 | h2
    · have := ih x h2; simp; omega
    · by_cases hk : pop6 k < (rcnt d l).length
      · have h3 : (rcnt d l).getD (pop6 k) 0 ∈ rcnt d l := by simp [List.getD, hk]
        have := ih _ h3; simp; omega
      · have : (rcnt d l).getD (pop6 k) 0 = 0 := by simp [List.getD, hk]
        simp; omega
noncomputable def facN (S : List Int) (m : Nat) : List Nat := (List.range m).filter fun (k : Nat) => isF S (k : Int)
def f31_I1 (h : H) (S : List Int) (n : Int) (u : V) (i : Nat) (fr : Fr) (h1 : H) : Prop := ∃ o, i ≤ (facN S (2 ^ n.toNat)).length ∧ Sl iE h1 u (facTo S (2 ^ n.toNat)) ∧ Sl iE h1 o (rcnt (maxS S) ((facN S (2 ^ n.toNat)).take i)) ∧ Own h.nx.nat o ∧ (∃ id, Own (id + 1) u ∧ ∀ k off m sz, o = .sl k off m sz → k.nat = id) ∧ Grow h.nx.nat h h1 ∧ fr.get (K.ofNat 7) = some (o) ∧ fr.get (K.ofNat 8) = some (u) ∧ fr.get (K.ofNat 9) = some (.i .i64 (i : Int))
theorem f31_ret {h : H} {v : V} {S : List Int} {n : Int} (hp : ∀ a b h P, CallP fs (.fn (K.ofNat 53) []) [.i .i64 a, .i .i64 b] h P = P (.b (ptI a b)) h)
    (hp52 : ∀ m : Nat, m < 64 → ∀ h P, CallP fs (.fn (K.ofNat 52) []) [.i .i64 (m : Int)] h P = P (.i .i64 (pop6 m : Int)) h)
    (h45 : fs.get (K.ofNat 45) = some f45) (h33 : fs.get (K.ofNat 33) = some f33) (hv : Sl iE h v S) (hc : HC h) (hS : S.length ≤ 1000) (hsets : Sets S) (hn1 : 1 ≤ n) (hn6 : n ≤ 6)
    (hsz : ∀ k ∈ facN S (2 ^ n.toNat), pop6 k ≤ maxS S) :
    Ret fs f31 [.i .i64 n, v] h fun u h' => Sl iE h' u (rcnt (maxS S) (facN S (2 ^ n.toNat))) ∧ Own h.nx.nat u ∧ Grow h.nx.nat h h' := by
  apply ret_of rfl
  show W fs none f31_c _ _ _
  unfold f31_c
  obtain ⟨hpw, hpe⟩ := pow_n hn1 hn6
  simp (disch := omega) only [f31_r0, f31_r1, f31_r2, w_reg, w_seq, w_block, seqK_n, x_nil, x_as, ev_c, putD_some, frame_2, of0]
  refine W_loop (f31_I0 h v S n) (fun i => S.length - i) ?_ 0 ⟨rfl, Nat.zero_le _, by simp (disch := omega) only [true_and, Option.some.injEq, getK_set, Nat.reduceEqDiff, ↓reduceIte, Int.natCast_zero]; exact ⟨rfl, trivial⟩⟩
  rintro i fr h1 ⟨rfl, hi, g0, g1, g5, g6⟩
  unfold f31_l0
  by_cases hlt : i < S.length
  · have hlt' : (i : Int) < (S.length : Int) := by omega
    obtain ⟨p, hp1, hp2⟩ := hv.at i hlt
    obtain ⟨t, ht, hst⟩ := hsets S[i] (List.getElem_mem hlt)
    rw [hst] at hp2
    have hmx : maxS (S.take (i + 1)) = max (maxS (S.take i)) (pop6 t) := by rw [List.take_succ_eq_append_getElem hlt, maxS_snoc, hst]; rfl
    have hmax : max ((maxS (S.take i) : Nat) : Int) (pop6 t : Int) = ((max (maxS (S.take i)) (pop6 t) : Nat) : Int) := by omega
    simp (disch := omega) only [f31_r3, f31_r4, f31_r5, w_skip, w_reg, w_seq, w_cond, w_block, seqK_n, atK_n, loopK_n, ckB_b, cbB_b, true_and, x_nil, x_mv, x_as, x_ld, x_bin, x_iads, x_call, x_len, x_max, kx, rvP_ok, okv_some, ev_t, ev_c, evs_nil, evs_cons, getV_some, putD_some, bin_add, bin_lss, max_ii, of1, getK_set, Nat.reduceEqDiff, ↓reduceIte, g1, g5, g6, hv.len, hlt', decide_true, hp1, hp2, iE, hp52 _ ht, hmax, fw64]
    exact ⟨i + 1, by omega, rfl, hlt, by rw [hmx]; simp (disch := omega) only [getK_set, Nat.reduceEqDiff, ↓reduceIte, g0, g1, and_self, Int.natCast_add, Int.natCast_one]⟩
  · obtain rfl : i = S.length := by omega
    rw [List.take_length] at g5
    have hlt' : ¬ (S.length : Int) < (S.length : Int) := by omega
    have hms := maxS_le S
    have hd1 : fw .i64 ((maxS S : Int) + 1) = ((maxS S + 1 : Nat) : Int) := by rw [fw64 (by omega) (by omega)]; omega
    simp (disch := omega) only [f31_r3, f31_r6, w_reg, w_seq, w_cond, w_exit, seqK_n, seqK_e, atK_e, loopK_e, ckB_b, cbB_b, true_and, x_nil, x_mv, x_as, x_bin, x_mks, x_len, kx, rvP_ok, okv_some, ev_t, ev_c, getV_some, putD_some, bin_add, bin_lss, of0, of1, getK_set, Nat.reduceEqDiff, ↓reduceIte, Bool.false_eq_true, g1, g5, g6, hv.len, hlt', decide_false, hd1, mks_ints (show maxS S + 1 ≤ 1000000 by omega)]
    have gn : Grow h1.nx.nat h1 (h1.new (.cells ((maxS S + 1) * 1) (rep [.i .i64 0] (maxS S + 1)))) := Grow.new (Nat.le_refl _) _
    have n1 := nx_new h1 (.cells ((maxS S + 1) * 1) (rep [.i .i64 0] (maxS S + 1)))
    have hsl := mks_sl (h := h1) (n := maxS S + 1)
    generalize h1.new (.cells ((maxS S + 1) * 1) (rep [.i .i64 0] (maxS S + 1))) = h2 at *
    have hc2 := gn.hc hc
    simp (disch := omega) only [f31_r7, x_mv, x_call, ev_t, ev_c, evs_nil, evs_cons, getV_some, putD_some, getK_set, Nat.reduceEqDiff, ↓reduceIte, g0, g1]
    refine (callP_0 (ef := f33) h33 rfl (f33_ret (n := n) hp h45 (hv.grow hc gn) hc2 (by omega) hn1 hn6)).mono ?_
    rintro u h3 ⟨hsu, hou, gr3⟩
    simp (disch := omega) only [f31_r8, w_reg, w_seq, w_block, seqK_n, x_nil, x_as, kx, ev_t, ev_c, getV_some, putD_some, of0, getK_set, ↓reduceIte]
    have hfl : (facTo S (2 ^ n.toNat)).length = (facN S (2 ^ n.toNat)).length := by unfold facTo facN; rw [List.length_map]
    have hfl64 : (facN S (2 ^ n.toNat)).length ≤ 64 := by have := facTo_len (S := S) (i := 2 ^ n.toNat); omega
    refine W_loop (f31_I1 h1 S n u) (fun i => (facN S (2 ^ n.toNat)).length - i) ?_ 0 ⟨.sl h1.nx 0 (maxS S + 1) 1, Nat.zero_le _, hsu, hsl.grow hc2 gr3, (fun _ _ _ _ e => by cases e; exact Nat.le_refl _), ⟨h1.nx.nat, hou.low (by omega), fun _ _ _ _ e => by cases e; rfl⟩, gn.trans (gr3.low (by omega)), by simp (disch := omega) only [getK_set, Nat.reduceEqDiff, ↓reduceIte, and_self, Int.natCast_zero]⟩
    clear g0 g1 g5 g6 fr
    rintro j fr h4 ⟨o, hj, hsu4, hso, hoo, ⟨id0, hid0, hid1⟩, hgr, g7, g8, g9⟩
    have hc4 := hgr.hc hc
    unfold f31_l1
    by_cases hltj : j < (facN S (2 ^ n.toNat)).length
    · have hltj' : (j : Int) < ((facTo S (2 ^ n.toNat)).length : Int) := by omega
      obtain ⟨p, hp1, hp2⟩ := hsu4.at j (by omega)
      have hk := List.getElem_mem hltj
      have hfe : (facTo S (2 ^ n.toNat))[j]'(by omega) = ((facN S (2 ^ n.toNat))[j] : Int) := by unfold facTo facN; rw [List.getElem_map]; rfl
      rw [hfe] at hp2
      have hk64 : (facN S (2 ^ n.toNat))[j] < 64 := by
        have := (List.mem_filter.1 (show (facN S (2 ^ n.toNat))[j] ∈ (List.range (2 ^ n.toNat)).filter (fun (k : Nat) => isF S (k : Int)) from hk)).1
        rw [List.mem_range] at this
        exact Nat.lt_of_lt_of_le this hpw
      have hks := hsz _ hk
      have hlen := rcnt_len (d := maxS S) ((facN S (2 ^ n.toNat)).take j)
      have hml : pop6 (facN S (2 ^ n.toNat))[j] < (rcnt (maxS S) ((facN S (2 ^ n.toNat)).take j)).length := by omega
      obtain ⟨q, hq1, hq2⟩ := hso.at _ hml
      have hbd := rcnt_bd (d := maxS S) ((facN S (2 ^ n.toNat)).take j) _ (List.getElem_mem hml)
      have hlt64 : ((facN S (2 ^ n.toNat)).take j).length ≤ 64 := by rw [List.length_take]; omega
      obtain ⟨p2, id, m2, cs2, q1, q2, q3, ⟨off, nn, sz, q4⟩, q5⟩ := hso.st hml (x := (rcnt (maxS S) ((facN S (2 ^ n.toNat)).take j))[pop6 (facN S (2 ^ n.toNat))[j]] + 1) (c := .i .i64 ((rcnt (maxS S) ((facN S (2 ^ n.toNat)).take j))[pop6 (facN S (2 ^ n.toNat))[j]] + 1)) rfl rfl hc4
      have hpp : p2 = q := by
        have h1' := hq1 .i64 h4
        have h2' := q1 .i64 h4
        rw [h1'] at h2'
        cases h2'; rfl
      subst hpp
      have hfw : fw .i64 ((rcnt (maxS S) ((facN S (2 ^ n.toNat)).take j))[pop6 (facN S (2 ^ n.toNat))[j]] + 1) = (rcnt (maxS S) ((facN S (2 ^ n.toNat)).take j))[pop6 (facN S (2 ^ n.toNat))[j]] + 1 := fw64 (by omega) (by omega)
      simp (disch := omega) only [f31_r9, f31_r10, f31_r11, w_skip, w_reg, w_seq, w_cond, w_block, seqK_n, atK_n, loopK_n, ckB_b, cbB_b, true_and, x_nil, x_mv, x_as, x_ld, x_st, x_bin, x_iads, x_call, x_len, kx, rvP_ok, okv_some, ev_t, ev_c, evs_nil, evs_cons, getV_some, putD_some, putD_none, bin_add, bin_lss, of1, getK_set, Nat.reduceEqDiff, ↓reduceIte, g7, g8, g9, hsu4.len, hltj', decide_true, hp1, hp2, iE, hp52 _ hk64, hq1, hq2, hfw, q2, fw64]
      have hidn := hid1 _ _ _ _ q4
      refine ⟨j + 1, by omega, o, hltj, hsu4.put (hid0.notIn (by omega)) _, ?_, hoo, ⟨id0, hid0, hid1⟩, hgr.trans (Grow.put (hoo _ _ _ _ q4) q5 _), by simp (disch := omega) only [getK_set, Nat.reduceEqDiff, ↓reduceIte, g7, g8, and_self, Int.natCast_add, Int.natCast_one]⟩
      have : rcnt (maxS S) ((facN S (2 ^ n.toNat)).take (j + 1)) = (rcnt (maxS S) ((facN S (2 ^ n.toNat)).take j)).set (pop6 (facN S (2 ^ n.toNat))[j]) ((rcnt (maxS S) ((facN S (2 ^ n.toNat)).take j))[pop6 (facN S (2 ^ n.toNat))[j]] + 1) := by
        rw [List.take_succ_eq_append_getElem hltj, rcnt_snoc]
        unfold bump
        rw [show (rcnt (maxS S) ((facN S (2 ^ n.toNat)).take j)).getD (pop6 (facN S (2 ^ n.toNat))[j]) 0 = (rcnt (maxS S) ((facN S (2 ^ n.toNat)).take j))[pop6 (facN S (2 ^ n.toNat))[j]] by simp [List.getD, hml]]
      rw [this]; exact q3
    · obtain rfl : j = (facN S (2 ^ n.toNat)).length := by omega
      rw [List.take_length] at hso
      have hltj' : ¬ (((facN S (2 ^ n.toNat)).length : Nat) : Int) < ((facTo S (2 ^ n.toNat)).length : Int) := by omega
      simp (disch := omega) only [f31_r9, f31_r12, f31_rs, w_reg, w_seq, w_cond, w_exit, w_ret, seqK_n, seqK_e, atK_e, loopK_e, ckB_b, cbB_b, true_and, retK_r, x_nil, x_mv, x_as, x_bin, x_len, kx, rvP_ok, okv_some, ev_t, getV_some, putD_some, bin_lss, oGet_s, readRs_nil, readRs_t, retV_1, Option.some.injEq, exists_eq_left', getK_set, Nat.reduceEqDiff, ↓reduceIte, Bool.false_eq_true, g7, g8, g9, hsu4.len, hltj', decide_false]
      exact ⟨hso, hoo, hgr⟩
/-- The sum of the counts with signs, as the reference has it: from the i-th on. -/
noncomputable def reuS (L : List Int) : Nat → Nat → Int → Int
  | 0, _, sum => sum
  | t + 1, i, sum => reuS L t (i + 1) (fw .i64 (sum + fw .i64 (L.getD i 0 * fw .i64 (fw .i64 (2 * ((i : Int).tmod 2)) - 1))))
def f35_I (h : H) (v : V) (L : List Int) (R : Int) (t : Nat) (fr : Fr) (h1 : H) : Prop := ∃ (i : Nat) (sum : Int), h1 = h ∧ i + t = L.length ∧ reuS L t i sum = R ∧ fr.get (K.ofNat 0) = some (v) ∧ fr.get (K.ofNat 3) = some (.i .i64 sum) ∧ fr.get (K.ofNat 4) = some (.i .i64 (i : Int))
theorem f35_ret {h : H} {v : V} {L : List Int} (hv : Sl iE h v L) (hL : 1 ≤ L.length) (hL7 : L.length ≤ 7) : Ret fs f35 [v] h fun u h' => u = .i .i64 (reuS L (L.length - 1) 1 0) ∧ h' = h := by
  apply ret_of rfl
  show W fs none f35_c _ _ _
  unfold f35_c
  simp (disch := omega) only [f35_r0, f35_r1, f35_r2, w_reg, w_seq, w_block, seqK_n, x_nil, x_as, ev_c, putD_some, frame_1, of0, of1]
  refine W_loop (f35_I h v L (reuS L (L.length - 1) 1 0)) (fun t => t) ?_ (L.length - 1) ⟨1, 0, rfl, by omega, rfl, by simp (disch := omega) only [getK_set, Nat.reduceEqDiff, ↓reduceIte, and_self, Int.natCast_one]⟩
  rintro t fr h1 ⟨i, sum, rfl, hi, hR, g0, g3, g4⟩
  unfold f35_l0
  cases t with
  | zero =>
    obtain rfl : i = L.length := by omega
    have hlt' : ¬ (L.length : Int) < (L.length : Int) := by omega
    have hR : sum = reuS L (L.length - 1) 1 0 := hR
    simp (disch := omega) only [f35_r3, f35_r6, f35_rs, w_reg, w_seq, w_cond, w_exit, w_ret, seqK_n, seqK_e, atK_e, loopK_e, ckB_b, cbB_b, retK_r, x_nil, x_mv, x_as, x_bin, x_len, kx, rvP_ok, okv_some, ev_t, getV_some, putD_some, bin_lss, oGet_s, readRs_nil, readRs_t, retV_1, Option.some.injEq, exists_eq_left', getK_set, Nat.reduceEqDiff, ↓reduceIte, Bool.false_eq_true, g0, g3, g4, hv.len, hlt', decide_false, hR, and_self]
  | succ t =>
    have hlt : i < L.length := by omega
    have hlt' : (i : Int) < (L.length : Int) := by omega
    obtain ⟨p, hp1, hp2⟩ := hv.at i hlt
    simp (disch := omega) only [f35_r3, f35_r4, f35_r5, w_skip, w_reg, w_seq, w_cond, w_block, seqK_n, atK_n, loopK_n, ckB_b, cbB_b, true_and, x_nil, x_mv, x_as, x_ld, x_bin, x_iads, x_len, kx, rvP_ok, okv_some, ev_t, ev_c, getV_some, putD_some, bin_add, bin_sub, bin_mul, bin_lss, bin_rem, of1, of2, getK_set, Nat.reduceEqDiff, ↓reduceIte, g0, g3, g4, hv.len, hlt', decide_true, hp1, hp2, iE]
    refine ⟨t, by omega, i + 1, fw .i64 (sum + fw .i64 (L[i] * fw .i64 (fw .i64 (2 * ((i : Int).tmod 2)) - 1))), rfl, by omega, ?_, by simp (disch := omega) only [getK_set, Nat.reduceEqDiff, ↓reduceIte, g0, and_self, Int.natCast_add, Int.natCast_one, fw64]⟩
    rw [← hR, reuS]
    simp [List.getD, hlt]
end
end Go.Ev
namespace Go.Ev
open Go Go.RowKit
noncomputable def f34_r0 : List EOper := [⟨(some (K.ofNat 2)), none, .as (.c .sn)⟩]
noncomputable def f34_r1 : List EOper := [⟨(some (K.ofNat 7)), none, .mv (.t (K.ofNat 0))⟩, ⟨(some (K.ofNat 8)), none, .len (.t (K.ofNat 7))⟩, ⟨(some (K.ofNat 9)), none, .bin .sub (.t (K.ofNat 8)) (.c (.i .i64 (.ofNat 1)))⟩, ⟨(some (K.ofNat 3)), none, .as (.t (K.ofNat 9))⟩]
noncomputable def f34_r2 : List EOper := [⟨(some (K.ofNat 10)), none, .mv (.t (K.ofNat 3))⟩, ⟨(some (K.ofNat 11)), none, .bin .add (.t (K.ofNat 10)) (.c (.i .i64 (.ofNat 1)))⟩, ⟨(some (K.ofNat 12)), none, .mkslice 1 [(.i .i64 (.ofNat 0))] (.t (K.ofNat 11))⟩, ⟨(some (K.ofNat 4)), none, .as (.t (K.ofNat 12))⟩]
noncomputable def f34_r3 : List EOper := [⟨(some (K.ofNat 5)), none, .as (.c (.i .i64 (.ofNat 0)))⟩]
noncomputable def f34_r4 : List EOper := [⟨(some (K.ofNat 13)), none, .mv (.t (K.ofNat 5))⟩, ⟨(some (K.ofNat 14)), none, .mv (.t (K.ofNat 3))⟩, ⟨(some (K.ofNat 15)), none, .bin .leq (.t (K.ofNat 13)) (.t (K.ofNat 14))⟩]
noncomputable def f34_r5 : List EOper := [⟨(some (K.ofNat 6)), none, .as (.c (.i .i64 (.ofNat 0)))⟩]
noncomputable def f34_r6 : List EOper := [⟨(some (K.ofNat 18)), none, .mv (.t (K.ofNat 6))⟩, ⟨(some (K.ofNat 19)), none, .mv (.t (K.ofNat 5))⟩, ⟨(some (K.ofNat 20)), none, .bin .leq (.t (K.ofNat 18)) (.t (K.ofNat 19))⟩]
noncomputable def f34_r7 : List Stage := [⟨[⟨(some (K.ofNat 23)), none, .mv (.t (K.ofNat 4))⟩, ⟨(some (K.ofNat 24)), none, .mv (.t (K.ofNat 5))⟩, ⟨(some (K.ofNat 25)), none, .mv (.t (K.ofNat 4))⟩, ⟨(some (K.ofNat 26)), none, .mv (.t (K.ofNat 5))⟩, ⟨(some (K.ofNat 27)), none, .iads 1 (.t (K.ofNat 25)) (.t (K.ofNat 26))⟩, ⟨(some (K.ofNat 28)), none, .ld (.t (K.ofNat 27))⟩, ⟨(some (K.ofNat 29)), none, .mv (.t (K.ofNat 0))⟩, ⟨(some (K.ofNat 30)), none, .mv (.t (K.ofNat 6))⟩, ⟨(some (K.ofNat 31)), none, .iads 1 (.t (K.ofNat 29)) (.t (K.ofNat 30))⟩, ⟨(some (K.ofNat 32)), none, .ld (.t (K.ofNat 31))⟩, ⟨(some (K.ofNat 33)), none, .mv (.t (K.ofNat 3))⟩, ⟨(some (K.ofNat 34)), none, .mv (.t (K.ofNat 6))⟩, ⟨(some (K.ofNat 35)), none, .bin .sub (.t (K.ofNat 33)) (.t (K.ofNat 34))⟩, ⟨(some (K.ofNat 36)), none, .mv (.t (K.ofNat 5))⟩, ⟨(some (K.ofNat 37)), none, .mv (.t (K.ofNat 6))⟩, ⟨(some (K.ofNat 38)), none, .bin .sub (.t (K.ofNat 36)) (.t (K.ofNat 37))⟩, ⟨(some (K.ofNat 41)), none, .mv (.t (K.ofNat 5))⟩, ⟨(some (K.ofNat 42)), none, .mv (.t (K.ofNat 6))⟩, ⟨(some (K.ofNat 43)), none, .bin .sub (.t (K.ofNat 41)) (.t (K.ofNat 42))⟩, ⟨(some (K.ofNat 44)), none, .bin .rem (.t (K.ofNat 43)) (.c (.i .i64 (.ofNat 2)))⟩, ⟨(some (K.ofNat 45)), none, .bin .mul (.c (.i .i64 (.ofNat 2))) (.t (K.ofNat 44))⟩, ⟨(some (K.ofNat 46)), none, .bin .sub (.c (.i .i64 (.ofNat 1))) (.t (K.ofNat 45))⟩], [], (some ⟨(some (K.ofNat 39)), none, .call (.c (.fn (K.ofNat 69) [])) [(.t (K.ofNat 35)), (.t (K.ofNat 38))]⟩), []⟩, ⟨[⟨(some (K.ofNat 40)), none, .bin .mul (.t (K.ofNat 32)) (.t (K.ofNat 39))⟩, ⟨(some (K.ofNat 47)), none, .bin .mul (.t (K.ofNat 40)) (.t (K.ofNat 46))⟩, ⟨(some (K.ofNat 48)), none, .bin .add (.t (K.ofNat 28)) (.t (K.ofNat 47))⟩, ⟨(some (K.ofNat 49)), none, .iads 1 (.t (K.ofNat 23)) (.t (K.ofNat 24))⟩], [⟨(some (K.ofNat 23)), none, .mv (.t (K.ofNat 4))⟩, ⟨(some (K.ofNat 24)), none, .mv (.t (K.ofNat 5))⟩, ⟨(some (K.ofNat 25)), none, .mv (.t (K.ofNat 4))⟩, ⟨(some (K.ofNat 26)), none, .mv (.t (K.ofNat 5))⟩, ⟨(some (K.ofNat 27)), none, .iads 1 (.t (K.ofNat 25)) (.t (K.ofNat 26))⟩, ⟨(some (K.ofNat 28)), none, .ld (.t (K.ofNat 27))⟩, ⟨(some (K.ofNat 29)), none, .mv (.t (K.ofNat 0))⟩, ⟨(some (K.ofNat 30)), none, .mv (.t (K.ofNat 6))⟩, ⟨(some (K.ofNat 31)), none, .iads 1 (.t (K.ofNat 29)) (.t (K.ofNat 30))⟩, ⟨(some (K.ofNat 32)), none, .ld (.t (K.ofNat 31))⟩, ⟨(some (K.ofNat 41)), none, .mv (.t (K.ofNat 5))⟩, ⟨(some (K.ofNat 42)), none, .mv (.t (K.ofNat 6))⟩, ⟨(some (K.ofNat 43)), none, .bin .sub (.t (K.ofNat 41)) (.t (K.ofNat 42))⟩, ⟨(some (K.ofNat 44)), none, .bin .rem (.t (K.ofNat 43)) (.c (.i .i64 (.ofNat 2)))⟩, ⟨(some (K.ofNat 45)), none, .bin .mul (.c (.i .i64 (.ofNat 2))) (.t (K.ofNat 44))⟩, ⟨(some (K.ofNat 46)), none, .bin .sub (.c (.i .i64 (.ofNat 1))) (.t (K.ofNat 45))⟩], (some ⟨none, none, .st 1 (.t (K.ofNat 49)) (.t (K.ofNat 48))⟩), []⟩, ⟨[], [], none, []⟩]
noncomputable def f34_r8 : List EOper := [⟨(some (K.ofNat 21)), none, .mv (.t (K.ofNat 6))⟩, ⟨(some (K.ofNat 22)), none, .bin .add (.t (K.ofNat 21)) (.c (.i .i64 (.ofNat 1)))⟩, ⟨(some (K.ofNat 6)), none, .as (.t (K.ofNat 22))⟩]
noncomputable def f34_l0 : EC := (.seq (.seq (.reg f34_r6) (.cond (.t (K.ofNat 20)) .skip (.exit 2))) (.seq (.block 3 (.draw f34_r7)) (.reg f34_r8)))
noncomputable def f34_r9 : List EOper := [⟨(some (K.ofNat 16)), none, .mv (.t (K.ofNat 5))⟩, ⟨(some (K.ofNat 17)), none, .bin .add (.t (K.ofNat 16)) (.c (.i .i64 (.ofNat 1)))⟩, ⟨(some (K.ofNat 5)), none, .as (.t (K.ofNat 17))⟩]
noncomputable def f34_l1 : EC := (.seq (.seq (.reg f34_r4) (.cond (.t (K.ofNat 15)) .skip (.exit 0))) (.seq (.block 1 (.seq (.reg f34_r5) (.block 2 (.loop f34_l0)))) (.reg f34_r9)))
noncomputable def f34_r10 : List EOper := [⟨(some (K.ofNat 50)), none, .mv (.t (K.ofNat 4))⟩, ⟨(some (K.ofNat 2)), none, .as (.t (K.ofNat 50))⟩]
noncomputable def f34_c : EC := (.seq (.reg f34_r0) (.seq (.reg f34_r1) (.seq (.reg f34_r2) (.seq (.seq (.reg f34_r3) (.block 0 (.loop f34_l1))) (.seq (.reg f34_r10) .ret)))))
noncomputable def f34 : EF := ⟨51, [.tmp (K.ofNat 2)], f34_c, none⟩
theorem f34_rs : f34.rs = [.tmp (K.ofNat 2)] := of_eq_true (eq_self _)
section
variable {fs : T EF} {ro : Option K}
def bin6 : Nat → Nat → Nat
  | _, 0 => 1
  | 0, _ + 1 => 0
  | n + 1, k + 1 => bin6 n k + bin6 n (k + 1)
noncomputable def sgnS (j : Nat) : Int := fw .i64 (1 - fw .i64 (2 * ((j : Int).tmod 2)))
noncomputable def rkS (L : List Int) (d k : Nat) : Nat → Int
  | 0 => 0
  | i + 1 => fw .i64 (rkS L d k i + fw .i64 (fw .i64 (L.getD i 0 * (bin6 (d - i) (k - i) : Int)) * sgnS (k - i)))
noncomputable def rowK (L : List Int) (d k i : Nat) (j : Nat) : Int := if j = k then rkS L d k i else if j < k then rkS L d j (j + 1) else 0
noncomputable def rhsS (L : List Int) : List Int := arr (fun k => rkS L (L.length - 1) k (k + 1)) L.length
def f34_I0 (h : H) (v o : V) (L : List Int) (d k : Nat) (i : Nat) (fr : Fr) (h1 : H) : Prop := i ≤ k + 1 ∧ k ≤ d ∧ Sl iE h1 o (arr (rowK L d k i) (d + 1)) ∧ Grow h.nx.nat h h1 ∧ fr.get (K.ofNat 0) = some (v) ∧ fr.get (K.ofNat 3) = some (.i .i64 (d : Int)) ∧ fr.get (K.ofNat 4) = some (o) ∧ fr.get (K.ofNat 5) = some (.i .i64 (k : Int)) ∧ fr.get (K.ofNat 6) = some (.i .i64 (i : Int))
theorem f34_inner {Q : Ex → Fr → H → Prop} {h h0 : H} {v o : V} {L : List Int} {d k : Nat} {fr : Fr}
    (hch : ∀ n k : Nat, k ≤ n → n ≤ 6 → ∀ h P, CallP fs (.fn (K.ofNat 69) []) [.i .i64 (n : Int), .i .i64 (k : Int)] h P = P (.i .i64 (bin6 n k : Int)) h)
    (hv : Sl iE h v L) (hc : HC h) (hL : L.length = d + 1) (hd : d ≤ 6) (ho : Own h.nx.nat o)
    (hi : f34_I0 h v o L d k 0 fr h0)
    (hq : ∀ fr h1, Sl iE h1 o (arr (rowK L d k (k + 1)) (d + 1)) → Grow h.nx.nat h h1 → fr.get (K.ofNat 0) = some (v) ∧ fr.get (K.ofNat 3) = some (.i .i64 (d : Int)) ∧ fr.get (K.ofNat 4) = some (o) ∧ fr.get (K.ofNat 5) = some (.i .i64 (k : Int)) → Q (.exit 2) fr h1) :
    W fs ro (.loop f34_l0) Q fr h0 := by
  refine W_loop (f34_I0 h v o L d k) (fun i => k + 1 - i) ?_ 0 hi
  clear hi fr h0
  rintro i fr h1 ⟨hi, hkd, hso, hgr, g0, g3, g4, g5, g6⟩
  have hc1 := hgr.hc hc
  have hv1 := hv.grow hc hgr
  unfold f34_l0
  by_cases hlt : i ≤ k
  · have hlt' : (i : Int) ≤ (k : Int) := by omega
    have hko : k < (arr (rowK L d k i) (d + 1)).length := by rw [arr_len]; omega
    obtain ⟨p, hp1, hp2, hp3⟩ := hso.atb k hko
    rw [arr_at, show rowK L d k i k = rkS L d k i by unfold rowK; rw [if_pos rfl]] at hp2
    have hil : i < L.length := by omega
    obtain ⟨q, hq1, hq2, hq3⟩ := hv1.atb i hil
    have s1 : fw .i64 ((d : Int) - (i : Int)) = ((d - i : Nat) : Int) := by rw [fw64 (by omega) (by omega)]; omega
    have s2 : fw .i64 ((k : Int) - (i : Int)) = ((k - i : Nat) : Int) := by rw [fw64 (by omega) (by omega)]; omega
    have hcc := hch (d - i) (k - i) (by omega) (by omega)
    have hrem : binV .rem (.i .i64 ((k - i : Nat) : Int)) (.i .i64 2) = some (.i .i64 (((k - i : Nat) : Int).tmod 2)) := bin_rem (by omega)
    obtain ⟨p2, id, m2, cs2, q1, q2, q3, ⟨off, nn, sz, q4⟩, q5⟩ := hso.st hko (x := rkS L d k (i + 1)) (c := .i .i64 (rkS L d k (i + 1))) rfl rfl hc1
    have hpp : p2 = p := by
      have h1' := hp1 .i64 h1
      have h2' := q1 .i64 h1
      rw [h1'] at h2'
      cases h2'; rfl
    subst hpp
    have hval : fw .i64 (rkS L d k i + fw .i64 (fw .i64 (L[i] * (bin6 (d - i) (k - i) : Int)) * fw .i64 (1 - fw .i64 (2 * (((k - i : Nat) : Int).tmod 2))))) = rkS L d k (i + 1) := by
      rw [rkS, sgnS]; simp [List.getD, hil]
    simp (disch := omega) only [f34_r6, f34_r7, w_skip, w_reg, w_draw, w_seq, w_cond, w_block, seqK_n, atK_n, ckB_b, cbB_b, true_and, x_nil, x_mv, x_st, x_bin, x_call, kx, kg, xg_nil, xg_mv, xg_ld, xg_bin, xg_iads, xd_cons, fresh_nil, stK_n, stK_s, stay_nil, stay_cons, again_ok, stay_mv, beq_i, stay_iads, stay_ld, stay_bin, rvP_ok, okv_some, ev_t, ev_c, evs_nil, evs_cons, getV_some, putD_some, putD_none, bin_add, bin_sub, bin_mul, bin_leq, of1, of2, getK_set, Nat.reduceEqDiff, ↓reduceIte, g0, g3, g4, g5, g6, hlt', decide_true, hp1, hp2, hq1, hq2, iE, s1, s2, hrem, hcc, hval, q2, hso.beq, hv1.beq, hp3, hq3]
    simp (disch := omega) only [f34_r8, loopK_n, x_nil, x_mv, x_as, x_bin, kx, rvP_ok, okv_some, ev_t, ev_c, getV_some, putD_some, bin_add, of1, getK_set, Nat.reduceEqDiff, ↓reduceIte, g6, fw64]
    refine ⟨i + 1, by omega, by omega, hkd, ?_, hgr.trans (Grow.put (ho _ _ _ _ q4) q5 _), by simp (disch := omega) only [getK_set, Nat.reduceEqDiff, ↓reduceIte, g0, g3, g4, g5, and_self, Int.natCast_add, Int.natCast_one]⟩
    rw [arr_set] at q3
    rw [arr_congr (g := fun j => if j = k then rkS L d k (i + 1) else rowK L d k i j) (fun j _ => by unfold rowK; by_cases e : j = k <;> simp [e])]
    exact q3
  · obtain rfl : i = k + 1 := by omega
    have hlt' : ¬ ((k + 1 : Nat) : Int) ≤ (k : Int) := by omega
    simp (disch := omega) only [f34_r6, w_reg, w_seq, w_cond, w_exit, seqK_n, seqK_e, loopK_e, ckB_b, cbB_b, true_and, x_nil, x_mv, x_bin, kx, rvP_ok, okv_some, ev_t, getV_some, putD_some, bin_leq, getK_set, Nat.reduceEqDiff, ↓reduceIte, Bool.false_eq_true, g5, g6, hlt', decide_false]
    exact hq _ _ hso hgr (by simp (disch := omega) only [getK_set, Nat.reduceEqDiff, ↓reduceIte, g0, g3, g4, g5, and_self])
def f34_I1 (h : H) (v o : V) (L : List Int) (d : Nat) (k : Nat) (fr : Fr) (h1 : H) : Prop := k ≤ d + 1 ∧ Sl iE h1 o (arr (rowK L d k 0) (d + 1)) ∧ Grow h.nx.nat h h1 ∧ fr.get (K.ofNat 0) = some (v) ∧ fr.get (K.ofNat 3) = some (.i .i64 (d : Int)) ∧ fr.get (K.ofNat 4) = some (o) ∧ fr.get (K.ofNat 5) = some (.i .i64 (k : Int))
theorem f34_ret {h : H} {v : V} {L : List Int}
    (hch : ∀ n k : Nat, k ≤ n → n ≤ 6 → ∀ h P, CallP fs (.fn (K.ofNat 69) []) [.i .i64 (n : Int), .i .i64 (k : Int)] h P = P (.i .i64 (bin6 n k : Int)) h)
    (hv : Sl iE h v L) (hc : HC h) (hL1 : 1 ≤ L.length) (hL7 : L.length ≤ 7) : Ret fs f34 [v] h fun u h' => Sl iE h' u (rhsS L) ∧ Own h.nx.nat u ∧ Grow h.nx.nat h h' := by
  apply ret_of rfl
  show W fs none f34_c _ _ _
  unfold f34_c
  obtain ⟨d, hd⟩ : ∃ d, L.length = d + 1 := ⟨L.length - 1, by omega⟩
  have s1 : fw .i64 (((d + 1 : Nat) : Int) - 1) = (d : Int) := by rw [fw64 (by omega) (by omega)]; omega
  have s2 : fw .i64 ((d : Int) + 1) = ((d + 1 : Nat) : Int) := by rw [fw64 (by omega) (by omega)]; omega
  simp (disch := omega) only [f34_r0, f34_r1, f34_r2, f34_r3, w_reg, w_seq, w_block, seqK_n, x_nil, x_mv, x_as, x_bin, x_mks, x_len, kx, rvP_ok, okv_some, ev_t, ev_c, getV_some, putD_some, bin_add, bin_sub, frame_1, of0, of1, getK_set, Nat.reduceEqDiff, ↓reduceIte, hv.len, hd, s1, s2, mks_ints (show d + 1 ≤ 1000000 by omega)]
  have hsl := mks_sl (h := h) (n := d + 1)
  have gn : Grow h.nx.nat h (h.new (.cells ((d + 1) * 1) (rep [.i .i64 0] (d + 1)))) := Grow.new (Nat.le_refl _) _
  generalize h.new (.cells ((d + 1) * 1) (rep [.i .i64 0] (d + 1))) = h2 at *
  have ho : Own h.nx.nat (.sl h.nx 0 (d + 1) 1) := fun _ _ _ _ e => by cases e; exact Nat.le_refl _
  generalize V.sl h.nx 0 (d + 1) 1 = o at *
  refine W_loop (f34_I1 h v o L d) (fun k => d + 1 - k) ?_ 0 ⟨Nat.zero_le _, ?_, gn, by simp (disch := omega) only [getK_set, Nat.reduceEqDiff, ↓reduceIte, and_self, Int.natCast_zero]⟩
  · rintro k fr h1 ⟨hk, hso, hgr, g0, g3, g4, g5⟩
    unfold f34_l1
    by_cases hlt : k ≤ d
    · have hlt' : (k : Int) ≤ (d : Int) := by omega
      simp (disch := omega) only [f34_r4, f34_r5, w_skip, w_reg, w_seq, w_cond, w_block, seqK_n, ckB_b, cbB_b, true_and, x_nil, x_mv, x_as, x_bin, kx, rvP_ok, okv_some, ev_t, ev_c, getV_some, putD_some, bin_leq, of0, getK_set, Nat.reduceEqDiff, ↓reduceIte, g3, g5, hlt', decide_true]
      refine f34_inner (h := h) (v := v) (o := o) (L := L) (d := d) (k := k) hch hv hc hd (by omega) ho ⟨by omega, hlt, hso, hgr, by simp (disch := omega) only [getK_set, Nat.reduceEqDiff, ↓reduceIte, g0, g3, g4, g5, and_self, Int.natCast_zero]⟩ ?_
      rintro fr h5 hs5 hgr5 ⟨g0, g3, g4, g5⟩
      simp (disch := omega) only [f34_r9, w_reg, seqK_n, atK_n, atK_e, loopK_n, x_nil, x_mv, x_as, x_bin, kx, rvP_ok, okv_some, ev_t, ev_c, getV_some, putD_some, bin_add, of1, getK_set, ↓reduceIte, g5, fw64]
      refine ⟨k + 1, by omega, by omega, ?_, hgr5, by simp (disch := omega) only [getK_set, Nat.reduceEqDiff, ↓reduceIte, g0, g3, g4, and_self, Int.natCast_add, Int.natCast_one]⟩
      rw [arr_congr (g := rowK L d k (k + 1)) (fun j hj => ?_)]
      · exact hs5
      · unfold rowK
        by_cases e1 : j = k + 1
        · subst e1
          rw [if_pos rfl, if_neg (by omega), if_neg (by omega)]; rfl
        · by_cases e2 : j = k
          · subst e2; simp
          · by_cases e3 : j < k
            · rw [if_neg e1, if_pos (by omega), if_neg e2, if_pos e3]
            · rw [if_neg e1, if_neg (by omega), if_neg e2, if_neg e3]
    · obtain rfl : k = d + 1 := by omega
      have hlt' : ¬ ((d + 1 : Nat) : Int) ≤ (d : Int) := by omega
      simp (disch := omega) only [f34_r4, f34_r10, f34_rs, w_reg, w_seq, w_cond, w_exit, w_ret, seqK_n, seqK_e, atK_e, loopK_e, ckB_b, cbB_b, true_and, retK_r, x_nil, x_mv, x_as, x_bin, kx, rvP_ok, okv_some, ev_t, getV_some, putD_some, bin_leq, oGet_s, readRs_nil, readRs_t, retV_1, Option.some.injEq, exists_eq_left', getK_set, Nat.reduceEqDiff, ↓reduceIte, Bool.false_eq_true, g3, g4, g5, hlt', decide_false]
      refine ⟨?_, ho, hgr⟩
      unfold rhsS
      rw [hd, arr_congr (g := rowK L d (d + 1) 0) (fun j hj => ?_)]
      · exact hso
      · unfold rowK
        rw [if_neg (by omega), if_pos hj]; rfl
  · have : List.replicate (d + 1) (0 : Int) = arr (rowK L d 0 0) (d + 1) := by
      apply List.ext_getElem?
      intro j
      by_cases hj : j < d + 1
      · rw [List.getElem?_replicate, if_pos hj]
        unfold arr
        rw [List.getElem?_map, List.getElem?_range hj]
        unfold rowK
        by_cases e : j = 0
        · subst e; rfl
        · simp [e]
      · rw [List.getElem?_eq_none (by simp; omega), List.getElem?_eq_none (by rw [arr_len]; omega)]
    rw [← this]; exact hsl
end
end Go.Ev
namespace Go.Ev
open Go Go.RowKit
noncomputable def f4_r0 : List EOper := [⟨(some (K.ofNat 4)), none, .as (.c (.b false))⟩]
noncomputable def f4_r1 : List EOper := [⟨(some (K.ofNat 17)), none, .mv (.t (K.ofNat 0))⟩, ⟨(some (K.ofNat 18)), none, .mv (.t (K.ofNat 1))⟩, ⟨(some (K.ofNat 19)), none, .call (.c (.fn (K.ofNat 30) [])) [(.t (K.ofNat 17)), (.t (K.ofNat 18))]⟩, ⟨(some (K.ofNat 16)), none, .mv (.t (K.ofNat 19))⟩, ⟨(some (K.ofNat 20)), none, .ext (.t (K.ofNat 16)) 0⟩, ⟨(some (K.ofNat 21)), none, .ext (.t (K.ofNat 16)) 1⟩, ⟨(some (K.ofNat 5)), none, .as (.t (K.ofNat 20))⟩, ⟨(some (K.ofNat 6)), none, .as (.t (K.ofNat 21))⟩]
noncomputable def f4_r2 : List EOper := [⟨(some (K.ofNat 23)), none, .mv (.t (K.ofNat 5))⟩, ⟨(some (K.ofNat 24)), none, .mv (.t (K.ofNat 6))⟩, ⟨(some (K.ofNat 25)), none, .call (.c (.fn (K.ofNat 17) [])) [(.t (K.ofNat 23)), (.t (K.ofNat 24))]⟩, ⟨(some (K.ofNat 22)), none, .mv (.t (K.ofNat 25))⟩, ⟨(some (K.ofNat 26)), none, .ext (.t (K.ofNat 22)) 0⟩, ⟨(some (K.ofNat 27)), none, .ext (.t (K.ofNat 22)) 1⟩, ⟨(some (K.ofNat 7)), none, .as (.t (K.ofNat 26))⟩, ⟨(some (K.ofNat 8)), none, .as (.t (K.ofNat 27))⟩]
noncomputable def f4_r3 : List EOper := [⟨(some (K.ofNat 29)), none, .mv (.t (K.ofNat 5))⟩, ⟨(some (K.ofNat 30)), none, .mv (.t (K.ofNat 6))⟩, ⟨(some (K.ofNat 31)), none, .call (.c (.fn (K.ofNat 18) [])) [(.t (K.ofNat 29)), (.t (K.ofNat 30))]⟩, ⟨(some (K.ofNat 28)), none, .mv (.t (K.ofNat 31))⟩, ⟨(some (K.ofNat 32)), none, .ext (.t (K.ofNat 28)) 0⟩, ⟨(some (K.ofNat 33)), none, .ext (.t (K.ofNat 28)) 1⟩, ⟨(some (K.ofNat 9)), none, .as (.t (K.ofNat 32))⟩, ⟨(some (K.ofNat 10)), none, .as (.t (K.ofNat 33))⟩]
noncomputable def f4_r4 : List EOper := [⟨(some (K.ofNat 35)), none, .mv (.t (K.ofNat 5))⟩, ⟨(some (K.ofNat 36)), none, .mv (.t (K.ofNat 6))⟩, ⟨(some (K.ofNat 37)), none, .call (.c (.fn (K.ofNat 19) [])) [(.t (K.ofNat 35)), (.t (K.ofNat 36))]⟩, ⟨(some (K.ofNat 34)), none, .mv (.t (K.ofNat 37))⟩, ⟨(some (K.ofNat 38)), none, .ext (.t (K.ofNat 34)) 0⟩, ⟨(some (K.ofNat 39)), none, .ext (.t (K.ofNat 34)) 1⟩, ⟨(some (K.ofNat 11)), none, .as (.t (K.ofNat 38))⟩, ⟨(some (K.ofNat 12)), none, .as (.t (K.ofNat 39))⟩]
noncomputable def f4_r5 : List EOper := [⟨(some (K.ofNat 41)), none, .mv (.t (K.ofNat 5))⟩, ⟨(some (K.ofNat 42)), none, .mv (.t (K.ofNat 6))⟩, ⟨(some (K.ofNat 43)), none, .call (.c (.fn (K.ofNat 20) [])) [(.t (K.ofNat 41)), (.t (K.ofNat 42))]⟩, ⟨(some (K.ofNat 40)), none, .mv (.t (K.ofNat 43))⟩, ⟨(some (K.ofNat 44)), none, .ext (.t (K.ofNat 40)) 0⟩, ⟨(some (K.ofNat 45)), none, .ext (.t (K.ofNat 40)) 1⟩, ⟨(some (K.ofNat 13)), none, .as (.t (K.ofNat 44))⟩, ⟨(some (K.ofNat 14)), none, .as (.t (K.ofNat 45))⟩]
noncomputable def f4_r6 : List EOper := [⟨(some (K.ofNat 46)), none, .mv (.t (K.ofNat 5))⟩, ⟨(some (K.ofNat 47)), none, .mv (.t (K.ofNat 6))⟩, ⟨(some (K.ofNat 48)), none, .call (.c (.fn (K.ofNat 31) [])) [(.t (K.ofNat 46)), (.t (K.ofNat 47))]⟩, ⟨(some (K.ofNat 15)), none, .as (.t (K.ofNat 48))⟩]
noncomputable def f4_r7 : List EOper := [⟨(some (K.ofNat 49)), none, .mv (.t (K.ofNat 8))⟩, ⟨(some (K.ofNat 50)), none, .bin .eql (.t (K.ofNat 49)) (.c (.i .i64 (.ofNat 0)))⟩, ⟨(some (K.ofNat 51)), none, .mv (.t (K.ofNat 50))⟩, ⟨(some (K.ofNat 52)), (some ((K.ofNat 51), true)), .mv (.t (K.ofNat 7))⟩, ⟨(some (K.ofNat 53)), (some ((K.ofNat 51), true)), .mv (.t (K.ofNat 5))⟩, ⟨(some (K.ofNat 54)), (some ((K.ofNat 51), true)), .mv (.t (K.ofNat 6))⟩, ⟨(some (K.ofNat 55)), (some ((K.ofNat 51), true)), .call (.c (.fn (K.ofNat 33) [])) [(.t (K.ofNat 53)), (.t (K.ofNat 54))]⟩, ⟨(some (K.ofNat 56)), (some ((K.ofNat 51), true)), .call (.c (.fn (K.ofNat 32) [])) [(.t (K.ofNat 52)), (.t (K.ofNat 55))]⟩, ⟨(some (K.ofNat 57)), none, .pick (.t (K.ofNat 51)) (.t (K.ofNat 56)) (.c (.b false))⟩, ⟨(some (K.ofNat 58)), none, .mv (.t (K.ofNat 57))⟩, ⟨(some (K.ofNat 59)), (some ((K.ofNat 58), true)), .mv (.t (K.ofNat 10))⟩, ⟨(some (K.ofNat 60)), (some ((K.ofNat 58), true)), .bin .eql (.t (K.ofNat 59)) (.c (.i .i64 (.ofNat 0)))⟩, ⟨(some (K.ofNat 61)), none, .pick (.t (K.ofNat 58)) (.t (K.ofNat 60)) (.c (.b false))⟩, ⟨(some (K.ofNat 62)), none, .mv (.t (K.ofNat 61))⟩, ⟨(some (K.ofNat 63)), (some ((K.ofNat 62), true)), .mv (.t (K.ofNat 9))⟩, ⟨(some (K.ofNat 64)), (some ((K.ofNat 62), true)), .mv (.t (K.ofNat 15))⟩, ⟨(some (K.ofNat 65)), (some ((K.ofNat 62), true)), .call (.c (.fn (K.ofNat 32) [])) [(.t (K.ofNat 63)), (.t (K.ofNat 64))]⟩, ⟨(some (K.ofNat 66)), none, .pick (.t (K.ofNat 62)) (.t (K.ofNat 65)) (.c (.b false))⟩, ⟨(some (K.ofNat 67)), none, .mv (.t (K.ofNat 66))⟩, ⟨(some (K.ofNat 68)), (some ((K.ofNat 67), true)), .mv (.t (K.ofNat 12))⟩, ⟨(some (K.ofNat 69)), (some ((K.ofNat 67), true)), .bin .eql (.t (K.ofNat 68)) (.c (.i .i64 (.ofNat 0)))⟩, ⟨(some (K.ofNat 70)), none, .pick (.t (K.ofNat 67)) (.t (K.ofNat 69)) (.c (.b false))⟩, ⟨(some (K.ofNat 71)), none, .mv (.t (K.ofNat 70))⟩, ⟨(some (K.ofNat 72)), (some ((K.ofNat 71), true)), .mv (.t (K.ofNat 11))⟩, ⟨(some (K.ofNat 73)), (some ((K.ofNat 71), true)), .mv (.t (K.ofNat 15))⟩, ⟨(some (K.ofNat 74)), (some ((K.ofNat 71), true)), .call (.c (.fn (K.ofNat 34) [])) [(.t (K.ofNat 73))]⟩, ⟨(some (K.ofNat 75)), (some ((K.ofNat 71), true)), .call (.c (.fn (K.ofNat 32) [])) [(.t (K.ofNat 72)), (.t (K.ofNat 74))]⟩, ⟨(some (K.ofNat 76)), none, .pick (.t (K.ofNat 71)) (.t (K.ofNat 75)) (.c (.b false))⟩, ⟨(some (K.ofNat 77)), none, .mv (.t (K.ofNat 76))⟩, ⟨(some (K.ofNat 78)), (some ((K.ofNat 77), true)), .mv (.t (K.ofNat 14))⟩, ⟨(some (K.ofNat 79)), (some ((K.ofNat 77), true)), .bin .eql (.t (K.ofNat 78)) (.c (.i .i64 (.ofNat 0)))⟩, ⟨(some (K.ofNat 80)), none, .pick (.t (K.ofNat 77)) (.t (K.ofNat 79)) (.c (.b false))⟩, ⟨(some (K.ofNat 81)), none, .mv (.t (K.ofNat 80))⟩, ⟨(some (K.ofNat 82)), (some ((K.ofNat 81), true)), .mv (.t (K.ofNat 13))⟩, ⟨(some (K.ofNat 83)), (some ((K.ofNat 81), true)), .mv (.t (K.ofNat 15))⟩, ⟨(some (K.ofNat 84)), (some ((K.ofNat 81), true)), .call (.c (.fn (K.ofNat 35) [])) [(.t (K.ofNat 83))]⟩, ⟨(some (K.ofNat 85)), (some ((K.ofNat 81), true)), .bin .eql (.t (K.ofNat 82)) (.t (K.ofNat 84))⟩, ⟨(some (K.ofNat 86)), none, .pick (.t (K.ofNat 81)) (.t (K.ofNat 85)) (.c (.b false))⟩, ⟨(some (K.ofNat 87)), none, .mv (.t (K.ofNat 86))⟩, ⟨(some (K.ofNat 88)), (some ((K.ofNat 87), true)), .call (.c (.fn (K.ofNat 29) [])) []⟩, ⟨(some (K.ofNat 89)), none, .pick (.t (K.ofNat 87)) (.t (K.ofNat 88)) (.c (.b false))⟩, ⟨(some (K.ofNat 4)), none, .as (.t (K.ofNat 89))⟩]
noncomputable def f4_c : EC := (.seq (.reg f4_r0) (.seq (.reg f4_r1) (.seq (.reg f4_r2) (.seq (.reg f4_r3) (.seq (.reg f4_r4) (.seq (.reg f4_r5) (.seq (.reg f4_r6) (.seq (.reg f4_r7) .ret))))))))
noncomputable def f4 : EF := ⟨90, [.tmp (K.ofNat 4)], f4_c, none⟩
theorem f4_rs : f4.rs = [.tmp (K.ofNat 4)] := of_eq_true (eq_self _)
section
variable {fs : T EF} {ro : Option K}
structure Calls4 (fs : T EF) : Prop where
  p53 : ∀ a b h P, CallP fs (.fn (K.ofNat 53) []) [.i .i64 a, .i .i64 b] h P = P (.b (ptI a b)) h
  p54 : ∀ a b h P, CallP fs (.fn (K.ofNat 54) []) [.i .i64 a, .i .i64 b] h P = P (.b (ptI a b)) h
  p52 : ∀ m : Nat, m < 64 → ∀ h P, CallP fs (.fn (K.ofNat 52) []) [.i .i64 (m : Int)] h P = P (.i .i64 (pop6 m : Int)) h
  p75 : ∀ m : Nat, m < 64 → ∀ h P, CallP fs (.fn (K.ofNat 75) []) [.i .i64 (m : Int)] h P = P (.i .i64 (pop6 m : Int)) h
  ch : ∀ n k : Nat, k ≤ n → n ≤ 6 → ∀ h P, CallP fs (.fn (K.ofNat 69) []) [.i .i64 (n : Int), .i .i64 (k : Int)] h P = P (.i .i64 (bin6 n k : Int)) h
  aw : ∀ h P, CallP fs (.fn (K.ofNat 29) []) [] h P = P (.b true) h
  c32 : ∀ h v u L M P, Sl iE h v L → Sl iE h u M → L.length ≤ 1000000 → P (.b (decide (L = M))) h → CallP fs (.fn (K.ofNat 32) []) [v, u] h P
  c16 : fs.get (K.ofNat 16) = some f16
  c17 : fs.get (K.ofNat 17) = some f17
  c18 : fs.get (K.ofNat 18) = some f18
  c19 : fs.get (K.ofNat 19) = some f19
  c20 : fs.get (K.ofNat 20) = some f20
  c30 : fs.get (K.ofNat 30) = some f30
  c31 : fs.get (K.ofNat 31) = some f31
  c33 : fs.get (K.ofNat 33) = some f33
  c34 : fs.get (K.ofNat 34) = some f34
  c35 : fs.get (K.ofNat 35) = some f35
  c45 : fs.get (K.ofNat 45) = some f45
  c49 : fs.get (K.ofNat 49) = some f49
  c55 : fs.get (K.ofNat 55) = some f55
  c56 : fs.get (K.ofNat 56) = some f56
  c57 : fs.get (K.ofNat 57) = some f57
  c77 : fs.get (K.ofNat 77) = some f77
  c78 : fs.get (K.ofNat 78) = some f78
  c90 : fs.get (K.ofNat 90) = some f90
  c91 : fs.get (K.ofNat 91) = some alF
structure Facts4 (N : Int) (P : List Int) : Prop where
  chk : chkS N P = 0
  len : P.length ≤ 10
  sets : Sets P
  sz : ∀ k ∈ facN P (2 ^ N.toNat), pop6 k ≤ maxS P
  fac : memI (famB P) = facTo P (2 ^ N.toNat)
  cnt : cntS (mem64 (famB P)) = rcnt (maxS P) (facN P (2 ^ N.toNat))
  hs : hsS (cntS (mem64 (famB P))) = rhsS (cntS (mem64 (famB P)))
  eu : euS ((cntS (mem64 (famB P))).drop 1) 0 1 = reuS (cntS (mem64 (famB P))) ((cntS (mem64 (famB P))).length - 1) 1 0
  ne : 1 ≤ (cntS (mem64 (famB P))).length
theorem f4_ret {h : H} {v : V} {L : List Int} {n : Int} (k : Calls4 fs) (m : ∀ n L, Facts4 (tameN n) ((tameP (tameN n) L).take 10)) (hv : Sl iE h v L) (hc : HC h) : Ret fs f4 [.i .i64 n, v] h fun u h' => u = .b true ∧ Grow h.nx.nat h h' := by
  apply ret_of rfl
  show W fs none f4_c _ _ _
  unfold f4_c
  obtain ⟨n1, n6⟩ := tameN_in n
  have m := m n L
  simp (disch := omega) only [f4_r0, f4_r1, w_reg, w_seq, seqK_n, x_nil, x_mv, x_as, x_call, ev_t, ev_c, evs_nil, evs_cons, getV_some, putD_some, frame_2, getK_set, Nat.reduceEqDiff, ↓reduceIte]
  refine (callP_0 (ef := f30) k.c30 rfl (f30_ret (n := n) k.p53 k.c49 hv hc)).mono ?_
  rintro r h1 ⟨u, rfl, hsu, _, gr1⟩
  generalize tameN n = N at *
  generalize (tameP N L).take 10 = P at *
  obtain ⟨mchk, mlen, msets, msz, mfac, mcnt, mhs, meu, mne⟩ := m
  have hc1 := gr1.hc hc
  have hP : P.length ≤ 1000000 := by omega
  simp (disch := omega) only [f4_r2, w_reg, w_seq, seqK_n, x_nil, x_mv, x_as, x_ext, x_call, kx, rvP_ok, okv_some, ev_t, ev_c, evs_nil, evs_cons, getV_some, putD_some, onTup_t, nth0, nth1, getK_set, Nat.reduceEqDiff, ↓reduceIte]
  refine (callP_0 (ef := f17) k.c17 rfl (f17_ret (n := N) k.p54 k.c16 k.c55 k.c56 k.c77 k.c90 k.c78 k.c91 hsu hc1 hP)).mono ?_
  rintro r h2 ⟨a, rfl, hsa, _, gr2⟩
  rw [if_pos mchk] at hsa
  have hc2 := gr2.hc hc1
  have hsu2 := hsu.grow hc1 gr2
  simp (disch := omega) only [f4_r3, w_reg, w_seq, seqK_n, x_nil, x_mv, x_as, x_ext, x_call, kx, rvP_ok, okv_some, ev_t, ev_c, evs_nil, evs_cons, getV_some, putD_some, onTup_t, nth0, nth1, getK_set, Nat.reduceEqDiff, ↓reduceIte, mchk]
  refine (callP_0 (ef := f18) k.c18 rfl (f18_ret (n := N) k.p54 k.p75 k.c16 k.c55 k.c57 k.c78 k.c91 hsu2 hc2 hP)).mono ?_
  rintro r h3 ⟨b, rfl, hsb, _, gr3⟩
  rw [if_pos mchk] at hsb
  have hc3 := gr3.hc hc2
  have hsu3 := hsu2.grow hc2 gr3
  have hsa3 := hsa.grow hc2 gr3
  simp (disch := omega) only [f4_r4, w_reg, w_seq, seqK_n, x_nil, x_mv, x_as, x_ext, x_call, kx, rvP_ok, okv_some, ev_t, ev_c, evs_nil, evs_cons, getV_some, putD_some, onTup_t, nth0, nth1, getK_set, Nat.reduceEqDiff, ↓reduceIte, mchk]
  refine (callP_0 (ef := f19) k.c19 rfl (f19_ret (n := N) k.p54 k.p75 k.c16 k.c55 k.c57 k.c78 k.c91 hsu3 hc3 hP)).mono ?_
  rintro r h4 ⟨c, rfl, hsc, _, gr4⟩
  rw [if_pos mchk] at hsc
  have hc4 := gr4.hc hc3
  have hsu4 := hsu3.grow hc3 gr4
  have hsa4 := hsa3.grow hc3 gr4
  have hsb4 := hsb.grow hc3 gr4
  simp (disch := omega) only [f4_r5, w_reg, w_seq, seqK_n, x_nil, x_mv, x_as, x_ext, x_call, kx, rvP_ok, okv_some, ev_t, ev_c, evs_nil, evs_cons, getV_some, putD_some, onTup_t, nth0, nth1, getK_set, Nat.reduceEqDiff, ↓reduceIte, mchk]
  refine (callP_0 (ef := f20) k.c20 rfl (f20_ret (n := N) k.p54 k.p75 k.c16 k.c55 k.c57 k.c78 k.c91 hsu4 hc4 hP (fun _ => mne))).mono ?_
  rintro r h5 ⟨rfl, gr5⟩
  rw [if_pos mchk]
  have hc5 := gr5.hc hc4
  have hsu5 := hsu4.grow hc4 gr5
  have hsa5 := hsa4.grow hc4 gr5
  have hsb5 := hsb4.grow hc4 gr5
  have hsc5 := hsc.grow hc4 gr5
  simp (disch := omega) only [f4_r6, w_reg, w_seq, seqK_n, x_nil, x_mv, x_as, x_ext, x_call, kx, rvP_ok, okv_some, ev_t, ev_c, evs_nil, evs_cons, getV_some, putD_some, onTup_t, nth0, nth1, getK_set, Nat.reduceEqDiff, ↓reduceIte, mchk]
  refine (callP_0 (ef := f31) k.c31 rfl (f31_ret (n := N) k.p53 k.p52 k.c45 k.c33 hsu5 hc5 (by omega) msets n1 n6 msz)).mono ?_
  rintro x h6 ⟨hsx, _, gr6⟩
  rw [← mcnt] at hsx
  have hc6 := gr6.hc hc5
  have hsu6 := hsu5.grow hc5 gr6
  have hsa6 := hsa5.grow hc5 gr6
  have hsb6 := hsb5.grow hc5 gr6
  have hsc6 := hsc5.grow hc5 gr6
  have eq0 : decide ((0 : Int) = 0) = true := rfl
  simp (disch := omega) only [f4_r7, w_reg, w_seq, seqK_n, okG_b, asG_t, true_and, x_nil, x_g, x_mv, x_as, x_bin, x_call, kx, rvP_ok, okv_some, ev_t, ev_c, evs_nil, evs_cons, getV_some, putD_some, bin_eql, of0, getK_set, Nat.reduceEqDiff, ↓reduceIte, decide_eq_true_eq]
  refine (callP_0 (ef := f33) k.c33 rfl (f33_ret (n := N) k.p53 k.c45 hsu6 hc6 hP n1 n6)).mono ?_
  rintro w h7 ⟨hsw, _, gr7⟩
  rw [← mfac] at hsw
  have hc7 := gr7.hc hc6
  have hsx7 := hsx.grow hc6 gr7
  have hsa7 := hsa6.grow hc6 gr7
  have hsb7 := hsb6.grow hc6 gr7
  have hsc7 := hsc6.grow hc6 gr7
  have hC7 := cntS_len (mem64 (famB P))
  simp (disch := omega) only [okG_b, asG_t, true_and, x_g, x_call, kx, ev_t, ev_c, evs_nil, evs_cons, getV_some, putD_some, getK_set, Nat.reduceEqDiff, ↓reduceIte, decide_eq_true_eq]
  refine k.c32 _ _ _ _ _ _ hsa7 hsw (by have := memI_len (B := famB P); omega) ?_
  simp (disch := omega) only [okG_b, asG_t, true_and, x_g, x_mv, x_pick, x_bin, x_call, kx, rvP_ok, okv_some, ev_t, ev_c, evs_nil, evs_cons, getV_some, putD_some, bin_eql, pick_b, getK_set, Nat.reduceEqDiff, ↓reduceIte, decide_true]
  refine k.c32 _ _ _ _ _ _ hsb7 hsx7 (by omega) ?_
  simp (disch := omega) only [okG_b, asG_t, true_and, x_g, x_mv, x_pick, x_bin, x_call, kx, rvP_ok, okv_some, ev_t, ev_c, evs_nil, evs_cons, getV_some, putD_some, bin_eql, pick_b, getK_set, Nat.reduceEqDiff, ↓reduceIte, decide_true]
  refine (callP_0 (ef := f34) k.c34 rfl (f34_ret k.ch hsx7 hc7 mne hC7)).mono ?_
  rintro y h8 ⟨hsy, _, gr8⟩
  have hc8 := gr8.hc hc7
  have hsx8 := hsx7.grow hc7 gr8
  have hsc8 := hsc7.grow hc7 gr8
  simp (disch := omega) only [okG_b, asG_t, true_and, x_g, x_call, kx, ev_t, ev_c, evs_nil, evs_cons, getV_some, putD_some, getK_set, Nat.reduceEqDiff, ↓reduceIte]
  rw [mhs] at hsc8
  refine k.c32 _ _ _ _ _ _ hsc8 hsy (by unfold rhsS; rw [arr_len]; omega) ?_
  simp (disch := omega) only [okG_b, asG_t, true_and, x_g, x_mv, x_pick, x_bin, x_call, kx, rvP_ok, okv_some, ev_t, ev_c, evs_nil, evs_cons, getV_some, putD_some, bin_eql, pick_b, getK_set, Nat.reduceEqDiff, ↓reduceIte, decide_true]
  refine (callP_0 (ef := f35) k.c35 rfl (f35_ret hsx8 mne hC7)).mono ?_
  rintro z h9 ⟨rfl, rfl⟩
  simp (disch := omega) only [f4_rs, w_ret, seqK_n, okG_b, asG_t, true_and, retK_r, x_nil, x_g, x_mv, x_as, x_pick, x_bin, x_call, kx, rvP_ok, okv_some, ev_t, ev_c, evs_nil, getV_some, putD_some, bin_eql, pick_b, oGet_s, readRs_nil, readRs_t, retV_1, Option.some.injEq, exists_eq_left', getK_set, Nat.reduceEqDiff, ↓reduceIte, meu, decide_true, k.aw]
  exact gr1.trans ((gr2.low gr1.nx).trans ((gr3.low (Nat.le_trans gr1.nx gr2.nx)).trans ((gr4.low (Nat.le_trans gr1.nx (Nat.le_trans gr2.nx gr3.nx))).trans ((gr5.low (by have := gr1.nx; have := gr2.nx; have := gr3.nx; have := gr4.nx; omega)).trans ((gr6.low (by have := gr1.nx; have := gr2.nx; have := gr3.nx; have := gr4.nx; have := gr5.nx; omega)).trans ((gr7.low (by have := gr1.nx; have := gr2.nx; have := gr3.nx; have := gr4.nx; have := gr5.nx; have := gr6.nx; omega)).trans (gr8.low (by have := gr1.nx; have := gr2.nx; have := gr3.nx; have := gr4.nx; have := gr5.nx; have := gr6.nx; have := gr7.nx; omega))))))))
end
end Go.Ev
