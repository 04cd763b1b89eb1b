/-
  Functions of the seat: the reference's Is, Faces, Counts, Euler.
  Functions of the seat: the reference's borders, rank.
  Functions of the seat: joined, link; the reference's Hollows.
  Functions of the seat: Link, dual, Dual; the reference's Link, Dual.
  Functions of the seat: isPure, newPart, fits.
  Functions of the seat: the reference's Pure; the law's pure.
-/
import Derived.Test.YtneacehpoaambaaPe
import Derived.Test.YtneacehpoaambaaPd
namespace Go.Ev
open Go Go.RowKit
noncomputable def f45_r0 : List EOper := [⟨(some (K.ofNat 4)), none, .as (.c (.b false))⟩]
noncomputable def f45_r1 : List EOper := [⟨(some (K.ofNat 5)), none, .as (.c (.i .i64 (.ofNat 0)))⟩]
noncomputable def f45_r2 : List EOper := [⟨(some (K.ofNat 6)), none, .mv (.t (K.ofNat 5))⟩, ⟨(some (K.ofNat 7)), none, .mv (.t (K.ofNat 0))⟩, ⟨(some (K.ofNat 8)), none, .len (.t (K.ofNat 7))⟩, ⟨(some (K.ofNat 9)), none, .bin .lss (.t (K.ofNat 6)) (.t (K.ofNat 8))⟩]
noncomputable def f45_r3 : List EOper := [⟨(some (K.ofNat 12)), none, .mv (.t (K.ofNat 1))⟩, ⟨(some (K.ofNat 13)), none, .mv (.t (K.ofNat 0))⟩, ⟨(some (K.ofNat 14)), none, .mv (.t (K.ofNat 5))⟩, ⟨(some (K.ofNat 15)), none, .iads 1 (.t (K.ofNat 13)) (.t (K.ofNat 14))⟩, ⟨(some (K.ofNat 16)), none, .ld (.t (K.ofNat 15))⟩, ⟨(some (K.ofNat 17)), none, .call (.c (.fn (K.ofNat 53) [])) [(.t (K.ofNat 12)), (.t (K.ofNat 16))]⟩]
noncomputable def f45_r4 : List EOper := [⟨(some (K.ofNat 4)), none, .as (.c (.b true))⟩]
noncomputable def f45_r5 : List EOper := [⟨(some (K.ofNat 10)), none, .mv (.t (K.ofNat 5))⟩, ⟨(some (K.ofNat 11)), none, .bin .add (.t (K.ofNat 10)) (.c (.i .i64 (.ofNat 1)))⟩, ⟨(some (K.ofNat 5)), none, .as (.t (K.ofNat 11))⟩]
noncomputable def f45_l0 : EC := (.seq (.seq (.reg f45_r2) (.cond (.t (K.ofNat 9)) .skip (.exit 0))) (.seq (.block 1 (.seq (.reg f45_r3) (.cond (.t (K.ofNat 17)) (.seq (.reg f45_r4) .ret) .skip))) (.reg f45_r5)))
noncomputable def f45_r6 : List EOper := [⟨(some (K.ofNat 4)), none, .as (.c (.b false))⟩]
noncomputable def f45_c : EC := (.seq (.reg f45_r0) (.seq (.seq (.reg f45_r1) (.block 0 (.loop f45_l0))) (.seq (.reg f45_r6) .ret)))
noncomputable def f45 : EF := ⟨18, [.tmp (K.ofNat 4)], f45_c, none⟩
theorem f45_rs : f45.rs = [.tmp (K.ofNat 4)] := of_eq_true (eq_self _)
noncomputable def f33_r0 : List EOper := [⟨(some (K.ofNat 4)), none, .as (.c .sn)⟩]
noncomputable def f33_r1 : List EOper := [⟨(some (K.ofNat 5)), none, .as (.c .sn)⟩]
noncomputable def f33_r2 : List EOper := [⟨(some (K.ofNat 6)), none, .as (.c (.i .i64 (.ofNat 0)))⟩]
noncomputable def f33_r3 : List EOper := [⟨(some (K.ofNat 7)), none, .mv (.t (K.ofNat 6))⟩, ⟨(some (K.ofNat 8)), none, .mv (.t (K.ofNat 0))⟩, ⟨(some (K.ofNat 9)), none, .bin .shl (.c (.i .i64 (.ofNat 1))) (.t (K.ofNat 8))⟩, ⟨(some (K.ofNat 10)), none, .bin .lss (.t (K.ofNat 7)) (.t (K.ofNat 9))⟩]
noncomputable def f33_r4 : List EOper := [⟨(some (K.ofNat 13)), none, .mv (.t (K.ofNat 1))⟩, ⟨(some (K.ofNat 14)), none, .mv (.t (K.ofNat 6))⟩, ⟨(some (K.ofNat 15)), none, .call (.c (.fn (K.ofNat 45) [])) [(.t (K.ofNat 13)), (.t (K.ofNat 14))]⟩]
noncomputable def f33_r5 : List EOper := [⟨(some (K.ofNat 16)), none, .mv (.t (K.ofNat 5))⟩, ⟨(some (K.ofNat 17)), none, .mv (.t (K.ofNat 6))⟩, ⟨(some (K.ofNat 18)), none, .bslice 1 1 [(.i .i64 (.ofNat 0))] [(0, 1, (.t (K.ofNat 17)))]⟩, ⟨(some (K.ofNat 19)), none, .app 1 (.t (K.ofNat 16)) (.t (K.ofNat 18))⟩, ⟨(some (K.ofNat 5)), none, .as (.t (K.ofNat 19))⟩]
noncomputable def f33_r6 : List EOper := [⟨(some (K.ofNat 11)), none, .mv (.t (K.ofNat 6))⟩, ⟨(some (K.ofNat 12)), none, .bin .add (.t (K.ofNat 11)) (.c (.i .i64 (.ofNat 1)))⟩, ⟨(some (K.ofNat 6)), none, .as (.t (K.ofNat 12))⟩]
noncomputable def f33_l0 : EC := (.seq (.seq (.reg f33_r3) (.cond (.t (K.ofNat 10)) .skip (.exit 0))) (.seq (.block 1 (.seq (.reg f33_r4) (.cond (.t (K.ofNat 15)) (.reg f33_r5) .skip))) (.reg f33_r6)))
noncomputable def f33_r7 : List EOper := [⟨(some (K.ofNat 20)), none, .mv (.t (K.ofNat 5))⟩, ⟨(some (K.ofNat 4)), none, .as (.t (K.ofNat 20))⟩]
noncomputable def f33_c : EC := (.seq (.reg f33_r0) (.seq (.reg f33_r1) (.seq (.seq (.reg f33_r2) (.block 0 (.loop f33_l0))) (.seq (.reg f33_r7) .ret))))
noncomputable def f33 : EF := ⟨21, [.tmp (K.ofNat 4)], f33_c, none⟩
theorem f33_rs : f33.rs = [.tmp (K.ofNat 4)] := of_eq_true (eq_self _)
noncomputable def f31_r0 : List EOper := [⟨(some (K.ofNat 4)), none, .as (.c .sn)⟩]
noncomputable def f31_r1 : List EOper := [⟨(some (K.ofNat 5)), none, .as (.c (.i .i64 (.ofNat 0)))⟩]
noncomputable def f31_r2 : List EOper := [⟨(some (K.ofNat 6)), none, .as (.c (.i .i64 (.ofNat 0)))⟩]
noncomputable def f31_r3 : List EOper := [⟨(some (K.ofNat 10)), none, .mv (.t (K.ofNat 6))⟩, ⟨(some (K.ofNat 11)), none, .mv (.t (K.ofNat 1))⟩, ⟨(some (K.ofNat 12)), none, .len (.t (K.ofNat 11))⟩, ⟨(some (K.ofNat 13)), none, .bin .lss (.t (K.ofNat 10)) (.t (K.ofNat 12))⟩]
noncomputable def f31_r4 : List EOper := [⟨(some (K.ofNat 16)), none, .mv (.t (K.ofNat 5))⟩, ⟨(some (K.ofNat 17)), none, .mv (.t (K.ofNat 1))⟩, ⟨(some (K.ofNat 18)), none, .mv (.t (K.ofNat 6))⟩, ⟨(some (K.ofNat 19)), none, .iads 1 (.t (K.ofNat 17)) (.t (K.ofNat 18))⟩, ⟨(some (K.ofNat 20)), none, .ld (.t (K.ofNat 19))⟩, ⟨(some (K.ofNat 21)), none, .call (.c (.fn (K.ofNat 52) [])) [(.t (K.ofNat 20))]⟩, ⟨(some (K.ofNat 22)), none, .max (.t (K.ofNat 16)) (.t (K.ofNat 21))⟩, ⟨(some (K.ofNat 5)), none, .as (.t (K.ofNat 22))⟩]
noncomputable def f31_r5 : List EOper := [⟨(some (K.ofNat 14)), none, .mv (.t (K.ofNat 6))⟩, ⟨(some (K.ofNat 15)), none, .bin .add (.t (K.ofNat 14)) (.c (.i .i64 (.ofNat 1)))⟩, ⟨(some (K.ofNat 6)), none, .as (.t (K.ofNat 15))⟩]
noncomputable def f31_l0 : EC := (.seq (.seq (.reg f31_r3) (.cond (.t (K.ofNat 13)) .skip (.exit 0))) (.seq (.block 1 (.reg f31_r4)) (.reg f31_r5)))
noncomputable def f31_r6 : List EOper := [⟨(some (K.ofNat 23)), none, .mv (.t (K.ofNat 5))⟩, ⟨(some (K.ofNat 24)), none, .bin .add (.t (K.ofNat 23)) (.c (.i .i64 (.ofNat 1)))⟩, ⟨(some (K.ofNat 25)), none, .mkslice 1 [(.i .i64 (.ofNat 0))] (.t (K.ofNat 24))⟩, ⟨(some (K.ofNat 7)), none, .as (.t (K.ofNat 25))⟩]
noncomputable def f31_r7 : List EOper := [⟨(some (K.ofNat 26)), none, .mv (.t (K.ofNat 0))⟩, ⟨(some (K.ofNat 27)), none, .mv (.t (K.ofNat 1))⟩, ⟨(some (K.ofNat 28)), none, .call (.c (.fn (K.ofNat 33) [])) [(.t (K.ofNat 26)), (.t (K.ofNat 27))]⟩, ⟨(some (K.ofNat 8)), none, .as (.t (K.ofNat 28))⟩]
noncomputable def f31_r8 : List EOper := [⟨(some (K.ofNat 9)), none, .as (.c (.i .i64 (.ofNat 0)))⟩]
noncomputable def f31_r9 : List EOper := [⟨(some (K.ofNat 29)), none, .mv (.t (K.ofNat 9))⟩, ⟨(some (K.ofNat 30)), none, .mv (.t (K.ofNat 8))⟩, ⟨(some (K.ofNat 31)), none, .len (.t (K.ofNat 30))⟩, ⟨(some (K.ofNat 32)), none, .bin .lss (.t (K.ofNat 29)) (.t (K.ofNat 31))⟩]
noncomputable def f31_r10 : List EOper := [⟨(some (K.ofNat 35)), none, .mv (.t (K.ofNat 7))⟩, ⟨(some (K.ofNat 36)), none, .mv (.t (K.ofNat 8))⟩, ⟨(some (K.ofNat 37)), none, .mv (.t (K.ofNat 9))⟩, ⟨(some (K.ofNat 38)), none, .iads 1 (.t (K.ofNat 36)) (.t (K.ofNat 37))⟩, ⟨(some (K.ofNat 39)), none, .ld (.t (K.ofNat 38))⟩, ⟨(some (K.ofNat 40)), none, .call (.c (.fn (K.ofNat 52) [])) [(.t (K.ofNat 39))]⟩, ⟨(some (K.ofNat 41)), none, .iads 1 (.t (K.ofNat 35)) (.t (K.ofNat 40))⟩, ⟨(some (K.ofNat 42)), none, .ld (.t (K.ofNat 41))⟩, ⟨(some (K.ofNat 43)), none, .bin .add (.t (K.ofNat 42)) (.c (.i .i64 (.ofNat 1)))⟩, ⟨(some (K.ofNat 44)), none, .iads 1 (.t (K.ofNat 35)) (.t (K.ofNat 40))⟩, ⟨none, none, .st 1 (.t (K.ofNat 44)) (.t (K.ofNat 43))⟩]
noncomputable def f31_r11 : List EOper := [⟨(some (K.ofNat 33)), none, .mv (.t (K.ofNat 9))⟩, ⟨(some (K.ofNat 34)), none, .bin .add (.t (K.ofNat 33)) (.c (.i .i64 (.ofNat 1)))⟩, ⟨(some (K.ofNat 9)), none, .as (.t (K.ofNat 34))⟩]
noncomputable def f31_l1 : EC := (.seq (.seq (.reg f31_r9) (.cond (.t (K.ofNat 32)) .skip (.exit 2))) (.seq (.block 3 (.reg f31_r10)) (.reg f31_r11)))
noncomputable def f31_r12 : List EOper := [⟨(some (K.ofNat 45)), none, .mv (.t (K.ofNat 7))⟩, ⟨(some (K.ofNat 4)), none, .as (.t (K.ofNat 45))⟩]
noncomputable def f31_c : EC := (.seq (.reg f31_r0) (.seq (.reg f31_r1) (.seq (.seq (.reg f31_r2) (.block 0 (.loop f31_l0))) (.seq (.reg f31_r6) (.seq (.reg f31_r7) (.seq (.seq (.reg f31_r8) (.block 2 (.loop f31_l1))) (.seq (.reg f31_r12) .ret)))))))
noncomputable def f31 : EF := ⟨46, [.tmp (K.ofNat 4)], f31_c, none⟩
theorem f31_rs : f31.rs = [.tmp (K.ofNat 4)] := of_eq_true (eq_self _)
section
variable {fs : T EF} {ro : Option K}
noncomputable def isF (S : List Int) (x : Int) : Bool := S.any fun s => ptI x s
def f45_I (h : H) (v : V) (S : List Int) (x : Int) (i : Nat) (fr : Fr) (h1 : H) : Prop := h1 = h ∧ i ≤ S.length ∧ (S.take i).any (fun s => ptI x s) = false ∧ fr.get (K.ofNat 0) = some (v) ∧ fr.get (K.ofNat 1) = some (.i .i64 x) ∧ fr.get (K.ofNat 5) = some (.i .i64 (i : Int))
theorem f45_ret {h : H} {v : V} {S : List Int} {x : Int} (hp : ∀ a b h P, CallP fs (.fn (K.ofNat 53) []) [.i .i64 a, .i .i64 b] h P = P (.b (ptI a b)) h) (hv : Sl iE h v S) (hS : S.length ≤ 1000000) :
    Ret fs f45 [v, .i .i64 x] h fun u h' => u = .b (isF S x) ∧ h' = h := by
  apply ret_of rfl
  show W fs none f45_c _ _ _
  unfold f45_c
  simp (disch := omega) only [f45_r0, f45_r1, w_reg, w_seq, w_block, seqK_n, x_nil, x_as, ev_c, putD_some, frame_2, of0]
  refine W_loop (f45_I h v S x) (fun i => S.length - i) ?_ 0 ⟨rfl, Nat.zero_le _, by simp, by simp (disch := omega) only [getK_set, Nat.reduceEqDiff, ↓reduceIte, and_self, Int.natCast_zero]⟩
  rintro i fr h1 ⟨rfl, hi, hal, g0, g1, g5⟩
  unfold f45_l0
  by_cases hlt : i < S.length
  · have hlt' : (i : Int) < (S.length : Int) := by omega
    obtain ⟨p, hp1, hp2⟩ := hv.at i hlt
    have hs := any_snoc (p := fun s => ptI x s) hlt
    rw [hal, Bool.false_or] at hs
    cases e : ptI x S[i]
    · simp (disch := omega) only [f45_r2, f45_r3, f45_r5, w_skip, w_reg, w_seq, w_cond, w_block, seqK_n, atK_n, loopK_n, ckB_b, cbB_b, true_and, x_nil, x_mv, x_as, x_ld, x_bin, x_iads, x_call, x_len, kx, rvP_ok, okv_some, ev_t, ev_c, evs_nil, evs_cons, getV_some, putD_some, bin_add, bin_lss, of1, getK_set, Nat.reduceEqDiff, ↓reduceIte, Bool.false_eq_true, g0, g1, g5, hv.len, hlt', decide_true, hp1, hp2, iE, hp, e, fw64]
      exact ⟨i + 1, by omega, rfl, hlt, by rw [hs, e], by simp (disch := omega) only [getK_set, Nat.reduceEqDiff, ↓reduceIte, g0, g1, and_self, Int.natCast_add, Int.natCast_one]⟩
    · have : isF S x = true := by unfold isF; rw [List.any_eq_true]; exact ⟨S[i], List.getElem_mem _, e⟩
      simp (disch := omega) only [f45_r2, f45_r3, f45_r4, f45_rs, w_skip, w_reg, w_seq, w_cond, w_block, w_ret, seqK_n, seqK_r, atK_r, loopK_r, ckB_b, cbB_b, retK_r, x_nil, x_mv, x_as, x_ld, x_bin, x_iads, x_call, x_len, kx, rvP_ok, okv_some, ev_t, ev_c, evs_nil, evs_cons, getV_some, putD_some, bin_lss, oGet_s, readRs_nil, readRs_t, retV_1, Option.some.injEq, exists_eq_left', getK_set, Nat.reduceEqDiff, ↓reduceIte, g0, g1, g5, hv.len, hlt', decide_true, hp1, hp2, iE, hp, e, this, and_self]
  · obtain rfl : i = S.length := by omega
    rw [List.take_length] at hal
    have : isF S x = false := hal
    have hlt' : ¬ (S.length : Int) < (S.length : Int) := by omega
    simp (disch := omega) only [f45_r2, f45_r6, f45_rs, w_reg, w_seq, w_cond, w_exit, w_ret, seqK_n, seqK_e, atK_e, loopK_e, ckB_b, cbB_b, retK_r, x_nil, x_mv, x_as, x_bin, x_len, kx, rvP_ok, okv_some, ev_t, ev_c, getV_some, putD_some, bin_lss, oGet_s, readRs_nil, readRs_t, retV_1, Option.some.injEq, exists_eq_left', getK_set, Nat.reduceEqDiff, ↓reduceIte, Bool.false_eq_true, g0, g5, hv.len, hlt', decide_false, this, and_self]
noncomputable def facTo (S : List Int) (i : Nat) : List Int := ((List.range i).filter fun (k : Nat) => isF S (k : Int)).map fun (k : Nat) => (k : Int)
theorem facTo_succ {S : List Int} {i : Nat} : facTo S (i + 1) = if isF S (i : Int) = true then facTo S i ++ [(i : Int)] else facTo S i := by
  unfold facTo
  rw [List.range_succ, List.filter_append, List.map_append]
  cases h : isF S (i : Int) <;> simp [h]
theorem facTo_len {S : List Int} {i : Nat} : (facTo S i).length ≤ i := by
  unfold facTo; rw [List.length_map]
  exact Nat.le_trans (List.length_filter_le _ _) (by simp)
def f33_I (h : H) (v : V) (S : List Int) (n : Int) (i : Nat) (fr : Fr) (h1 : H) : Prop := ∃ o, i ≤ 2 ^ n.toNat ∧ Sl iE h1 o (facTo S i) ∧ Own h.nx.nat o ∧ Grow h.nx.nat h h1 ∧ fr.get (K.ofNat 0) = some (.i .i64 n) ∧ fr.get (K.ofNat 1) = some (v) ∧ fr.get (K.ofNat 5) = some (o) ∧ fr.get (K.ofNat 6) = some (.i .i64 (i : Int))
theorem pow_n {n : Int} (h1 : 1 ≤ n) (h6 : n ≤ 6) : 2 ^ n.toNat ≤ 64 ∧ ((2 ^ n.toNat : Nat) : Int) = (2 : Int) ^ n.toNat := by
  have : n = 1 ∨ n = 2 ∨ n = 3 ∨ n = 4 ∨ n = 5 ∨ n = 6 := by omega
  rcases this with rfl | rfl | rfl | rfl | rfl | rfl <;> decide
theorem f33_ret {h : H} {v : V} {S : List Int} {n : Int} (hp : ∀ a b h P, CallP fs (.fn (K.ofNat 53) []) [.i .i64 a, .i .i64 b] h P = P (.b (ptI a b)) h) (h45 : fs.get (K.ofNat 45) = some f45) (hv : Sl iE h v S) (hc : HC h) (hS : S.length ≤ 1000000) (hn1 : 1 ≤ n) (hn6 : n ≤ 6) :
    Ret fs f33 [.i .i64 n, v] h fun u h' => Sl iE h' u (facTo S (2 ^ n.toNat)) ∧ Own h.nx.nat u ∧ Grow h.nx.nat h h' := by
  apply ret_of rfl
  show W fs none f33_c _ _ _
  unfold f33_c
  obtain ⟨hpw, hpe⟩ := pow_n hn1 hn6
  simp (disch := omega) only [f33_r0, f33_r1, f33_r2, w_reg, w_seq, w_block, seqK_n, x_nil, x_as, ev_c, putD_some, frame_2, of0]
  refine W_loop (f33_I h v S n) (fun i => 2 ^ n.toNat - i) ?_ 0 ⟨.sn, Nat.zero_le _, Sl.nil, Own.sn, Grow.refl _ _, by simp (disch := omega) only [getK_set, Nat.reduceEqDiff, ↓reduceIte, and_self, Int.natCast_zero]⟩
  rintro i fr h1 ⟨o, hi, hso, hoo, hgr, g0, g1, g5, g6⟩
  have hc1 := hgr.hc hc
  have hv1 := hv.grow hc hgr
  unfold f33_l0
  by_cases hlt : i < 2 ^ n.toNat
  · have hlt' : (i : Int) < (2 : Int) ^ n.toNat := by omega
    simp (disch := omega) only [f33_r3, f33_r4, w_skip, w_reg, w_seq, w_cond, w_block, seqK_n, ckB_b, cbB_b, true_and, x_nil, x_mv, x_bin, x_call, kx, rvP_ok, okv_some, ev_t, ev_c, evs_nil, evs_cons, getV_some, putD_some, bin_lss, of1, getK_set, Nat.reduceEqDiff, ↓reduceIte, g0, g1, g6, bin_shl, shl_n, hlt', decide_true]
    refine (callP_0 (ef := f45) h45 rfl (f45_ret (x := (i : Int)) hp hv1 hS)).mono ?_
    rintro u h2 ⟨rfl, rfl⟩
    cases e : isF S (i : Int)
    · simp (disch := omega) only [f33_r6, w_skip, w_reg, w_cond, seqK_n, atK_n, loopK_n, ckB_b, cbB_b, true_and, x_nil, x_mv, x_as, x_bin, kx, rvP_ok, okv_some, ev_t, ev_c, getV_some, putD_some, bin_add, of1, getK_set, Nat.reduceEqDiff, ↓reduceIte, Bool.false_eq_true, g6, fw64]
      exact ⟨i + 1, by omega, o, hlt, by rw [facTo_succ, e]; exact hso, hoo, hgr, by simp (disch := omega) only [getK_set, Nat.reduceEqDiff, ↓reduceIte, g0, g1, g5, and_self, Int.natCast_add, Int.natCast_one]⟩
    · obtain ⟨v', h', p1, p2, p3, p4, p5⟩ := Sl.push (L := facTo S i) (x := (i : Int)) (c := .i .i64 i) rfl hso hoo hgr.nx hc1 (by have := facTo_len (S := S) (i := i); omega)
      simp (disch := omega) only [f33_r5, f33_r6, w_reg, w_cond, seqK_n, atK_n, loopK_n, ckB_b, cbB_b, true_and, x_nil, x_mv, x_as, x_bslice, x_bin, x_app, kx, rvP_ok, okv_some, ev_t, ev_c, getV_some, putD_some, bin_add, oGet_s, cells1_i, fill_1, set_1, of0, of1, getK_set, Nat.reduceEqDiff, ↓reduceIte, g5, g6, p1, fw64]
      exact ⟨i + 1, by omega, v', hlt, by rw [facTo_succ, e]; exact p2, p3, hgr.trans p4, by simp (disch := omega) only [getK_set, Nat.reduceEqDiff, ↓reduceIte, g0, g1, and_self, Int.natCast_add, Int.natCast_one]⟩
  · obtain rfl : i = 2 ^ n.toNat := by omega
    have hlt' : ¬ ((2 ^ n.toNat : Nat) : Int) < (2 : Int) ^ n.toNat := by omega
    simp (disch := omega) only [f33_r3, f33_r7, f33_rs, w_reg, w_seq, w_cond, w_exit, w_ret, seqK_n, seqK_e, atK_e, loopK_e, ckB_b, cbB_b, true_and, retK_r, x_nil, x_mv, x_as, x_bin, kx, rvP_ok, okv_some, ev_t, ev_c, getV_some, putD_some, bin_lss, oGet_s, readRs_nil, readRs_t, retV_1, of1, Option.some.injEq, exists_eq_left', getK_set, Nat.reduceEqDiff, ↓reduceIte, Bool.false_eq_true, g0, g5, g6, bin_shl, shl_n, hlt', decide_false]
    exact ⟨hso, hoo, hgr⟩
/-- The greatest number of elements. -/
noncomputable def maxS (S : List Int) : Nat := S.foldl (fun d s => max d (pop6 s.toNat)) 0
theorem maxS_snoc {S : List Int} {s : Int} : maxS (S ++ [s]) = max (maxS S) (pop6 s.toNat) := by unfold maxS; rw [List.foldl_append]; rfl
theorem maxS_le : ∀ S : List Int, maxS S ≤ 6 := by
  intro S
  refine snoc_ind (P := fun S => maxS S ≤ 6) (Nat.zero_le _) (fun l k ih => ?_) S
  rw [maxS_snoc]; have := pop6_le (k := k.toNat); omega
def f31_I0 (h : H) (v : V) (S : List Int) (n : Int) (i : Nat) (fr : Fr) (h1 : H) : Prop := h1 = h ∧ i ≤ S.length ∧ fr.get (K.ofNat 0) = some (.i .i64 n) ∧ fr.get (K.ofNat 1) = some (v) ∧ fr.get (K.ofNat 5) = some (.i .i64 (maxS (S.take i) : Int)) ∧ fr.get (K.ofNat 6) = some (.i .i64 (i : Int))
noncomputable def bump (C : List Int) (k : Nat) : List Int := C.set (pop6 k) (C.getD (pop6 k) 0 + 1)
noncomputable def rcnt (d : Nat) (l : List Nat) : List Int := l.foldl bump (List.replicate (d + 1) 0)
theorem rcnt_snoc {d : Nat} {l : List Nat} {k : Nat} : rcnt d (l ++ [k]) = bump (rcnt d l) k := by unfold rcnt; rw [List.foldl_append]; rfl
theorem rcnt_len {d : Nat} : ∀ l, (rcnt d l).length = d + 1 := by
  intro l
  refine snoc_ind (P := fun l => (rcnt d l).length = d + 1) (by simp [rcnt]) (fun l k ih => ?_) l
  rw [rcnt_snoc, bump, List.length_set, ih]
theorem rcnt_bd {d : Nat} : ∀ (l : List Nat), ∀ x ∈ rcnt d l, 0 ≤ x ∧ x ≤ (l.length : Int) := by
  intro l
  refine snoc_ind (P := fun l => ∀ x ∈ rcnt d l, 0 ≤ x ∧ x ≤ (l.length : Int)) (fun x hx => ?_) (fun l k ih x hx => ?_) l
  · have := List.eq_of_mem_replicate (show x ∈ List.replicate (d + 1) (0 : Int) from hx); simp; omega
  · rw [rcnt_snoc] at hx
    unfold bump at hx
    rw [List.length_append]
    rcases List.mem_or_eq_of_mem_set hx with h2 | h2
    · have := ih x h2; simp; omega
    · by_cases hk : pop6 k < (rcnt d l).length
      · have h3 : (rcnt d l).getD (pop6 k) 0 ∈ rcnt d l := by simp [List.getD, hk]
        have := ih _ h3; simp; omega
      · have : (rcnt d l).getD (pop6 k) 0 = 0 := by simp [List.getD, hk]
        simp; omega
noncomputable def facN (S : List Int) (m : Nat) : List Nat := (List.range m).filter fun (k : Nat) => isF S (k : Int)
def f31_I1 (h : H) (S : List Int) (n : Int) (u : V) (i : Nat) (fr : Fr) (h1 : H) : Prop := ∃ o, i ≤ (facN S (2 ^ n.toNat)).length ∧ Sl iE h1 u (facTo S (2 ^ n.toNat)) ∧ Sl iE h1 o (rcnt (maxS S) ((facN S (2 ^ n.toNat)).take i)) ∧ Own h.nx.nat o ∧ (∃ id, Own (id + 1) u ∧ ∀ k off m sz, o = .sl k off m sz → k.nat = id) ∧ Grow h.nx.nat h h1 ∧ fr.get (K.ofNat 7) = some (o) ∧ fr.get (K.ofNat 8) = some (u) ∧ fr.get (K.ofNat 9) = some (.i .i64 (i : Int))
theorem f31_ret {h : H} {v : V} {S : List Int} {n : Int} (hp : ∀ a b h P, CallP fs (.fn (K.ofNat 53) []) [.i .i64 a, .i .i64 b] h P = P (.b (ptI a b)) h)
    (hp52 : ∀ m : Nat, m < 64 → ∀ h P, CallP fs (.fn (K.ofNat 52) []) [.i .i64 (m : Int)] h P = P (.i .i64 (pop6 m : Int)) h)
    (h45 : fs.get (K.ofNat 45) = some f45) (h33 : fs.get (K.ofNat 33) = some f33) (hv : Sl iE h v S) (hc : HC h) (hS : S.length ≤ 1000) (hsets : Sets S) (hn1 : 1 ≤ n) (hn6 : n ≤ 6)
    (hsz : ∀ k ∈ facN S (2 ^ n.toNat), pop6 k ≤ maxS S) :
    Ret fs f31 [.i .i64 n, v] h fun u h' => Sl iE h' u (rcnt (maxS S) (facN S (2 ^ n.toNat))) ∧ Own h.nx.nat u ∧ Grow h.nx.nat h h' := by
  apply ret_of rfl
  show W fs none f31_c _ _ _
  unfold f31_c
  obtain ⟨hpw, hpe⟩ := pow_n hn1 hn6
  simp (disch := omega) only [f31_r0, f31_r1, f31_r2, w_reg, w_seq, w_block, seqK_n, x_nil, x_as, ev_c, putD_some, frame_2, of0]
  refine W_loop (f31_I0 h v S n) (fun i => S.length - i) ?_ 0 ⟨rfl, Nat.zero_le _, by simp (disch := omega) only [true_and, Option.some.injEq, getK_set, Nat.reduceEqDiff, ↓reduceIte, Int.natCast_zero]; exact ⟨rfl, trivial⟩⟩
  rintro i fr h1 ⟨rfl, hi, g0, g1, g5, g6⟩
  unfold f31_l0
  by_cases hlt : i < S.length
  · have hlt' : (i : Int) < (S.length : Int) := by omega
    obtain ⟨p, hp1, hp2⟩ := hv.at i hlt
    obtain ⟨t, ht, hst⟩ := hsets S[i] (List.getElem_mem hlt)
    rw [hst] at hp2
    have hmx : maxS (S.take (i + 1)) = max (maxS (S.take i)) (pop6 t) := by rw [List.take_succ_eq_append_getElem hlt, maxS_snoc, hst]; rfl
    have hmax : max ((maxS (S.take i) : Nat) : Int) (pop6 t : Int) = ((max (maxS (S.take i)) (pop6 t) : Nat) : Int) := by omega
    simp (disch := omega) only [f31_r3, f31_r4, f31_r5, w_skip, w_reg, w_seq, w_cond, w_block, seqK_n, atK_n, loopK_n, ckB_b, cbB_b, true_and, x_nil, x_mv, x_as, x_ld, x_bin, x_iads, x_call, x_len, x_max, kx, rvP_ok, okv_some, ev_t, ev_c, evs_nil, evs_cons, getV_some, putD_some, bin_add, bin_lss, max_ii, of1, getK_set, Nat.reduceEqDiff, ↓reduceIte, g1, g5, g6, hv.len, hlt', decide_true, hp1, hp2, iE, hp52 _ ht, hmax, fw64]
    exact ⟨i + 1, by omega, rfl, hlt, by rw [hmx]; simp (disch := omega) only [getK_set, Nat.reduceEqDiff, ↓reduceIte, g0, g1, and_self, Int.natCast_add, Int.natCast_one]⟩
  · obtain rfl : i = S.length := by omega
    rw [List.take_length] at g5
    have hlt' : ¬ (S.length : Int) < (S.length : Int) := by omega
    have hms := maxS_le S
    have hd1 : fw .i64 ((maxS S : Int) + 1) = ((maxS S + 1 : Nat) : Int) := by rw [fw64 (by omega) (by omega)]; omega
    simp (disch := omega) only [f31_r3, f31_r6, w_reg, w_seq, w_cond, w_exit, seqK_n, seqK_e, atK_e, loopK_e, ckB_b, cbB_b, true_and, x_nil, x_mv, x_as, x_bin, x_mks, x_len, kx, rvP_ok, okv_some, ev_t, ev_c, getV_some, putD_some, bin_add, bin_lss, of0, of1, getK_set, Nat.reduceEqDiff, ↓reduceIte, Bool.false_eq_true, g1, g5, g6, hv.len, hlt', decide_false, hd1, mks_ints (show maxS S + 1 ≤ 1000000 by omega)]
    have gn : Grow h1.nx.nat h1 (h1.new (.cells ((maxS S + 1) * 1) (rep [.i .i64 0] (maxS S + 1)))) := Grow.new (Nat.le_refl _) _
    have n1 := nx_new h1 (.cells ((maxS S + 1) * 1) (rep [.i .i64 0] (maxS S + 1)))
    have hsl := mks_sl (h := h1) (n := maxS S + 1)
    generalize h1.new (.cells ((maxS S + 1) * 1) (rep [.i .i64 0] (maxS S + 1))) = h2 at *
    have hc2 := gn.hc hc
    simp (disch := omega) only [f31_r7, x_mv, x_call, ev_t, ev_c, evs_nil, evs_cons, getV_some, putD_some, getK_set, Nat.reduceEqDiff, ↓reduceIte, g0, g1]
    refine (callP_0 (ef := f33) h33 rfl (f33_ret (n := n) hp h45 (hv.grow hc gn) hc2 (by omega) hn1 hn6)).mono ?_
    rintro u h3 ⟨hsu, hou, gr3⟩
    simp (disch := omega) only [f31_r8, w_reg, w_seq, w_block, seqK_n, x_nil, x_as, kx, ev_t, ev_c, getV_some, putD_some, of0, getK_set, ↓reduceIte]
    have hfl : (facTo S (2 ^ n.toNat)).length = (facN S (2 ^ n.toNat)).length := by unfold facTo facN; rw [List.length_map]
    have hfl64 : (facN S (2 ^ n.toNat)).length ≤ 64 := by have := facTo_len (S := S) (i := 2 ^ n.toNat); omega
    refine W_loop (f31_I1 h1 S n u) (fun i => (facN S (2 ^ n.toNat)).length - i) ?_ 0 ⟨.sl h1.nx 0 (maxS S + 1) 1, Nat.zero_le _, hsu, hsl.grow hc2 gr3, (fun _ _ _ _ e => by cases e; exact Nat.le_refl _), ⟨h1.nx.nat, hou.low (by omega), fun _ _ _ _ e => by cases e; rfl⟩, gn.trans (gr3.low (by omega)), by simp (disch := omega) only [getK_set, Nat.reduceEqDiff, ↓reduceIte, and_self, Int.natCast_zero]⟩
    clear g0 g1 g5 g6 fr
    rintro j fr h4 ⟨o, hj, hsu4, hso, hoo, ⟨id0, hid0, hid1⟩, hgr, g7, g8, g9⟩
    have hc4 := hgr.hc hc
    unfold f31_l1
    by_cases hltj : j < (facN S (2 ^ n.toNat)).length
    · have hltj' : (j : Int) < ((facTo S (2 ^ n.toNat)).length : Int) := by omega
      obtain ⟨p, hp1, hp2⟩ := hsu4.at j (by omega)
      have hk := List.getElem_mem hltj
      have hfe : (facTo S (2 ^ n.toNat))[j]'(by omega) = ((facN S (2 ^ n.toNat))[j] : Int) := by unfold facTo facN; rw [List.getElem_map]; rfl
      rw [hfe] at hp2
      have hk64 : (facN S (2 ^ n.toNat))[j] < 64 := by
        have := (List.mem_filter.1 (show (facN S (2 ^ n.toNat))[j] ∈ (List.range (2 ^ n.toNat)).filter (fun (k : Nat) => isF S (k : Int)) from hk)).1
        rw [List.mem_range] at this
        exact Nat.lt_of_lt_of_le this hpw
      have hks := hsz _ hk
      have hlen := rcnt_len (d := maxS S) ((facN S (2 ^ n.toNat)).take j)
      have hml : pop6 (facN S (2 ^ n.toNat))[j] < (rcnt (maxS S) ((facN S (2 ^ n.toNat)).take j)).length := by omega
      obtain ⟨q, hq1, hq2⟩ := hso.at _ hml
      have hbd := rcnt_bd (d := maxS S) ((facN S (2 ^ n.toNat)).take j) _ (List.getElem_mem hml)
      have hlt64 : ((facN S (2 ^ n.toNat)).take j).length ≤ 64 := by rw [List.length_take]; omega
      obtain ⟨p2, id, m2, cs2, q1, q2, q3, ⟨off, nn, sz, q4⟩, q5⟩ := hso.st hml (x := (rcnt (maxS S) ((facN S (2 ^ n.toNat)).take j))[pop6 (facN S (2 ^ n.toNat))[j]] + 1) (c := .i .i64 ((rcnt (maxS S) ((facN S (2 ^ n.toNat)).take j))[pop6 (facN S (2 ^ n.toNat))[j]] + 1)) rfl rfl hc4
      have hpp : p2 = q := by
        have h1' := hq1 .i64 h4
        have h2' := q1 .i64 h4
        rw [h1'] at h2'
        cases h2'; rfl
      subst hpp
      have hfw : fw .i64 ((rcnt (maxS S) ((facN S (2 ^ n.toNat)).take j))[pop6 (facN S (2 ^ n.toNat))[j]] + 1) = (rcnt (maxS S) ((facN S (2 ^ n.toNat)).take j))[pop6 (facN S (2 ^ n.toNat))[j]] + 1 := fw64 (by omega) (by omega)
      simp (disch := omega) only [f31_r9, f31_r10, f31_r11, w_skip, w_reg, w_seq, w_cond, w_block, seqK_n, atK_n, loopK_n, ckB_b, cbB_b, true_and, x_nil, x_mv, x_as, x_ld, x_st, x_bin, x_iads, x_call, x_len, kx, rvP_ok, okv_some, ev_t, ev_c, evs_nil, evs_cons, getV_some, putD_some, putD_none, bin_add, bin_lss, of1, getK_set, Nat.reduceEqDiff, ↓reduceIte, g7, g8, g9, hsu4.len, hltj', decide_true, hp1, hp2, iE, hp52 _ hk64, hq1, hq2, hfw, q2, fw64]
      have hidn := hid1 _ _ _ _ q4
      refine ⟨j + 1, by omega, o, hltj, hsu4.put (hid0.notIn (by omega)) _, ?_, hoo, ⟨id0, hid0, hid1⟩, hgr.trans (Grow.put (hoo _ _ _ _ q4) q5 _), by simp (disch := omega) only [getK_set, Nat.reduceEqDiff, ↓reduceIte, g7, g8, and_self, Int.natCast_add, Int.natCast_one]⟩
      have : rcnt (maxS S) ((facN S (2 ^ n.toNat)).take (j + 1)) = (rcnt (maxS S) ((facN S (2 ^ n.toNat)).take j)).set (pop6 (facN S (2 ^ n.toNat))[j]) ((rcnt (maxS S) ((facN S (2 ^ n.toNat)).take j))[pop6 (facN S (2 ^ n.toNat))[j]] + 1) := by
        rw [List.take_succ_eq_append_getElem hltj, rcnt_snoc]
        unfold bump
        rw [show (rcnt (maxS S) ((facN S (2 ^ n.toNat)).take j)).getD (pop6 (facN S (2 ^ n.toNat))[j]) 0 = (rcnt (maxS S) ((facN S (2 ^ n.toNat)).take j))[pop6 (facN S (2 ^ n.toNat))[j]] by simp [List.getD, hml]]
      rw [this]; exact q3
    · obtain rfl : j = (facN S (2 ^ n.toNat)).length := by omega
      rw [List.take_length] at hso
      have hltj' : ¬ (((facN S (2 ^ n.toNat)).length : Nat) : Int) < ((facTo S (2 ^ n.toNat)).length : Int) := by omega
      simp (disch := omega) only [f31_r9, f31_r12, f31_rs, w_reg, w_seq, w_cond, w_exit, w_ret, seqK_n, seqK_e, atK_e, loopK_e, ckB_b, cbB_b, true_and, retK_r, x_nil, x_mv, x_as, x_bin, x_len, kx, rvP_ok, okv_some, ev_t, getV_some, putD_some, bin_lss, oGet_s, readRs_nil, readRs_t, retV_1, Option.some.injEq, exists_eq_left', getK_set, Nat.reduceEqDiff, ↓reduceIte, Bool.false_eq_true, g7, g8, g9, hsu4.len, hltj', decide_false]
      exact ⟨hso, hoo, hgr⟩
end
end Go.Ev
namespace Go.Ev
open Go Go.RowKit
noncomputable def f74_r0 : List EOper := [⟨(some (K.ofNat 2)), none, .as (.c (.i .i64 (.ofNat 0)))⟩]
noncomputable def f74_r1 : List EOper := [⟨(some (K.ofNat 3)), none, .as (.c .sn)⟩]
noncomputable def f74_r2 : List EOper := [⟨(some (K.ofNat 8)), none, .mv (.t (K.ofNat 3))⟩, ⟨(some (K.ofNat 9)), none, .mv (.t (K.ofNat 0))⟩, ⟨(some (K.ofNat 10)), none, .app 1 (.t (K.ofNat 8)) (.t (K.ofNat 9))⟩, ⟨(some (K.ofNat 3)), none, .as (.t (K.ofNat 10))⟩]
noncomputable def f74_r3 : List EOper := [⟨(some (K.ofNat 4)), none, .as (.c (.i .i64 (.ofNat 0)))⟩]
noncomputable def f74_r4 : List EOper := [⟨(some (K.ofNat 5)), none, .as (.c (.i .i64 (.ofNat 0)))⟩]
noncomputable def f74_r5 : List EOper := [⟨(some (K.ofNat 11)), none, .mv (.t (K.ofNat 5))⟩, ⟨(some (K.ofNat 12)), none, .mv (.t (K.ofNat 3))⟩, ⟨(some (K.ofNat 13)), none, .len (.t (K.ofNat 12))⟩, ⟨(some (K.ofNat 14)), none, .bin .lss (.t (K.ofNat 11)) (.t (K.ofNat 13))⟩]
noncomputable def f74_r6 : List EOper := [⟨(some (K.ofNat 17)), none, .mv (.t (K.ofNat 3))⟩, ⟨(some (K.ofNat 18)), none, .mv (.t (K.ofNat 5))⟩, ⟨(some (K.ofNat 19)), none, .iads 1 (.t (K.ofNat 17)) (.t (K.ofNat 18))⟩, ⟨(some (K.ofNat 20)), none, .ld (.t (K.ofNat 19))⟩, ⟨(some (K.ofNat 21)), none, .bin .eql (.t (K.ofNat 20)) (.c (.i .i64 (.ofNat 0)))⟩]
noncomputable def f74_r7 : List EOper := [⟨(some (K.ofNat 22)), none, .mv (.t (K.ofNat 4))⟩, ⟨(some (K.ofNat 23)), none, .bin .add (.t (K.ofNat 22)) (.c (.i .i64 (.ofNat 1)))⟩, ⟨(some (K.ofNat 4)), none, .as (.t (K.ofNat 23))⟩]
noncomputable def f74_r8 : List Stage := [⟨[⟨(some (K.ofNat 24)), none, .mv (.t (K.ofNat 3))⟩, ⟨(some (K.ofNat 25)), none, .mv (.t (K.ofNat 5))⟩, ⟨(some (K.ofNat 26)), none, .iads 1 (.t (K.ofNat 24)) (.t (K.ofNat 25))⟩, ⟨(some (K.ofNat 27)), none, .ld (.t (K.ofNat 26))⟩, ⟨(some (K.ofNat 28)), none, .mv (.t (K.ofNat 3))⟩, ⟨(some (K.ofNat 29)), none, .mv (.t (K.ofNat 5))⟩, ⟨(some (K.ofNat 30)), none, .iads 1 (.t (K.ofNat 28)) (.t (K.ofNat 29))⟩, ⟨(some (K.ofNat 31)), none, .ld (.t (K.ofNat 30))⟩, ⟨(some (K.ofNat 32)), none, .neg (.t (K.ofNat 31))⟩, ⟨(some (K.ofNat 33)), none, .bin .and (.t (K.ofNat 27)) (.t (K.ofNat 32))⟩], [], (some ⟨(some (K.ofNat 6)), none, .as (.t (K.ofNat 33))⟩), []⟩, ⟨[], [], none, []⟩]
noncomputable def f74_r9 : List EOper := [⟨(some (K.ofNat 34)), none, .mv (.t (K.ofNat 5))⟩, ⟨(some (K.ofNat 35)), none, .bin .add (.t (K.ofNat 34)) (.c (.i .i64 (.ofNat 1)))⟩, ⟨(some (K.ofNat 7)), none, .as (.t (K.ofNat 35))⟩]
noncomputable def f74_r10 : List EOper := [⟨(some (K.ofNat 36)), none, .mv (.t (K.ofNat 7))⟩, ⟨(some (K.ofNat 37)), none, .mv (.t (K.ofNat 3))⟩, ⟨(some (K.ofNat 38)), none, .len (.t (K.ofNat 37))⟩, ⟨(some (K.ofNat 39)), none, .bin .lss (.t (K.ofNat 36)) (.t (K.ofNat 38))⟩]
noncomputable def f74_r11 : List EOper := [⟨(some (K.ofNat 42)), none, .mv (.t (K.ofNat 3))⟩, ⟨(some (K.ofNat 43)), none, .mv (.t (K.ofNat 7))⟩, ⟨(some (K.ofNat 44)), none, .iads 1 (.t (K.ofNat 42)) (.t (K.ofNat 43))⟩, ⟨(some (K.ofNat 45)), none, .ld (.t (K.ofNat 44))⟩, ⟨(some (K.ofNat 46)), none, .mv (.t (K.ofNat 6))⟩, ⟨(some (K.ofNat 47)), none, .bin .and (.t (K.ofNat 45)) (.t (K.ofNat 46))⟩, ⟨(some (K.ofNat 48)), none, .bin .neq (.t (K.ofNat 47)) (.c (.i .i64 (.ofNat 0)))⟩]
noncomputable def f74_r12 : List Stage := [⟨[⟨(some (K.ofNat 49)), none, .mv (.t (K.ofNat 3))⟩, ⟨(some (K.ofNat 50)), none, .mv (.t (K.ofNat 7))⟩, ⟨(some (K.ofNat 51)), none, .mv (.t (K.ofNat 3))⟩, ⟨(some (K.ofNat 52)), none, .mv (.t (K.ofNat 7))⟩, ⟨(some (K.ofNat 53)), none, .iads 1 (.t (K.ofNat 51)) (.t (K.ofNat 52))⟩, ⟨(some (K.ofNat 54)), none, .ld (.t (K.ofNat 53))⟩, ⟨(some (K.ofNat 55)), none, .mv (.t (K.ofNat 3))⟩, ⟨(some (K.ofNat 56)), none, .mv (.t (K.ofNat 5))⟩, ⟨(some (K.ofNat 57)), none, .iads 1 (.t (K.ofNat 55)) (.t (K.ofNat 56))⟩, ⟨(some (K.ofNat 58)), none, .ld (.t (K.ofNat 57))⟩, ⟨(some (K.ofNat 59)), none, .bin .xor (.t (K.ofNat 54)) (.t (K.ofNat 58))⟩, ⟨(some (K.ofNat 60)), none, .iads 1 (.t (K.ofNat 49)) (.t (K.ofNat 50))⟩], [], (some ⟨none, none, .st 1 (.t (K.ofNat 60)) (.t (K.ofNat 59))⟩), []⟩, ⟨[], [], none, []⟩]
noncomputable def f74_r13 : List EOper := [⟨(some (K.ofNat 40)), none, .mv (.t (K.ofNat 7))⟩, ⟨(some (K.ofNat 41)), none, .bin .add (.t (K.ofNat 40)) (.c (.i .i64 (.ofNat 1)))⟩, ⟨(some (K.ofNat 7)), none, .as (.t (K.ofNat 41))⟩]
noncomputable def f74_l0 : EC := (.seq (.seq (.reg f74_r10) (.cond (.t (K.ofNat 39)) .skip (.exit 2))) (.seq (.block 3 (.seq (.reg f74_r11) (.cond (.t (K.ofNat 48)) (.draw f74_r12) .skip))) (.reg f74_r13)))
noncomputable def f74_r14 : List EOper := [⟨(some (K.ofNat 15)), none, .mv (.t (K.ofNat 5))⟩, ⟨(some (K.ofNat 16)), none, .bin .add (.t (K.ofNat 15)) (.c (.i .i64 (.ofNat 1)))⟩, ⟨(some (K.ofNat 5)), none, .as (.t (K.ofNat 16))⟩]
noncomputable def f74_l1 : EC := (.seq (.seq (.reg f74_r5) (.cond (.t (K.ofNat 14)) .skip (.exit 0))) (.seq (.block 1 (.seq (.seq (.reg f74_r6) (.cond (.t (K.ofNat 21)) (.exit 1) .skip)) (.seq (.reg f74_r7) (.seq (.draw f74_r8) (.seq (.reg f74_r9) (.block 2 (.loop f74_l0))))))) (.reg f74_r14)))
noncomputable def f74_r15 : List EOper := [⟨(some (K.ofNat 61)), none, .mv (.t (K.ofNat 4))⟩, ⟨(some (K.ofNat 2)), none, .as (.t (K.ofNat 61))⟩]
noncomputable def f74_c : EC := (.seq (.reg f74_r0) (.seq (.reg f74_r1) (.seq (.reg f74_r2) (.seq (.reg f74_r3) (.seq (.seq (.reg f74_r4) (.block 0 (.loop f74_l1))) (.seq (.reg f74_r15) .ret))))))
noncomputable def f74 : EF := ⟨62, [.tmp (K.ofNat 2)], f74_c, none⟩
theorem f74_rs : f74.rs = [.tmp (K.ofNat 2)] := of_eq_true (eq_self _)
noncomputable def f73_r0 : List EOper := [⟨(some (K.ofNat 4)), none, .as (.c .sn)⟩]
noncomputable def f73_r1 : List EOper := [⟨(some (K.ofNat 5)), none, .as (.c .sn)⟩]
noncomputable def f73_r2 : List EOper := [⟨(some (K.ofNat 6)), none, .as (.c (.i .i64 (.ofNat 0)))⟩]
noncomputable def f73_r3 : List EOper := [⟨(some (K.ofNat 9)), none, .mv (.t (K.ofNat 6))⟩, ⟨(some (K.ofNat 10)), none, .mv (.t (K.ofNat 0))⟩, ⟨(some (K.ofNat 11)), none, .len (.t (K.ofNat 10))⟩, ⟨(some (K.ofNat 12)), none, .bin .lss (.t (K.ofNat 9)) (.t (K.ofNat 11))⟩]
noncomputable def f73_r4 : List EOper := [⟨(some (K.ofNat 15)), none, .mv (.t (K.ofNat 0))⟩, ⟨(some (K.ofNat 16)), none, .mv (.t (K.ofNat 6))⟩, ⟨(some (K.ofNat 17)), none, .iads 1 (.t (K.ofNat 15)) (.t (K.ofNat 16))⟩, ⟨(some (K.ofNat 18)), none, .ld (.t (K.ofNat 17))⟩, ⟨(some (K.ofNat 19)), none, .call (.c (.fn (K.ofNat 52) [])) [(.t (K.ofNat 18))]⟩, ⟨(some (K.ofNat 20)), none, .mv (.t (K.ofNat 1))⟩, ⟨(some (K.ofNat 21)), none, .bin .neq (.t (K.ofNat 19)) (.t (K.ofNat 20))⟩]
noncomputable def f73_r5 : List EOper := [⟨(some (K.ofNat 7)), none, .as (.c (.i .i64 (.ofNat 0)))⟩]
noncomputable def f73_r6 : List EOper := [⟨(some (K.ofNat 8)), none, .as (.c (.i .i64 (.ofNat 0)))⟩]
noncomputable def f73_r7 : List EOper := [⟨(some (K.ofNat 22)), none, .mv (.t (K.ofNat 8))⟩, ⟨(some (K.ofNat 23)), none, .bin .lss (.t (K.ofNat 22)) (.c (.i .i64 (.ofNat 6)))⟩]
noncomputable def f73_r8 : List EOper := [⟨(some (K.ofNat 26)), none, .mv (.t (K.ofNat 0))⟩, ⟨(some (K.ofNat 27)), none, .mv (.t (K.ofNat 6))⟩, ⟨(some (K.ofNat 28)), none, .iads 1 (.t (K.ofNat 26)) (.t (K.ofNat 27))⟩, ⟨(some (K.ofNat 29)), none, .ld (.t (K.ofNat 28))⟩, ⟨(some (K.ofNat 30)), none, .mv (.t (K.ofNat 8))⟩, ⟨(some (K.ofNat 31)), none, .bin .shr (.t (K.ofNat 29)) (.t (K.ofNat 30))⟩, ⟨(some (K.ofNat 32)), none, .bin .rem (.t (K.ofNat 31)) (.c (.i .i64 (.ofNat 2)))⟩, ⟨(some (K.ofNat 33)), none, .bin .eql (.t (K.ofNat 32)) (.c (.i .i64 (.ofNat 1)))⟩]
noncomputable def f73_r9 : List Stage := [⟨[⟨(some (K.ofNat 34)), none, .mv (.t (K.ofNat 7))⟩, ⟨(some (K.ofNat 35)), none, .mv (.t (K.ofNat 0))⟩, ⟨(some (K.ofNat 36)), none, .mv (.t (K.ofNat 6))⟩, ⟨(some (K.ofNat 37)), none, .iads 1 (.t (K.ofNat 35)) (.t (K.ofNat 36))⟩, ⟨(some (K.ofNat 38)), none, .ld (.t (K.ofNat 37))⟩, ⟨(some (K.ofNat 39)), none, .mv (.t (K.ofNat 8))⟩, ⟨(some (K.ofNat 40)), none, .bin .shl (.c (.i .i64 (.ofNat 1))) (.t (K.ofNat 39))⟩, ⟨(some (K.ofNat 41)), none, .bin .andNot (.t (K.ofNat 38)) (.t (K.ofNat 40))⟩, ⟨(some (K.ofNat 42)), none, .bin .shl (.c (.i .i64 (.ofNat 1))) (.t (K.ofNat 41))⟩, ⟨(some (K.ofNat 43)), none, .bin .or (.t (K.ofNat 34)) (.t (K.ofNat 42))⟩], [], (some ⟨(some (K.ofNat 7)), none, .as (.t (K.ofNat 43))⟩), []⟩, ⟨[], [], none, []⟩]
noncomputable def f73_r10 : List EOper := [⟨(some (K.ofNat 24)), none, .mv (.t (K.ofNat 8))⟩, ⟨(some (K.ofNat 25)), none, .bin .add (.t (K.ofNat 24)) (.c (.i .i64 (.ofNat 1)))⟩, ⟨(some (K.ofNat 8)), none, .as (.t (K.ofNat 25))⟩]
noncomputable def f73_l0 : EC := (.seq (.seq (.reg f73_r7) (.cond (.t (K.ofNat 23)) .skip (.exit 2))) (.seq (.block 3 (.seq (.reg f73_r8) (.cond (.t (K.ofNat 33)) (.draw f73_r9) .skip))) (.reg f73_r10)))
noncomputable def f73_r11 : List EOper := [⟨(some (K.ofNat 44)), none, .mv (.t (K.ofNat 5))⟩, ⟨(some (K.ofNat 45)), none, .mv (.t (K.ofNat 7))⟩, ⟨(some (K.ofNat 46)), none, .bslice 1 1 [(.i .i64 (.ofNat 0))] [(0, 1, (.t (K.ofNat 45)))]⟩, ⟨(some (K.ofNat 47)), none, .app 1 (.t (K.ofNat 44)) (.t (K.ofNat 46))⟩, ⟨(some (K.ofNat 5)), none, .as (.t (K.ofNat 47))⟩]
noncomputable def f73_r12 : List EOper := [⟨(some (K.ofNat 13)), none, .mv (.t (K.ofNat 6))⟩, ⟨(some (K.ofNat 14)), none, .bin .add (.t (K.ofNat 13)) (.c (.i .i64 (.ofNat 1)))⟩, ⟨(some (K.ofNat 6)), none, .as (.t (K.ofNat 14))⟩]
noncomputable def f73_l1 : EC := (.seq (.seq (.reg f73_r3) (.cond (.t (K.ofNat 12)) .skip (.exit 0))) (.seq (.block 1 (.seq (.seq (.reg f73_r4) (.cond (.t (K.ofNat 21)) (.exit 1) .skip)) (.seq (.reg f73_r5) (.seq (.seq (.reg f73_r6) (.block 2 (.loop f73_l0))) (.reg f73_r11))))) (.reg f73_r12)))
noncomputable def f73_r13 : List EOper := [⟨(some (K.ofNat 48)), none, .mv (.t (K.ofNat 5))⟩, ⟨(some (K.ofNat 4)), none, .as (.t (K.ofNat 48))⟩]
noncomputable def f73_c : EC := (.seq (.reg f73_r0) (.seq (.reg f73_r1) (.seq (.seq (.reg f73_r2) (.block 0 (.loop f73_l1))) (.seq (.reg f73_r13) .ret))))
noncomputable def f73 : EF := ⟨49, [.tmp (K.ofNat 4)], f73_c, none⟩
theorem f73_rs : f73.rs = [.tmp (K.ofNat 4)] := of_eq_true (eq_self _)
section
variable {fs : T EF} {ro : Option K}
theorem Sl.unmap {α β : Type} {e : β → V} {f : α → β} {h : H} {v : V} {L : List α} (hs : Sl e h v (L.map f)) : Sl (fun x => e (f x)) h v L := by
  rcases hs with ⟨rfl, hl⟩ | ⟨id, off, m, cs, rfl, hb, hl, hm, hx⟩
  · have : L = [] := by simpa using hl
    exact .inl ⟨rfl, this⟩
  · exact .inr ⟨id, off, m, cs, by rw [List.length_map], hb, by simpa using hl, by simpa using hm, fun i hi => by have := hx i (by simpa using hi); simpa using this⟩
def f74_I0 (b : Nat) (h : H) (v : V) (p c i n : Nat) (R : List Nat) (j : Nat) (fr : Fr) (h1 : H) : Prop := ∃ L, j ≤ n ∧ L.length = n ∧ i < j ∧ L.getD i 0 = p ∧ Small L ∧ elR p (n - j) j L = R ∧ Sl nE h1 v L ∧ Grow b h h1 ∧ fr.get (K.ofNat 3) = some (v) ∧ fr.get (K.ofNat 4) = some (.i .i64 (c : Int)) ∧ fr.get (K.ofNat 5) = some (.i .i64 (i : Int)) ∧ fr.get (K.ofNat 6) = some (.i .i64 (low p : Int)) ∧ fr.get (K.ofNat 7) = some (.i .i64 (j : Int))
theorem f74_inner {Q : Ex → Fr → H → Prop} {b : Nat} {h h0 : H} {v : V} {p c i n : Nat} {R : List Nat} {j : Nat} {fr : Fr} (hc : HC h) (ho : Own b v) (hp : p < 9223372036854775808) (hn : n ≤ 1000)
    (hi : f74_I0 b h v p c i n R j fr h0)
    (hq : ∀ fr h1, Small R → R.length = n → Sl nE h1 v R → Grow b h h1 → fr.get (K.ofNat 3) = some (v) ∧ fr.get (K.ofNat 4) = some (.i .i64 (c : Int)) ∧ fr.get (K.ofNat 5) = some (.i .i64 (i : Int)) → Q (.exit 2) fr h1) :
    W fs ro (.loop f74_l0) Q fr h0 := by
  refine W_loop (f74_I0 b h v p c i n R) (fun j => n - j) ?_ j hi
  clear hi fr h0 j
  rintro j fr h1 ⟨L, hj, hl, hij, hpi, hsm, hR, hs, hgr, g3, g4, g5, g6, g7⟩
  have hc1 := hgr.hc hc
  have hlw := @low_lt p
  unfold f74_l0
  by_cases hlt : j < n
  · have hlt' : (j : Int) < (L.length : Int) := by omega
    have hjl : j < L.length := by omega
    have hil : i < L.length := by omega
    have hpi' : L[i] = p := by rw [← hpi]; simp [List.getD, hil]
    obtain ⟨q, hp1, hp2⟩ := hs.at j hjl
    obtain ⟨r, hr1, hr2⟩ := hs.at i hil
    have hx := hsm.at hjl
    have hRn : elR p (n - (j + 1)) (j + 1) (L.set j (stepR p L[j])) = R := by
      rw [← hR, show n - j = (n - (j + 1)) + 1 by omega, elR]
      simp [List.getD, hjl]
    by_cases e : (L[j] &&& low p) = 0
    · have e' : ((L[j] &&& low p : Nat) : Int) = 0 := by omega
      have hst : stepR p L[j] = L[j] := by unfold stepR; rw [if_neg (by simpa using e)]
      rw [hst, set_same] at hRn
      simp (disch := omega) only [f74_r10, f74_r11, f74_r13, w_skip, w_reg, w_seq, w_cond, w_block, seqK_n, atK_n, loopK_n, ckB_b, cbB_b, true_and, x_nil, x_mv, x_as, x_ld, x_bin, x_iads, x_len, kx, rvP_ok, okv_some, ev_t, ev_c, getV_some, putD_some, bin_add, bin_neq, bin_lss, of0, of1, getK_set, Nat.reduceEqDiff, ↓reduceIte, Bool.false_eq_true, g3, g6, g7, hs.len, hlt', decide_true, hp1, hp2, nE, and_n kmi hx (show low p < 9223372036854775808 by omega), e', ne_eq, not_true_eq_false, decide_false, fw64]
      exact ⟨j + 1, by omega, L, hlt, hl, by omega, hpi, hsm, hRn, hs, hgr, by simp (disch := omega) only [getK_set, Nat.reduceEqDiff, ↓reduceIte, g3, g4, g5, g6, and_self, Int.natCast_add, Int.natCast_one]⟩
    · have e' : ¬ ((L[j] &&& low p : Nat) : Int) = 0 := by omega
      have hst : stepR p L[j] = L[j] ^^^ p := by unfold stepR; rw [if_pos e]
      rw [hst] at hRn
      have hxr := stepR_lt hp hx
      rw [hst] at hxr
      obtain ⟨p2, id, m2, cs2, q1, q2, q3, ⟨off, nn, sz, q4⟩, q5⟩ := hs.st hjl (x := L[j] ^^^ p) (c := .i .i64 ((L[j] ^^^ p : Nat) : Int)) rfl rfl hc1
      have hpp : p2 = q := by
        have h1' := hp1 .i64 h1
        have h2' := q1 .i64 h1
        rw [h1'] at h2'
        cases h2'; rfl
      subst hpp
      have hid := ho id off nn sz q4
      simp (disch := omega) only [f74_r10, f74_r11, f74_r12, f74_r13, w_skip, w_reg, w_draw, w_seq, w_cond, w_block, seqK_n, atK_n, loopK_n, ckB_b, cbB_b, true_and, x_nil, x_mv, x_as, x_ld, x_st, x_bin, x_iads, x_len, kx, kg, xg_nil, xg_mv, xg_ld, xg_bin, xg_iads, xd_cons, fresh_nil, stK_n, stK_s, stay_nil, rvP_ok, okv_some, ev_t, ev_c, getV_some, putD_some, putD_none, bin_add, bin_neq, bin_lss, of0, of1, getK_set, Nat.reduceEqDiff, ↓reduceIte, g3, g5, g6, g7, hs.len, hlt', decide_true, hp1, hp2, hr1, hr2, hpi', nE, and_n kmi hx (show low p < 9223372036854775808 by omega), xor_n kmi hx hp, e', ne_eq, not_false_eq_true, q2, fw64]
      exact ⟨j + 1, by omega, L.set j (L[j] ^^^ p), hlt, by rw [List.length_set]; exact hl, by omega, by simp only [List.getD] at hpi ⊢; rw [List.getElem?_set, if_neg (by omega)]; exact hpi, hsm.set hxr, hRn, q3, hgr.trans (Grow.put hid q5 _), by simp (disch := omega) only [getK_set, Nat.reduceEqDiff, ↓reduceIte, g3, g4, g5, g6, and_self, Int.natCast_add, Int.natCast_one]⟩
  · have hjn : j = n := by omega
    subst hjn
    have hlt' : ¬ (j : Int) < (L.length : Int) := by omega
    rw [Nat.sub_self, elR] at hR
    subst hR
    simp (disch := omega) only [f74_r10, w_reg, w_seq, w_cond, w_exit, seqK_n, seqK_e, loopK_e, ckB_b, cbB_b, true_and, x_nil, x_mv, x_bin, x_len, kx, rvP_ok, okv_some, ev_t, getV_some, putD_some, bin_lss, getK_set, Nat.reduceEqDiff, ↓reduceIte, Bool.false_eq_true, g3, g7, hs.len, hlt', decide_false]
    exact hq _ _ hsm hl hs hgr (by simp (disch := omega) only [getK_set, Nat.reduceEqDiff, ↓reduceIte, g3, g4, g5, and_self])
def f74_I1 (b : Nat) (h : H) (v : V) (n R : Nat) (i : Nat) (fr : Fr) (h1 : H) : Prop := ∃ L c, i ≤ n ∧ L.length = n ∧ c ≤ i ∧ Small L ∧ elK (n - i) i L c = R ∧ Sl nE h1 v L ∧ Grow b h h1 ∧ fr.get (K.ofNat 3) = some (v) ∧ fr.get (K.ofNat 4) = some (.i .i64 (c : Int)) ∧ fr.get (K.ofNat 5) = some (.i .i64 (i : Int))
theorem f74_ret {h : H} {v : V} {L : List Nat} (hs : Sl nE h v L) (hsm : Small L) (hc : HC h) (hn : L.length ≤ 1000) :
    Ret fs f74 [v] h fun u h' => u = .i .i64 (rankS L : Int) ∧ Grow h.nx.nat h h' := by
  apply ret_of rfl
  show W fs none f74_c _ _ _
  unfold f74_c
  obtain ⟨w, h1, p1, p2, p3, p4, _⟩ := Sl.app (e := nE) (h := h) Sl.nil (Own.sn (b := h.nx.nat)) (Nat.le_refl _) hs hc (by simp; omega)
  rw [List.nil_append] at p2
  simp (disch := omega) only [f74_r0, f74_r1, f74_r2, f74_r3, f74_r4, w_reg, w_seq, w_block, seqK_n, x_nil, x_mv, x_as, x_app, kx, rvP_ok, ev_t, ev_c, getV_some, putD_some, frame_1, of0, getK_set, Nat.reduceEqDiff, ↓reduceIte, p1]
  refine W_loop (f74_I1 h.nx.nat h w L.length (rankS L)) (fun i => L.length - i) ?_ 0 ⟨L, 0, Nat.zero_le _, rfl, Nat.le_refl _, hsm, rfl, p2, p4, by simp (disch := omega) only [getK_set, Nat.reduceEqDiff, ↓reduceIte, and_self, Int.natCast_zero]⟩
  clear p1 p2 p4 hs hsm
  generalize rankS L = R
  generalize L.length = n at *
  clear L
  rintro i fr h2 ⟨L, c, hi, hl, hci, hsm, hR, hs, hgr, g3, g4, g5⟩
  have hc1 := hgr.hc hc
  unfold f74_l1
  by_cases hlt : i < n
  · have hlt' : (i : Int) < (L.length : Int) := by omega
    have hil : i < L.length := by omega
    obtain ⟨q, hp1, hp2⟩ := hs.at i hil
    have hx := hsm.at hil
    have hg : L.getD i 0 = L[i] := by simp [List.getD, hil]
    rw [show n - i = (n - (i + 1)) + 1 by omega, elK, hg] at hR
    by_cases e : L[i] = 0
    · have e' : ((L[i] : Nat) : Int) = 0 := by omega
      rw [if_pos e] at hR
      simp (disch := omega) only [f74_r5, f74_r6, f74_r14, w_skip, w_reg, w_seq, w_cond, w_block, w_exit, seqK_n, seqK_e, atK_e, loopK_n, ckB_b, cbB_b, true_and, x_nil, x_mv, x_as, x_ld, x_bin, x_iads, x_len, kx, rvP_ok, okv_some, ev_t, ev_c, getV_some, putD_some, bin_add, bin_eql, bin_lss, of0, of1, getK_set, Nat.reduceEqDiff, ↓reduceIte, g3, g5, hs.len, hlt', decide_true, hp1, hp2, nE, e', fw64]
      exact ⟨i + 1, by omega, L, c, hlt, hl, by omega, hsm, hR, hs, hgr, by simp (disch := omega) only [getK_set, Nat.reduceEqDiff, ↓reduceIte, g3, g4, and_self, Int.natCast_add, Int.natCast_one]⟩
    · have e' : ¬ ((L[i] : Nat) : Int) = 0 := by omega
      rw [if_neg e] at hR
      simp (disch := omega) only [f74_r5, f74_r6, f74_r7, f74_r8, f74_r9, w_skip, w_reg, w_draw, w_seq, w_cond, w_block, seqK_n, ckB_b, cbB_b, true_and, x_nil, x_mv, x_as, x_ld, x_bin, x_iads, x_len, kx, kg, xg_nil, xg_mv, xg_ld, xg_bin, xg_neg, xg_iads, xd_cons, fresh_nil, stK_n, stK_s, stay_nil, rvP_ok, okv_some, ev_t, ev_c, getV_some, putD_some, bin_add, bin_eql, bin_lss, onI_i, of0, of1, getK_set, Nat.reduceEqDiff, ↓reduceIte, Bool.false_eq_true, g3, g4, g5, hs.len, hlt', decide_true, decide_false, hp1, hp2, nE, e', fw64, low_i (show 0 < L[i] by omega) hx]
      refine f74_inner (b := h.nx.nat) (h := h) (v := w) (p := L[i]) (c := c + 1) (i := i) (n := n) (R := elR L[i] (n - (i + 1)) (i + 1) L) (j := i + 1) hc p3 hx hn ⟨L, by omega, hl, by omega, hg, hsm, rfl, hs, hgr, by simp (disch := omega) only [getK_set, Nat.reduceEqDiff, ↓reduceIte, g3, g5, and_self, Int.natCast_add, Int.natCast_one]⟩ ?_
      rintro fr h2 hsm2 hl2 hs2 hgr2 ⟨g3, g4, g5⟩
      simp (disch := omega) only [f74_r14, w_reg, seqK_n, atK_n, atK_e, loopK_n, x_nil, x_mv, x_as, x_bin, kx, rvP_ok, okv_some, ev_t, ev_c, getV_some, putD_some, bin_add, of1, getK_set, ↓reduceIte, g5, fw64]
      exact ⟨i + 1, by omega, _, c + 1, hlt, hl2, by omega, hsm2, hR, hs2, hgr2, by simp (disch := omega) only [getK_set, Nat.reduceEqDiff, ↓reduceIte, g3, g4, and_self, Int.natCast_add, Int.natCast_one]⟩
  · obtain rfl : i = n := by omega
    have hlt' : ¬ (i : Int) < (L.length : Int) := by omega
    rw [Nat.sub_self, elK] at hR
    subst hR
    simp (disch := omega) only [f74_r5, f74_r15, f74_rs, w_reg, w_seq, w_cond, w_exit, w_ret, seqK_n, seqK_e, atK_e, loopK_e, ckB_b, cbB_b, true_and, retK_r, x_nil, x_mv, x_as, x_bin, x_len, kx, rvP_ok, okv_some, ev_t, getV_some, putD_some, bin_lss, oGet_s, readRs_nil, readRs_t, retV_1, Option.some.injEq, exists_eq_left', getK_set, Nat.reduceEqDiff, ↓reduceIte, Bool.false_eq_true, g3, g4, g5, hs.len, hlt', decide_false, true_and]
    exact hgr
/-- A face's border, as the reference makes it. -/
def rbTo (x : Nat) : Nat → Nat
  | 0 => 0
  | i + 1 => if x / 2 ^ i % 2 = 1 then rbTo x i ||| 2 ^ lessC x (2 ^ i) else rbTo x i
theorem rb_eq : ∀ x, x < 64 → rbTo x 6 = bordX x := by decide +kernel
theorem rb_less : ∀ x, x < 64 → ∀ i, i < 6 → x / 2 ^ i % 2 = 1 → lessC x (2 ^ i) ≤ 62 := by decide +kernel
theorem rb_lt {x : Nat} (hx : x < 64) : ∀ i, i ≤ 6 → rbTo x i < 9223372036854775808
  | 0, _ => by unfold rbTo; omega
  | i + 1, hi => by
    unfold rbTo
    have ih := rb_lt hx i (by omega)
    split
    · rename_i e
      have h1 := rb_less x hx i (by omega) e
      have h2 : 2 ^ lessC x (2 ^ i) < 2 ^ 63 := Nat.pow_lt_pow_right (by omega) (by omega)
      exact Nat.or_lt_two_pow (n := 63) ih h2
    · exact ih
theorem or_n {m n : Nat} (hm : m < 9223372036854775808) (hn : n < 9223372036854775808) : binV .or (.i .i64 (m : Int)) (.i .i64 (n : Int)) = some (.i .i64 ((m ||| n : Nat) : Int)) := bin_or (by show _ ≤ 9223372036854775807; omega) (by show _ ≤ 9223372036854775807; omega)
theorem shl_i {n : Nat} (hn : n ≤ 62) : binV .shl (.i .i64 1) (.i .i64 (n : Int)) = some (.i .i64 ((2 ^ n : Nat) : Int)) := by
  have h2 : 2 ^ n ≤ 4611686018427387904 := Nat.pow_le_pow_right (by omega) hn
  have h3 : ((2 ^ n : Nat) : Int) ≤ 4611686018427387904 := Int.ofNat_le.2 h2
  have h4 : (0 : Int) ≤ ((2 ^ n : Nat) : Int) := Int.natCast_nonneg _
  rw [bin_shl (by omega), show min (n : Int).toNat (IntKind.bits .i64) = n by show min (n : Int).toNat 64 = n; omega, Int.one_mul, show (2 : Int) ^ n = ((2 ^ n : Nat) : Int) by simp]
  rw [fw64 (by omega) (by omega)]
theorem shr_i {m n : Nat} (hn : n ≤ 62) : binV .shr (.i .i64 (m : Int)) (.i .i64 (n : Int)) = some (.i .i64 ((m / 2 ^ n : Nat) : Int)) := by
  rw [bin_shr, show min n (IntKind.bits .i64) = n by show min n 64 = n; omega]
def f73_I0 (h : H) (v o : V) (k x i : Nat) (j : Nat) (fr : Fr) (h1 : H) : Prop := h1 = h ∧ j ≤ 6 ∧ fr.get (K.ofNat 0) = some (v) ∧ fr.get (K.ofNat 1) = some (.i .i64 (k : Int)) ∧ fr.get (K.ofNat 5) = some (o) ∧ fr.get (K.ofNat 6) = some (.i .i64 (i : Int)) ∧ fr.get (K.ofNat 7) = some (.i .i64 (rbTo x j : Int)) ∧ fr.get (K.ofNat 8) = some (.i .i64 (j : Int))
theorem f73_inner {Q : Ex → Fr → H → Prop} {h : H} {v o : V} {k x i : Nat} {fr : Fr} {L : List Nat} (hs : Sl nE h v L) (hi : i < L.length) (hxi : L[i] = x) (hx : x < 64)
    (h0 : f73_I0 h v o k x i 0 fr h)
    (hq : ∀ fr, fr.get (K.ofNat 0) = some (v) ∧ fr.get (K.ofNat 1) = some (.i .i64 (k : Int)) ∧ fr.get (K.ofNat 5) = some (o) ∧ fr.get (K.ofNat 6) = some (.i .i64 (i : Int)) ∧ fr.get (K.ofNat 7) = some (.i .i64 (bordX x : Int)) → Q (.exit 2) fr h) :
    W fs ro (.loop f73_l0) Q fr h := by
  refine W_loop (f73_I0 h v o k x i) (fun j => 6 - j) ?_ 0 h0
  clear h0 fr
  rintro j fr h1 ⟨rfl, hj, g0, g1, g5, g6, g7, g8⟩
  obtain ⟨q, hp1, hp2⟩ := hs.at i hi
  unfold f73_l0
  by_cases hlt : j < 6
  · have hlt' : (j : Int) < 6 := by omega
    have hrem : ((x / 2 ^ j : Nat) : Int).tmod 2 = ((x / 2 ^ j % 2 : Nat) : Int) := rfl
    by_cases e : x / 2 ^ j % 2 = 1
    · have e' : ((x / 2 ^ j % 2 : Nat) : Int) = 1 := by omega
      have h1 := rb_less x hx j hlt e
      have hb := rb_lt hx j hj
      have h2p : 2 ^ lessC x (2 ^ j) < 9223372036854775808 := Nat.lt_of_lt_of_le (Nat.pow_lt_pow_right (a := 2) (by omega) (show lessC x (2 ^ j) < 63 by omega)) (by decide)
      have h2j : 2 ^ j < 9223372036854775808 := Nat.lt_of_lt_of_le (Nat.pow_lt_pow_right (a := 2) (by omega) (show j < 63 by omega)) (by decide)
      have hn : rbTo x (j + 1) = rbTo x j ||| 2 ^ lessC x (2 ^ j) := by rw [rbTo, if_pos e]
      simp (disch := omega) only [f73_r7, f73_r8, f73_r9, f73_r10, w_skip, w_reg, w_draw, w_seq, w_cond, w_block, seqK_n, atK_n, loopK_n, ckB_b, cbB_b, true_and, x_nil, x_mv, x_as, x_ld, x_bin, x_iads, kx, kg, xg_nil, xg_mv, xg_ld, xg_bin, xg_iads, xd_cons, fresh_nil, stK_n, stK_s, stay_nil, rvP_ok, okv_some, ev_t, ev_c, getV_some, putD_some, bin_add, bin_eql, bin_lss, bin_rem, of1, of2, of6, getK_set, Nat.reduceEqDiff, ↓reduceIte, g0, g6, g7, g8, hlt', decide_true, hp1, hp2, nE, hxi, shr_i (show j ≤ 62 by omega), hrem, e', shl_i (show j ≤ 62 by omega), andNot_n (show x < 9223372036854775808 by omega) h2j, shl_i h1, or_n hb h2p, fw64]
      exact ⟨j + 1, by omega, rfl, hlt, by rw [hn]; simp (disch := omega) only [getK_set, Nat.reduceEqDiff, ↓reduceIte, g0, g1, g5, g6, and_self, Int.natCast_add, Int.natCast_one]⟩
    · have e' : ¬ ((x / 2 ^ j % 2 : Nat) : Int) = 1 := by omega
      have hn : rbTo x (j + 1) = rbTo x j := by rw [rbTo, if_neg e]
      simp (disch := omega) only [f73_r7, f73_r8, f73_r10, w_skip, w_reg, w_seq, w_cond, w_block, seqK_n, atK_n, loopK_n, ckB_b, cbB_b, true_and, x_nil, x_mv, x_as, x_ld, x_bin, x_iads, kx, rvP_ok, okv_some, ev_t, ev_c, getV_some, putD_some, bin_add, bin_eql, bin_lss, bin_rem, of1, of2, of6, getK_set, Nat.reduceEqDiff, ↓reduceIte, Bool.false_eq_true, g0, g6, g8, hlt', decide_true, hp1, hp2, nE, hxi, shr_i (show j ≤ 62 by omega), hrem, e', decide_false, fw64]
      exact ⟨j + 1, by omega, rfl, hlt, by rw [hn]; simp (disch := omega) only [getK_set, Nat.reduceEqDiff, ↓reduceIte, g0, g1, g5, g6, g7, and_self, Int.natCast_add, Int.natCast_one]⟩
  · obtain rfl : j = 6 := by omega
    rw [rb_eq x hx] at g7
    simp (disch := omega) only [f73_r7, w_skip, w_reg, w_seq, w_cond, w_block, w_exit, seqK_n, seqK_e, loopK_e, ckB_b, cbB_b, true_and, x_nil, x_mv, x_bin, kx, rvP_ok, okv_some, ev_t, ev_c, getV_some, putD_some, bin_lss, of6, getK_set, ↓reduceIte, decide_eq_true_eq, g8]
    exact hq _ (by simp (disch := omega) only [getK_set, Nat.reduceEqDiff, ↓reduceIte, g0, g1, g5, g6, g7, and_self])
def f73_I1 (h : H) (v : V) (L : List Nat) (k : Nat) (i : Nat) (fr : Fr) (h1 : H) : Prop := ∃ o, i ≤ L.length ∧ Sl nE h1 o (rowsOf (L.take i) k) ∧ Own h.nx.nat o ∧ Grow h.nx.nat h h1 ∧ fr.get (K.ofNat 0) = some (v) ∧ fr.get (K.ofNat 1) = some (.i .i64 (k : Int)) ∧ fr.get (K.ofNat 5) = some (o) ∧ fr.get (K.ofNat 6) = some (.i .i64 (i : Int))
theorem f73_ret {h : H} {v : V} {L : List Nat} {k : Nat} (hp52 : ∀ m : Nat, m < 64 → ∀ h P, CallP fs (.fn (K.ofNat 52) []) [.i .i64 (m : Int)] h P = P (.i .i64 (pop6 m : Int)) h)
    (hs : Sl nE h v L) (hL : ∀ x ∈ L, x < 64) (hc : HC h) (hn : L.length ≤ 1000) :
    Ret fs f73 [v, .i .i64 (k : Int)] h fun u h' => Sl nE h' u (rowsOf L k) ∧ Own h.nx.nat u ∧ Grow h.nx.nat h h' := by
  apply ret_of rfl
  show W fs none f73_c _ _ _
  unfold f73_c
  simp (disch := omega) only [f73_r0, f73_r1, f73_r2, w_reg, w_seq, w_block, seqK_n, x_nil, x_as, ev_c, putD_some, frame_2, of0]
  refine W_loop (f73_I1 h v L k) (fun i => L.length - i) ?_ 0 ⟨.sn, Nat.zero_le _, Sl.nil, Own.sn, Grow.refl _ _, by simp (disch := omega) only [getK_set, Nat.reduceEqDiff, ↓reduceIte, and_self, Int.natCast_zero]⟩
  rintro i fr h1 ⟨o, hi, hso, hoo, hgr, g0, g1, g5, g6⟩
  have hc1 := hgr.hc hc
  have hs1 := hs.grow hc hgr
  unfold f73_l1
  by_cases hlt : i < L.length
  · have hlt' : (i : Int) < (L.length : Int) := by omega
    obtain ⟨q, hp1, hp2⟩ := hs1.at i hlt
    have hx := hL _ (List.getElem_mem hlt)
    have hsn := rowsOf_snoc (l := L.take i) (x := L[i]) (k := k)
    rw [← List.take_succ_eq_append_getElem hlt] at hsn
    by_cases e : pop6 L[i] = k
    · have e' : ((pop6 L[i] : Nat) : Int) = (k : Int) := by omega
      rw [if_pos e] at hsn
      simp (disch := omega) only [f73_r3, f73_r4, f73_r5, f73_r6, w_skip, w_reg, w_seq, w_cond, w_block, seqK_n, ckB_b, cbB_b, true_and, x_nil, x_mv, x_as, x_ld, x_bin, x_iads, x_call, x_len, kx, rvP_ok, okv_some, ev_t, ev_c, evs_nil, evs_cons, getV_some, putD_some, bin_neq, bin_lss, of0, getK_set, Nat.reduceEqDiff, ↓reduceIte, Bool.false_eq_true, g0, g1, g6, hs1.len, hlt', decide_true, hp1, hp2, nE, hp52 _ hx, e', ne_eq, not_true_eq_false, decide_false]
      refine f73_inner (h := h1) (v := v) (o := o) (k := k) (x := L[i]) (i := i) hs1 hlt rfl hx ⟨rfl, by omega, by simp (disch := omega) only [getK_set, Nat.reduceEqDiff, ↓reduceIte, g0, g1, g5, g6, and_self, Int.natCast_zero, rbTo]⟩ ?_
      rintro fr ⟨g0, g1, g5, g6, g7⟩
      have hrl := rowsOf_len (l := L.take i) (k := k)
      rw [List.length_take] at hrl
      obtain ⟨v', h', p1, p2, p3, p4, p5⟩ := Sl.push (e := nE) (L := rowsOf (L.take i) k) (x := bordX L[i]) (c := .i .i64 (bordX L[i] : Int)) rfl hso hoo hgr.nx hc1 (by omega)
      simp (disch := omega) only [f73_r11, f73_r12, w_reg, seqK_n, atK_n, atK_e, loopK_n, x_nil, x_mv, x_as, x_bslice, x_bin, x_app, kx, rvP_ok, okv_some, ev_t, ev_c, getV_some, putD_some, bin_add, oGet_s, cells1_i, fill_1, set_1, of0, of1, getK_set, Nat.reduceEqDiff, ↓reduceIte, g5, g6, g7, p1, fw64]
      exact ⟨i + 1, by omega, v', hlt, by rw [hsn]; exact p2, p3, hgr.trans p4, by simp (disch := omega) only [getK_set, Nat.reduceEqDiff, ↓reduceIte, g0, g1, and_self, Int.natCast_add, Int.natCast_one]⟩
    · have e' : ¬ ((pop6 L[i] : Nat) : Int) = (k : Int) := by omega
      rw [if_neg e] at hsn
      simp (disch := omega) only [f73_r3, f73_r4, f73_r12, w_skip, w_reg, w_seq, w_cond, w_block, w_exit, seqK_n, seqK_e, atK_e, loopK_n, ckB_b, cbB_b, true_and, x_nil, x_mv, x_as, x_ld, x_bin, x_iads, x_call, x_len, kx, rvP_ok, okv_some, ev_t, ev_c, evs_nil, evs_cons, getV_some, putD_some, bin_add, bin_neq, bin_lss, of1, getK_set, Nat.reduceEqDiff, ↓reduceIte, g0, g1, g6, hs1.len, hlt', decide_true, hp1, hp2, nE, hp52 _ hx, e', ne_eq, not_false_eq_true, fw64]
      exact ⟨i + 1, by omega, o, hlt, by rw [hsn]; exact hso, hoo, hgr, by simp (disch := omega) only [getK_set, Nat.reduceEqDiff, ↓reduceIte, g0, g1, g5, and_self, Int.natCast_add, Int.natCast_one]⟩
  · obtain rfl : i = L.length := by omega
    have hlt' : ¬ (L.length : Int) < (L.length : Int) := by omega
    rw [List.take_length] at hso
    simp (disch := omega) only [f73_r3, f73_r13, f73_rs, w_reg, w_seq, w_cond, w_exit, w_ret, seqK_n, seqK_e, atK_e, loopK_e, ckB_b, cbB_b, true_and, retK_r, x_nil, x_mv, x_as, x_bin, x_len, kx, rvP_ok, okv_some, ev_t, getV_some, putD_some, bin_lss, oGet_s, readRs_nil, readRs_t, retV_1, Option.some.injEq, exists_eq_left', getK_set, Nat.reduceEqDiff, ↓reduceIte, Bool.false_eq_true, g0, g5, g6, hs1.len, hlt', decide_false]
    exact ⟨hso, hoo, hgr⟩
end
end Go.Ev
namespace Go.Ev
open Go Go.RowKit
noncomputable def f44_r0 : List EOper := [⟨(some (K.ofNat 4)), none, .as (.c .sn)⟩]
noncomputable def f44_r1 : List EOper := [⟨(some (K.ofNat 11)), none, .mv (.t (K.ofNat 0))⟩, ⟨(some (K.ofNat 12)), none, .mv (.t (K.ofNat 1))⟩, ⟨(some (K.ofNat 13)), none, .call (.c (.fn (K.ofNat 33) [])) [(.t (K.ofNat 11)), (.t (K.ofNat 12))]⟩, ⟨(some (K.ofNat 5)), none, .as (.t (K.ofNat 13))⟩]
noncomputable def f44_r2 : List EOper := [⟨(some (K.ofNat 14)), none, .mv (.t (K.ofNat 0))⟩, ⟨(some (K.ofNat 15)), none, .mv (.t (K.ofNat 1))⟩, ⟨(some (K.ofNat 16)), none, .call (.c (.fn (K.ofNat 31) [])) [(.t (K.ofNat 14)), (.t (K.ofNat 15))]⟩, ⟨(some (K.ofNat 17)), none, .len (.t (K.ofNat 16))⟩, ⟨(some (K.ofNat 18)), none, .bin .sub (.t (K.ofNat 17)) (.c (.i .i64 (.ofNat 1)))⟩, ⟨(some (K.ofNat 6)), none, .as (.t (K.ofNat 18))⟩]
noncomputable def f44_r3 : List EOper := [⟨(some (K.ofNat 7)), none, .as (.c .sn)⟩]
noncomputable def f44_r4 : List EOper := [⟨(some (K.ofNat 8)), none, .as (.c (.i .i64 (.ofNat 0)))⟩]
noncomputable def f44_r5 : List EOper := [⟨(some (K.ofNat 19)), none, .mv (.t (K.ofNat 8))⟩, ⟨(some (K.ofNat 20)), none, .mv (.t (K.ofNat 6))⟩, ⟨(some (K.ofNat 21)), none, .bin .lss (.t (K.ofNat 19)) (.t (K.ofNat 20))⟩]
noncomputable def f44_r6 : List EOper := [⟨(some (K.ofNat 24)), none, .mv (.t (K.ofNat 5))⟩, ⟨(some (K.ofNat 25)), none, .mv (.t (K.ofNat 8))⟩, ⟨(some (K.ofNat 26)), none, .bin .add (.t (K.ofNat 25)) (.c (.i .i64 (.ofNat 1)))⟩, ⟨(some (K.ofNat 27)), none, .call (.c (.fn (K.ofNat 73) [])) [(.t (K.ofNat 24)), (.t (K.ofNat 26))]⟩, ⟨(some (K.ofNat 28)), none, .mv (.t (K.ofNat 5))⟩, ⟨(some (K.ofNat 29)), none, .mv (.t (K.ofNat 8))⟩, ⟨(some (K.ofNat 30)), none, .bin .add (.t (K.ofNat 29)) (.c (.i .i64 (.ofNat 2)))⟩, ⟨(some (K.ofNat 31)), none, .call (.c (.fn (K.ofNat 73) [])) [(.t (K.ofNat 28)), (.t (K.ofNat 30))]⟩, ⟨(some (K.ofNat 9)), none, .as (.t (K.ofNat 27))⟩, ⟨(some (K.ofNat 10)), none, .as (.t (K.ofNat 31))⟩]
noncomputable def f44_r7 : List EOper := [⟨(some (K.ofNat 32)), none, .mv (.t (K.ofNat 7))⟩, ⟨(some (K.ofNat 33)), none, .mv (.t (K.ofNat 9))⟩, ⟨(some (K.ofNat 34)), none, .len (.t (K.ofNat 33))⟩, ⟨(some (K.ofNat 35)), none, .mv (.t (K.ofNat 9))⟩, ⟨(some (K.ofNat 36)), none, .call (.c (.fn (K.ofNat 74) [])) [(.t (K.ofNat 35))]⟩, ⟨(some (K.ofNat 37)), none, .bin .sub (.t (K.ofNat 34)) (.t (K.ofNat 36))⟩, ⟨(some (K.ofNat 38)), none, .mv (.t (K.ofNat 10))⟩, ⟨(some (K.ofNat 39)), none, .call (.c (.fn (K.ofNat 74) [])) [(.t (K.ofNat 38))]⟩, ⟨(some (K.ofNat 40)), none, .bin .sub (.t (K.ofNat 37)) (.t (K.ofNat 39))⟩, ⟨(some (K.ofNat 41)), none, .bslice 1 1 [(.i .i64 (.ofNat 0))] [(0, 1, (.t (K.ofNat 40)))]⟩, ⟨(some (K.ofNat 42)), none, .app 1 (.t (K.ofNat 32)) (.t (K.ofNat 41))⟩, ⟨(some (K.ofNat 7)), none, .as (.t (K.ofNat 42))⟩]
noncomputable def f44_r8 : List EOper := [⟨(some (K.ofNat 22)), none, .mv (.t (K.ofNat 8))⟩, ⟨(some (K.ofNat 23)), none, .bin .add (.t (K.ofNat 22)) (.c (.i .i64 (.ofNat 1)))⟩, ⟨(some (K.ofNat 8)), none, .as (.t (K.ofNat 23))⟩]
noncomputable def f44_l0 : EC := (.seq (.seq (.reg f44_r5) (.cond (.t (K.ofNat 21)) .skip (.exit 0))) (.seq (.block 1 (.seq (.reg f44_r6) (.reg f44_r7))) (.reg f44_r8)))
noncomputable def f44_r9 : List EOper := [⟨(some (K.ofNat 43)), none, .mv (.t (K.ofNat 7))⟩, ⟨(some (K.ofNat 4)), none, .as (.t (K.ofNat 43))⟩]
noncomputable def f44_c : EC := (.seq (.reg f44_r0) (.seq (.reg f44_r1) (.seq (.reg f44_r2) (.seq (.reg f44_r3) (.seq (.seq (.reg f44_r4) (.block 0 (.loop f44_l0))) (.seq (.reg f44_r9) .ret))))))
noncomputable def f44 : EF := ⟨44, [.tmp (K.ofNat 4)], f44_c, none⟩
theorem f44_rs : f44.rs = [.tmp (K.ofNat 4)] := of_eq_true (eq_self _)
noncomputable def f83_r0 : List EOper := [⟨(some (K.ofNat 2)), none, .as (.c (.i .i64 (.ofNat 0)))⟩]
noncomputable def f83_r1 : List EOper := [⟨(some (K.ofNat 3)), none, .as (.c (.i .i64 (.ofNat 0)))⟩]
noncomputable def f83_r2 : List EOper := [⟨(some (K.ofNat 6)), none, .mv (.t (K.ofNat 0))⟩, ⟨(some (K.ofNat 7)), none, .len (.t (K.ofNat 6))⟩, ⟨(some (K.ofNat 8)), none, .mv (.c (.i .i64 (.ofNat 0)))⟩]
noncomputable def f83_r3 : List EOper := [⟨(some (K.ofNat 9)), none, .bin .lss (.t (K.ofNat 8)) (.t (K.ofNat 7))⟩]
noncomputable def f83_r4 : List EOper := [⟨(some (K.ofNat 10)), none, .iads 1 (.t (K.ofNat 6)) (.t (K.ofNat 8))⟩, ⟨(some (K.ofNat 11)), none, .ld (.t (K.ofNat 10))⟩, ⟨(some (K.ofNat 5)), none, .as (.t (K.ofNat 11))⟩]
noncomputable def f83_r5 : List EOper := [⟨(some (K.ofNat 12)), none, .mv (.t (K.ofNat 3))⟩, ⟨(some (K.ofNat 13)), none, .mv (.t (K.ofNat 5))⟩, ⟨(some (K.ofNat 14)), none, .bin .or (.t (K.ofNat 12)) (.t (K.ofNat 13))⟩, ⟨(some (K.ofNat 3)), none, .as (.t (K.ofNat 14))⟩]
noncomputable def f83_r6 : List EOper := [⟨(some (K.ofNat 15)), none, .bin .add (.t (K.ofNat 8)) (.c (.i .i64 (.ofNat 1)))⟩, ⟨(some (K.ofNat 8)), none, .mv (.t (K.ofNat 15))⟩]
noncomputable def f83_l0 : EC := (.seq (.reg f83_r3) (.seq (.cond (.t (K.ofNat 9)) .skip (.exit 0)) (.seq (.block 1 (.seq (.reg f83_r4) (.reg f83_r5))) (.reg f83_r6))))
noncomputable def f83_r7 : List EOper := [⟨(some (K.ofNat 16)), none, .mv (.t (K.ofNat 3))⟩, ⟨(some (K.ofNat 2)), none, .as (.t (K.ofNat 16))⟩]
noncomputable def f83_c : EC := (.seq (.reg f83_r0) (.seq (.reg f83_r1) (.seq (.seq (.reg f83_r2) (.block 0 (.loop f83_l0))) (.seq (.reg f83_r7) .ret))))
noncomputable def f83 : EF := ⟨17, [.tmp (K.ofNat 2)], f83_c, none⟩
theorem f83_rs : f83.rs = [.tmp (K.ofNat 2)] := of_eq_true (eq_self _)
noncomputable def f65_r0 : List EOper := [⟨(some (K.ofNat 2)), none, .box 64 (.t (K.ofNat 0))⟩, ⟨(some (K.ofNat 3)), none, .box 1 (.t (K.ofNat 1))⟩, ⟨(some (K.ofNat 4)), none, .alloc 64 (List.replicate 64 (.b false))⟩]
noncomputable def f65_r1 : List EOper := [⟨(some (K.ofNat 5)), none, .alloc 64 (List.replicate 64 (.b false))⟩]
noncomputable def f65_r2 : List EOper := [⟨(some (K.ofNat 7)), none, .ldn 64 (.t (K.ofNat 2))⟩, ⟨(some (K.ofNat 8)), none, .call (.c (.fn (K.ofNat 78) [])) [(.t (K.ofNat 7))]⟩]
noncomputable def f65_r3 : List EOper := [⟨(some (K.ofNat 6)), none, .as (.t (K.ofNat 9))⟩]
noncomputable def f65_a0 : EC := (.reg f65_r3)
noncomputable def f65_r4 : List EOper := [⟨(some (K.ofNat 10)), none, .mv (.t (K.ofNat 6))⟩, ⟨(some (K.ofNat 11)), none, .mv (.t (K.ofNat 6))⟩, ⟨(some (K.ofNat 12)), none, .ld (.t (K.ofNat 3))⟩, ⟨(some (K.ofNat 13)), none, .bin .and (.t (K.ofNat 11)) (.t (K.ofNat 12))⟩, ⟨(some (K.ofNat 14)), none, .bin .eql (.t (K.ofNat 13)) (.c (.i .i64 (.ofNat 0)))⟩, ⟨(some (K.ofNat 15)), none, .mv (.t (K.ofNat 14))⟩, ⟨(some (K.ofNat 16)), (some ((K.ofNat 15), true)), .mv (.t (K.ofNat 6))⟩, ⟨(some (K.ofNat 17)), (some ((K.ofNat 15), true)), .ld (.t (K.ofNat 3))⟩, ⟨(some (K.ofNat 18)), (some ((K.ofNat 15), true)), .bslice 2 1 [(.i .i64 (.ofNat 0)), (.i .i64 (.ofNat 0))] [(0, 1, (.t (K.ofNat 16))), (1, 1, (.t (K.ofNat 17)))]⟩, ⟨(some (K.ofNat 19)), (some ((K.ofNat 15), true)), .call (.c (.fn (K.ofNat 83) [])) [(.t (K.ofNat 18))]⟩, ⟨(some (K.ofNat 20)), (some ((K.ofNat 15), true)), .iadr 64 1 (.t (K.ofNat 2)) (.t (K.ofNat 19))⟩, ⟨(some (K.ofNat 21)), (some ((K.ofNat 15), true)), .ld (.t (K.ofNat 20))⟩, ⟨(some (K.ofNat 22)), none, .pick (.t (K.ofNat 15)) (.t (K.ofNat 21)) (.c (.b false))⟩, ⟨(some (K.ofNat 23)), none, .iadr 64 1 (.t (K.ofNat 5)) (.t (K.ofNat 10))⟩, ⟨none, none, .st 1 (.t (K.ofNat 23)) (.t (K.ofNat 22))⟩]
noncomputable def f65_b0 : EC := (.block 1 (.reg f65_r4))
noncomputable def f65_r5 : List EOper := [⟨(some (K.ofNat 24)), none, .ldn 64 (.t (K.ofNat 5))⟩, ⟨none, none, .st 64 (.t (K.ofNat 4)) (.t (K.ofNat 24))⟩]
noncomputable def f65_c : EC := (.seq (.reg f65_r0) (.seq (.reg f65_r1) (.seq (.seq (.reg f65_r2) (.block 0 (.rangeF (.t (K.ofNat 8)) [(K.ofNat 9)] f65_a0 f65_b0))) (.seq (.reg f65_r5) .ret))))
noncomputable def f65 : EF := ⟨25, [.celln (K.ofNat 4) 64], f65_c, none⟩
theorem f65_rs : f65.rs = [.celln (K.ofNat 4) 64] := of_eq_true (eq_self _)
section
variable {fs : T EF} {ro : Option K}
noncomputable def rhv (l : List Nat) (k : Nat) : Int := fw .i64 (fw .i64 (((rowsOf l (k + 1)).length : Int) - (rankS (rowsOf l (k + 1)) : Int)) - (rankS (rowsOf l (k + 2)) : Int))
noncomputable def rhTo (l : List Nat) (i : Nat) : List Int := (List.range i).map (rhv l)
theorem rhTo_succ {l : List Nat} {i : Nat} : rhTo l (i + 1) = rhTo l i ++ [rhv l i] := by unfold rhTo; rw [List.range_succ, List.map_append]; rfl
def f44_I (hb : H) (u : V) (l : List Nat) (d : Nat) (i : Nat) (fr : Fr) (h1 : H) : Prop := ∃ o, i ≤ d ∧ Sl iE h1 o (rhTo l i) ∧ Own hb.nx.nat o ∧ Grow hb.nx.nat hb h1 ∧ fr.get (K.ofNat 5) = some (u) ∧ fr.get (K.ofNat 6) = some (.i .i64 (d : Int)) ∧ fr.get (K.ofNat 7) = some (o) ∧ fr.get (K.ofNat 8) = some (.i .i64 (i : Int))
theorem facTo_N {S : List Int} {m : Nat} : facTo S m = (facN S m).map fun (k : Nat) => (k : Int) := rfl
theorem f44_ret {h : H} {v : V} {S : List Int} {n : Int} (hp : ∀ a b h P, CallP fs (.fn (K.ofNat 53) []) [.i .i64 a, .i .i64 b] h P = P (.b (ptI a b)) h)
    (hp52 : ∀ m : Nat, m < 64 → ∀ h P, CallP fs (.fn (K.ofNat 52) []) [.i .i64 (m : Int)] h P = P (.i .i64 (pop6 m : Int)) h)
    (h45 : fs.get (K.ofNat 45) = some f45) (h33 : fs.get (K.ofNat 33) = some f33) (h31 : fs.get (K.ofNat 31) = some f31) (h73 : fs.get (K.ofNat 73) = some f73) (h74 : fs.get (K.ofNat 74) = some f74) (hv : Sl iE h v S) (hc : HC h) (hS : S.length ≤ 1000) (hsets : Sets S) (hn1 : 1 ≤ n) (hn6 : n ≤ 6)
    (hsz : ∀ k ∈ facN S (2 ^ n.toNat), pop6 k ≤ maxS S) :
    Ret fs f44 [.i .i64 n, v] h fun u h' => Sl iE h' u (rhTo (facN S (2 ^ n.toNat)) (maxS S)) ∧ Own h.nx.nat u ∧ Grow h.nx.nat h h' := by
  apply ret_of rfl
  show W fs none f44_c _ _ _
  unfold f44_c
  obtain ⟨hpw, hpe⟩ := pow_n hn1 hn6
  have hms := maxS_le S
  simp (disch := omega) only [f44_r0, f44_r1, w_reg, w_seq, seqK_n, x_nil, x_mv, x_as, x_call, ev_t, ev_c, evs_nil, evs_cons, getV_some, putD_some, frame_2, getK_set, Nat.reduceEqDiff, ↓reduceIte]
  refine (callP_0 (ef := f33) h33 rfl (f33_ret (n := n) hp h45 hv hc (by omega) hn1 hn6)).mono ?_
  rintro u h1 ⟨hsu, hou, gr1⟩
  have hc1 := gr1.hc hc
  simp (disch := omega) only [f44_r2, w_reg, w_seq, seqK_n, x_nil, x_mv, x_as, x_call, kx, ev_t, ev_c, evs_nil, evs_cons, getV_some, putD_some, of1, getK_set, Nat.reduceEqDiff, ↓reduceIte]
  refine (callP_0 (ef := f31) h31 rfl (f31_ret (n := n) hp hp52 h45 h33 (hv.grow hc gr1) hc1 hS hsets hn1 hn6 hsz)).mono ?_
  rintro w h2 ⟨hsw, how, gr2⟩
  have hc2 := gr2.hc hc1
  have hd1 : fw .i64 (((maxS S + 1 : Nat) : Int) - 1) = (maxS S : Int) := by rw [fw64 (by omega) (by omega)]; omega
  have hlw := hsw.len h2
  rw [rcnt_len] at hlw
  have hsu2 := hsu.grow hc1 gr2
  rw [facTo_N] at hsu2
  have hsn : Sl nE h2 u (facN S (2 ^ n.toNat)) := hsu2.unmap
  have hlt64 : ∀ x ∈ facN S (2 ^ n.toNat), x < 64 := fun x hx => by
    unfold facN at hx
    rw [List.mem_filter, List.mem_range] at hx
    omega
  have hl64 : (facN S (2 ^ n.toNat)).length ≤ 64 := by
    unfold facN
    exact Nat.le_trans (List.length_filter_le _ _) (by simp; omega)
  generalize facN S (2 ^ n.toNat) = l at *
  generalize maxS S = d at *
  simp (disch := omega) only [f44_r3, f44_r4, w_reg, w_seq, w_block, seqK_n, x_nil, x_as, x_bin, x_len, kx, rvP_ok, okv_some, ev_t, ev_c, getV_some, putD_some, bin_sub, of0, getK_set, ↓reduceIte, hlw, hd1]
  refine W_loop (f44_I h2 u l d) (fun i => d - i) ?_ 0 ⟨.sn, Nat.zero_le _, Sl.nil, Own.sn, Grow.refl _ _, by simp (disch := omega) only [getK_set, Nat.reduceEqDiff, ↓reduceIte, and_self, Int.natCast_zero]⟩
  rintro i fr h3 ⟨o, hi, hso, hoo, hgr, g5, g6, g7, g8⟩
  have hc3 := hgr.hc hc2
  have hsu3 := hsn.grow hc2 hgr
  unfold f44_l0
  by_cases hlt : i < d
  · have hlt' : (i : Int) < (d : Int) := by omega
    have a1 : fw .i64 ((i : Int) + 1) = ((i + 1 : Nat) : Int) := by rw [fw64 (by omega) (by omega)]; omega
    have a2 : fw .i64 ((i : Int) + 2) = ((i + 2 : Nat) : Int) := by rw [fw64 (by omega) (by omega)]; omega
    simp (disch := omega) only [f44_r5, f44_r6, w_skip, w_reg, w_seq, w_cond, w_block, seqK_n, ckB_b, cbB_b, true_and, x_nil, x_mv, x_bin, x_call, kx, rvP_ok, okv_some, ev_t, ev_c, evs_nil, evs_cons, getV_some, putD_some, bin_add, bin_lss, of1, of2, getK_set, Nat.reduceEqDiff, ↓reduceIte, g5, g6, g8, hlt', decide_true, a1]
    refine (callP_0 (ef := f73) h73 rfl (f73_ret (k := i + 1) hp52 hsu3 hlt64 hc3 (by omega))).mono ?_
    rintro w1 h4 ⟨s1, o1, gr4⟩
    have hc4 := gr4.hc hc3
    simp (disch := omega) only [x_mv, x_bin, x_call, kx, rvP_ok, okv_some, ev_t, ev_c, evs_nil, evs_cons, getV_some, putD_some, bin_add, getK_set, Nat.reduceEqDiff, ↓reduceIte, g5, g8, a2]
    refine (callP_0 (ef := f73) h73 rfl (f73_ret (k := i + 2) hp52 (hsu3.grow hc3 gr4) hlt64 hc4 (by omega))).mono ?_
    rintro w2 h5 ⟨s2, o2, gr5⟩
    have hc5 := gr5.hc hc4
    have s1' := s1.grow hc4 gr5
    have hr1 := rowsOf_len (l := l) (k := i + 1)
    have hr2 := rowsOf_len (l := l) (k := i + 2)
    simp (disch := omega) only [f44_r7, w_reg, seqK_n, x_nil, x_mv, x_as, x_call, x_len, kx, rvP_ok, ev_t, ev_c, evs_nil, evs_cons, getV_some, putD_some, of0, getK_set, Nat.reduceEqDiff, ↓reduceIte, g7, s1'.len]
    refine (callP_0 (ef := f74) h74 rfl (f74_ret s1' (rows_small hlt64) hc5 (by omega))).mono ?_
    rintro u1 h6 ⟨rfl, gr6⟩
    have hc6 := gr6.hc hc5
    simp (disch := omega) only [x_mv, x_bin, x_call, kx, rvP_ok, okv_some, ev_t, ev_c, evs_nil, evs_cons, getV_some, putD_some, bin_sub, getK_set, Nat.reduceEqDiff, ↓reduceIte]
    refine (callP_0 (ef := f74) h74 rfl (f74_ret (s2.grow hc5 gr6) (rows_small hlt64) hc6 (by omega))).mono ?_
    rintro u2 h7 ⟨rfl, gr7⟩
    have hc7 := gr7.hc hc6
    have ga := gr4.nx; have gb := gr5.nx; have gc := gr6.nx
    have gg : Grow h3.nx.nat h3 h7 := ((gr4.trans (gr5.low (by omega))).trans (gr6.low (by omega))).trans (gr7.low (by omega))
    have hlen : (rhTo l i).length = i := by simp [rhTo]
    have hval : fw .i64 (fw .i64 (((rowsOf l (i + 1)).length : Int) - (rankS (rowsOf l (i + 1)) : Int)) - (rankS (rowsOf l (i + 2)) : Int)) = rhv l i := rfl
    obtain ⟨v', h', p1, p2, p3, p4, p5⟩ := Sl.push (e := iE) (L := rhTo l i) (x := rhv l i) (c := .i .i64 (rhv l i)) rfl (hso.grow hc3 gg) hoo (Nat.le_trans hgr.nx gg.nx) hc7 (by omega)
    simp (disch := omega) only [f44_r8, w_reg, seqK_n, atK_n, loopK_n, x_nil, x_mv, x_as, x_bslice, x_bin, x_app, kx, rvP_ok, okv_some, ev_t, ev_c, getV_some, putD_some, bin_add, bin_sub, oGet_s, cells1_i, fill_1, set_1, of1, getK_set, Nat.reduceEqDiff, ↓reduceIte, g8, hval, p1, a1]
    exact ⟨i + 1, by omega, v', hlt, by rw [rhTo_succ]; exact p2, p3, (hgr.trans (gg.low hgr.nx)).trans p4, by simp (disch := omega) only [getK_set, Nat.reduceEqDiff, ↓reduceIte, g5, g6, and_self, Int.natCast_add, Int.natCast_one]⟩
  · obtain rfl : i = d := by omega
    have hlt' : ¬ (i : Int) < (i : Int) := by omega
    simp (disch := omega) only [f44_r5, f44_r9, f44_rs, w_reg, w_seq, w_cond, w_exit, w_ret, seqK_n, seqK_e, atK_e, loopK_e, ckB_b, cbB_b, true_and, retK_r, x_nil, x_mv, x_as, x_bin, kx, rvP_ok, okv_some, ev_t, getV_some, putD_some, bin_lss, oGet_s, readRs_nil, readRs_t, retV_1, Option.some.injEq, exists_eq_left', getK_set, Nat.reduceEqDiff, ↓reduceIte, Bool.false_eq_true, g6, g7, g8, hlt', decide_false]
    have := gr1.nx; have := gr2.nx
    exact ⟨hso, hoo.low (by omega), (gr1.trans (gr2.low (by omega))).trans (hgr.low (by omega))⟩
/-- All of them together. -/
def joinS (L : List Nat) : Nat := L.foldl (fun s x => s ||| x) 0
theorem joinS_snoc {L : List Nat} {x : Nat} : joinS (L ++ [x]) = joinS L ||| x := by unfold joinS; rw [List.foldl_append]; rfl
theorem joinS_lt : ∀ {L : List Nat}, Small L → joinS L < 9223372036854775808 := by
  intro L
  refine snoc_ind (P := fun L => Small L → joinS L < 9223372036854775808) (fun _ => by unfold joinS; simp) (fun l x ih h => ?_) L
  rw [joinS_snoc]
  exact Nat.or_lt_two_pow (n := 63) (ih fun y hy => h y (List.mem_append_left _ hy)) (h x (by simp))
def f83_I (h : H) (v : V) (L : List Nat) (i : Nat) (fr : Fr) (h1 : H) : Prop := h1 = h ∧ i ≤ L.length ∧ fr.get (K.ofNat 3) = some (.i .i64 (joinS (L.take i) : Int)) ∧ fr.get (K.ofNat 6) = some (v) ∧ fr.get (K.ofNat 7) = some (.i .i64 (L.length : Int)) ∧ fr.get (K.ofNat 8) = some (.i .i64 (i : Int))
theorem f83_ret {h : H} {v : V} {L : List Nat} (hs : Sl nE h v L) (hsm : Small L) (hn : L.length ≤ 1000) :
    Ret fs f83 [v] h fun u h' => u = .i .i64 (joinS L : Int) ∧ h' = h := by
  apply ret_of rfl
  show W fs none f83_c _ _ _
  unfold f83_c
  simp (disch := omega) only [f83_r0, f83_r1, f83_r2, w_reg, w_seq, w_block, seqK_n, x_nil, x_mv, x_as, x_len, kx, rvP_ok, ev_t, ev_c, getV_some, putD_some, frame_1, of0, getK_set, Nat.reduceEqDiff, ↓reduceIte, hs.len]
  refine W_loop (f83_I h v L) (fun i => L.length - i) ?_ 0 ⟨rfl, Nat.zero_le _, by simp (disch := omega) only [Option.some.injEq, getK_set, Nat.reduceEqDiff, ↓reduceIte, and_self, Int.natCast_zero, List.take_zero]; simp [joinS]⟩
  rintro i fr h1 ⟨rfl, hi, g3, g6, g7, g8⟩
  unfold f83_l0
  by_cases hlt : i < L.length
  · have hlt' : (i : Int) < (L.length : Int) := by omega
    obtain ⟨q, hp1, hp2⟩ := hs.at i hlt
    have hx := hsm.at hlt
    have hj : joinS (L.take i) < 9223372036854775808 := joinS_lt fun y hy => hsm y (List.mem_of_mem_take hy)
    have hn : joinS (L.take (i + 1)) = joinS (L.take i) ||| L[i] := by rw [List.take_succ_eq_append_getElem hlt, joinS_snoc]
    simp (disch := omega) only [f83_r3, f83_r4, f83_r5, f83_r6, w_skip, w_reg, w_seq, w_cond, w_block, seqK_n, atK_n, loopK_n, ckB_b, cbB_b, true_and, x_nil, x_mv, x_as, x_ld, x_bin, x_iads, kx, rvP_ok, okv_some, ev_t, ev_c, getV_some, putD_some, bin_add, bin_lss, of1, getK_set, Nat.reduceEqDiff, ↓reduceIte, g3, g6, g7, g8, hlt', decide_true, hp1, hp2, nE, or_n hj hx, fw64]
    exact ⟨i + 1, by omega, rfl, hlt, by rw [hn]; simp (disch := omega) only [getK_set, Nat.reduceEqDiff, ↓reduceIte, g6, g7, and_self, Int.natCast_add, Int.natCast_one]⟩
  · obtain rfl : i = L.length := by omega
    have hlt' : ¬ (L.length : Int) < (L.length : Int) := by omega
    rw [List.take_length] at g3
    simp (disch := omega) only [f83_r3, f83_r7, f83_rs, w_reg, w_seq, w_cond, w_exit, w_ret, seqK_n, seqK_e, atK_e, loopK_e, ckB_b, cbB_b, retK_r, x_nil, x_mv, x_as, x_bin, kx, rvP_ok, okv_some, ev_t, getV_some, putD_some, bin_lss, oGet_s, readRs_nil, readRs_t, retV_1, Option.some.injEq, exists_eq_left', getK_set, Nat.reduceEqDiff, ↓reduceIte, Bool.false_eq_true, g3, g7, g8, hlt', decide_false, and_self]
theorem out_st {h1 : H} {id4 : K} {F : Nat → Bool} {cs : List V} (hl : cs.length = 64) (e4 : h1.get id4 = .cells 64 cs) : storeV h1 64 (.p id4 0) (.agg (boolV F)) = .ok undefV (h1.put id4 (.cells 64 (boolV F))) := by
  rw [store_p e4 (cells64 boolV_len) (by omega)]
  congr 3
  rw [setMany_eq _ _ _ (by rw [boolV_len]; omega)]
  simp [boolV_len, hl]
theorem out_rd {h1 : H} {id4 : K} {F : Nat → Bool} : readP (h1.put id4 (.cells 64 (boolV F))) (.p id4 0) (many? 64) = some (.agg (boolV F)) := by
  show ((h1.put id4 (.cells 64 (boolV F))).get id4).onC none (fun n cs => many? 64 cs n 0) = _
  rw [get_put_same]
  show (bif Nat.ble (0 + 64) 64 then some (V.agg (takeN 64 (dropN 0 (boolV F)))) else none) = _
  rw [takeN_eq, dropN_eq, List.drop_zero, List.take_of_length_le (by rw [boolV_len]; exact Nat.le_refl _)]; rfl
theorem fill_2 {fr : Fr} {x y : EO} {z1 z2 : V} : fillE fr [z1, z2] [(0, 1, x), (1, 1, y)] = oGet (cellsN 1 (ev fr x)) none fun cs => oGet (cellsN 1 (ev fr y)) none fun ds => some (setMany (setMany [z1, z2] 0 cs) 1 ds) := of_eq_true (eq_self _)
theorem set_2 {z1 z2 a b : V} : setMany (setMany [z1, z2] 0 [a]) 1 [b] = [a, b] := of_eq_true (eq_self _)
theorem Sl.lit2 {α : Type} {e : α → V} {h : H} {x y : α} : Sl e (h.new (.cells (2 * 1) [e x, e y])) (.sl h.nx 0 2 1) [x, y] := by
  refine .inr ⟨h.nx, 0, 2 * 1, [e x, e y], rfl, get_new_same, rfl, by simp, fun i hi => ?_⟩
  have : i = 0 ∨ i = 1 := by simp at hi; omega
  rcases this with rfl | rfl <;> rfl
noncomputable def lk (B : Nat → Bool) (f x : Nat) : Bool := decide (x &&& f = 0) && B (x ||| f)
noncomputable def lkTo (B : Nat → Bool) (f j : Nat) (x : Nat) : Bool := decide (x ∈ (mem64 B).take j) && lk B f x
noncomputable def linkB (B : Nat → Bool) (f x : Nat) : Bool := decide (x ∈ mem64 B) && lk B f x
theorem lkTo_succ {B : Nat → Bool} {f j : Nat} (hj : j < (mem64 B).length) : arr (lkTo B f (j + 1)) 64 = (arr (lkTo B f j) 64).set (mem64 B)[j] (lk B f (mem64 B)[j]) := by
  rw [arr_set]
  apply arr_congr
  intro x hx
  unfold lkTo
  have hm : x ∈ (mem64 B).take (j + 1) ↔ x ∈ (mem64 B).take j ∨ x = (mem64 B)[j] := by rw [List.take_succ_eq_append_getElem hj, List.mem_append, List.mem_singleton]
  by_cases e : x = (mem64 B)[j]
  · rw [decide_eq_true (hm.2 (.inr e)), if_pos e, ← e, Bool.true_and]
  · have : (x ∈ (mem64 B).take (j + 1)) = (x ∈ (mem64 B).take j) := propext ⟨fun h => (hm.1 h).resolve_right e, fun h => hm.2 (.inl h)⟩
    simp only [this, if_neg e]
structure LnkI (b : Nat) (h : H) (B : Nat → Bool) (f : Nat) (id2 id3 id4 id5 idf idl : K) (A : Nat → Bool) (lb : Blk) (h1 : H) : Prop where
  gr : Grow b h h1
  e2 : h1.get id2 = .cells 64 (boolV B)
  e3 : h1.get id3 = .cells 1 [nE f]
  e4 : h1.get id4 = .cells 64 (List.replicate 64 (.b false))
  e5 : Ar V.b h1 id5 (arr A 64)
  ef : h1.get idf = .cells 64 (boolV B)
  el : h1.get idl = lb
  nx : idl.nat + 1 ≤ h1.nx.nat
  o2 : id2.nat < id3.nat
  o3 : id3.nat < id4.nat
  o4 : id4.nat < id5.nat
  o5 : id5.nat < idf.nat
  of : idf.nat < idl.nat
  ob : b ≤ id2.nat
section
variable {b : Nat} {h h1 h2 : H} {B A A' : Nat → Bool} {f : Nat} {id2 id3 id4 id5 idf idl : K} {lb : Blk}
theorem LnkI.loop (t : LnkI b h B f id2 id3 id4 id5 idf idl A lb h1) (lb' : Blk) : LnkI b h B f id2 id3 id4 id5 idf idl A lb' (h1.put idl lb') := by
  have := t.nx; have := t.o2; have := t.o3; have := t.o4; have := t.o5; have := t.of; have := t.ob
  exact ⟨t.gr.trans (Grow.put (by omega) (by omega) _), by rw [get_put_other (kNe (by omega))]; exact t.e2, by rw [get_put_other (kNe (by omega))]; exact t.e3, by rw [get_put_other (kNe (by omega))]; exact t.e4, t.e5.same (by rw [get_put_other (kNe (by omega))]), by rw [get_put_other (kNe (by omega))]; exact t.ef, get_put_same, t.nx, t.o2, t.o3, t.o4, t.o5, t.of, t.ob⟩
theorem LnkI.grow (t : LnkI b h B f id2 id3 id4 id5 idf idl A lb h1) (g : Grow h1.nx.nat h1 h2) : LnkI b h B f id2 id3 id4 id5 idf idl A lb h2 := by
  have := t.nx; have := t.o2; have := t.o3; have := t.o4; have := t.o5; have := t.of; have := t.ob; have := g.nx
  exact ⟨t.gr.trans (g.low (by omega)), by rw [g.old _ (by omega)]; exact t.e2, by rw [g.old _ (by omega)]; exact t.e3, by rw [g.old _ (by omega)]; exact t.e4, t.e5.same (by rw [g.old _ (by omega)]), by rw [g.old _ (by omega)]; exact t.ef, by rw [g.old _ (by omega)]; exact t.el, by omega, t.o2, t.o3, t.o4, t.o5, t.of, t.ob⟩
theorem LnkI.put (t : LnkI b h B f id2 id3 id4 id5 idf idl A lb h1) {cs : List V} (ha : Ar V.b (h1.put id5 (.cells 64 cs)) id5 (arr A' 64)) : LnkI b h B f id2 id3 id4 id5 idf idl A' lb (h1.put id5 (.cells 64 cs)) := by
  have := t.nx; have := t.o2; have := t.o3; have := t.o4; have := t.o5; have := t.of; have := t.ob
  exact ⟨t.gr.trans (Grow.put (by omega) (by omega) _), by rw [get_put_other (kNe (by omega))]; exact t.e2, by rw [get_put_other (kNe (by omega))]; exact t.e3, by rw [get_put_other (kNe (by omega))]; exact t.e4, ha, by rw [get_put_other (kNe (by omega)).symm]; exact t.ef, by rw [get_put_other (kNe (by omega)).symm]; exact t.el, t.nx, t.o2, t.o3, t.o4, t.o5, t.of, t.ob⟩
end
theorem f65_ret {h : H} {B : Nat → Bool} {f : Nat} (h78 : fs.get (K.ofNat 78) = some f78) (h91 : fs.get (K.ofNat 91) = some alF) (h83 : fs.get (K.ofNat 83) = some f83) (hf : f < 64) (hc : HC h) :
    Ret fs f65 [.agg (boolV B), .i .i64 (f : Int)] h fun u h' => u = .agg (boolV (linkB B f)) ∧ Grow h.nx.nat h h' := by
  apply ret_of rfl
  show W fs none f65_c _ _ _
  unfold f65_c
  have hcn : cellsN 1 (.i .i64 (f : Int)) = some [nE f] := rfl
  have g1 : Grow h.nx.nat h (h.new (.cells 64 (boolV B))) := Grow.new (Nat.le_refl _) _
  have n1 := nx_new h (.cells 64 (boolV B))
  have e2 : (h.new (.cells 64 (boolV B))).get h.nx = .cells 64 (boolV B) := get_new_same
  have ldA : ∀ h' : H, h'.get h.nx = .cells 64 (boolV B) → loadV h' (.p h.nx 0) (many? 64) = .ok (.agg (boolV B)) h' := fun h' e => by
    have hA : Ar V.b h' h.nx (arr B 64) := by unfold Ar; rw [arr_len, e]; rfl
    exact hA.ldn (n := 64) (by rw [arr_len])
  simp (disch := omega) only [f65_r0, f65_r1, w_reg, w_seq, seqK_n, x_nil, x_alloc, x_box, kx, rvP_ok, ev_t, getV_some, putD_some, oGet_s, frame_2, getK_set, Nat.reduceEqDiff, ↓reduceIte, cells64 (boolV_len (B := B)), hcn]
  generalize h.new (.cells 64 (boolV B)) = h1 at *
  have g2 : Grow h1.nx.nat h1 (h1.new (.cells 1 [nE f])) := Grow.new (Nat.le_refl _) _
  have n2 := nx_new h1 (.cells 1 [nE f])
  have e3 : (h1.new (.cells 1 [nE f])).get h1.nx = .cells 1 [nE f] := get_new_same
  rw [← g2.old _ (by omega)] at e2
  replace g1 := g1.trans (g2.low (by omega))
  generalize h1.new (.cells 1 [nE f]) = h2 at *
  have g3 : Grow h2.nx.nat h2 (h2.new (.cells 64 (List.replicate 64 (.b false)))) := Grow.new (Nat.le_refl _) _
  have n3 := nx_new h2 (.cells 64 (List.replicate 64 (.b false)))
  have e4 : (h2.new (.cells 64 (List.replicate 64 (.b false)))).get h2.nx = .cells 64 (List.replicate 64 (.b false)) := get_new_same
  rw [← g3.old _ (by omega)] at e2 e3
  replace g1 := g1.trans (g3.low (by omega))
  generalize h2.new (.cells 64 (List.replicate 64 (.b false))) = h3 at *
  have g4 : Grow h3.nx.nat h3 (h3.new (.cells 64 (List.replicate 64 (.b false)))) := Grow.new (Nat.le_refl _) _
  have n4 := nx_new h3 (.cells 64 (List.replicate 64 (.b false)))
  have e5 : (h3.new (.cells 64 (List.replicate 64 (.b false)))).get h3.nx = .cells 64 (List.replicate 64 (.b false)) := get_new_same
  rw [← g4.old _ (by omega)] at e2 e3 e4
  replace g1 := g1.trans (g4.low (by omega))
  generalize h3.new (.cells 64 (List.replicate 64 (.b false))) = h4 at *
  simp (disch := omega) only [f65_r2, x_ldn, x_call, kx, rvP_ok, ev_t, ev_c, evs_nil, evs_cons, getV_some, putD_some, getK_set, Nat.reduceEqDiff, ↓reduceIte, ldA h4 e2]
  refine (callP_0 (ef := f78) h78 rfl (f78_ret (boolV_len (B := B)))).mono ?_
  rintro u h5 ⟨rfl, rfl⟩
  simp (disch := omega) only [w_block, seqK_n, x_nil, kx, putD_some]
  have g5 : Grow h4.nx.nat h4 (h4.new (.cells 64 (boolV B))) := Grow.new (Nat.le_refl _) _
  have n5 := nx_new h4 (.cells 64 (boolV B))
  have ef : (h4.new (.cells 64 (boolV B))).get h4.nx = .cells 64 (boolV B) := get_new_same
  rw [← g5.old _ (by omega)] at e2 e3 e4 e5
  replace g1 := g1.trans (g5.low (by omega))
  generalize h4.new (.cells 64 (boolV B)) = h5 at *
  generalize hfr1 : T.set (K.ofNat 8) (V.fn (K.ofNat 91) [V.p h4.nx 0]) _ = fr1
  have f8 : fr1.get (K.ofNat 8) = some (.fn (K.ofNat 91) [.p h4.nx 0]) := by rw [← hfr1]; simp (disch := omega) only [getK_set, ↓reduceIte]
  have f2 : fr1.get (K.ofNat 2) = some (.p h.nx 0) := by rw [← hfr1]; simp (disch := omega) only [getK_set, Nat.reduceEqDiff, ↓reduceIte]
  have f3 : fr1.get (K.ofNat 3) = some (.p h1.nx 0) := by rw [← hfr1]; simp (disch := omega) only [getK_set, Nat.reduceEqDiff, ↓reduceIte]
  have f4 : fr1.get (K.ofNat 4) = some (.p h2.nx 0) := by rw [← hfr1]; simp (disch := omega) only [getK_set, Nat.reduceEqDiff, ↓reduceIte]
  have f5 : fr1.get (K.ofNat 5) = some (.p h3.nx 0) := by rw [← hfr1]; simp (disch := omega) only [getK_set, Nat.reduceEqDiff, ↓reduceIte]
  clear hfr1
  have hlen := ysOf_len (B := B)
  have n6 := nx_new h5 (rdyB fr1 [(K.ofNat 9)] f65_a0 f65_b0)
  have hnew : Grow h5.nx.nat h5 (h5.new (rdyB fr1 [(K.ofNat 9)] f65_a0 f65_b0)) := Grow.new (Nat.le_refl _) _
  have hz : (List.replicate 64 (V.b false)) = (arr (lkTo B f 0) 64).map V.b := by
    rw [show arr (lkTo B f 0) 64 = arr (fun _ => false) 64 from arr_congr fun k _ => by simp [lkTo]]
    rfl
  refine W_range (k := (K.ofNat 91)) (caps := [.p h4.nx 0]) (N := fun h => h.get h4.nx = .cells 64 (boolV B)) (ys := ysOf B) rfl (by simp (disch := omega) only [ev_t, getV_some, f8]) (all_yields h91 boolV_at)
    (fun j h6 => ∃ lb, LnkI h.nx.nat h B f h.nx h1.nx h2.nx h3.nx h4.nx h5.nx (lkTo B f j) lb h6) (fun _ _ => False) (fun i h6 ⟨lb, ht⟩ => ht.ef)
    ⟨_, g1.trans (hnew.low (by omega)), by rw [hnew.old _ (by omega)]; exact e2, by rw [hnew.old _ (by omega)]; exact e3, by rw [hnew.old _ (by omega)]; exact e4, by unfold Ar; rw [hnew.old _ (by omega), e5, arr_len, hz], by rw [hnew.old _ (by omega)]; exact ef, get_new_same, by omega, by omega, by omega, by omega, by omega, by omega, Nat.le_refl _⟩ ?_ ?_ (fun _ _ _ hf => hf.elim)
  · rintro j h6 hj ⟨lb, ht⟩ hrd
    have hj' : j < (mem64 B).length := by omega
    rw [ysOf_at hj]
    obtain rfl : lb = rdyB fr1 [(K.ofNat 9)] f65_a0 f65_b0 := ht.el.symm.trans hrd
    rw [show ∀ Q fr h, W fs (some h5.nx) f65_a0 Q fr h = X fs f65_r3 (Q .normal) fr h from fun _ _ _ => rfl]
    simp (disch := omega) only [f65_r3, rndA_n, x_nil, x_as, ev_t, getV_some, putD_some, getK_set, ↓reduceIte]
    refine ⟨ht.el, ?_⟩
    have ht7 := ht.loop (bsyB fr1 [(K.ofNat 9)] f65_a0 f65_b0)
    generalize h6.put h5.nx (bsyB fr1 [(K.ofNat 9)] f65_a0 f65_b0) = h7 at *
    have hc7 := ht7.gr.hc hc
    have hx64 := mem64_lt _ (List.getElem_mem hj')
    have hsn := lkTo_succ (f := f) hj'
    generalize (mem64 B)[j] = x at *
    have ld3 : ∀ h', LnkI h.nx.nat h B f h.nx h1.nx h2.nx h3.nx h4.nx h5.nx (lkTo B f j) (bsyB fr1 [(K.ofNat 9)] f65_a0 f65_b0) h' → loadV h' (.p h1.nx 0) one? = .ok (.i .i64 (f : Int)) h' := fun h' t => load_p t.e3 rfl
    rw [show ∀ Q fr h, W fs (some h5.nx) f65_b0 Q fr h = X fs f65_r4 (atK 1 Q .normal) fr h from fun _ _ _ => rfl]
    by_cases e : x &&& f = 0
    · have e' : ((x &&& f : Nat) : Int) = 0 := by omega
      have hjn : joinS [x, f] = x ||| f := by simp [joinS]
      have hxf : x ||| f < 64 := Nat.or_lt_two_pow (n := 6) hx64 hf
      have g8 : Grow h7.nx.nat h7 (h7.new (.cells (2 * 1) [nE x, nE f])) := Grow.new (Nat.le_refl _) _
      have ht8 := ht7.grow g8
      have hlv : lk B f x = B (x ||| f) := by simp [lk, e]
      simp (disch := omega) only [f65_r4, okG_b, asG_t, true_and, x_g, x_mv, x_bslice, x_ld, x_bin, x_call, kx, rvP_ok, okv_some, ev_t, ev_c, evs_nil, evs_cons, getV_some, putD_some, bin_eql, oGet_s, cells1_i, of0, getK_set, Nat.reduceEqDiff, ↓reduceIte, f3, ld3 _ ht7, and_n kmi (show x < 9223372036854775808 by omega) (show f < 9223372036854775808 by omega), e', decide_true, fill_2, set_2]
      refine (callP_0 (ef := f83) h83 rfl (f83_ret (L := [x, f]) (Sl.lit2 (e := nE)) (fun y hy => by simp at hy; omega) (by simp))).mono ?_
      rintro u h8 ⟨rfl, rfl⟩
      rw [show [nE x, nE f] = [V.i .i64 (x : Int), V.i .i64 (f : Int)] from rfl] at *
      generalize h7.new (.cells (2 * 1) [V.i .i64 (x : Int), V.i .i64 (f : Int)]) = h8 at *
      have hA2 : Ar V.b h8 h.nx (arr B 64) := by unfold Ar; rw [arr_len, ht8.e2]; rfl
      have hld := hA2.ld (i := x ||| f) (by rw [arr_len]; exact hxf)
      rw [arr_at] at hld
      obtain ⟨st1, st2⟩ := ht8.e5.st (i := x) (x := B (x ||| f)) (c := .b (B (x ||| f))) (by rw [arr_len]; exact hx64) rfl rfl
      rw [hlv] at hsn
      rw [← hsn, arr_len] at st1 st2
      simp (disch := omega) only [atK_n, okG_b, asG_t, true_and, rndK_n, x_nil, x_g, x_pick, x_ld, x_st, x_iadr, kx, rvP_ok, ev_t, ev_c, getV_some, putD_some, putD_none, pick_b, onP_p, idx_n, getK_set, Nat.reduceEqDiff, ↓reduceIte, f2, f5, hjn, hld, st1]
      exact ⟨(ht8.put st2).el, _, (ht8.put st2).loop _⟩
    · have e' : ¬ ((x &&& f : Nat) : Int) = 0 := by omega
      have hlv : lk B f x = false := by simp [lk, e]
      obtain ⟨st1, st2⟩ := ht7.e5.st (i := x) (x := false) (c := .b false) (by rw [arr_len]; exact hx64) rfl rfl
      rw [hlv] at hsn
      rw [← hsn, arr_len] at st1 st2
      simp (disch := omega) only [f65_r4, atK_n, okG_b, asG_t, true_and, rndK_n, x_nil, x_g, x_mv, x_pick, x_ld, x_st, x_bin, x_iadr, kx, rvP_ok, okv_some, ev_t, ev_c, getV_some, putD_some, putD_none, bin_eql, pick_b, onP_p, idx_n, of0, getK_set, Nat.reduceEqDiff, ↓reduceIte, Bool.false_eq_true, f3, f5, ld3 _ ht7, and_n kmi (show x < 9223372036854775808 by omega) (show f < 9223372036854775808 by omega), e', decide_false, st1]
      exact ⟨(ht7.put st2).el, _, (ht7.put st2).loop _⟩
  · rintro h6 ⟨lb, ht⟩
    have ht2 := ht.loop .dead
    rw [hlen, show lkTo B f (mem64 B).length = linkB B f by funext x; unfold lkTo linkB; rw [List.take_length]] at ht2
    generalize h6.put h5.nx .dead = h7 at *
    have l4 : h2.nx.nat < h7.nx.nat := by have := ht2.nx; omega
    have ldn5 : loadV h7 (.p h3.nx 0) (many? 64) = .ok (.agg (boolV (linkB B f))) h7 := ht2.e5.ldn (n := 64) (by rw [arr_len])
    simp (disch := omega) only [f65_r5, f65_rs, w_reg, w_seq, w_ret, seqK_n, atK_n, true_and, retK_r, x_nil, x_ldn, x_st, kx, rvP_ok, ev_t, getV_some, putD_some, putD_none, oGet_s, readRs_nil, readRs_n, retV_1, Option.some.injEq, exists_eq_left', getK_set, Nat.reduceEqDiff, ↓reduceIte, f4, f5, ldn5, out_st (List.length_replicate ..) ht2.e4, out_rd, true_and]
    exact ht2.gr.trans (Grow.put (by omega) l4 _)
end
end Go.Ev
namespace Go.Ev
open Go Go.RowKit
noncomputable def f27_r0 : List EOper := [⟨(some (K.ofNat 6)), none, .as (.c .sn)⟩, ⟨(some (K.ofNat 7)), none, .as (.c (.i .i64 (.ofNat 0)))⟩]
noncomputable def f27_r1 : List EOper := [⟨(some (K.ofNat 10)), none, .mv (.t (K.ofNat 0))⟩, ⟨(some (K.ofNat 11)), none, .mv (.t (K.ofNat 1))⟩, ⟨(some (K.ofNat 12)), none, .call (.c (.fn (K.ofNat 16) [])) [(.t (K.ofNat 10)), (.t (K.ofNat 11))]⟩, ⟨(some (K.ofNat 8)), none, .as (.t (K.ofNat 12))⟩]
noncomputable def f27_r2 : List EOper := [⟨(some (K.ofNat 13)), none, .mv (.t (K.ofNat 8))⟩, ⟨(some (K.ofNat 14)), none, .bin .neq (.t (K.ofNat 13)) (.c (.i .i64 (.ofNat 0)))⟩]
noncomputable def f27_r3 : List EOper := [⟨(some (K.ofNat 15)), none, .mv (.t (K.ofNat 8))⟩, ⟨(some (K.ofNat 6)), none, .as (.c .sn)⟩, ⟨(some (K.ofNat 7)), none, .as (.t (K.ofNat 15))⟩]
noncomputable def f27_r4 : List EOper := [⟨(some (K.ofNat 16)), none, .mv (.t (K.ofNat 1))⟩, ⟨(some (K.ofNat 17)), none, .call (.c (.fn (K.ofNat 55) [])) [(.t (K.ofNat 16))]⟩, ⟨(some (K.ofNat 9)), none, .alloc 64 (List.replicate 64 (.b false))⟩, ⟨none, none, .st 64 (.t (K.ofNat 9)) (.t (K.ofNat 17))⟩]
noncomputable def f27_r5 : List EOper := [⟨(some (K.ofNat 18)), none, .mv (.t (K.ofNat 2))⟩, ⟨(some (K.ofNat 19)), none, .bin .lss (.t (K.ofNat 18)) (.c (.i .i64 (.ofNat 0)))⟩, ⟨(some (K.ofNat 20)), none, .mv (.t (K.ofNat 19))⟩, ⟨(some (K.ofNat 21)), (some ((K.ofNat 20), false)), .mv (.t (K.ofNat 2))⟩, ⟨(some (K.ofNat 22)), (some ((K.ofNat 20), false)), .bin .geq (.t (K.ofNat 21)) (.c (.i .i64 (.ofNat 64)))⟩, ⟨(some (K.ofNat 23)), none, .pick (.t (K.ofNat 20)) (.c (.b true)) (.t (K.ofNat 22))⟩, ⟨(some (K.ofNat 24)), none, .mv (.t (K.ofNat 23))⟩, ⟨(some (K.ofNat 25)), (some ((K.ofNat 24), false)), .mv (.t (K.ofNat 2))⟩, ⟨(some (K.ofNat 26)), (some ((K.ofNat 24), false)), .iadr 64 1 (.t (K.ofNat 9)) (.t (K.ofNat 25))⟩, ⟨(some (K.ofNat 27)), (some ((K.ofNat 24), false)), .ld (.t (K.ofNat 26))⟩, ⟨(some (K.ofNat 28)), (some ((K.ofNat 24), false)), .not (.t (K.ofNat 27))⟩, ⟨(some (K.ofNat 29)), none, .pick (.t (K.ofNat 24)) (.c (.b true)) (.t (K.ofNat 28))⟩]
noncomputable def f27_r6 : List EOper := [⟨(some (K.ofNat 6)), none, .as (.c .sn)⟩, ⟨(some (K.ofNat 7)), none, .as (.c (.i .i64 (.ofNat 1)))⟩]
noncomputable def f27_r7 : List EOper := [⟨(some (K.ofNat 30)), none, .ldn 64 (.t (K.ofNat 9))⟩, ⟨(some (K.ofNat 31)), none, .mv (.t (K.ofNat 2))⟩, ⟨(some (K.ofNat 32)), none, .call (.c (.fn (K.ofNat 65) [])) [(.t (K.ofNat 30)), (.t (K.ofNat 31))]⟩, ⟨(some (K.ofNat 33)), none, .call (.c (.fn (K.ofNat 66) [])) [(.t (K.ofNat 32))]⟩, ⟨(some (K.ofNat 6)), none, .as (.t (K.ofNat 33))⟩, ⟨(some (K.ofNat 7)), none, .as (.c (.i .i64 (.ofNat 0)))⟩]
noncomputable def f27_c : EC := (.seq (.reg f27_r0) (.seq (.seq (.reg f27_r1) (.seq (.reg f27_r2) (.cond (.t (K.ofNat 14)) (.seq (.reg f27_r3) .ret) .skip))) (.seq (.reg f27_r4) (.seq (.seq (.reg f27_r5) (.cond (.t (K.ofNat 29)) (.seq (.reg f27_r6) .ret) .skip)) (.seq (.reg f27_r7) .ret)))))
noncomputable def f27 : EF := ⟨34, [.tmp (K.ofNat 6), .tmp (K.ofNat 7)], f27_c, none⟩
theorem f27_rs : f27.rs = [.tmp (K.ofNat 6), .tmp (K.ofNat 7)] := of_eq_true (eq_self _)
noncomputable def f68_r0 : List EOper := [⟨(some (K.ofNat 2)), none, .box 64 (.t (K.ofNat 0))⟩, ⟨(some (K.ofNat 4)), none, .alloc 64 (List.replicate 64 (.b false))⟩]
noncomputable def f68_r1 : List EOper := [⟨(some (K.ofNat 5)), none, .alloc 64 (List.replicate 64 (.b false))⟩]
noncomputable def f68_r2 : List EOper := [⟨(some (K.ofNat 8)), none, .mv (.t (K.ofNat 1))⟩, ⟨(some (K.ofNat 9)), none, .bin .shl (.c (.i .i64 (.ofNat 1))) (.t (K.ofNat 8))⟩, ⟨(some (K.ofNat 10)), none, .bin .sub (.t (K.ofNat 9)) (.c (.i .i64 (.ofNat 1)))⟩, ⟨(some (K.ofNat 6)), none, .as (.t (K.ofNat 10))⟩]
noncomputable def f68_r3 : List EOper := [⟨(some (K.ofNat 11)), none, .mv (.t (K.ofNat 6))⟩, ⟨(some (K.ofNat 12)), none, .bin .add (.t (K.ofNat 11)) (.c (.i .i64 (.ofNat 1)))⟩, ⟨(some (K.ofNat 13)), none, .mv (.c (.i .i64 (.ofNat 0)))⟩]
noncomputable def f68_r4 : List EOper := [⟨(some (K.ofNat 14)), none, .bin .lss (.t (K.ofNat 13)) (.t (K.ofNat 12))⟩]
noncomputable def f68_r5 : List EOper := [⟨(some (K.ofNat 15)), none, .mv (.t (K.ofNat 13))⟩, ⟨(some (K.ofNat 7)), none, .as (.t (K.ofNat 15))⟩]
noncomputable def f68_r6 : List EOper := [⟨(some (K.ofNat 16)), none, .mv (.t (K.ofNat 7))⟩, ⟨(some (K.ofNat 17)), none, .mv (.t (K.ofNat 6))⟩, ⟨(some (K.ofNat 18)), none, .mv (.t (K.ofNat 7))⟩, ⟨(some (K.ofNat 19)), none, .bin .andNot (.t (K.ofNat 17)) (.t (K.ofNat 18))⟩, ⟨(some (K.ofNat 20)), none, .iadr 64 1 (.t (K.ofNat 2)) (.t (K.ofNat 19))⟩, ⟨(some (K.ofNat 21)), none, .ld (.t (K.ofNat 20))⟩, ⟨(some (K.ofNat 22)), none, .not (.t (K.ofNat 21))⟩, ⟨(some (K.ofNat 23)), none, .iadr 64 1 (.t (K.ofNat 5)) (.t (K.ofNat 16))⟩, ⟨none, none, .st 1 (.t (K.ofNat 23)) (.t (K.ofNat 22))⟩]
noncomputable def f68_r7 : List EOper := [⟨(some (K.ofNat 24)), none, .bin .add (.t (K.ofNat 13)) (.c (.i .i64 (.ofNat 1)))⟩, ⟨(some (K.ofNat 13)), none, .mv (.t (K.ofNat 24))⟩]
noncomputable def f68_l0 : EC := (.seq (.reg f68_r4) (.seq (.cond (.t (K.ofNat 14)) .skip (.exit 0)) (.seq (.block 1 (.seq (.reg f68_r5) (.reg f68_r6))) (.reg f68_r7))))
noncomputable def f68_r8 : List EOper := [⟨(some (K.ofNat 25)), none, .ldn 64 (.t (K.ofNat 5))⟩, ⟨none, none, .st 64 (.t (K.ofNat 4)) (.t (K.ofNat 25))⟩]
noncomputable def f68_c : EC := (.seq (.reg f68_r0) (.seq (.reg f68_r1) (.seq (.reg f68_r2) (.seq (.seq (.reg f68_r3) (.block 0 (.loop f68_l0))) (.seq (.reg f68_r8) .ret)))))
noncomputable def f68 : EF := ⟨26, [.celln (K.ofNat 4) 64], f68_c, none⟩
theorem f68_rs : f68.rs = [.celln (K.ofNat 4) 64] := of_eq_true (eq_self _)
noncomputable def f28_r0 : List EOper := [⟨(some (K.ofNat 4)), none, .as (.c .sn)⟩, ⟨(some (K.ofNat 5)), none, .as (.c (.i .i64 (.ofNat 0)))⟩]
noncomputable def f28_r1 : List EOper := [⟨(some (K.ofNat 7)), none, .mv (.t (K.ofNat 0))⟩, ⟨(some (K.ofNat 8)), none, .mv (.t (K.ofNat 1))⟩, ⟨(some (K.ofNat 9)), none, .call (.c (.fn (K.ofNat 16) [])) [(.t (K.ofNat 7)), (.t (K.ofNat 8))]⟩, ⟨(some (K.ofNat 6)), none, .as (.t (K.ofNat 9))⟩]
noncomputable def f28_r2 : List EOper := [⟨(some (K.ofNat 10)), none, .mv (.t (K.ofNat 6))⟩, ⟨(some (K.ofNat 11)), none, .bin .neq (.t (K.ofNat 10)) (.c (.i .i64 (.ofNat 0)))⟩]
noncomputable def f28_r3 : List EOper := [⟨(some (K.ofNat 12)), none, .mv (.t (K.ofNat 6))⟩, ⟨(some (K.ofNat 4)), none, .as (.c .sn)⟩, ⟨(some (K.ofNat 5)), none, .as (.t (K.ofNat 12))⟩]
noncomputable def f28_r4 : List EOper := [⟨(some (K.ofNat 13)), none, .mv (.t (K.ofNat 1))⟩, ⟨(some (K.ofNat 14)), none, .call (.c (.fn (K.ofNat 55) [])) [(.t (K.ofNat 13))]⟩, ⟨(some (K.ofNat 15)), none, .mv (.t (K.ofNat 0))⟩, ⟨(some (K.ofNat 16)), none, .call (.c (.fn (K.ofNat 68) [])) [(.t (K.ofNat 14)), (.t (K.ofNat 15))]⟩, ⟨(some (K.ofNat 17)), none, .call (.c (.fn (K.ofNat 67) [])) [(.t (K.ofNat 16))]⟩, ⟨(some (K.ofNat 18)), none, .ext (.t (K.ofNat 17)) 0⟩, ⟨(some (K.ofNat 19)), none, .ext (.t (K.ofNat 17)) 1⟩, ⟨(some (K.ofNat 4)), none, .as (.t (K.ofNat 18))⟩, ⟨(some (K.ofNat 5)), none, .as (.t (K.ofNat 19))⟩]
noncomputable def f28_c : EC := (.seq (.reg f28_r0) (.seq (.seq (.reg f28_r1) (.seq (.reg f28_r2) (.cond (.t (K.ofNat 11)) (.seq (.reg f28_r3) .ret) .skip))) (.seq (.reg f28_r4) .ret)))
noncomputable def f28 : EF := ⟨20, [.tmp (K.ofNat 4), .tmp (K.ofNat 5)], f28_c, none⟩
theorem f28_rs : f28.rs = [.tmp (K.ofNat 4), .tmp (K.ofNat 5)] := of_eq_true (eq_self _)
section
variable {fs : T EF} {ro : Option K}
/-- Is it no face? -/
noncomputable def badF (B : Nat → Bool) (f : Int) : Bool := decide (f < 0) || (decide (64 ≤ f) || !B f.toNat)
theorem f27_ret {h : H} {v : V} {S : List Int} {n f : Int} (hp : ∀ a b h P, CallP fs (.fn (K.ofNat 54) []) [.i .i64 a, .i .i64 b] h P = P (.b (ptI a b)) h)
    (h16 : fs.get (K.ofNat 16) = some f16) (h55 : fs.get (K.ofNat 55) = some f55) (h78 : fs.get (K.ofNat 78) = some f78) (h91 : fs.get (K.ofNat 91) = some alF) (h83 : fs.get (K.ofNat 83) = some f83) (h65 : fs.get (K.ofNat 65) = some f65) (h66 : fs.get (K.ofNat 66) = some f66)
    (hv : Sl iE h v S) (hc : HC h) (hS : S.length ≤ 1000000) (e : chkS n S = 0) :
    Ret fs f27 [.i .i64 n, v, .i .i64 f] h fun r h' => ∃ u, r = .tup [u, .i .i64 (if badF (famB S) f = true then 1 else 0)] ∧ Sl iE h' u (if badF (famB S) f = true then [] else topsTo (linkB (famB S) f.toNat) 64) ∧ Own h.nx.nat u ∧ Grow h.nx.nat h h' := by
  apply ret_of rfl
  show W fs none f27_c _ _ _
  unfold f27_c
  simp (disch := omega) only [f27_r0, f27_r1, w_reg, w_seq, seqK_n, x_nil, x_mv, x_as, x_call, ev_t, ev_c, evs_nil, evs_cons, getV_some, putD_some, frame_3, of0, getK_set, Nat.reduceEqDiff, ↓reduceIte]
  refine (callP_0 (ef := f16) h16 rfl (f16_ret hp hv)).mono ?_
  rintro u h1 ⟨rfl, rfl⟩
  simp (disch := omega) only [f27_r2, f27_r4, w_skip, w_reg, w_seq, w_cond, seqK_n, ckB_b, cbB_b, true_and, x_nil, x_mv, x_as, x_bin, x_call, kx, rvP_ok, okv_some, ev_t, ev_c, evs_nil, evs_cons, getV_some, putD_some, bin_neq, of0, getK_set, Nat.reduceEqDiff, ↓reduceIte, Bool.false_eq_true, e, ne_eq, not_true_eq_false, decide_false]
  refine (callP_0 (ef := f55) h55 rfl (f55_ret (S := S) hp hv hc hS)).mono ?_
  rintro u h2 ⟨rfl, g2⟩
  rw [famB_list]
  have n2 := nx_new h2 (.cells 64 (List.replicate 64 (.b false)))
  have g3 : Grow h2.nx.nat h2 (h2.new (.cells 64 (List.replicate 64 (.b false)))) := Grow.new (Nat.le_refl _) _
  have e4 : (h2.new (.cells 64 (List.replicate 64 (.b false)))).get h2.nx = .cells 64 (List.replicate 64 (.b false)) := get_new_same
  have hst := out_st (F := famB S) (List.length_replicate ..) e4
  have gp : Grow h2.nx.nat (h2.new (.cells 64 (List.replicate 64 (.b false)))) ((h2.new (.cells 64 (List.replicate 64 (.b false)))).put h2.nx (.cells 64 (boolV (famB S)))) := Grow.put (Nat.le_refl _) (by omega) _
  have hA : Ar V.b ((h2.new (.cells 64 (List.replicate 64 (.b false)))).put h2.nx (.cells 64 (boolV (famB S)))) h2.nx (arr (famB S) 64) := by
    unfold Ar; rw [get_put_same, arr_len]; rfl
  simp (disch := omega) only [w_reg, w_seq, seqK_n, x_nil, x_alloc, x_st, kx, rvP_ok, ev_t, getV_some, putD_some, putD_none, getK_set, Nat.reduceEqDiff, ↓reduceIte, hst]
  have gg := g3.trans gp
  generalize (h2.new (.cells 64 (List.replicate 64 (.b false)))).put h2.nx (.cells 64 (boolV (famB S))) = h3 at *
  have ggr := g2.trans (gg.low g2.nx)
  by_cases b1 : f < 0
  · have hb : badF (famB S) f = true := by unfold badF; rw [decide_eq_true b1]; rfl
    simp (disch := omega) only [f27_r5, f27_r6, f27_rs, w_reg, w_seq, w_cond, w_ret, seqK_n, seqK_r, ckB_b, cbB_b, okG_b, asG_f, true_and, retK_r, x_nil, x_g, x_mv, x_as, x_pick, x_bin, kx, rvP_ok, okv_some, ev_t, ev_c, getV_some, putD_some, bin_lss, pick_b, oGet_s, readRs_nil, readRs_t, retV_2, of0, of1, of64, Option.some.injEq, exists_eq_left', getK_set, Nat.reduceEqDiff, ↓reduceIte, Bool.false_eq_true, Bool.not_true, b1, decide_true]
    rw [if_pos hb, if_pos hb]
    exact ⟨.sn, rfl, Sl.nil, Own.sn, ggr⟩
  · by_cases b2 : 64 ≤ f
    · have hb : badF (famB S) f = true := by unfold badF; rw [decide_eq_true b2]; simp
      simp (disch := omega) only [f27_r5, f27_r6, f27_rs, w_reg, w_seq, w_cond, w_ret, seqK_n, seqK_r, ckB_b, cbB_b, okG_b, asG_f, true_and, retK_r, x_nil, x_g, x_mv, x_as, x_pick, x_bin, kx, rvP_ok, okv_some, ev_t, ev_c, getV_some, putD_some, bin_lss, bin_geq, pick_b, oGet_s, readRs_nil, readRs_t, retV_2, of0, of1, of64, Option.some.injEq, exists_eq_left', getK_set, Nat.reduceEqDiff, ↓reduceIte, Bool.false_eq_true, Bool.not_true, Bool.not_false, b1, b2, decide_true, decide_false]
      rw [if_pos hb, if_pos hb]
      exact ⟨.sn, rfl, Sl.nil, Own.sn, ggr⟩
    · obtain ⟨k, rfl⟩ := Int.eq_ofNat_of_zero_le (show 0 ≤ f by omega)
      have hk : k < 64 := by omega
      have hld := hA.ld (i := k) (by rw [arr_len]; exact hk)
      rw [arr_at] at hld
      have hbf : badF (famB S) (k : Int) = !famB S k := by unfold badF; rw [decide_eq_false b1, decide_eq_false b2]; simp
      rw [hbf]
      cases b3 : famB S k
      · rw [b3] at hld
        simp (disch := omega) only [f27_r5, f27_r6, f27_rs, w_reg, w_seq, w_cond, w_ret, seqK_n, seqK_r, ckB_b, cbB_b, okG_b, asG_f, true_and, retK_r, x_nil, x_g, x_mv, x_as, x_pick, x_ld, x_bin, x_not, x_iadr, kx, rvP_ok, okv_some, ev_t, ev_c, getV_some, putD_some, bin_lss, bin_geq, pick_b, onB_b, onP_p, oGet_s, idx_n, readRs_nil, readRs_t, retV_2, of0, of1, of64, Option.some.injEq, exists_eq_left', getK_set, Nat.reduceEqDiff, ↓reduceIte, Bool.false_eq_true, Bool.not_false, b1, b2, decide_false, hld]
        exact ⟨.sn, rfl, Sl.nil, Own.sn, ggr⟩
      · rw [b3] at hld
        have ldn : loadV h3 (.p h2.nx 0) (many? 64) = .ok (.agg (boolV (famB S))) h3 := hA.ldn (n := 64) (by rw [arr_len])
        have hc3 := ggr.hc hc
        simp (disch := omega) only [f27_r5, f27_r7, w_skip, w_reg, w_seq, w_cond, seqK_n, ckB_b, cbB_b, okG_b, asG_f, true_and, x_nil, x_g, x_mv, x_pick, x_ld, x_ldn, x_bin, x_not, x_iadr, x_call, kx, rvP_ok, okv_some, ev_t, ev_c, evs_nil, evs_cons, getV_some, putD_some, bin_lss, bin_geq, pick_b, onB_b, onP_p, idx_n, of0, of64, getK_set, Nat.reduceEqDiff, ↓reduceIte, Bool.false_eq_true, Bool.not_true, Bool.not_false, b1, b2, decide_false, hld, ldn]
        refine (callP_0 (ef := f65) h65 rfl (f65_ret (B := famB S) (f := k) h78 h91 h83 hk hc3)).mono ?_
        rintro u h4 ⟨rfl, g4⟩
        simp (disch := omega) only [x_call, kx, ev_t, ev_c, evs_nil, evs_cons, getV_some, putD_some, getK_set, ↓reduceIte]
        refine (callP_0 (ef := f66) h66 rfl (f66_ret (B := linkB (famB S) k) hp h78 h91 (g4.hc hc3))).mono ?_
        rintro u h5 ⟨hs, ho, g5⟩
        simp (disch := omega) only [f27_rs, w_ret, seqK_n, retK_r, x_nil, x_as, kx, ev_t, ev_c, getV_some, putD_some, oGet_s, readRs_nil, readRs_t, retV_2, Option.some.injEq, exists_eq_left', getK_set, Nat.reduceEqDiff, ↓reduceIte]
        have := ggr.nx; have := g4.nx
        exact ⟨u, rfl, hs, ho.low (by omega), (ggr.trans (g4.low (by omega))).trans (g5.low (by omega))⟩
noncomputable def dualTo (B : Nat → Bool) (a i : Nat) (x : Nat) : Bool := decide (x < i) && !B (lessC a x)
theorem dualTo_succ {B : Nat → Bool} {a i : Nat} : arr (dualTo B a (i + 1)) 64 = (arr (dualTo B a i) 64).set i (!B (lessC a i)) := by
  rw [arr_set]
  apply arr_congr
  intro x hx
  unfold dualTo
  by_cases e : x = i
  · subst e; simp
  · have : decide (x < i + 1) = decide (x < i) := by rw [decide_eq_decide]; omega
    rw [this, if_neg e]
theorem less_le {a x : Nat} : lessC a x ≤ a := by
  show a ^^^ (a &&& x) ≤ a
  have : a ^^^ (a &&& x) = a &&& (a ^^^ (a &&& x)) := by
    apply Nat.eq_of_testBit_eq
    intro i
    simp only [Nat.testBit_xor, Nat.testBit_and]
    cases a.testBit i <;> cases x.testBit i <;> rfl
  rw [this]; exact Nat.and_le_left
def f68_I (h : H) (B : Nat → Bool) (id2 id4 id5 : K) (a : Nat) (i : Nat) (fr : Fr) (h1 : H) : Prop := i ≤ a + 1 ∧ Grow h.nx.nat h h1 ∧ h1.get id2 = .cells 64 (boolV B) ∧ h1.get id4 = .cells 64 (List.replicate 64 (.b false)) ∧ Ar V.b h1 id5 (arr (dualTo B a i) 64) ∧ fr.get (K.ofNat 2) = some (.p id2 0) ∧ fr.get (K.ofNat 4) = some (.p id4 0) ∧ fr.get (K.ofNat 5) = some (.p id5 0) ∧ fr.get (K.ofNat 6) = some (.i .i64 (a : Int)) ∧ fr.get (K.ofNat 12) = some (.i .i64 ((a + 1 : Nat) : Int)) ∧ fr.get (K.ofNat 13) = some (.i .i64 (i : Int))
noncomputable def dualB (B : Nat → Bool) (a : Nat) : Nat → Bool := dualTo B a (a + 1)
theorem sub_n {n : Int} (h1 : 1 ≤ n) (h6 : n ≤ 6) : fw .i64 ((2 : Int) ^ n.toNat - 1) = ((2 ^ n.toNat - 1 : Nat) : Int) ∧ 2 ^ n.toNat - 1 < 64 := by
  have : n = 1 ∨ n = 2 ∨ n = 3 ∨ n = 4 ∨ n = 5 ∨ n = 6 := by omega
  rcases this with rfl | rfl | rfl | rfl | rfl | rfl <;> exact ⟨rfl, by decide⟩
theorem f68_ret {h : H} {B : Nat → Bool} {n : Int} (hc : HC h) (hn1 : 1 ≤ n) (hn6 : n ≤ 6) :
    Ret fs f68 [.agg (boolV B), .i .i64 n] h fun u h' => u = .agg (boolV (dualB B (2 ^ n.toNat - 1))) ∧ Grow h.nx.nat h h' := by
  apply ret_of rfl
  show W fs none f68_c _ _ _
  unfold f68_c
  obtain ⟨hsub, ha⟩ := sub_n hn1 hn6
  generalize 2 ^ n.toNat - 1 = a at *
  have g1 : Grow h.nx.nat h (h.new (.cells 64 (boolV B))) := Grow.new (Nat.le_refl _) _
  have n1 := nx_new h (.cells 64 (boolV B))
  have e2 : (h.new (.cells 64 (boolV B))).get h.nx = .cells 64 (boolV B) := get_new_same
  have a1 : fw .i64 ((a : Int) + 1) = ((a + 1 : Nat) : Int) := by rw [fw64 (by omega) (by omega)]; omega
  simp (disch := omega) only [f68_r0, f68_r1, f68_r2, f68_r3, w_reg, w_seq, w_block, seqK_n, x_nil, x_mv, x_as, x_alloc, x_box, x_bin, kx, rvP_ok, okv_some, ev_t, ev_c, getV_some, putD_some, bin_add, bin_sub, oGet_s, frame_2, of0, of1, getK_set, Nat.reduceEqDiff, ↓reduceIte, cells64 (boolV_len (B := B)), bin_shl, shl_n, hsub, a1]
  generalize h.new (.cells 64 (boolV B)) = h1 at *
  have g3 : Grow h1.nx.nat h1 (h1.new (.cells 64 (List.replicate 64 (.b false)))) := Grow.new (Nat.le_refl _) _
  have n3 := nx_new h1 (.cells 64 (List.replicate 64 (.b false)))
  have e4 : (h1.new (.cells 64 (List.replicate 64 (.b false)))).get h1.nx = .cells 64 (List.replicate 64 (.b false)) := get_new_same
  rw [← g3.old _ (by omega)] at e2
  replace g1 := g1.trans (g3.low (by omega))
  generalize h1.new (.cells 64 (List.replicate 64 (.b false))) = h3 at *
  have g4 : Grow h3.nx.nat h3 (h3.new (.cells 64 (List.replicate 64 (.b false)))) := Grow.new (Nat.le_refl _) _
  have n4 := nx_new h3 (.cells 64 (List.replicate 64 (.b false)))
  have e5 : (h3.new (.cells 64 (List.replicate 64 (.b false)))).get h3.nx = .cells 64 (List.replicate 64 (.b false)) := get_new_same
  rw [← g4.old _ (by omega)] at e2 e4
  replace g1 := g1.trans (g4.low (by omega))
  generalize h3.new (.cells 64 (List.replicate 64 (.b false))) = h4 at *
  have hz : (List.replicate 64 (V.b false)) = (arr (dualTo B a 0) 64).map V.b := by
    rw [show arr (dualTo B a 0) 64 = arr (fun _ => false) 64 from arr_congr fun k _ => by simp [dualTo]]
    rfl
  refine W_loop (f68_I h B h.nx h1.nx h3.nx a) (fun i => a + 1 - i) ?_ 0 ⟨Nat.zero_le _, g1, e2, e4, by unfold Ar; rw [e5, arr_len, hz], by simp (disch := omega) only [getK_set, Nat.reduceEqDiff, ↓reduceIte, and_self, Int.natCast_zero]⟩
  have l5 : h3.nx.nat < h4.nx.nat := by omega
  have l4 : h1.nx.nat < h4.nx.nat := by omega
  have d1 : h1.nx ≠ h3.nx := kNe (by omega)
  have d2 : h.nx ≠ h3.nx := kNe (by omega)
  have b5 : h.nx.nat ≤ h3.nx.nat := by omega
  have b4 : h.nx.nat ≤ h1.nx.nat := by omega
  clear e2 e4 e5 hz g1 g3 g4 n1 n3
  generalize h1.nx = id4 at *
  generalize h3.nx = id5 at *
  rintro i fr h6 ⟨hi, hgr, e2, e4, e5, g2, g4, g5, g6, g12, g13⟩
  have hc6 := hgr.hc hc
  unfold f68_l0
  by_cases hlt : i < a + 1
  · have hlt' : (i : Int) < ((a + 1 : Nat) : Int) := by omega
    have hl := @less_le a i
    have hA : Ar V.b h6 h.nx (arr B 64) := by unfold Ar; rw [arr_len, e2]; rfl
    have hld := hA.ld (i := lessC a i) (by rw [arr_len]; omega)
    rw [arr_at] at hld
    obtain ⟨st1, st2⟩ := e5.st (i := i) (x := !B (lessC a i)) (c := .b (!B (lessC a i))) (by rw [arr_len]; omega) rfl rfl
    rw [← dualTo_succ, arr_len] at st1 st2
    simp (disch := omega) only [f68_r4, f68_r5, f68_r6, f68_r7, w_skip, w_reg, w_seq, w_cond, w_block, seqK_n, atK_n, loopK_n, ckB_b, cbB_b, true_and, x_nil, x_mv, x_as, x_ld, x_st, x_bin, x_not, x_iadr, kx, rvP_ok, okv_some, ev_t, ev_c, getV_some, putD_some, putD_none, bin_add, bin_lss, onB_b, onP_p, idx_n, of1, getK_set, Nat.reduceEqDiff, ↓reduceIte, g2, g5, g6, g12, g13, hlt', decide_true, andNot_n (show a < 9223372036854775808 by omega) (show i < 9223372036854775808 by omega), hld, st1, fw64]
    exact ⟨i + 1, by omega, hlt, hgr.trans (Grow.put b5 (hc6.cells e5) _), by rw [get_put_other d2]; exact e2, by rw [get_put_other d1]; exact e4, st2, by simp (disch := omega) only [getK_set, Nat.reduceEqDiff, ↓reduceIte, g2, g4, g5, g6, g12, and_self, Int.natCast_add, Int.natCast_one]⟩
  · obtain rfl : i = a + 1 := by omega
    have hlt' : ¬ ((a + 1 : Nat) : Int) < ((a + 1 : Nat) : Int) := by omega
    have ldn5 : loadV h6 (.p id5 0) (many? 64) = .ok (.agg (boolV (dualB B a))) h6 := e5.ldn (n := 64) (by rw [arr_len])
    simp (disch := omega) only [f68_r4, f68_r8, f68_rs, w_reg, w_seq, w_cond, w_exit, w_ret, seqK_n, seqK_e, atK_e, loopK_e, ckB_b, cbB_b, true_and, retK_r, x_nil, x_ldn, x_st, x_bin, kx, rvP_ok, okv_some, ev_t, getV_some, putD_some, putD_none, bin_lss, oGet_s, readRs_nil, readRs_n, retV_1, Option.some.injEq, exists_eq_left', getK_set, Nat.reduceEqDiff, ↓reduceIte, Bool.false_eq_true, g4, g5, g12, g13, hlt', decide_false, ldn5, out_st (List.length_replicate ..) e4, out_rd, true_and]
    exact hgr.trans (Grow.put b4 (hc6.cells e4) _)
theorem f28_ret {h : H} {v : V} {S : List Int} {n : Int} (hp : ∀ a b h P, CallP fs (.fn (K.ofNat 54) []) [.i .i64 a, .i .i64 b] h P = P (.b (ptI a b)) h)
    (h16 : fs.get (K.ofNat 16) = some f16) (h55 : fs.get (K.ofNat 55) = some f55) (h78 : fs.get (K.ofNat 78) = some f78) (h91 : fs.get (K.ofNat 91) = some alF) (h68 : fs.get (K.ofNat 68) = some f68) (h67 : fs.get (K.ofNat 67) = some f67) (h66 : fs.get (K.ofNat 66) = some f66)
    (hv : Sl iE h v S) (hc : HC h) (hS : S.length ≤ 1000000) (e : chkS n S = 0) (hn1 : 1 ≤ n) (hn6 : n ≤ 6) :
    Ret fs f28 [.i .i64 n, v] h fun r h' => ∃ u, r = .tup [u, .i .i64 (madeOf (topsTo (dualB (famB S) (2 ^ n.toNat - 1)) 64)).2] ∧ Sl iE h' u (madeOf (topsTo (dualB (famB S) (2 ^ n.toNat - 1)) 64)).1 ∧ Grow h.nx.nat h h' := by
  apply ret_of rfl
  show W fs none f28_c _ _ _
  unfold f28_c
  simp (disch := omega) only [f28_r0, f28_r1, w_reg, w_seq, seqK_n, x_nil, x_mv, x_as, x_call, ev_t, ev_c, evs_nil, evs_cons, getV_some, putD_some, frame_2, of0, getK_set, Nat.reduceEqDiff, ↓reduceIte]
  refine (callP_0 (ef := f16) h16 rfl (f16_ret hp hv)).mono ?_
  rintro u h1 ⟨rfl, rfl⟩
  simp (disch := omega) only [f28_r2, f28_r4, w_skip, w_reg, w_seq, w_cond, seqK_n, ckB_b, cbB_b, true_and, x_nil, x_mv, x_as, x_bin, x_call, kx, rvP_ok, okv_some, ev_t, ev_c, evs_nil, evs_cons, getV_some, putD_some, bin_neq, of0, getK_set, Nat.reduceEqDiff, ↓reduceIte, Bool.false_eq_true, e, ne_eq, not_true_eq_false, decide_false]
  refine (callP_0 (ef := f55) h55 rfl (f55_ret (S := S) hp hv hc hS)).mono ?_
  rintro u h2 ⟨rfl, g2⟩
  rw [famB_list]
  have hc2 := g2.hc hc
  simp (disch := omega) only [x_mv, x_call, kx, ev_t, ev_c, evs_nil, evs_cons, getV_some, putD_some, getK_set, Nat.reduceEqDiff, ↓reduceIte]
  refine (callP_0 (ef := f68) h68 rfl (f68_ret (B := famB S) (n := n) hc2 hn1 hn6)).mono ?_
  rintro u h3 ⟨rfl, g3⟩
  simp (disch := omega) only [x_call, kx, ev_t, ev_c, evs_nil, evs_cons, getV_some, putD_some, getK_set, ↓reduceIte]
  refine (callP_0 (ef := f67) h67 rfl (f67_ret (B := dualB (famB S) (2 ^ n.toNat - 1)) hp h66 h78 h91 (g3.hc hc2))).mono ?_
  rintro r h4 ⟨u, rfl, hs, g4, _⟩
  simp (disch := omega) only [f28_rs, w_ret, seqK_n, retK_r, x_nil, x_as, x_ext, kx, rvP_ok, okv_some, ev_t, getV_some, putD_some, onTup_t, oGet_s, nth0, nth1, readRs_nil, readRs_t, retV_2, Option.some.injEq, exists_eq_left', getK_set, Nat.reduceEqDiff, ↓reduceIte]
  have := g2.nx; have := g3.nx
  exact ⟨u, rfl, hs, (g2.trans (g3.low (by omega))).trans (g4.low (by omega))⟩
end
end Go.Ev
namespace Go.Ev
open Go Go.RowKit
noncomputable def f58_r0 : List EOper := [⟨(some (K.ofNat 2)), none, .as (.c (.b false))⟩]
noncomputable def f58_r1 : List EOper := [⟨(some (K.ofNat 5)), none, .mv (.t (K.ofNat 0))⟩, ⟨(some (K.ofNat 6)), none, .len (.t (K.ofNat 5))⟩, ⟨(some (K.ofNat 7)), none, .mv (.c (.i .i64 (.ofNat 0)))⟩]
noncomputable def f58_r2 : List EOper := [⟨(some (K.ofNat 8)), none, .bin .lss (.t (K.ofNat 7)) (.t (K.ofNat 6))⟩]
noncomputable def f58_r3 : List EOper := [⟨(some (K.ofNat 9)), none, .iads 1 (.t (K.ofNat 5)) (.t (K.ofNat 7))⟩, ⟨(some (K.ofNat 10)), none, .ld (.t (K.ofNat 9))⟩, ⟨(some (K.ofNat 4)), none, .as (.t (K.ofNat 10))⟩]
noncomputable def f58_r4 : List Stage := [⟨[⟨(some (K.ofNat 11)), none, .mv (.t (K.ofNat 4))⟩, ⟨(some (K.ofNat 13)), none, .mv (.t (K.ofNat 0))⟩, ⟨(some (K.ofNat 14)), none, .iads 1 (.t (K.ofNat 13)) (.c (.i .i64 (.ofNat 0)))⟩, ⟨(some (K.ofNat 15)), none, .ld (.t (K.ofNat 14))⟩], [], (some ⟨(some (K.ofNat 12)), none, .call (.c (.fn (K.ofNat 75) [])) [(.t (K.ofNat 11))]⟩), []⟩, ⟨[], [⟨(some (K.ofNat 13)), none, .mv (.t (K.ofNat 0))⟩, ⟨(some (K.ofNat 14)), none, .iads 1 (.t (K.ofNat 13)) (.c (.i .i64 (.ofNat 0)))⟩, ⟨(some (K.ofNat 15)), none, .ld (.t (K.ofNat 14))⟩], (some ⟨(some (K.ofNat 16)), none, .call (.c (.fn (K.ofNat 75) [])) [(.t (K.ofNat 15))]⟩), []⟩, ⟨[⟨(some (K.ofNat 17)), none, .bin .neq (.t (K.ofNat 12)) (.t (K.ofNat 16))⟩], [], none, []⟩]
noncomputable def f58_r5 : List EOper := [⟨(some (K.ofNat 2)), none, .as (.c (.b false))⟩]
noncomputable def f58_r6 : List EOper := [⟨(some (K.ofNat 18)), none, .bin .add (.t (K.ofNat 7)) (.c (.i .i64 (.ofNat 1)))⟩, ⟨(some (K.ofNat 7)), none, .mv (.t (K.ofNat 18))⟩]
noncomputable def f58_l0 : EC := (.seq (.reg f58_r2) (.seq (.cond (.t (K.ofNat 8)) .skip (.exit 0)) (.seq (.block 1 (.seq (.reg f58_r3) (.seq (.draw f58_r4) (.cond (.t (K.ofNat 17)) (.seq (.reg f58_r5) .ret) .skip)))) (.reg f58_r6))))
noncomputable def f58_r7 : List EOper := [⟨(some (K.ofNat 2)), none, .as (.c (.b true))⟩]
noncomputable def f58_c : EC := (.seq (.reg f58_r0) (.seq (.seq (.reg f58_r1) (.block 0 (.loop f58_l0))) (.seq (.reg f58_r7) .ret)))
noncomputable def f58 : EF := ⟨19, [.tmp (K.ofNat 2)], f58_c, none⟩
theorem f58_rs : f58.rs = [.tmp (K.ofNat 2)] := of_eq_true (eq_self _)
noncomputable def f61_r0 : List EOper := [⟨(some (K.ofNat 2)), none, .box 1 (.t (K.ofNat 0))⟩, ⟨(some (K.ofNat 3)), none, .box 1 (.t (K.ofNat 1))⟩, ⟨(some (K.ofNat 4)), none, .as (.c (.i .i64 (.ofNat 0)))⟩]
noncomputable def f61_r1 : List EOper := [⟨(some (K.ofNat 5)), none, .alloc 1 [(.i .i64 (.ofNat 0))]⟩, ⟨none, none, .st 1 (.t (K.ofNat 5)) (.c (.i .i64 (.ofNat 0)))⟩]
noncomputable def f61_r2 : List EOper := [⟨(some (K.ofNat 9)), none, .ld (.t (K.ofNat 2))⟩, ⟨(some (K.ofNat 10)), none, .call (.c (.fn (K.ofNat 82) [])) [(.t (K.ofNat 9))]⟩]
noncomputable def f61_r3 : List EOper := [⟨(some (K.ofNat 6)), none, .as (.t (K.ofNat 11))⟩]
noncomputable def f61_a0 : EC := (.reg f61_r3)
noncomputable def f61_r4 : List EOper := [⟨(some (K.ofNat 12)), none, .ld (.t (K.ofNat 3))⟩, ⟨(some (K.ofNat 13)), none, .len (.t (K.ofNat 12))⟩, ⟨(some (K.ofNat 14)), none, .mv (.c (.i .i64 (.ofNat 0)))⟩]
noncomputable def f61_r5 : List EOper := [⟨(some (K.ofNat 15)), none, .bin .lss (.t (K.ofNat 14)) (.t (K.ofNat 13))⟩]
noncomputable def f61_r6 : List EOper := [⟨(some (K.ofNat 16)), none, .iads 1 (.t (K.ofNat 12)) (.t (K.ofNat 14))⟩, ⟨(some (K.ofNat 17)), none, .ld (.t (K.ofNat 16))⟩, ⟨(some (K.ofNat 8)), none, .as (.t (K.ofNat 17))⟩]
noncomputable def f61_r7 : List EOper := [⟨(some (K.ofNat 18)), none, .ld (.t (K.ofNat 2))⟩, ⟨(some (K.ofNat 19)), none, .mv (.t (K.ofNat 6))⟩, ⟨(some (K.ofNat 20)), none, .bin .andNot (.t (K.ofNat 18)) (.t (K.ofNat 19))⟩, ⟨(some (K.ofNat 21)), none, .mv (.t (K.ofNat 8))⟩, ⟨(some (K.ofNat 22)), none, .call (.c (.fn (K.ofNat 54) [])) [(.t (K.ofNat 20)), (.t (K.ofNat 21))]⟩]
noncomputable def f61_r8 : List EOper := [⟨(some (K.ofNat 23)), none, .ld (.t (K.ofNat 5))⟩, ⟨(some (K.ofNat 24)), none, .mv (.t (K.ofNat 6))⟩, ⟨(some (K.ofNat 25)), none, .bslice 2 1 [(.i .i64 (.ofNat 0)), (.i .i64 (.ofNat 0))] [(0, 1, (.t (K.ofNat 23))), (1, 1, (.t (K.ofNat 24)))]⟩, ⟨(some (K.ofNat 26)), none, .call (.c (.fn (K.ofNat 83) [])) [(.t (K.ofNat 25))]⟩, ⟨none, none, .st 1 (.t (K.ofNat 5)) (.t (K.ofNat 26))⟩]
noncomputable def f61_r9 : List EOper := [⟨(some (K.ofNat 27)), none, .bin .add (.t (K.ofNat 14)) (.c (.i .i64 (.ofNat 1)))⟩, ⟨(some (K.ofNat 14)), none, .mv (.t (K.ofNat 27))⟩]
noncomputable def f61_l0 : EC := (.seq (.reg f61_r5) (.seq (.cond (.t (K.ofNat 15)) .skip (.exit 2)) (.seq (.block 3 (.seq (.reg f61_r6) (.seq (.reg f61_r7) (.cond (.t (K.ofNat 22)) (.reg f61_r8) .skip)))) (.reg f61_r9))))
noncomputable def f61_b0 : EC := (.block 1 (.seq (.reg f61_r4) (.block 2 (.loop f61_l0))))
noncomputable def f61_r10 : List EOper := [⟨(some (K.ofNat 28)), none, .ld (.t (K.ofNat 5))⟩, ⟨(some (K.ofNat 4)), none, .as (.t (K.ofNat 28))⟩]
noncomputable def f61_c : EC := (.seq (.reg f61_r0) (.seq (.reg f61_r1) (.seq (.seq (.reg f61_r2) (.block 0 (.rangeF (.t (K.ofNat 10)) [(K.ofNat 11)] f61_a0 f61_b0))) (.seq (.reg f61_r10) .ret))))
noncomputable def f61 : EF := ⟨29, [.tmp (K.ofNat 4)], f61_c, none⟩
theorem f61_rs : f61.rs = [.tmp (K.ofNat 4)] := of_eq_true (eq_self _)
noncomputable def f80_r0 : List EOper := [⟨(some (K.ofNat 4)), none, .as (.c (.b false))⟩]
noncomputable def f80_r1 : List EOper := [⟨(some (K.ofNat 8)), none, .mv (.t (K.ofNat 0))⟩, ⟨(some (K.ofNat 9)), none, .mv (.t (K.ofNat 1))⟩, ⟨(some (K.ofNat 10)), none, .call (.c (.fn (K.ofNat 61) [])) [(.t (K.ofNat 8)), (.t (K.ofNat 9))]⟩, ⟨(some (K.ofNat 5)), none, .as (.t (K.ofNat 10))⟩]
noncomputable def f80_r2 : List EOper := [⟨(some (K.ofNat 11)), none, .mv (.t (K.ofNat 1))⟩, ⟨(some (K.ofNat 12)), none, .len (.t (K.ofNat 11))⟩, ⟨(some (K.ofNat 13)), none, .mv (.c (.i .i64 (.ofNat 0)))⟩]
noncomputable def f80_r3 : List EOper := [⟨(some (K.ofNat 14)), none, .bin .lss (.t (K.ofNat 13)) (.t (K.ofNat 12))⟩]
noncomputable def f80_r4 : List EOper := [⟨(some (K.ofNat 15)), none, .iads 1 (.t (K.ofNat 11)) (.t (K.ofNat 13))⟩, ⟨(some (K.ofNat 16)), none, .ld (.t (K.ofNat 15))⟩, ⟨(some (K.ofNat 7)), none, .as (.t (K.ofNat 16))⟩]
noncomputable def f80_r5 : List EOper := [⟨(some (K.ofNat 17)), none, .mv (.t (K.ofNat 5))⟩, ⟨(some (K.ofNat 18)), none, .mv (.t (K.ofNat 7))⟩, ⟨(some (K.ofNat 19)), none, .call (.c (.fn (K.ofNat 54) [])) [(.t (K.ofNat 17)), (.t (K.ofNat 18))]⟩]
noncomputable def f80_r6 : List EOper := [⟨(some (K.ofNat 4)), none, .as (.c (.b false))⟩]
noncomputable def f80_r7 : List EOper := [⟨(some (K.ofNat 20)), none, .bin .add (.t (K.ofNat 13)) (.c (.i .i64 (.ofNat 1)))⟩, ⟨(some (K.ofNat 13)), none, .mv (.t (K.ofNat 20))⟩]
noncomputable def f80_l0 : EC := (.seq (.reg f80_r3) (.seq (.cond (.t (K.ofNat 14)) .skip (.exit 0)) (.seq (.block 1 (.seq (.reg f80_r4) (.seq (.reg f80_r5) (.cond (.t (K.ofNat 19)) (.seq (.reg f80_r6) .ret) .skip)))) (.reg f80_r7))))
noncomputable def f80_r8 : List EOper := [⟨(some (K.ofNat 4)), none, .as (.c (.b true))⟩]
noncomputable def f80_c : EC := (.seq (.reg f80_r0) (.seq (.reg f80_r1) (.seq (.seq (.reg f80_r2) (.block 0 (.loop f80_l0))) (.seq (.reg f80_r8) .ret))))
noncomputable def f80 : EF := ⟨21, [.tmp (K.ofNat 4)], f80_c, none⟩
theorem f80_rs : f80.rs = [.tmp (K.ofNat 4)] := of_eq_true (eq_self _)
section
variable {fs : T EF} {ro : Option K}
noncomputable def pureS (S : List Int) : Bool := S.all fun s => decide (pop6 s.toNat = pop6 (S.headD 0).toNat)
def f58_I (h : H) (v : V) (S : List Int) (i : Nat) (fr : Fr) (h1 : H) : Prop := h1 = h ∧ i ≤ S.length ∧ (S.take i).all (fun s => decide (pop6 s.toNat = pop6 (S.headD 0).toNat)) = true ∧ fr.get (K.ofNat 0) = some (v) ∧ fr.get (K.ofNat 5) = some (v) ∧ fr.get (K.ofNat 6) = some (.i .i64 (S.length : Int)) ∧ fr.get (K.ofNat 7) = some (.i .i64 (i : Int))
theorem f58_ret {h : H} {v : V} {S : List Int} (hp75 : ∀ m : Nat, m < 64 → ∀ h P, CallP fs (.fn (K.ofNat 75) []) [.i .i64 (m : Int)] h P = P (.i .i64 (pop6 m : Int)) h)
    (hv : Sl iE h v S) (hS : S.length ≤ 1000000) (hsets : Sets S) :
    Ret fs f58 [v] h fun u h' => u = .b (pureS S) ∧ h' = h := by
  apply ret_of rfl
  show W fs none f58_c _ _ _
  unfold f58_c
  simp (disch := omega) only [f58_r0, f58_r1, w_reg, w_seq, w_block, seqK_n, x_nil, x_mv, x_as, x_len, kx, rvP_ok, ev_t, ev_c, getV_some, putD_some, frame_1, of0, getK_set, Nat.reduceEqDiff, ↓reduceIte, hv.len]
  refine W_loop (f58_I h v S) (fun i => S.length - i) ?_ 0 ⟨rfl, Nat.zero_le _, by simp, by simp (disch := omega) only [getK_set, Nat.reduceEqDiff, ↓reduceIte, and_self, Int.natCast_zero]⟩
  rintro i fr h1 ⟨rfl, hi, hal, g0, g5, g6, g7⟩
  unfold f58_l0
  by_cases hlt : i < S.length
  · have hlt' : (i : Int) < (S.length : Int) := by omega
    obtain ⟨p, hp1, hp2⟩ := hv.at i hlt
    obtain ⟨q, hq1, hq2, hq3⟩ := hv.atb 0 (by omega)
    have hq1' : ∀ k h1, iadsV 1 v (.i k 0) h1 = .ok q h1 := fun k h1 => hq1 k h1
    obtain ⟨a, ha, hae⟩ := hsets S[i] (List.getElem_mem hlt)
    obtain ⟨b, hb, hbe⟩ := hsets S[0] (List.getElem_mem (by omega))
    have hd : S.headD 0 = S[0] := by cases S with | nil => simp at hlt | cons x l => rfl
    have hs := all_snoc (p := fun s => decide (pop6 s.toNat = pop6 (S.headD 0).toNat)) hlt
    rw [hal, Bool.true_and] at hs
    simp only [hd, hae, hbe, Int.toNat_natCast] at hs
    rw [hae] at hp2
    rw [hbe] at hq2
    by_cases e : pop6 a = pop6 b
    · have e' : ¬ ((pop6 a : Nat) : Int) ≠ ((pop6 b : Nat) : Int) := by omega
      rw [decide_eq_true e] at hs
      simp (disch := omega) only [f58_r2, f58_r3, f58_r4, f58_r6, w_skip, w_reg, w_draw, w_seq, w_cond, w_block, seqK_n, atK_n, loopK_n, ckB_b, cbB_b, true_and, x_nil, x_mv, x_as, x_ld, x_bin, x_iads, x_call, kx, kg, xg_nil, xg_mv, xg_ld, xg_bin, xg_iads, xd_cons, fresh_nil, stK_n, stK_s, stay_nil, stay_cons, again_ok, stay_mv, beq_i, stay_iads, stay_ld, rvP_ok, okv_some, ev_t, ev_c, evs_nil, evs_cons, getV_some, putD_some, bin_add, bin_neq, bin_lss, of0, of1, getK_set, Nat.reduceEqDiff, ↓reduceIte, Bool.false_eq_true, g0, g5, g6, g7, hlt', decide_true, hp1, hp2, iE, hq1', hq2, hq3, hv.beq, hp75 _ ha, hp75 _ hb, e', decide_false, and_self, fw64]
      exact ⟨i + 1, by omega, rfl, hlt, by rw [← hs]; simp only [hd, hbe, Int.toNat_natCast], by simp (disch := omega) only [getK_set, Nat.reduceEqDiff, ↓reduceIte, g0, g5, g6, and_self, Int.natCast_add, Int.natCast_one]⟩
    · have e' : ¬ ((pop6 a : Nat) : Int) = ((pop6 b : Nat) : Int) := by omega
      have hf : pureS S = false := by
        unfold pureS
        rw [List.all_eq_false]
        refine ⟨S[i], List.getElem_mem hlt, ?_⟩
        rw [hd, hae, hbe]
        simpa using e
      simp (disch := omega) only [f58_r2, f58_r3, f58_r4, f58_r5, f58_rs, w_skip, w_reg, w_draw, w_seq, w_cond, w_block, w_ret, seqK_n, seqK_r, atK_r, loopK_r, ckB_b, cbB_b, retK_r, x_nil, x_as, x_ld, x_bin, x_iads, x_call, kx, kg, xg_nil, xg_mv, xg_ld, xg_bin, xg_iads, xd_cons, fresh_nil, stK_n, stK_s, stay_nil, stay_cons, again_ok, stay_mv, beq_i, stay_iads, stay_ld, rvP_ok, okv_some, ev_t, ev_c, evs_nil, evs_cons, getV_some, putD_some, bin_neq, bin_lss, oGet_s, readRs_nil, readRs_t, retV_1, of0, Option.some.injEq, exists_eq_left', getK_set, Nat.reduceEqDiff, ↓reduceIte, g0, g5, g6, g7, hlt', decide_true, hp1, hp2, iE, hq1', hq2, hq3, hv.beq, hp75 _ ha, hp75 _ hb, ne_eq, e', not_false_eq_true, decide_true, hf, and_self]
  · obtain rfl : i = S.length := by omega
    have hlt' : ¬ (S.length : Int) < (S.length : Int) := by omega
    rw [List.take_length] at hal
    have hf : pureS S = true := hal
    simp (disch := omega) only [f58_r2, f58_r7, f58_rs, w_reg, w_seq, w_cond, w_exit, w_ret, seqK_n, seqK_e, atK_e, loopK_e, ckB_b, cbB_b, retK_r, x_nil, x_as, x_bin, kx, rvP_ok, okv_some, ev_t, ev_c, getV_some, putD_some, bin_lss, oGet_s, readRs_nil, readRs_t, retV_1, Option.some.injEq, exists_eq_left', getK_set, ↓reduceIte, Bool.false_eq_true, g6, g7, hlt', decide_false, hf, and_self]
/-- The new part: the corners whose opposite side lies in a piece before. -/
noncomputable def oppS (x c : Nat) (S : List Int) : Bool := S.any fun y => ptI (lessC x c : Int) y
noncomputable def npTo (x : Nat) (S : List Int) (j : Nat) : Nat := ((cornN x).take j).foldl (fun s c => if oppS x c S = true then s ||| c else s) 0
noncomputable def newPS (x : Nat) (S : List Int) : Nat := (cornN x).foldl (fun s c => if oppS x c S = true then s ||| c else s) 0
theorem npTo_succ {x : Nat} {S : List Int} {j : Nat} (hj : j < (cornN x).length) : npTo x S (j + 1) = if oppS x (cornN x)[j] S = true then npTo x S j ||| (cornN x)[j] else npTo x S j := by
  unfold npTo; rw [List.take_succ_eq_append_getElem hj, List.foldl_append]; rfl
theorem npTo_lt {x : Nat} {S : List Int} (hx : x < 64) : ∀ j, j ≤ (cornN x).length → npTo x S j < 64
  | 0, _ => by unfold npTo; simp
  | j + 1, hj => by
    rw [npTo_succ hj]
    have ih := npTo_lt (S := S) hx j (by omega)
    have h1 := (less_lt x hx _ (List.getElem_mem hj)).1
    split
    · exact Nat.or_lt_two_pow (n := 6) ih (by omega)
    · exact ih
structure NpI (b : Nat) (h : H) (id2 id3 id5 idf idl : K) (x : Nat) (v : V) (s : Nat) (lb : Blk) (h1 : H) : Prop where
  gr : Grow b h h1
  e2 : h1.get id2 = .cells 1 [nE x]
  e3 : h1.get id3 = .cells 1 [v]
  e5 : h1.get id5 = .cells 1 [nE s]
  ef : h1.get idf = .cells 1 [nE x]
  el : h1.get idl = lb
  nx : idl.nat + 1 ≤ h1.nx.nat
  o2 : id2.nat < id3.nat
  o3 : id3.nat < id5.nat
  o5 : id5.nat < idf.nat
  of : idf.nat < idl.nat
  ob : b ≤ id2.nat
section
variable {b : Nat} {h h1 h2 : H} {id2 id3 id5 idf idl : K} {x s s' : Nat} {v : V} {lb : Blk}
theorem NpI.loop (t : NpI b h id2 id3 id5 idf idl x v s lb h1) (lb' : Blk) : NpI b h id2 id3 id5 idf idl x v s lb' (h1.put idl lb') := by
  have := t.nx; have := t.o2; have := t.o3; have := t.o5; have := t.of; have := t.ob
  exact ⟨t.gr.trans (Grow.put (by omega) (by omega) _), by rw [get_put_other (kNe (by omega))]; exact t.e2, by rw [get_put_other (kNe (by omega))]; exact t.e3, by rw [get_put_other (kNe (by omega))]; exact t.e5, by rw [get_put_other (kNe (by omega))]; exact t.ef, get_put_same, t.nx, t.o2, t.o3, t.o5, t.of, t.ob⟩
theorem NpI.grow (t : NpI b h id2 id3 id5 idf idl x v s lb h1) (g : Grow h1.nx.nat h1 h2) : NpI b h id2 id3 id5 idf idl x v s lb h2 := by
  have := t.nx; have := t.o2; have := t.o3; have := t.o5; have := t.of; have := t.ob; have := g.nx
  exact ⟨t.gr.trans (g.low (by omega)), by rw [g.old _ (by omega)]; exact t.e2, by rw [g.old _ (by omega)]; exact t.e3, by rw [g.old _ (by omega)]; exact t.e5, by rw [g.old _ (by omega)]; exact t.ef, by rw [g.old _ (by omega)]; exact t.el, by omega, t.o2, t.o3, t.o5, t.of, t.ob⟩
theorem NpI.put (t : NpI b h id2 id3 id5 idf idl x v s lb h1) : NpI b h id2 id3 id5 idf idl x v s' lb (h1.put id5 (.cells 1 [nE s'])) := by
  have := t.nx; have := t.o2; have := t.o3; have := t.o5; have := t.of; have := t.ob
  exact ⟨t.gr.trans (Grow.put (by omega) (by omega) _), by rw [get_put_other (kNe (by omega))]; exact t.e2, by rw [get_put_other (kNe (by omega))]; exact t.e3, get_put_same, by rw [get_put_other (kNe (by omega)).symm]; exact t.ef, by rw [get_put_other (kNe (by omega)).symm]; exact t.el, t.nx, t.o2, t.o3, t.o5, t.of, t.ob⟩
end
def f61_I (b : Nat) (h : H) (id2 id3 id5 idf idl : K) (x c s0 : Nat) (v : V) (S : List Int) (lb : Blk) (j : Nat) (fr : Fr) (h1 : H) : Prop := j ≤ S.length ∧ NpI b h id2 id3 id5 idf idl x v (if oppS x c (S.take j) = true then s0 ||| c else s0) lb h1 ∧ fr.get (K.ofNat 2) = some (.p id2 0) ∧ fr.get (K.ofNat 3) = some (.p id3 0) ∧ fr.get (K.ofNat 5) = some (.p id5 0) ∧ fr.get (K.ofNat 6) = some (.i .i64 (c : Int)) ∧ fr.get (K.ofNat 12) = some (v) ∧ fr.get (K.ofNat 13) = some (.i .i64 (S.length : Int)) ∧ fr.get (K.ofNat 14) = some (.i .i64 (j : Int))
theorem f61_inner {Q : Ex → Fr → H → Prop} {h h0 : H} {id2 id3 id5 idf idl : K} {x c s0 : Nat} {v : V} {S : List Int} {lb : Blk} {fr : Fr}
    (hp : ∀ a b h P, CallP fs (.fn (K.ofNat 54) []) [.i .i64 a, .i .i64 b] h P = P (.b (ptI a b)) h) (h83 : fs.get (K.ofNat 83) = some f83) (hv : Sl iE h v S) (hc : HC h) (hS : S.length ≤ 1000000) (hx : x < 64) (hcl : c ≤ 32) (hs0 : s0 < 64)
    (hi : f61_I h.nx.nat h id2 id3 id5 idf idl x c s0 v S lb 0 fr h0)
    (hq : ∀ fr h1, NpI h.nx.nat h id2 id3 id5 idf idl x v (if oppS x c S = true then s0 ||| c else s0) lb h1 → fr.get (K.ofNat 2) = some (.p id2 0) ∧ fr.get (K.ofNat 3) = some (.p id3 0) ∧ fr.get (K.ofNat 5) = some (.p id5 0) → Q (.exit 2) fr h1) :
    W fs ro (.loop f61_l0) Q fr h0 := by
  refine W_loop (f61_I h.nx.nat h id2 id3 id5 idf idl x c s0 v S lb) (fun j => S.length - j) ?_ 0 hi
  clear hi fr h0
  rintro j fr h1 ⟨hj, ht, g2, g3, g5, g6, g12, g13, g14⟩
  have hc1 := ht.gr.hc hc
  have hv1 := hv.grow hc ht.gr
  unfold f61_l0
  by_cases hlt : j < S.length
  · have hlt' : (j : Int) < (S.length : Int) := by omega
    obtain ⟨p, hp1, hp2⟩ := hv1.at j hlt
    have ld2 : loadV h1 (.p id2 0) one? = .ok (.i .i64 (x : Int)) h1 := load_p ht.e2 rfl
    have hs : oppS x c (S.take (j + 1)) = (oppS x c (S.take j) || ptI (lessC x c : Int) S[j]) := any_snoc hlt
    cases e : ptI (lessC x c : Int) S[j]
    · rw [e, Bool.or_false] at hs
      simp (disch := omega) only [f61_r5, f61_r6, f61_r7, f61_r9, w_skip, w_reg, w_seq, w_cond, w_block, seqK_n, atK_n, loopK_n, ckB_b, cbB_b, true_and, x_nil, x_mv, x_as, x_ld, x_bin, x_iads, x_call, kx, rvP_ok, okv_some, ev_t, ev_c, evs_nil, evs_cons, getV_some, putD_some, bin_add, bin_lss, of1, getK_set, Nat.reduceEqDiff, ↓reduceIte, Bool.false_eq_true, g2, g6, g12, g13, g14, hlt', decide_true, hp1, hp2, iE, ld2, andNot_n (show x < 9223372036854775808 by omega) (show c < 9223372036854775808 by omega), hp, e, fw64]
      exact ⟨j + 1, by omega, hlt, by rw [hs]; exact ht, by simp (disch := omega) only [getK_set, Nat.reduceEqDiff, ↓reduceIte, g2, g3, g5, g6, g12, g13, and_self, Int.natCast_add, Int.natCast_one]⟩
    · rw [e, Bool.or_true] at hs
      -- what is there so far
      obtain ⟨s1, hs1, hs1l, hs1c⟩ : ∃ s1, (if oppS x c (S.take j) = true then s0 ||| c else s0) = s1 ∧ s1 < 64 ∧ s1 ||| c = s0 ||| c := by
        have h1 : s0 ||| c < 64 := Nat.or_lt_two_pow (n := 6) hs0 (by omega)
        by_cases e2 : oppS x c (S.take j) = true
        · exact ⟨_, rfl, by rw [if_pos e2]; exact h1, by rw [if_pos e2, Nat.or_assoc, Nat.or_self]⟩
        · exact ⟨_, rfl, by rw [if_neg e2]; exact hs0, by rw [if_neg e2]⟩
      rw [hs1] at ht
      have ld5 : loadV h1 (.p id5 0) one? = .ok (.i .i64 (s1 : Int)) h1 := load_p ht.e5 rfl
      have g8 : Grow h1.nx.nat h1 (h1.new (.cells (2 * 1) [nE s1, nE c])) := Grow.new (Nat.le_refl _) _
      have ht8 := ht.grow g8
      have hjn : joinS [s1, c] = s0 ||| c := by rw [← hs1c]; simp [joinS]
      simp (disch := omega) only [f61_r5, f61_r6, f61_r7, f61_r8, w_skip, w_reg, w_seq, w_cond, w_block, seqK_n, ckB_b, cbB_b, true_and, x_nil, x_mv, x_as, x_bslice, x_ld, x_bin, x_iads, x_call, kx, rvP_ok, okv_some, ev_t, ev_c, evs_nil, evs_cons, getV_some, putD_some, bin_lss, oGet_s, cells1_i, of0, getK_set, Nat.reduceEqDiff, ↓reduceIte, g2, g5, g6, g12, g13, g14, hlt', decide_true, hp1, hp2, iE, ld2, ld5, andNot_n (show x < 9223372036854775808 by omega) (show c < 9223372036854775808 by omega), hp, e, fill_2, set_2]
      refine (callP_0 (ef := f83) h83 rfl (f83_ret (L := [s1, c]) (Sl.lit2 (e := nE)) (fun y hy => by simp at hy; omega) (by simp))).mono ?_
      rintro u h8 ⟨rfl, rfl⟩
      rw [show [nE s1, nE c] = [V.i .i64 (s1 : Int), V.i .i64 (c : Int)] from rfl] at *
      generalize h1.new (.cells (2 * 1) [V.i .i64 (s1 : Int), V.i .i64 (c : Int)]) = h8 at *
      have hst : storeV h8 1 (.p id5 0) (.i .i64 ((s0 ||| c : Nat) : Int)) = .ok undefV (h8.put id5 (.cells 1 [nE (s0 ||| c)])) := by
        rw [store_p ht8.e5 rfl (by omega)]; rfl
      simp (disch := omega) only [f61_r9, w_reg, seqK_n, atK_n, loopK_n, x_nil, x_mv, x_st, x_bin, kx, rvP_ok, okv_some, ev_t, ev_c, getV_some, putD_some, putD_none, bin_add, of1, getK_set, Nat.reduceEqDiff, ↓reduceIte, g5, g14, hjn, hst, fw64]
      exact ⟨j + 1, by omega, hlt, by rw [hs, if_pos rfl]; exact ht8.put, by simp (disch := omega) only [getK_set, Nat.reduceEqDiff, ↓reduceIte, g2, g3, g5, g6, g12, g13, and_self, Int.natCast_add, Int.natCast_one]⟩
  · obtain rfl : j = S.length := by omega
    have hlt' : ¬ (S.length : Int) < (S.length : Int) := by omega
    rw [List.take_length] at ht
    simp (disch := omega) only [f61_r5, w_reg, w_seq, w_cond, w_exit, seqK_n, seqK_e, loopK_e, ckB_b, cbB_b, true_and, x_nil, x_bin, kx, rvP_ok, okv_some, ev_t, getV_some, putD_some, bin_lss, getK_set, ↓reduceIte, Bool.false_eq_true, g13, g14, hlt', decide_false]
    exact hq _ _ ht (by simp (disch := omega) only [getK_set, Nat.reduceEqDiff, ↓reduceIte, g2, g3, g5, and_self])
theorem f61_ret {h : H} {x : Nat} {v : V} {S : List Int} {ef : EF} (hp : ∀ a b h P, CallP fs (.fn (K.ofNat 54) []) [.i .i64 a, .i .i64 b] h P = P (.b (ptI a b)) h)
    (h82 : fs.get (K.ofNat 82) = some f82) (h92 : fs.get (K.ofNat 92) = some coF) (h54 : fs.get (K.ofNat 54) = some ef) (hn : ef.nv = some (flatG partG)) (h83 : fs.get (K.ofNat 83) = some f83) (hv : Sl iE h v S) (hc : HC h) (hS : S.length ≤ 1000000) (hx : x < 64) :
    Ret fs f61 [nE x, v] h fun u h' => u = nE (newPS x S) ∧ Grow h.nx.nat h h' := by
  apply ret_of rfl
  show W fs none f61_c _ _ _
  unfold f61_c
  have hcn : cellsN 1 (nE x) = some [nE x] := rfl
  have g1 : Grow h.nx.nat h (h.new (.cells 1 [nE x])) := Grow.new (Nat.le_refl _) _
  have n1 := nx_new h (.cells 1 [nE x])
  have e2 : (h.new (.cells 1 [nE x])).get h.nx = .cells 1 [nE x] := get_new_same
  have n2 := nx_new (h.new (.cells 1 [nE x])) (.cells 1 [v])
  have n3 := nx_new ((h.new (.cells 1 [nE x])).new (.cells 1 [v])) (.cells 1 [nE 0])
  have hu0 : V.i .i64 0 = nE 0 := rfl
  have st5 : storeV (((h.new (.cells 1 [nE x])).new (.cells 1 [v])).new (.cells 1 [nE 0])) 1 (.p ((h.new (.cells 1 [nE x])).new (.cells 1 [v])).nx 0) (nE 0) = .ok undefV ((((h.new (.cells 1 [nE x])).new (.cells 1 [v])).new (.cells 1 [nE 0])).put ((h.new (.cells 1 [nE x])).new (.cells 1 [v])).nx (.cells 1 [nE 0])) := by
    rw [store_p get_new_same rfl (by omega)]; rfl
  have ld2 : loadV ((((h.new (.cells 1 [nE x])).new (.cells 1 [v])).new (.cells 1 [nE 0])).put ((h.new (.cells 1 [nE x])).new (.cells 1 [v])).nx (.cells 1 [nE 0])) (.p h.nx 0) one? = .ok (nE x) _ := load_p (by rw [get_put_other (kNe (by omega)), get_new_old (by omega), get_new_old (by omega)]; exact e2) rfl
  simp (disch := omega) only [f61_r0, f61_r1, f61_r2, w_reg, w_seq, seqK_n, x_nil, x_as, x_alloc, x_box, x_ld, x_st, x_call, kx, rvP_ok, ev_t, ev_c, evs_nil, evs_cons, getV_some, putD_some, putD_none, oGet_s, frame_2, of0, getK_set, Nat.reduceEqDiff, ↓reduceIte, hcn, hv.one, hu0, st5, ld2]
  have e3 : ((((h.new (.cells 1 [nE x])).new (.cells 1 [v])).new (.cells 1 [nE 0])).put ((h.new (.cells 1 [nE x])).new (.cells 1 [v])).nx (.cells 1 [nE 0])).get (h.new (.cells 1 [nE x])).nx = .cells 1 [v] := by rw [get_put_other (kNe (by omega)), get_new_old (by omega), get_new_same]
  have e5 : ((((h.new (.cells 1 [nE x])).new (.cells 1 [v])).new (.cells 1 [nE 0])).put ((h.new (.cells 1 [nE x])).new (.cells 1 [v])).nx (.cells 1 [nE 0])).get ((h.new (.cells 1 [nE x])).new (.cells 1 [v])).nx = .cells 1 [nE 0] := get_put_same
  have e2' : ((((h.new (.cells 1 [nE x])).new (.cells 1 [v])).new (.cells 1 [nE 0])).put ((h.new (.cells 1 [nE x])).new (.cells 1 [v])).nx (.cells 1 [nE 0])).get h.nx = .cells 1 [nE x] := by rw [get_put_other (kNe (by omega)), get_new_old (by omega), get_new_old (by omega)]; exact e2
  have gg : Grow h.nx.nat h ((((h.new (.cells 1 [nE x])).new (.cells 1 [v])).new (.cells 1 [nE 0])).put ((h.new (.cells 1 [nE x])).new (.cells 1 [v])).nx (.cells 1 [nE 0])) := ((g1.trans (Grow.new (by omega) _)).trans (Grow.new (by omega) _)).trans (Grow.put (by omega) (by omega) _)
  have n4 : ((((h.new (.cells 1 [nE x])).new (.cells 1 [v])).new (.cells 1 [nE 0])).put ((h.new (.cells 1 [nE x])).new (.cells 1 [v])).nx (.cells 1 [nE 0])).nx.nat = (((h.new (.cells 1 [nE x])).new (.cells 1 [v])).new (.cells 1 [nE 0])).nx.nat := rfl
  generalize (((h.new (.cells 1 [nE x])).new (.cells 1 [v])).new (.cells 1 [nE 0])).put ((h.new (.cells 1 [nE x])).new (.cells 1 [v])).nx (.cells 1 [nE 0]) = h4 at *
  generalize hid5 : ((h.new (.cells 1 [nE x])).new (.cells 1 [v])).nx = id5 at *
  generalize hid3 : (h.new (.cells 1 [nE x])).nx = id3 at *
  refine (callP_0 (ef := f82) h82 rfl (f82_ret (x := (x : Int)))).mono ?_
  rintro u h3 ⟨rfl, rfl⟩
  simp (disch := omega) only [w_block, seqK_n, x_nil, kx, putD_some]
  have n5 := nx_new h4 (.cells 1 [nE x])
  have ga : Grow h4.nx.nat h4 (h4.new (.cells 1 [nE x])) := Grow.new (Nat.le_refl _) _
  have ef : (h4.new (.cells 1 [nE x])).get h4.nx = .cells 1 [nE x] := get_new_same
  rw [← ga.old _ (by omega)] at e2' e3 e5
  replace gg := gg.trans (ga.low (b := h.nx.nat) (by omega))
  rw [show V.i .i64 (x : Int) = nE x from rfl]
  generalize hh5 : h4.new (.cells 1 [nE x]) = h5 at *
  generalize hfr1 : T.set (K.ofNat 10) (V.fn (K.ofNat 92) [V.p h4.nx 0]) _ = fr1
  have f10 : fr1.get (K.ofNat 10) = some (.fn (K.ofNat 92) [.p h4.nx 0]) := by rw [← hfr1]; simp (disch := omega) only [getK_set, ↓reduceIte]
  have f2 : fr1.get (K.ofNat 2) = some (.p h.nx 0) := by rw [← hfr1]; simp (disch := omega) only [getK_set, Nat.reduceEqDiff, ↓reduceIte]
  have f3 : fr1.get (K.ofNat 3) = some (.p id3 0) := by rw [← hfr1]; simp (disch := omega) only [getK_set, Nat.reduceEqDiff, ↓reduceIte]
  have f5 : fr1.get (K.ofNat 5) = some (.p id5 0) := by rw [← hfr1]; simp (disch := omega) only [getK_set, Nat.reduceEqDiff, ↓reduceIte]
  clear hfr1
  have n6 := nx_new h5 (rdyB fr1 [(K.ofNat 11)] f61_a0 f61_b0)
  have hnew : Grow h5.nx.nat h5 (h5.new (rdyB fr1 [(K.ofNat 11)] f61_a0 f61_b0)) := Grow.new (Nat.le_refl _) _
  have hy := corner_yields (fs := fs) (idp := h4.nx) (S := (x : Int)) h92 h54 hn
  rw [cornN_ys] at hy
  refine W_range (k := (K.ofNat 92)) (caps := [.p h4.nx 0]) (N := fun h => h.get h4.nx = .cells 1 [nE x]) (ys := (cornN x).map nE) rfl (by simp (disch := omega) only [ev_t, getV_some, f10]) hy
    (fun j h6 => ∃ lb, NpI h.nx.nat h h.nx id3 id5 h4.nx h5.nx x v (npTo x S j) lb h6) (fun _ _ => False) (fun i h5 ⟨lb, ht⟩ => ht.ef)
    ⟨_, gg.trans (hnew.low (by omega)), by rw [hnew.old _ (by omega)]; exact e2', by rw [hnew.old _ (by omega)]; exact e3, by rw [hnew.old _ (by omega)]; exact e5, by rw [hnew.old _ (by omega)]; exact ef, get_new_same, by omega, by omega, by omega, by omega, by omega, Nat.le_refl _⟩ ?_ ?_ (fun _ _ _ hf => hf.elim)
  · rintro j h6 hj ⟨lb, ht⟩ hrd
    have hj' : j < (cornN x).length := by simpa using hj
    obtain rfl : lb = rdyB fr1 [(K.ofNat 11)] f61_a0 f61_b0 := ht.el.symm.trans hrd
    rw [List.getElem_map]
    rw [show ∀ Q fr h, W fs (some h5.nx) f61_a0 Q fr h = X fs f61_r3 (Q .normal) fr h from fun _ _ _ => rfl]
    simp (disch := omega) only [f61_r3, rndA_n, x_nil, x_as, ev_t, getV_some, putD_some, getK_set, ↓reduceIte]
    refine ⟨ht.el, ?_⟩
    have ht7 := ht.loop (bsyB fr1 [(K.ofNat 11)] f61_a0 f61_b0)
    generalize h6.put h5.nx (bsyB fr1 [(K.ofNat 11)] f61_a0 f61_b0) = h7 at *
    obtain ⟨c1, c2⟩ := less_lt x hx _ (List.getElem_mem hj')
    have hs := npTo_succ (S := S) hj'
    have hb := npTo_lt (S := S) hx j (by omega)
    have ld3 : loadV h7 (.p id3 0) one? = .ok v h7 := load_p ht7.e3 rfl
    rw [show ∀ Q fr h, W fs (some h5.nx) f61_b0 Q fr h = X fs f61_r4 (seqK (W fs (some h5.nx) (.block 2 (.loop f61_l0))) (atK 1 Q) .normal) fr h from fun _ _ _ => rfl]
    simp (disch := omega) only [f61_r4, w_block, seqK_n, x_nil, x_mv, x_ld, x_len, kx, rvP_ok, ev_t, ev_c, getV_some, putD_some, of0, getK_set, Nat.reduceEqDiff, ↓reduceIte, f3, ld3, (hv.grow hc ht7.gr).len]
    refine f61_inner (h := h) (x := x) (c := (cornN x)[j]) (s0 := npTo x S j) (v := v) (S := S) hp h83 hv hc hS hx c1 hb ⟨Nat.zero_le _, by rw [List.take_zero, show oppS x (cornN x)[j] [] = false from rfl]; exact ht7, by simp (disch := omega) only [getK_set, Nat.reduceEqDiff, ↓reduceIte, f2, f3, f5, nE, and_self, Int.natCast_zero]⟩ ?_
    rintro fr h8 ht8 ⟨g2, g3, g5⟩
    rw [← hs] at ht8
    simp (disch := omega) only [atK_n, atK_e, rndK_n, ↓reduceIte]
    exact ⟨ht8.el, _, ht8.loop _⟩
  · rintro h6 ⟨lb, ht⟩
    have ht2 := ht.loop .dead
    rw [List.length_map, show npTo x S (cornN x).length = newPS x S by unfold npTo newPS; rw [List.take_length]] at ht2
    have ld5 : loadV (h6.put h5.nx .dead) (.p id5 0) one? = .ok (nE (newPS x S)) (h6.put h5.nx .dead) := load_p ht2.e5 rfl
    simp (disch := omega) only [f61_r10, f61_rs, w_reg, w_seq, w_ret, seqK_n, atK_n, true_and, retK_r, x_nil, x_as, x_ld, kx, rvP_ok, ev_t, getV_some, putD_some, oGet_s, readRs_nil, readRs_t, retV_1, Option.some.injEq, exists_eq_left', getK_set, ↓reduceIte, f5, ld5, true_and]
    exact ht2.gr
noncomputable def fitS (x : Nat) (S : List Int) : Bool := S.all fun y => !ptI (newPS x S : Int) y
def f80_I (h : H) (v : V) (S : List Int) (d : Nat) (i : Nat) (fr : Fr) (h1 : H) : Prop := h1 = h ∧ i ≤ S.length ∧ (S.take i).all (fun y => !ptI (d : Int) y) = true ∧ fr.get (K.ofNat 5) = some (.i .i64 (d : Int)) ∧ fr.get (K.ofNat 11) = some (v) ∧ fr.get (K.ofNat 12) = some (.i .i64 (S.length : Int)) ∧ fr.get (K.ofNat 13) = some (.i .i64 (i : Int))
theorem f80_ret {h : H} {x : Nat} {v : V} {S : List Int} {ef : EF} (hp : ∀ a b h P, CallP fs (.fn (K.ofNat 54) []) [.i .i64 a, .i .i64 b] h P = P (.b (ptI a b)) h)
    (h82 : fs.get (K.ofNat 82) = some f82) (h92 : fs.get (K.ofNat 92) = some coF) (h54 : fs.get (K.ofNat 54) = some ef) (hn : ef.nv = some (flatG partG)) (h83 : fs.get (K.ofNat 83) = some f83) (h61 : fs.get (K.ofNat 61) = some f61) (hv : Sl iE h v S) (hc : HC h) (hS : S.length ≤ 1000000) (hx : x < 64) :
    Ret fs f80 [.i .i64 (x : Int), v] h fun u h' => u = .b (fitS x S) ∧ Grow h.nx.nat h h' := by
  apply ret_of rfl
  show W fs none f80_c _ _ _
  unfold f80_c
  simp (disch := omega) only [f80_r0, f80_r1, w_reg, w_seq, seqK_n, x_nil, x_mv, x_as, x_call, ev_t, ev_c, evs_nil, evs_cons, getV_some, putD_some, frame_2, getK_set, Nat.reduceEqDiff, ↓reduceIte]
  refine (callP_0 (ef := f61) h61 rfl (f61_ret (x := x) hp h82 h92 h54 hn h83 hv hc hS hx)).mono ?_
  rintro u h1 ⟨rfl, g1⟩
  have hv1 := hv.grow hc g1
  rw [show nE (newPS x S) = V.i .i64 (newPS x S : Int) from rfl]
  simp (disch := omega) only [f80_r2, w_reg, w_seq, w_block, seqK_n, x_nil, x_mv, x_as, x_len, kx, rvP_ok, ev_t, ev_c, getV_some, putD_some, of0, getK_set, Nat.reduceEqDiff, ↓reduceIte, hv1.len]
  refine W_loop (f80_I h1 v S (newPS x S)) (fun i => S.length - i) ?_ 0 ⟨rfl, Nat.zero_le _, by simp, by simp (disch := omega) only [getK_set, Nat.reduceEqDiff, ↓reduceIte, and_self, Int.natCast_zero]⟩
  rintro i fr h2 ⟨rfl, hi, hal, g5, g11, g12, g13⟩
  unfold f80_l0
  by_cases hlt : i < S.length
  · have hlt' : (i : Int) < (S.length : Int) := by omega
    obtain ⟨p, hp1, hp2⟩ := hv1.at i hlt
    have hs := all_snoc (p := fun y => !ptI (newPS x S : Int) y) hlt
    rw [hal, Bool.true_and] at hs
    cases e : ptI (newPS x S : Int) S[i]
    · rw [e] at hs
      simp (disch := omega) only [f80_r3, f80_r4, f80_r5, f80_r7, w_skip, w_reg, w_seq, w_cond, w_block, seqK_n, atK_n, loopK_n, ckB_b, cbB_b, true_and, x_nil, x_mv, x_as, x_ld, x_bin, x_iads, x_call, kx, rvP_ok, okv_some, ev_t, ev_c, evs_nil, evs_cons, getV_some, putD_some, bin_add, bin_lss, of1, getK_set, Nat.reduceEqDiff, ↓reduceIte, Bool.false_eq_true, g5, g11, g12, g13, hlt', decide_true, hp1, hp2, iE, hp, e, fw64]
      exact ⟨i + 1, by omega, rfl, hlt, hs, by simp (disch := omega) only [getK_set, Nat.reduceEqDiff, ↓reduceIte, g5, g11, g12, and_self, Int.natCast_add, Int.natCast_one]⟩
    · have hf : fitS x S = false := by
        unfold fitS
        rw [List.all_eq_false]
        exact ⟨S[i], List.getElem_mem hlt, by rw [e]; simp⟩
      simp (disch := omega) only [f80_r3, f80_r4, f80_r5, f80_r6, f80_rs, w_skip, w_reg, w_seq, w_cond, w_block, w_ret, seqK_n, seqK_r, atK_r, loopK_r, ckB_b, cbB_b, true_and, retK_r, x_nil, x_mv, x_as, x_ld, x_bin, x_iads, x_call, kx, rvP_ok, okv_some, ev_t, ev_c, evs_nil, evs_cons, getV_some, putD_some, bin_lss, oGet_s, readRs_nil, readRs_t, retV_1, Option.some.injEq, exists_eq_left', getK_set, Nat.reduceEqDiff, ↓reduceIte, g5, g11, g12, g13, hlt', decide_true, hp1, hp2, iE, hp, e, hf, true_and]
      exact g1
  · obtain rfl : i = S.length := by omega
    have hlt' : ¬ (S.length : Int) < (S.length : Int) := by omega
    rw [List.take_length] at hal
    have hf : fitS x S = true := hal
    simp (disch := omega) only [f80_r3, f80_r8, f80_rs, w_reg, w_seq, w_cond, w_exit, w_ret, seqK_n, seqK_e, atK_e, loopK_e, ckB_b, cbB_b, true_and, retK_r, x_nil, x_as, x_bin, kx, rvP_ok, okv_some, ev_t, ev_c, getV_some, putD_some, bin_lss, oGet_s, readRs_nil, readRs_t, retV_1, Option.some.injEq, exists_eq_left', getK_set, ↓reduceIte, Bool.false_eq_true, g12, g13, hlt', decide_false, hf, true_and]
    exact g1
end
end Go.Ev
namespace Go.Ev
open Go Go.RowKit
section
variable {fs : T EF} {ro : Option K}
end
end Go.Ev
