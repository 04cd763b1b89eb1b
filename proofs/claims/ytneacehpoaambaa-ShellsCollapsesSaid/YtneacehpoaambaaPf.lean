/-
  Functions of the seat: the reference's Is, Faces, Counts, Euler.
  Functions of the seat: the reference's borders, rank.
  Functions of the seat: joined, link; the reference's Hollows.
  Functions of the seat: Link, dual, Dual; the reference's Link, Dual.
  Functions of the seat: isPure, newPart, fits.
  Functions of the seat: the reference's Pure; the law's pure.
  Functions of the seat: the reference's next.
  Functions of the seat: the reference's Shelling.
  Functions of the seat: the reference's Shellable.
  Maps whose keys are arrays of bools, and whose values are true: sets of these.
  More rules: six arguments, two literals in one stage, literals that must stay, calls of closures.
  Functions of the seat: the reference's Hs.
  The law ShellsCounts.
  What is true of the complexes that the law makes, and of their counts.
  Horner's rule and the sum with binomial coefficients give the same; so do the two sums with signs.
  The law ShellsHollows.
  What is true of complexes: links, duals, and the numbers of holes.
  What is true of shellings: which piece may come next.
  What is true of the search for a shelling: orders of pieces, each of which may come next.
  The state of the search for a shelling: its boxes, its two slices, its map.
  Functions of the seat: the search for a shelling (findShelling's closure).
  Functions of the seat: findShelling, Shell.
  Complexes as the laws make them: tame, and pure.
  McMullen: the new parts of a shelling, by the number of their corners, are the h-list.
  Functions of the seat: arranged, shelled.
  Functions of the seat: News.
  The reference's test of an order says whether it is a shelling; the reference's new parts are those of the program.
  Functions of the seat: IsShelling; the reference's News.
  Functions of the seat: the reference's Check.
-/
import Derived.Test.YtneacehpoaambaaPe
import Derived.Test.YtneacehpoaambaaPd
namespace Go.Ev
open Go Go.RowKit
noncomputable def f45_r0 : List EOper := [⟨(some (K.ofNat 4)), none, .as (.c (.b false))⟩]
noncomputable def f45_r1 : List EOper := [⟨(some (K.ofNat 5)), none, .as (.c (.i .i64 (.ofNat 0)))⟩]
noncomputable def f45_r2 : List EOper := [⟨(some (K.ofNat 6)), none, .mv (.t (K.ofNat 5))⟩, ⟨(some (K.ofNat 7)), none, .mv (.t (K.ofNat 0))⟩, ⟨(some (K.ofNat 8)), none, .len (.t (K.ofNat 7))⟩, ⟨(some (K.ofNat 9)), none, .bin .lss (.t (K.ofNat 6)) (.t (K.ofNat 8))⟩]
noncomputable def f45_r3 : List EOper := [⟨(some (K.ofNat 12)), none, .mv (.t (K.ofNat 1))⟩, ⟨(some (K.ofNat 13)), none, .mv (.t (K.ofNat 0))⟩, ⟨(some (K.ofNat 14)), none, .mv (.t (K.ofNat 5))⟩, ⟨(some (K.ofNat 15)), none, .iads 1 (.t (K.ofNat 13)) (.t (K.ofNat 14))⟩, ⟨(some (K.ofNat 16)), none, .ld (.t (K.ofNat 15))⟩, ⟨(some (K.ofNat 17)), none, .call (.c (.fn (K.ofNat 53) [])) [(.t (K.ofNat 12)), (.t (K.ofNat 16))]⟩]
noncomputable def f45_r4 : List EOper := [⟨(some (K.ofNat 4)), none, .as (.c (.b true))⟩]
noncomputable def f45_r5 : List EOper := [⟨(some (K.ofNat 10)), none, .mv (.t (K.ofNat 5))⟩, ⟨(some (K.ofNat 11)), none, .bin .add (.t (K.ofNat 10)) (.c (.i .i64 (.ofNat 1)))⟩, ⟨(some (K.ofNat 5)), none, .as (.t (K.ofNat 11))⟩]
noncomputable def f45_l0 : EC := (.seq (.seq (.reg f45_r2) (.cond (.t (K.ofNat 9)) .skip (.exit 0))) (.seq (.block 1 (.seq (.reg f45_r3) (.cond (.t (K.ofNat 17)) (.seq (.reg f45_r4) .ret) .skip))) (.reg f45_r5)))
noncomputable def f45_r6 : List EOper := [⟨(some (K.ofNat 4)), none, .as (.c (.b false))⟩]
noncomputable def f45_c : EC := (.seq (.reg f45_r0) (.seq (.seq (.reg f45_r1) (.block 0 (.loop f45_l0))) (.seq (.reg f45_r6) .ret)))
noncomputable def f45 : EF := ⟨18, [.tmp (K.ofNat 4)], f45_c, none⟩
theorem f45_rs : f45.rs = [.tmp (K.ofNat 4)] := of_eq_true (eq_self _)
noncomputable def f33_r0 : List EOper := [⟨(some (K.ofNat 4)), none, .as (.c .sn)⟩]
noncomputable def f33_r1 : List EOper := [⟨(some (K.ofNat 5)), none, .as (.c .sn)⟩]
noncomputable def f33_r2 : List EOper := [⟨(some (K.ofNat 6)), none, .as (.c (.i .i64 (.ofNat 0)))⟩]
noncomputable def f33_r3 : List EOper := [⟨(some (K.ofNat 7)), none, .mv (.t (K.ofNat 6))⟩, ⟨(some (K.ofNat 8)), none, .mv (.t (K.ofNat 0))⟩, ⟨(some (K.ofNat 9)), none, .bin .shl (.c (.i .i64 (.ofNat 1))) (.t (K.ofNat 8))⟩, ⟨(some (K.ofNat 10)), none, .bin .lss (.t (K.ofNat 7)) (.t (K.ofNat 9))⟩]
noncomputable def f33_r4 : List EOper := [⟨(some (K.ofNat 13)), none, .mv (.t (K.ofNat 1))⟩, ⟨(some (K.ofNat 14)), none, .mv (.t (K.ofNat 6))⟩, ⟨(some (K.ofNat 15)), none, .call (.c (.fn (K.ofNat 45) [])) [(.t (K.ofNat 13)), (.t (K.ofNat 14))]⟩]
noncomputable def f33_r5 : List EOper := [⟨(some (K.ofNat 16)), none, .mv (.t (K.ofNat 5))⟩, ⟨(some (K.ofNat 17)), none, .mv (.t (K.ofNat 6))⟩, ⟨(some (K.ofNat 18)), none, .bslice 1 1 [(.i .i64 (.ofNat 0))] [(0, 1, (.t (K.ofNat 17)))]⟩, ⟨(some (K.ofNat 19)), none, .app 1 (.t (K.ofNat 16)) (.t (K.ofNat 18))⟩, ⟨(some (K.ofNat 5)), none, .as (.t (K.ofNat 19))⟩]
noncomputable def f33_r6 : List EOper := [⟨(some (K.ofNat 11)), none, .mv (.t (K.ofNat 6))⟩, ⟨(some (K.ofNat 12)), none, .bin .add (.t (K.ofNat 11)) (.c (.i .i64 (.ofNat 1)))⟩, ⟨(some (K.ofNat 6)), none, .as (.t (K.ofNat 12))⟩]
noncomputable def f33_l0 : EC := (.seq (.seq (.reg f33_r3) (.cond (.t (K.ofNat 10)) .skip (.exit 0))) (.seq (.block 1 (.seq (.reg f33_r4) (.cond (.t (K.ofNat 15)) (.reg f33_r5) .skip))) (.reg f33_r6)))
noncomputable def f33_r7 : List EOper := [⟨(some (K.ofNat 20)), none, .mv (.t (K.ofNat 5))⟩, ⟨(some (K.ofNat 4)), none, .as (.t (K.ofNat 20))⟩]
noncomputable def f33_c : EC := (.seq (.reg f33_r0) (.seq (.reg f33_r1) (.seq (.seq (.reg f33_r2) (.block 0 (.loop f33_l0))) (.seq (.reg f33_r7) .ret))))
noncomputable def f33 : EF := ⟨21, [.tmp (K.ofNat 4)], f33_c, none⟩
theorem f33_rs : f33.rs = [.tmp (K.ofNat 4)] := of_eq_true (eq_self _)
noncomputable def f31_r0 : List EOper := [⟨(some (K.ofNat 4)), none, .as (.c .sn)⟩]
noncomputable def f31_r1 : List EOper := [⟨(some (K.ofNat 5)), none, .as (.c (.i .i64 (.ofNat 0)))⟩]
noncomputable def f31_r2 : List EOper := [⟨(some (K.ofNat 6)), none, .as (.c (.i .i64 (.ofNat 0)))⟩]
noncomputable def f31_r3 : List EOper := [⟨(some (K.ofNat 10)), none, .mv (.t (K.ofNat 6))⟩, ⟨(some (K.ofNat 11)), none, .mv (.t (K.ofNat 1))⟩, ⟨(some (K.ofNat 12)), none, .len (.t (K.ofNat 11))⟩, ⟨(some (K.ofNat 13)), none, .bin .lss (.t (K.ofNat 10)) (.t (K.ofNat 12))⟩]
noncomputable def f31_r4 : List EOper := [⟨(some (K.ofNat 16)), none, .mv (.t (K.ofNat 5))⟩, ⟨(some (K.ofNat 17)), none, .mv (.t (K.ofNat 1))⟩, ⟨(some (K.ofNat 18)), none, .mv (.t (K.ofNat 6))⟩, ⟨(some (K.ofNat 19)), none, .iads 1 (.t (K.ofNat 17)) (.t (K.ofNat 18))⟩, ⟨(some (K.ofNat 20)), none, .ld (.t (K.ofNat 19))⟩, ⟨(some (K.ofNat 21)), none, .call (.c (.fn (K.ofNat 52) [])) [(.t (K.ofNat 20))]⟩, ⟨(some (K.ofNat 22)), none, .max (.t (K.ofNat 16)) (.t (K.ofNat 21))⟩, ⟨(some (K.ofNat 5)), none, .as (.t (K.ofNat 22))⟩]
noncomputable def f31_r5 : List EOper := [⟨(some (K.ofNat 14)), none, .mv (.t (K.ofNat 6))⟩, ⟨(some (K.ofNat 15)), none, .bin .add (.t (K.ofNat 14)) (.c (.i .i64 (.ofNat 1)))⟩, ⟨(some (K.ofNat 6)), none, .as (.t (K.ofNat 15))⟩]
noncomputable def f31_l0 : EC := (.seq (.seq (.reg f31_r3) (.cond (.t (K.ofNat 13)) .skip (.exit 0))) (.seq (.block 1 (.reg f31_r4)) (.reg f31_r5)))
noncomputable def f31_r6 : List EOper := [⟨(some (K.ofNat 23)), none, .mv (.t (K.ofNat 5))⟩, ⟨(some (K.ofNat 24)), none, .bin .add (.t (K.ofNat 23)) (.c (.i .i64 (.ofNat 1)))⟩, ⟨(some (K.ofNat 25)), none, .mkslice 1 [(.i .i64 (.ofNat 0))] (.t (K.ofNat 24))⟩, ⟨(some (K.ofNat 7)), none, .as (.t (K.ofNat 25))⟩]
noncomputable def f31_r7 : List EOper := [⟨(some (K.ofNat 26)), none, .mv (.t (K.ofNat 0))⟩, ⟨(some (K.ofNat 27)), none, .mv (.t (K.ofNat 1))⟩, ⟨(some (K.ofNat 28)), none, .call (.c (.fn (K.ofNat 33) [])) [(.t (K.ofNat 26)), (.t (K.ofNat 27))]⟩, ⟨(some (K.ofNat 8)), none, .as (.t (K.ofNat 28))⟩]
noncomputable def f31_r8 : List EOper := [⟨(some (K.ofNat 9)), none, .as (.c (.i .i64 (.ofNat 0)))⟩]
noncomputable def f31_r9 : List EOper := [⟨(some (K.ofNat 29)), none, .mv (.t (K.ofNat 9))⟩, ⟨(some (K.ofNat 30)), none, .mv (.t (K.ofNat 8))⟩, ⟨(some (K.ofNat 31)), none, .len (.t (K.ofNat 30))⟩, ⟨(some (K.ofNat 32)), none, .bin .lss (.t (K.ofNat 29)) (.t (K.ofNat 31))⟩]
noncomputable def f31_r10 : List EOper := [⟨(some (K.ofNat 35)), none, .mv (.t (K.ofNat 7))⟩, ⟨(some (K.ofNat 36)), none, .mv (.t (K.ofNat 8))⟩, ⟨(some (K.ofNat 37)), none, .mv (.t (K.ofNat 9))⟩, ⟨(some (K.ofNat 38)), none, .iads 1 (.t (K.ofNat 36)) (.t (K.ofNat 37))⟩, ⟨(some (K.ofNat 39)), none, .ld (.t (K.ofNat 38))⟩, ⟨(some (K.ofNat 40)), none, .call (.c (.fn (K.ofNat 52) [])) [(.t (K.ofNat 39))]⟩, ⟨(some (K.ofNat 41)), none, .iads 1 (.t (K.ofNat 35)) (.t (K.ofNat 40))⟩, ⟨(some (K.ofNat 42)), none, .ld (.t (K.ofNat 41))⟩, ⟨(some (K.ofNat 43)), none, .bin .add (.t (K.ofNat 42)) (.c (.i .i64 (.ofNat 1)))⟩, ⟨(some (K.ofNat 44)), none, .iads 1 (.t (K.ofNat 35)) (.t (K.ofNat 40))⟩, ⟨none, none, .st 1 (.t (K.ofNat 44)) (.t (K.ofNat 43))⟩]
noncomputable def f31_r11 : List EOper := [⟨(some (K.ofNat 33)), none, .mv (.t (K.ofNat 9))⟩, ⟨(some (K.ofNat 34)), none, .bin .add (.t (K.ofNat 33)) (.c (.i .i64 (.ofNat 1)))⟩, ⟨(some (K.ofNat 9)), none, .as (.t (K.ofNat 34))⟩]
noncomputable def f31_l1 : EC := (.seq (.seq (.reg f31_r9) (.cond (.t (K.ofNat 32)) .skip (.exit 2))) (.seq (.block 3 (.reg f31_r10)) (.reg f31_r11)))
noncomputable def f31_r12 : List EOper := [⟨(some (K.ofNat 45)), none, .mv (.t (K.ofNat 7))⟩, ⟨(some (K.ofNat 4)), none, .as (.t (K.ofNat 45))⟩]
noncomputable def f31_c : EC := (.seq (.reg f31_r0) (.seq (.reg f31_r1) (.seq (.seq (.reg f31_r2) (.block 0 (.loop f31_l0))) (.seq (.reg f31_r6) (.seq (.reg f31_r7) (.seq (.seq (.reg f31_r8) (.block 2 (.loop f31_l1))) (.seq (.reg f31_r12) .ret)))))))
noncomputable def f31 : EF := ⟨46, [.tmp (K.ofNat 4)], f31_c, none⟩
theorem f31_rs : f31.rs = [.tmp (K.ofNat 4)] := of_eq_true (eq_self _)
section
variable {fs : T EF} {ro : Option K}
noncomputable def isF (S : List Int) (x : Int) : Bool := S.any fun s => ptI x s
def f45_I (h : H) (v : V) (S : List Int) (x : Int) (i : Nat) (fr : Fr) (h1 : H) : Prop := h1 = h ∧ i ≤ S.length ∧ (S.take i).any (fun s => ptI x s) = false ∧ fr.get (K.ofNat 0) = some (v) ∧ fr.get (K.ofNat 1) = some (.i .i64 x) ∧ fr.get (K.ofNat 5) = some (.i .i64 (i : Int))
theorem f45_ret {h : H} {v : V} {S : List Int} {x : Int} (hp : ∀ a b h P, CallP fs (.fn (K.ofNat 53) []) [.i .i64 a, .i .i64 b] h P = P (.b (ptI a b)) h) (hv : Sl iE h v S) (hS : S.length ≤ 1000000) :
    Ret fs f45 [v, .i .i64 x] h fun u h' => u = .b (isF S x) ∧ h' = h := by
  apply ret_of rfl
  show W fs none f45_c _ _ _
  unfold f45_c
  simp (disch := omega) only [f45_r0, f45_r1, w_reg, w_seq, w_block, seqK_n, x_nil, x_as, ev_c, putD_some, frame_2, of0]
  refine W_loop (f45_I h v S x) (fun i => S.length - i) ?_ 0 ⟨rfl, Nat.zero_le _, by simp, by simp (disch := omega) only [getK_set, Nat.reduceEqDiff, ↓reduceIte, and_self, Int.natCast_zero]⟩
  rintro i fr h1 ⟨rfl, hi, hal, g0, g1, g5⟩
  unfold f45_l0
  by_cases hlt : i < S.length
  · have hlt' : (i : Int) < (S.length : Int) := by omega
    obtain ⟨p, hp1, hp2⟩ := hv.at i hlt
    have hs := any_snoc (p := fun s => ptI x s) hlt
    rw [hal, Bool.false_or] at hs
    cases e : ptI x S[i]
    · simp (disch := omega) only [f45_r2, f45_r3, f45_r5, w_skip, w_reg, w_seq, w_cond, w_block, seqK_n, atK_n, loopK_n, ckB_b, cbB_b, true_and, x_nil, x_mv, x_as, x_ld, x_bin, x_iads, x_call, x_len, kx, rvP_ok, okv_some, ev_t, ev_c, evs_nil, evs_cons, getV_some, putD_some, bin_add, bin_lss, of1, getK_set, Nat.reduceEqDiff, ↓reduceIte, Bool.false_eq_true, g0, g1, g5, hv.len, hlt', decide_true, hp1, hp2, iE, hp, e, fw64]
      exact ⟨i + 1, by omega, rfl, hlt, by rw [hs, e], by simp (disch := omega) only [getK_set, Nat.reduceEqDiff, ↓reduceIte, g0, g1, and_self, Int.natCast_add, Int.natCast_one]⟩
    · have : isF S x = true := by unfold isF; rw [List.any_eq_true]; exact ⟨S[i], List.getElem_mem _, e⟩
      simp (disch := omega) only [f45_r2, f45_r3, f45_r4, f45_rs, w_skip, w_reg, w_seq, w_cond, w_block, w_ret, seqK_n, seqK_r, atK_r, loopK_r, ckB_b, cbB_b, retK_r, x_nil, x_mv, x_as, x_ld, x_bin, x_iads, x_call, x_len, kx, rvP_ok, okv_some, ev_t, ev_c, evs_nil, evs_cons, getV_some, putD_some, bin_lss, oGet_s, readRs_nil, readRs_t, retV_1, Option.some.injEq, exists_eq_left', getK_set, Nat.reduceEqDiff, ↓reduceIte, g0, g1, g5, hv.len, hlt', decide_true, hp1, hp2, iE, hp, e, this, and_self]
  · obtain rfl : i = S.length := by omega
    rw [List.take_length] at hal
    have : isF S x = false := hal
    have hlt' : ¬ (S.length : Int) < (S.length : Int) := by omega
    simp (disch := omega) only [f45_r2, f45_r6, f45_rs, w_reg, w_seq, w_cond, w_exit, w_ret, seqK_n, seqK_e, atK_e, loopK_e, ckB_b, cbB_b, retK_r, x_nil, x_mv, x_as, x_bin, x_len, kx, rvP_ok, okv_some, ev_t, ev_c, getV_some, putD_some, bin_lss, oGet_s, readRs_nil, readRs_t, retV_1, Option.some.injEq, exists_eq_left', getK_set, Nat.reduceEqDiff, ↓reduceIte, Bool.false_eq_true, g0, g5, hv.len, hlt', decide_false, this, and_self]
noncomputable def facTo (S : List Int) (i : Nat) : List Int := ((List.range i).filter fun (k : Nat) => isF S (k : Int)).map fun (k : Nat) => (k : Int)
theorem facTo_succ {S : List Int} {i : Nat} : facTo S (i + 1) = if isF S (i : Int) = true then facTo S i ++ [(i : Int)] else facTo S i := by
  unfold facTo
  rw [List.range_succ, List.filter_append, List.map_append]
  cases h : isF S (i : Int) <;> simp [h]
theorem facTo_len {S : List Int} {i : Nat} : (facTo S i).length ≤ i := by
  unfold facTo; rw [List.length_map]
  exact Nat.le_trans (List.length_filter_le _ _) (by simp)
def f33_I (h : H) (v : V) (S : List Int) (n : Int) (i : Nat) (fr : Fr) (h1 : H) : Prop := ∃ o, i ≤ 2 ^ n.toNat ∧ Sl iE h1 o (facTo S i) ∧ Own h.nx.nat o ∧ Grow h.nx.nat h h1 ∧ fr.get (K.ofNat 0) = some (.i .i64 n) ∧ fr.get (K.ofNat 1) = some (v) ∧ fr.get (K.ofNat 5) = some (o) ∧ fr.get (K.ofNat 6) = some (.i .i64 (i : Int))
theorem pow_n {n : Int} (h1 : 1 ≤ n) (h6 : n ≤ 6) : 2 ^ n.toNat ≤ 64 ∧ ((2 ^ n.toNat : Nat) : Int) = (2 : Int) ^ n.toNat := by
  have : n = 1 ∨ n = 2 ∨ n = 3 ∨ n = 4 ∨ n = 5 ∨ n = 6 := by omega
  rcases this with rfl | rfl | rfl | rfl | rfl | rfl <;> decide
theorem f33_ret {h : H} {v : V} {S : List Int} {n : Int} (hp : ∀ a b h P, CallP fs (.fn (K.ofNat 53) []) [.i .i64 a, .i .i64 b] h P = P (.b (ptI a b)) h) (h45 : fs.get (K.ofNat 45) = some f45) (hv : Sl iE h v S) (hc : HC h) (hS : S.length ≤ 1000000) (hn1 : 1 ≤ n) (hn6 : n ≤ 6) :
    Ret fs f33 [.i .i64 n, v] h fun u h' => Sl iE h' u (facTo S (2 ^ n.toNat)) ∧ Own h.nx.nat u ∧ Grow h.nx.nat h h' := by
  apply ret_of rfl
  show W fs none f33_c _ _ _
  unfold f33_c
  obtain ⟨hpw, hpe⟩ := pow_n hn1 hn6
  simp (disch := omega) only [f33_r0, f33_r1, f33_r2, w_reg, w_seq, w_block, seqK_n, x_nil, x_as, ev_c, putD_some, frame_2, of0]
  refine W_loop (f33_I h v S n) (fun i => 2 ^ n.toNat - i) ?_ 0 ⟨.sn, Nat.zero_le _, Sl.nil, Own.sn, Grow.refl _ _, by simp (disch := omega) only [getK_set, Nat.reduceEqDiff, ↓reduceIte, and_self, Int.natCast_zero]⟩
  rintro i fr h1 ⟨o, hi, hso, hoo, hgr, g0, g1, g5, g6⟩
  have hc1 := hgr.hc hc
  have hv1 := hv.grow hc hgr
  unfold f33_l0
  by_cases hlt : i < 2 ^ n.toNat
  · have hlt' : (i : Int) < (2 : Int) ^ n.toNat := by omega
    simp (disch := omega) only [f33_r3, f33_r4, w_skip, w_reg, w_seq, w_cond, w_block, seqK_n, ckB_b, cbB_b, true_and, x_nil, x_mv, x_bin, x_call, kx, rvP_ok, okv_some, ev_t, ev_c, evs_nil, evs_cons, getV_some, putD_some, bin_lss, of1, getK_set, Nat.reduceEqDiff, ↓reduceIte, g0, g1, g6, bin_shl, shl_n, hlt', decide_true]
    refine (callP_0 (ef := f45) h45 rfl (f45_ret (x := (i : Int)) hp hv1 hS)).mono ?_
    rintro u h2 ⟨rfl, rfl⟩
    cases e : isF S (i : Int)
    · simp (disch := omega) only [f33_r6, w_skip, w_reg, w_cond, seqK_n, atK_n, loopK_n, ckB_b, cbB_b, true_and, x_nil, x_mv, x_as, x_bin, kx, rvP_ok, okv_some, ev_t, ev_c, getV_some, putD_some, bin_add, of1, getK_set, Nat.reduceEqDiff, ↓reduceIte, Bool.false_eq_true, g6, fw64]
      exact ⟨i + 1, by omega, o, hlt, by rw [facTo_succ, e]; exact hso, hoo, hgr, by simp (disch := omega) only [getK_set, Nat.reduceEqDiff, ↓reduceIte, g0, g1, g5, and_self, Int.natCast_add, Int.natCast_one]⟩
    · obtain ⟨v', h', p1, p2, p3, p4, p5⟩ := Sl.push (L := facTo S i) (x := (i : Int)) (c := .i .i64 i) rfl hso hoo hgr.nx hc1 (by have := facTo_len (S := S) (i := i); omega)
      simp (disch := omega) only [f33_r5, f33_r6, w_reg, w_cond, seqK_n, atK_n, loopK_n, ckB_b, cbB_b, true_and, x_nil, x_mv, x_as, x_bslice, x_bin, x_app, kx, rvP_ok, okv_some, ev_t, ev_c, getV_some, putD_some, bin_add, oGet_s, cells1_i, fill_1, set_1, of0, of1, getK_set, Nat.reduceEqDiff, ↓reduceIte, g5, g6, p1, fw64]
      exact ⟨i + 1, by omega, v', hlt, by rw [facTo_succ, e]; exact p2, p3, hgr.trans p4, by simp (disch := omega) only [getK_set, Nat.reduceEqDiff, ↓reduceIte, g0, g1, and_self, Int.natCast_add, Int.natCast_one]⟩
  · obtain rfl : i = 2 ^ n.toNat := by omega
    have hlt' : ¬ ((2 ^ n.toNat : Nat) : Int) < (2 : Int) ^ n.toNat := by omega
    simp (disch := omega) only [f33_r3, f33_r7, f33_rs, w_reg, w_seq, w_cond, w_exit, w_ret, seqK_n, seqK_e, atK_e, loopK_e, ckB_b, cbB_b, true_and, retK_r, x_nil, x_mv, x_as, x_bin, kx, rvP_ok, okv_some, ev_t, ev_c, getV_some, putD_some, bin_lss, oGet_s, readRs_nil, readRs_t, retV_1, of1, Option.some.injEq, exists_eq_left', getK_set, Nat.reduceEqDiff, ↓reduceIte, Bool.false_eq_true, g0, g5, g6, bin_shl, shl_n, hlt', decide_false]
    exact ⟨hso, hoo, hgr⟩
/-- The greatest number of elements. -/
noncomputable def maxS (S : List Int) : Nat := S.foldl (fun d s => max d (pop6 s.toNat)) 0
theorem maxS_snoc {S : List Int} {s : Int} : maxS (S ++ [s]) = max (maxS S) (pop6 s.toNat) := by unfold maxS; rw [List.foldl_append]; rfl
theorem maxS_le : ∀ S : List Int, maxS S ≤ 6 := by
  intro S
  refine snoc_ind (P := fun S => maxS S ≤ 6) (Nat.zero_le _) (fun l k ih => ?_) S
  rw [maxS_snoc]; have := pop6_le (k := k.toNat); omega
def f31_I0 (h : H) (v : V) (S : List Int) (n : Int) (i : Nat) (fr : Fr) (h1 : H) : Prop := h1 = h ∧ i ≤ S.length ∧ fr.get (K.ofNat 0) = some (.i .i64 n) ∧ fr.get (K.ofNat 1) = some (v) ∧ fr.get (K.ofNat 5) = some (.i .i64 (maxS (S.take i) : Int)) ∧ fr.get (K.ofNat 6) = some (.i .i64 (i : Int))
noncomputable def bump (C : List Int) (k : Nat) : List Int := C.set (pop6 k) (C.getD (pop6 k) 0 + 1)
noncomputable def rcnt (d : Nat) (l : List Nat) : List Int := l.foldl bump (List.replicate (d + 1) 0)
theorem rcnt_snoc {d : Nat} {l : List Nat} {k : Nat} : rcnt d (l ++ [k]) = bump (rcnt d l) k := by unfold rcnt; rw [List.foldl_append]; rfl
theorem rcnt_len {d : Nat} : ∀ l, (rcnt d l).length = d + 1 := by
  intro l
  refine snoc_ind (P := fun l => (rcnt d l).length = d + 1) (by simp [rcnt]) (fun l k ih => ?_) l
  rw [rcnt_snoc, bump, List.length_set, ih]
theorem rcnt_bd {d : Nat} : ∀ (l : List Nat), ∀ x ∈ rcnt d l, 0 ≤ x ∧ x ≤ (l.length : Int) := by
  intro l
  refine snoc_ind (P := fun l => ∀ x ∈ rcnt d l, 0 ≤ x ∧ x ≤ (l.length : Int)) (fun x hx => ?_) (fun l k ih x hx => ?_) l
  · have := List.eq_of_mem_replicate (show x ∈ List.replicate (d + 1) (0 : Int) from hx); simp; omega
  · rw [rcnt_snoc] at hx
    unfold bump at hx
    rw [List.length_append]
    rcases List.mem_or_eq_of_mem_set hx with h2 | h2
    · have := ih x h2; simp; omega
    · by_cases hk : pop6 k < (rcnt d l).length
      · have h3 : (rcnt d l).getD (pop6 k) 0 ∈ rcnt d l := by simp [List.getD, hk]
        have := ih _ h3; simp; omega
      · have : (rcnt d l).getD (pop6 k) 0 = 0 := by simp [List.getD, hk]
        simp; omega
noncomputable def facN (S : List Int) (m : Nat) : List Nat := (List.range m).filter fun (k : Nat) => isF S (k : Int)
def f31_I1 (h : H) (S : List Int) (n : Int) (u : V) (i : Nat) (fr : Fr) (h1 : H) : Prop := ∃ o, i ≤ (facN S (2 ^ n.toNat)).length ∧ Sl iE h1 u (facTo S (2 ^ n.toNat)) ∧ Sl iE h1 o (rcnt (maxS S) ((facN S (2 ^ n.toNat)).take i)) ∧ Own h.nx.nat o ∧ (∃ id, Own (id + 1) u ∧ ∀ k off m sz, o = .sl k off m sz → k.nat = id) ∧ Grow h.nx.nat h h1 ∧ fr.get (K.ofNat 7) = some (o) ∧ fr.get (K.ofNat 8) = some (u) ∧ fr.get (K.ofNat 9) = some (.i .i64 (i : Int))
theorem f31_ret {h : H} {v : V} {S : List Int} {n : Int} (hp : ∀ a b h P, CallP fs (.fn (K.ofNat 53) []) [.i .i64 a, .i .i64 b] h P = P (.b (ptI a b)) h)
    (hp52 : ∀ m : Nat, m < 64 → ∀ h P, CallP fs (.fn (K.ofNat 52) []) [.i .i64 (m : Int)] h P = P (.i .i64 (pop6 m : Int)) h)
    (h45 : fs.get (K.ofNat 45) = some f45) (h33 : fs.get (K.ofNat 33) = some f33) (hv : Sl iE h v S) (hc : HC h) (hS : S.length ≤ 1000) (hsets : Sets S) (hn1 : 1 ≤ n) (hn6 : n ≤ 6)
    (hsz : ∀ k ∈ facN S (2 ^ n.toNat), pop6 k ≤ maxS S) :
    Ret fs f31 [.i .i64 n, v] h fun u h' => Sl iE h' u (rcnt (maxS S) (facN S (2 ^ n.toNat))) ∧ Own h.nx.nat u ∧ Grow h.nx.nat h h' := by
  apply ret_of rfl
  show W fs none f31_c _ _ _
  unfold f31_c
  obtain ⟨hpw, hpe⟩ := pow_n hn1 hn6
  simp (disch := omega) only [f31_r0, f31_r1, f31_r2, w_reg, w_seq, w_block, seqK_n, x_nil, x_as, ev_c, putD_some, frame_2, of0]
  refine W_loop (f31_I0 h v S n) (fun i => S.length - i) ?_ 0 ⟨rfl, Nat.zero_le _, by simp (disch := omega) only [true_and, Option.some.injEq, getK_set, Nat.reduceEqDiff, ↓reduceIte, Int.natCast_zero]; exact ⟨rfl, trivial⟩⟩
  rintro i fr h1 ⟨rfl, hi, g0, g1, g5, g6⟩
  unfold f31_l0
  by_cases hlt : i < S.length
  · have hlt' : (i : Int) < (S.length : Int) := by omega
    obtain ⟨p, hp1, hp2⟩ := hv.at i hlt
    obtain ⟨t, ht, hst⟩ := hsets S[i] (List.getElem_mem hlt)
    rw [hst] at hp2
    have hmx : maxS (S.take (i + 1)) = max (maxS (S.take i)) (pop6 t) := by rw [List.take_succ_eq_append_getElem hlt, maxS_snoc, hst]; rfl
    have hmax : max ((maxS (S.take i) : Nat) : Int) (pop6 t : Int) = ((max (maxS (S.take i)) (pop6 t) : Nat) : Int) := by omega
    simp (disch := omega) only [f31_r3, f31_r4, f31_r5, w_skip, w_reg, w_seq, w_cond, w_block, seqK_n, atK_n, loopK_n, ckB_b, cbB_b, true_and, x_nil, x_mv, x_as, x_ld, x_bin, x_iads, x_call, x_len, x_max, kx, rvP_ok, okv_some, ev_t, ev_c, evs_nil, evs_cons, getV_some, putD_some, bin_add, bin_lss, max_ii, of1, getK_set, Nat.reduceEqDiff, ↓reduceIte, g1, g5, g6, hv.len, hlt', decide_true, hp1, hp2, iE, hp52 _ ht, hmax, fw64]
    exact ⟨i + 1, by omega, rfl, hlt, by rw [hmx]; simp (disch := omega) only [getK_set, Nat.reduceEqDiff, ↓reduceIte, g0, g1, and_self, Int.natCast_add, Int.natCast_one]⟩
  · obtain rfl : i = S.length := by omega
    rw [List.take_length] at g5
    have hlt' : ¬ (S.length : Int) < (S.length : Int) := by omega
    have hms := maxS_le S
    have hd1 : fw .i64 ((maxS S : Int) + 1) = ((maxS S + 1 : Nat) : Int) := by rw [fw64 (by omega) (by omega)]; omega
    simp (disch := omega) only [f31_r3, f31_r6, w_reg, w_seq, w_cond, w_exit, seqK_n, seqK_e, atK_e, loopK_e, ckB_b, cbB_b, true_and, x_nil, x_mv, x_as, x_bin, x_mks, x_len, kx, rvP_ok, okv_some, ev_t, ev_c, getV_some, putD_some, bin_add, bin_lss, of0, of1, getK_set, Nat.reduceEqDiff, ↓reduceIte, Bool.false_eq_true, g1, g5, g6, hv.len, hlt', decide_false, hd1, mks_ints (show maxS S + 1 ≤ 1000000 by omega)]
    have gn : Grow h1.nx.nat h1 (h1.new (.cells ((maxS S + 1) * 1) (rep [.i .i64 0] (maxS S + 1)))) := Grow.new (Nat.le_refl _) _
    have n1 := nx_new h1 (.cells ((maxS S + 1) * 1) (rep [.i .i64 0] (maxS S + 1)))
    have hsl := mks_sl (h := h1) (n := maxS S + 1)
    generalize h1.new (.cells ((maxS S + 1) * 1) (rep [.i .i64 0] (maxS S + 1))) = h2 at *
    have hc2 := gn.hc hc
    simp (disch := omega) only [f31_r7, x_mv, x_call, ev_t, ev_c, evs_nil, evs_cons, getV_some, putD_some, getK_set, Nat.reduceEqDiff, ↓reduceIte, g0, g1]
    refine (callP_0 (ef := f33) h33 rfl (f33_ret (n := n) hp h45 (hv.grow hc gn) hc2 (by omega) hn1 hn6)).mono ?_
    rintro u h3 ⟨hsu, hou, gr3⟩
    simp (disch := omega) only [f31_r8, w_reg, w_seq, w_block, seqK_n, x_nil, x_as, kx, ev_t, ev_c, getV_some, putD_some, of0, getK_set, ↓reduceIte]
    have hfl : (facTo S (2 ^ n.toNat)).length = (facN S (2 ^ n.toNat)).length := by unfold facTo facN; rw [List.length_map]
    have hfl64 : (facN S (2 ^ n.toNat)).length ≤ 64 := by have := facTo_len (S := S) (i := 2 ^ n.toNat); omega
    refine W_loop (f31_I1 h1 S n u) (fun i => (facN S (2 ^ n.toNat)).length - i) ?_ 0 ⟨.sl h1.nx 0 (maxS S + 1) 1, Nat.zero_le _, hsu, hsl.grow hc2 gr3, (fun _ _ _ _ e => by cases e; exact Nat.le_refl _), ⟨h1.nx.nat, hou.low (by omega), fun _ _ _ _ e => by cases e; rfl⟩, gn.trans (gr3.low (by omega)), by simp (disch := omega) only [getK_set, Nat.reduceEqDiff, ↓reduceIte, and_self, Int.natCast_zero]⟩
    clear g0 g1 g5 g6 fr
    rintro j fr h4 ⟨o, hj, hsu4, hso, hoo, ⟨id0, hid0, hid1⟩, hgr, g7, g8, g9⟩
    have hc4 := hgr.hc hc
    unfold f31_l1
    by_cases hltj : j < (facN S (2 ^ n.toNat)).length
    · have hltj' : (j : Int) < ((facTo S (2 ^ n.toNat)).length : Int) := by omega
      obtain ⟨p, hp1, hp2⟩ := hsu4.at j (by omega)
      have hk := List.getElem_mem hltj
      have hfe : (facTo S (2 ^ n.toNat))[j]'(by omega) = ((facN S (2 ^ n.toNat))[j] : Int) := by unfold facTo facN; rw [List.getElem_map]; rfl
      rw [hfe] at hp2
      have hk64 : (facN S (2 ^ n.toNat))[j] < 64 := by
        have := (List.mem_filter.1 (show (facN S (2 ^ n.toNat))[j] ∈ (List.range (2 ^ n.toNat)).filter (fun (k : Nat) => isF S (k : Int)) from hk)).1
        rw [List.mem_range] at this
        exact Nat.lt_of_lt_of_le this hpw
      have hks := hsz _ hk
      have hlen := rcnt_len (d := maxS S) ((facN S (2 ^ n.toNat)).take j)
      have hml : pop6 (facN S (2 ^ n.toNat))[j] < (rcnt (maxS S) ((facN S (2 ^ n.toNat)).take j)).length := by omega
      obtain ⟨q, hq1, hq2⟩ := hso.at _ hml
      have hbd := rcnt_bd (d := maxS S) ((facN S (2 ^ n.toNat)).take j) _ (List.getElem_mem hml)
      have hlt64 : ((facN S (2 ^ n.toNat)).take j).length ≤ 64 := by rw [List.length_take]; omega
      obtain ⟨p2, id, m2, cs2, q1, q2, q3, ⟨off, nn, sz, q4⟩, q5⟩ := hso.st hml (x := (rcnt (maxS S) ((facN S (2 ^ n.toNat)).take j))[pop6 (facN S (2 ^ n.toNat))[j]] + 1) (c := .i .i64 ((rcnt (maxS S) ((facN S (2 ^ n.toNat)).take j))[pop6 (facN S (2 ^ n.toNat))[j]] + 1)) rfl rfl hc4
      have hpp : p2 = q := by
        have h1' := hq1 .i64 h4
        have h2' := q1 .i64 h4
        rw [h1'] at h2'
        cases h2'; rfl
      subst hpp
      have hfw : fw .i64 ((rcnt (maxS S) ((facN S (2 ^ n.toNat)).take j))[pop6 (facN S (2 ^ n.toNat))[j]] + 1) = (rcnt (maxS S) ((facN S (2 ^ n.toNat)).take j))[pop6 (facN S (2 ^ n.toNat))[j]] + 1 := fw64 (by omega) (by omega)
      simp (disch := omega) only [f31_r9, f31_r10, f31_r11, w_skip, w_reg, w_seq, w_cond, w_block, seqK_n, atK_n, loopK_n, ckB_b, cbB_b, true_and, x_nil, x_mv, x_as, x_ld, x_st, x_bin, x_iads, x_call, x_len, kx, rvP_ok, okv_some, ev_t, ev_c, evs_nil, evs_cons, getV_some, putD_some, putD_none, bin_add, bin_lss, of1, getK_set, Nat.reduceEqDiff, ↓reduceIte, g7, g8, g9, hsu4.len, hltj', decide_true, hp1, hp2, iE, hp52 _ hk64, hq1, hq2, hfw, q2, fw64]
      have hidn := hid1 _ _ _ _ q4
      refine ⟨j + 1, by omega, o, hltj, hsu4.put (hid0.notIn (by omega)) _, ?_, hoo, ⟨id0, hid0, hid1⟩, hgr.trans (Grow.put (hoo _ _ _ _ q4) q5 _), by simp (disch := omega) only [getK_set, Nat.reduceEqDiff, ↓reduceIte, g7, g8, and_self, Int.natCast_add, Int.natCast_one]⟩
      have : rcnt (maxS S) ((facN S (2 ^ n.toNat)).take (j + 1)) = (rcnt (maxS S) ((facN S (2 ^ n.toNat)).take j)).set (pop6 (facN S (2 ^ n.toNat))[j]) ((rcnt (maxS S) ((facN S (2 ^ n.toNat)).take j))[pop6 (facN S (2 ^ n.toNat))[j]] + 1) := by
        rw [List.take_succ_eq_append_getElem hltj, rcnt_snoc]
        unfold bump
        rw [show (rcnt (maxS S) ((facN S (2 ^ n.toNat)).take j)).getD (pop6 (facN S (2 ^ n.toNat))[j]) 0 = (rcnt (maxS S) ((facN S (2 ^ n.toNat)).take j))[pop6 (facN S (2 ^ n.toNat))[j]] by simp [List.getD, hml]]
      rw [this]; exact q3
    · obtain rfl : j = (facN S (2 ^ n.toNat)).length := by omega
      rw [List.take_length] at hso
      have hltj' : ¬ (((facN S (2 ^ n.toNat)).length : Nat) : Int) < ((facTo S (2 ^ n.toNat)).length : Int) := by omega
      simp (disch := omega) only [f31_r9, f31_r12, f31_rs, w_reg, w_seq, w_cond, w_exit, w_ret, seqK_n, seqK_e, atK_e, loopK_e, ckB_b, cbB_b, true_and, retK_r, x_nil, x_mv, x_as, x_bin, x_len, kx, rvP_ok, okv_some, ev_t, getV_some, putD_some, bin_lss, oGet_s, readRs_nil, readRs_t, retV_1, Option.some.injEq, exists_eq_left', getK_set, Nat.reduceEqDiff, ↓reduceIte, Bool.false_eq_true, g7, g8, g9, hsu4.len, hltj', decide_false]
      exact ⟨hso, hoo, hgr⟩
/-- The sum of the counts with signs, as the reference has it: from the i-th on. -/
noncomputable def reuS (L : List Int) : Nat → Nat → Int → Int
  | 0, _, sum => sum
  | t + 1, i, sum => reuS L t (i + 1) (fw .i64 (sum + fw .i64 (L.getD i 0 * fw .i64 (fw .i64 (2 * ((i : Int).tmod 2)) - 1))))
end
end Go.Ev
namespace Go.Ev
open Go Go.RowKit
noncomputable def f74_r0 : List EOper := [⟨(some (K.ofNat 2)), none, .as (.c (.i .i64 (.ofNat 0)))⟩]
noncomputable def f74_r1 : List EOper := [⟨(some (K.ofNat 3)), none, .as (.c .sn)⟩]
noncomputable def f74_r2 : List EOper := [⟨(some (K.ofNat 8)), none, .mv (.t (K.ofNat 3))⟩, ⟨(some (K.ofNat 9)), none, .mv (.t (K.ofNat 0))⟩, ⟨(some (K.ofNat 10)), none, .app 1 (.t (K.ofNat 8)) (.t (K.ofNat 9))⟩, ⟨(some (K.ofNat 3)), none, .as (.t (K.ofNat 10))⟩]
noncomputable def f74_r3 : List EOper := [⟨(some (K.ofNat 4)), none, .as (.c (.i .i64 (.ofNat 0)))⟩]
noncomputable def f74_r4 : List EOper := [⟨(some (K.ofNat 5)), none, .as (.c (.i .i64 (.ofNat 0)))⟩]
noncomputable def f74_r5 : List EOper := [⟨(some (K.ofNat 11)), none, .mv (.t (K.ofNat 5))⟩, ⟨(some (K.ofNat 12)), none, .mv (.t (K.ofNat 3))⟩, ⟨(some (K.ofNat 13)), none, .len (.t (K.ofNat 12))⟩, ⟨(some (K.ofNat 14)), none, .bin .lss (.t (K.ofNat 11)) (.t (K.ofNat 13))⟩]
noncomputable def f74_r6 : List EOper := [⟨(some (K.ofNat 17)), none, .mv (.t (K.ofNat 3))⟩, ⟨(some (K.ofNat 18)), none, .mv (.t (K.ofNat 5))⟩, ⟨(some (K.ofNat 19)), none, .iads 1 (.t (K.ofNat 17)) (.t (K.ofNat 18))⟩, ⟨(some (K.ofNat 20)), none, .ld (.t (K.ofNat 19))⟩, ⟨(some (K.ofNat 21)), none, .bin .eql (.t (K.ofNat 20)) (.c (.i .i64 (.ofNat 0)))⟩]
noncomputable def f74_r7 : List EOper := [⟨(some (K.ofNat 22)), none, .mv (.t (K.ofNat 4))⟩, ⟨(some (K.ofNat 23)), none, .bin .add (.t (K.ofNat 22)) (.c (.i .i64 (.ofNat 1)))⟩, ⟨(some (K.ofNat 4)), none, .as (.t (K.ofNat 23))⟩]
noncomputable def f74_r8 : List Stage := [⟨[⟨(some (K.ofNat 24)), none, .mv (.t (K.ofNat 3))⟩, ⟨(some (K.ofNat 25)), none, .mv (.t (K.ofNat 5))⟩, ⟨(some (K.ofNat 26)), none, .iads 1 (.t (K.ofNat 24)) (.t (K.ofNat 25))⟩, ⟨(some (K.ofNat 27)), none, .ld (.t (K.ofNat 26))⟩, ⟨(some (K.ofNat 28)), none, .mv (.t (K.ofNat 3))⟩, ⟨(some (K.ofNat 29)), none, .mv (.t (K.ofNat 5))⟩, ⟨(some (K.ofNat 30)), none, .iads 1 (.t (K.ofNat 28)) (.t (K.ofNat 29))⟩, ⟨(some (K.ofNat 31)), none, .ld (.t (K.ofNat 30))⟩, ⟨(some (K.ofNat 32)), none, .neg (.t (K.ofNat 31))⟩, ⟨(some (K.ofNat 33)), none, .bin .and (.t (K.ofNat 27)) (.t (K.ofNat 32))⟩], [], (some ⟨(some (K.ofNat 6)), none, .as (.t (K.ofNat 33))⟩), []⟩, ⟨[], [], none, []⟩]
noncomputable def f74_r9 : List EOper := [⟨(some (K.ofNat 34)), none, .mv (.t (K.ofNat 5))⟩, ⟨(some (K.ofNat 35)), none, .bin .add (.t (K.ofNat 34)) (.c (.i .i64 (.ofNat 1)))⟩, ⟨(some (K.ofNat 7)), none, .as (.t (K.ofNat 35))⟩]
noncomputable def f74_r10 : List EOper := [⟨(some (K.ofNat 36)), none, .mv (.t (K.ofNat 7))⟩, ⟨(some (K.ofNat 37)), none, .mv (.t (K.ofNat 3))⟩, ⟨(some (K.ofNat 38)), none, .len (.t (K.ofNat 37))⟩, ⟨(some (K.ofNat 39)), none, .bin .lss (.t (K.ofNat 36)) (.t (K.ofNat 38))⟩]
noncomputable def f74_r11 : List EOper := [⟨(some (K.ofNat 42)), none, .mv (.t (K.ofNat 3))⟩, ⟨(some (K.ofNat 43)), none, .mv (.t (K.ofNat 7))⟩, ⟨(some (K.ofNat 44)), none, .iads 1 (.t (K.ofNat 42)) (.t (K.ofNat 43))⟩, ⟨(some (K.ofNat 45)), none, .ld (.t (K.ofNat 44))⟩, ⟨(some (K.ofNat 46)), none, .mv (.t (K.ofNat 6))⟩, ⟨(some (K.ofNat 47)), none, .bin .and (.t (K.ofNat 45)) (.t (K.ofNat 46))⟩, ⟨(some (K.ofNat 48)), none, .bin .neq (.t (K.ofNat 47)) (.c (.i .i64 (.ofNat 0)))⟩]
noncomputable def f74_r12 : List Stage := [⟨[⟨(some (K.ofNat 49)), none, .mv (.t (K.ofNat 3))⟩, ⟨(some (K.ofNat 50)), none, .mv (.t (K.ofNat 7))⟩, ⟨(some (K.ofNat 51)), none, .mv (.t (K.ofNat 3))⟩, ⟨(some (K.ofNat 52)), none, .mv (.t (K.ofNat 7))⟩, ⟨(some (K.ofNat 53)), none, .iads 1 (.t (K.ofNat 51)) (.t (K.ofNat 52))⟩, ⟨(some (K.ofNat 54)), none, .ld (.t (K.ofNat 53))⟩, ⟨(some (K.ofNat 55)), none, .mv (.t (K.ofNat 3))⟩, ⟨(some (K.ofNat 56)), none, .mv (.t (K.ofNat 5))⟩, ⟨(some (K.ofNat 57)), none, .iads 1 (.t (K.ofNat 55)) (.t (K.ofNat 56))⟩, ⟨(some (K.ofNat 58)), none, .ld (.t (K.ofNat 57))⟩, ⟨(some (K.ofNat 59)), none, .bin .xor (.t (K.ofNat 54)) (.t (K.ofNat 58))⟩, ⟨(some (K.ofNat 60)), none, .iads 1 (.t (K.ofNat 49)) (.t (K.ofNat 50))⟩], [], (some ⟨none, none, .st 1 (.t (K.ofNat 60)) (.t (K.ofNat 59))⟩), []⟩, ⟨[], [], none, []⟩]
noncomputable def f74_r13 : List EOper := [⟨(some (K.ofNat 40)), none, .mv (.t (K.ofNat 7))⟩, ⟨(some (K.ofNat 41)), none, .bin .add (.t (K.ofNat 40)) (.c (.i .i64 (.ofNat 1)))⟩, ⟨(some (K.ofNat 7)), none, .as (.t (K.ofNat 41))⟩]
noncomputable def f74_l0 : EC := (.seq (.seq (.reg f74_r10) (.cond (.t (K.ofNat 39)) .skip (.exit 2))) (.seq (.block 3 (.seq (.reg f74_r11) (.cond (.t (K.ofNat 48)) (.draw f74_r12) .skip))) (.reg f74_r13)))
noncomputable def f74_r14 : List EOper := [⟨(some (K.ofNat 15)), none, .mv (.t (K.ofNat 5))⟩, ⟨(some (K.ofNat 16)), none, .bin .add (.t (K.ofNat 15)) (.c (.i .i64 (.ofNat 1)))⟩, ⟨(some (K.ofNat 5)), none, .as (.t (K.ofNat 16))⟩]
noncomputable def f74_l1 : EC := (.seq (.seq (.reg f74_r5) (.cond (.t (K.ofNat 14)) .skip (.exit 0))) (.seq (.block 1 (.seq (.seq (.reg f74_r6) (.cond (.t (K.ofNat 21)) (.exit 1) .skip)) (.seq (.reg f74_r7) (.seq (.draw f74_r8) (.seq (.reg f74_r9) (.block 2 (.loop f74_l0))))))) (.reg f74_r14)))
noncomputable def f74_r15 : List EOper := [⟨(some (K.ofNat 61)), none, .mv (.t (K.ofNat 4))⟩, ⟨(some (K.ofNat 2)), none, .as (.t (K.ofNat 61))⟩]
noncomputable def f74_c : EC := (.seq (.reg f74_r0) (.seq (.reg f74_r1) (.seq (.reg f74_r2) (.seq (.reg f74_r3) (.seq (.seq (.reg f74_r4) (.block 0 (.loop f74_l1))) (.seq (.reg f74_r15) .ret))))))
noncomputable def f74 : EF := ⟨62, [.tmp (K.ofNat 2)], f74_c, none⟩
theorem f74_rs : f74.rs = [.tmp (K.ofNat 2)] := of_eq_true (eq_self _)
noncomputable def f73_r0 : List EOper := [⟨(some (K.ofNat 4)), none, .as (.c .sn)⟩]
noncomputable def f73_r1 : List EOper := [⟨(some (K.ofNat 5)), none, .as (.c .sn)⟩]
noncomputable def f73_r2 : List EOper := [⟨(some (K.ofNat 6)), none, .as (.c (.i .i64 (.ofNat 0)))⟩]
noncomputable def f73_r3 : List EOper := [⟨(some (K.ofNat 9)), none, .mv (.t (K.ofNat 6))⟩, ⟨(some (K.ofNat 10)), none, .mv (.t (K.ofNat 0))⟩, ⟨(some (K.ofNat 11)), none, .len (.t (K.ofNat 10))⟩, ⟨(some (K.ofNat 12)), none, .bin .lss (.t (K.ofNat 9)) (.t (K.ofNat 11))⟩]
noncomputable def f73_r4 : List EOper := [⟨(some (K.ofNat 15)), none, .mv (.t (K.ofNat 0))⟩, ⟨(some (K.ofNat 16)), none, .mv (.t (K.ofNat 6))⟩, ⟨(some (K.ofNat 17)), none, .iads 1 (.t (K.ofNat 15)) (.t (K.ofNat 16))⟩, ⟨(some (K.ofNat 18)), none, .ld (.t (K.ofNat 17))⟩, ⟨(some (K.ofNat 19)), none, .call (.c (.fn (K.ofNat 52) [])) [(.t (K.ofNat 18))]⟩, ⟨(some (K.ofNat 20)), none, .mv (.t (K.ofNat 1))⟩, ⟨(some (K.ofNat 21)), none, .bin .neq (.t (K.ofNat 19)) (.t (K.ofNat 20))⟩]
noncomputable def f73_r5 : List EOper := [⟨(some (K.ofNat 7)), none, .as (.c (.i .i64 (.ofNat 0)))⟩]
noncomputable def f73_r6 : List EOper := [⟨(some (K.ofNat 8)), none, .as (.c (.i .i64 (.ofNat 0)))⟩]
noncomputable def f73_r7 : List EOper := [⟨(some (K.ofNat 22)), none, .mv (.t (K.ofNat 8))⟩, ⟨(some (K.ofNat 23)), none, .bin .lss (.t (K.ofNat 22)) (.c (.i .i64 (.ofNat 6)))⟩]
noncomputable def f73_r8 : List EOper := [⟨(some (K.ofNat 26)), none, .mv (.t (K.ofNat 0))⟩, ⟨(some (K.ofNat 27)), none, .mv (.t (K.ofNat 6))⟩, ⟨(some (K.ofNat 28)), none, .iads 1 (.t (K.ofNat 26)) (.t (K.ofNat 27))⟩, ⟨(some (K.ofNat 29)), none, .ld (.t (K.ofNat 28))⟩, ⟨(some (K.ofNat 30)), none, .mv (.t (K.ofNat 8))⟩, ⟨(some (K.ofNat 31)), none, .bin .shr (.t (K.ofNat 29)) (.t (K.ofNat 30))⟩, ⟨(some (K.ofNat 32)), none, .bin .rem (.t (K.ofNat 31)) (.c (.i .i64 (.ofNat 2)))⟩, ⟨(some (K.ofNat 33)), none, .bin .eql (.t (K.ofNat 32)) (.c (.i .i64 (.ofNat 1)))⟩]
noncomputable def f73_r9 : List Stage := [⟨[⟨(some (K.ofNat 34)), none, .mv (.t (K.ofNat 7))⟩, ⟨(some (K.ofNat 35)), none, .mv (.t (K.ofNat 0))⟩, ⟨(some (K.ofNat 36)), none, .mv (.t (K.ofNat 6))⟩, ⟨(some (K.ofNat 37)), none, .iads 1 (.t (K.ofNat 35)) (.t (K.ofNat 36))⟩, ⟨(some (K.ofNat 38)), none, .ld (.t (K.ofNat 37))⟩, ⟨(some (K.ofNat 39)), none, .mv (.t (K.ofNat 8))⟩, ⟨(some (K.ofNat 40)), none, .bin .shl (.c (.i .i64 (.ofNat 1))) (.t (K.ofNat 39))⟩, ⟨(some (K.ofNat 41)), none, .bin .andNot (.t (K.ofNat 38)) (.t (K.ofNat 40))⟩, ⟨(some (K.ofNat 42)), none, .bin .shl (.c (.i .i64 (.ofNat 1))) (.t (K.ofNat 41))⟩, ⟨(some (K.ofNat 43)), none, .bin .or (.t (K.ofNat 34)) (.t (K.ofNat 42))⟩], [], (some ⟨(some (K.ofNat 7)), none, .as (.t (K.ofNat 43))⟩), []⟩, ⟨[], [], none, []⟩]
noncomputable def f73_r10 : List EOper := [⟨(some (K.ofNat 24)), none, .mv (.t (K.ofNat 8))⟩, ⟨(some (K.ofNat 25)), none, .bin .add (.t (K.ofNat 24)) (.c (.i .i64 (.ofNat 1)))⟩, ⟨(some (K.ofNat 8)), none, .as (.t (K.ofNat 25))⟩]
noncomputable def f73_l0 : EC := (.seq (.seq (.reg f73_r7) (.cond (.t (K.ofNat 23)) .skip (.exit 2))) (.seq (.block 3 (.seq (.reg f73_r8) (.cond (.t (K.ofNat 33)) (.draw f73_r9) .skip))) (.reg f73_r10)))
noncomputable def f73_r11 : List EOper := [⟨(some (K.ofNat 44)), none, .mv (.t (K.ofNat 5))⟩, ⟨(some (K.ofNat 45)), none, .mv (.t (K.ofNat 7))⟩, ⟨(some (K.ofNat 46)), none, .bslice 1 1 [(.i .i64 (.ofNat 0))] [(0, 1, (.t (K.ofNat 45)))]⟩, ⟨(some (K.ofNat 47)), none, .app 1 (.t (K.ofNat 44)) (.t (K.ofNat 46))⟩, ⟨(some (K.ofNat 5)), none, .as (.t (K.ofNat 47))⟩]
noncomputable def f73_r12 : List EOper := [⟨(some (K.ofNat 13)), none, .mv (.t (K.ofNat 6))⟩, ⟨(some (K.ofNat 14)), none, .bin .add (.t (K.ofNat 13)) (.c (.i .i64 (.ofNat 1)))⟩, ⟨(some (K.ofNat 6)), none, .as (.t (K.ofNat 14))⟩]
noncomputable def f73_l1 : EC := (.seq (.seq (.reg f73_r3) (.cond (.t (K.ofNat 12)) .skip (.exit 0))) (.seq (.block 1 (.seq (.seq (.reg f73_r4) (.cond (.t (K.ofNat 21)) (.exit 1) .skip)) (.seq (.reg f73_r5) (.seq (.seq (.reg f73_r6) (.block 2 (.loop f73_l0))) (.reg f73_r11))))) (.reg f73_r12)))
noncomputable def f73_r13 : List EOper := [⟨(some (K.ofNat 48)), none, .mv (.t (K.ofNat 5))⟩, ⟨(some (K.ofNat 4)), none, .as (.t (K.ofNat 48))⟩]
noncomputable def f73_c : EC := (.seq (.reg f73_r0) (.seq (.reg f73_r1) (.seq (.seq (.reg f73_r2) (.block 0 (.loop f73_l1))) (.seq (.reg f73_r13) .ret))))
noncomputable def f73 : EF := ⟨49, [.tmp (K.ofNat 4)], f73_c, none⟩
theorem f73_rs : f73.rs = [.tmp (K.ofNat 4)] := of_eq_true (eq_self _)
section
variable {fs : T EF} {ro : Option K}
theorem Sl.unmap {α β : Type} {e : β → V} {f : α → β} {h : H} {v : V} {L : List α} (hs : Sl e h v (L.map f)) : Sl (fun x => e (f x)) h v L := by
  rcases hs with ⟨rfl, hl⟩ | ⟨id, off, m, cs, rfl, hb, hl, hm, hx⟩
  · have : L = [] := by simpa using hl
    exact .inl ⟨rfl, this⟩
  · exact .inr ⟨id, off, m, cs, by rw [List.length_map], hb, by simpa using hl, by simpa using hm, fun i hi => by have := hx i (by simpa using hi); simpa using this⟩
def f74_I0 (b : Nat) (h : H) (v : V) (p c i n : Nat) (R : List Nat) (j : Nat) (fr : Fr) (h1 : H) : Prop := ∃ L, j ≤ n ∧ L.length = n ∧ i < j ∧ L.getD i 0 = p ∧ Small L ∧ elR p (n - j) j L = R ∧ Sl nE h1 v L ∧ Grow b h h1 ∧ fr.get (K.ofNat 3) = some (v) ∧ fr.get (K.ofNat 4) = some (.i .i64 (c : Int)) ∧ fr.get (K.ofNat 5) = some (.i .i64 (i : Int)) ∧ fr.get (K.ofNat 6) = some (.i .i64 (low p : Int)) ∧ fr.get (K.ofNat 7) = some (.i .i64 (j : Int))
theorem f74_inner {Q : Ex → Fr → H → Prop} {b : Nat} {h h0 : H} {v : V} {p c i n : Nat} {R : List Nat} {j : Nat} {fr : Fr} (hc : HC h) (ho : Own b v) (hp : p < 9223372036854775808) (hn : n ≤ 1000)
    (hi : f74_I0 b h v p c i n R j fr h0)
    (hq : ∀ fr h1, Small R → R.length = n → Sl nE h1 v R → Grow b h h1 → fr.get (K.ofNat 3) = some (v) ∧ fr.get (K.ofNat 4) = some (.i .i64 (c : Int)) ∧ fr.get (K.ofNat 5) = some (.i .i64 (i : Int)) → Q (.exit 2) fr h1) :
    W fs ro (.loop f74_l0) Q fr h0 := by
  refine W_loop (f74_I0 b h v p c i n R) (fun j => n - j) ?_ j hi
  clear hi fr h0 j
  rintro j fr h1 ⟨L, hj, hl, hij, hpi, hsm, hR, hs, hgr, g3, g4, g5, g6, g7⟩
  have hc1 := hgr.hc hc
  have hlw := @low_lt p
  unfold f74_l0
  by_cases hlt : j < n
  · have hlt' : (j : Int) < (L.length : Int) := by omega
    have hjl : j < L.length := by omega
    have hil : i < L.length := by omega
    have hpi' : L[i] = p := by rw [← hpi]; simp [List.getD, hil]
    obtain ⟨q, hp1, hp2⟩ := hs.at j hjl
    obtain ⟨r, hr1, hr2⟩ := hs.at i hil
    have hx := hsm.at hjl
    have hRn : elR p (n - (j + 1)) (j + 1) (L.set j (stepR p L[j])) = R := by
      rw [← hR, show n - j = (n - (j + 1)) + 1 by omega, elR]
      simp [List.getD, hjl]
    by_cases e : (L[j] &&& low p) = 0
    · have e' : ((L[j] &&& low p : Nat) : Int) = 0 := by omega
      have hst : stepR p L[j] = L[j] := by unfold stepR; rw [if_neg (by simpa using e)]
      rw [hst, set_same] at hRn
      simp (disch := omega) only [f74_r10, f74_r11, f74_r13, w_skip, w_reg, w_seq, w_cond, w_block, seqK_n, atK_n, loopK_n, ckB_b, cbB_b, true_and, x_nil, x_mv, x_as, x_ld, x_bin, x_iads, x_len, kx, rvP_ok, okv_some, ev_t, ev_c, getV_some, putD_some, bin_add, bin_neq, bin_lss, of0, of1, getK_set, Nat.reduceEqDiff, ↓reduceIte, Bool.false_eq_true, g3, g6, g7, hs.len, hlt', decide_true, hp1, hp2, nE, and_n kmi hx (show low p < 9223372036854775808 by omega), e', ne_eq, not_true_eq_false, decide_false, fw64]
      exact ⟨j + 1, by omega, L, hlt, hl, by omega, hpi, hsm, hRn, hs, hgr, by simp (disch := omega) only [getK_set, Nat.reduceEqDiff, ↓reduceIte, g3, g4, g5, g6, and_self, Int.natCast_add, Int.natCast_one]⟩
    · have e' : ¬ ((L[j] &&& low p : Nat) : Int) = 0 := by omega
      have hst : stepR p L[j] = L[j] ^^^ p := by unfold stepR; rw [if_pos e]
      rw [hst] at hRn
      have hxr := stepR_lt hp hx
      rw [hst] at hxr
      obtain ⟨p2, id, m2, cs2, q1, q2, q3, ⟨off, nn, sz, q4⟩, q5⟩ := hs.st hjl (x := L[j] ^^^ p) (c := .i .i64 ((L[j] ^^^ p : Nat) : Int)) rfl rfl hc1
      have hpp : p2 = q := by
        have h1' := hp1 .i64 h1
        have h2' := q1 .i64 h1
        rw [h1'] at h2'
        cases h2'; rfl
      subst hpp
      have hid := ho id off nn sz q4
      simp (disch := omega) only [f74_r10, f74_r11, f74_r12, f74_r13, w_skip, w_reg, w_draw, w_seq, w_cond, w_block, seqK_n, atK_n, loopK_n, ckB_b, cbB_b, true_and, x_nil, x_mv, x_as, x_ld, x_st, x_bin, x_iads, x_len, kx, kg, xg_nil, xg_mv, xg_ld, xg_bin, xg_iads, xd_cons, fresh_nil, stK_n, stK_s, stay_nil, rvP_ok, okv_some, ev_t, ev_c, getV_some, putD_some, putD_none, bin_add, bin_neq, bin_lss, of0, of1, getK_set, Nat.reduceEqDiff, ↓reduceIte, g3, g5, g6, g7, hs.len, hlt', decide_true, hp1, hp2, hr1, hr2, hpi', nE, and_n kmi hx (show low p < 9223372036854775808 by omega), xor_n kmi hx hp, e', ne_eq, not_false_eq_true, q2, fw64]
      exact ⟨j + 1, by omega, L.set j (L[j] ^^^ p), hlt, by rw [List.length_set]; exact hl, by omega, by simp only [List.getD] at hpi ⊢; rw [List.getElem?_set, if_neg (by omega)]; exact hpi, hsm.set hxr, hRn, q3, hgr.trans (Grow.put hid q5 _), by simp (disch := omega) only [getK_set, Nat.reduceEqDiff, ↓reduceIte, g3, g4, g5, g6, and_self, Int.natCast_add, Int.natCast_one]⟩
  · have hjn : j = n := by omega
    subst hjn
    have hlt' : ¬ (j : Int) < (L.length : Int) := by omega
    rw [Nat.sub_self, elR] at hR
    subst hR
    simp (disch := omega) only [f74_r10, w_reg, w_seq, w_cond, w_exit, seqK_n, seqK_e, loopK_e, ckB_b, cbB_b, true_and, x_nil, x_mv, x_bin, x_len, kx, rvP_ok, okv_some, ev_t, getV_some, putD_some, bin_lss, getK_set, Nat.reduceEqDiff, ↓reduceIte, Bool.false_eq_true, g3, g7, hs.len, hlt', decide_false]
    exact hq _ _ hsm hl hs hgr (by simp (disch := omega) only [getK_set, Nat.reduceEqDiff, ↓reduceIte, g3, g4, g5, and_self])
def f74_I1 (b : Nat) (h : H) (v : V) (n R : Nat) (i : Nat) (fr : Fr) (h1 : H) : Prop := ∃ L c, i ≤ n ∧ L.length = n ∧ c ≤ i ∧ Small L ∧ elK (n - i) i L c = R ∧ Sl nE h1 v L ∧ Grow b h h1 ∧ fr.get (K.ofNat 3) = some (v) ∧ fr.get (K.ofNat 4) = some (.i .i64 (c : Int)) ∧ fr.get (K.ofNat 5) = some (.i .i64 (i : Int))
theorem f74_ret {h : H} {v : V} {L : List Nat} (hs : Sl nE h v L) (hsm : Small L) (hc : HC h) (hn : L.length ≤ 1000) :
    Ret fs f74 [v] h fun u h' => u = .i .i64 (rankS L : Int) ∧ Grow h.nx.nat h h' := by
  apply ret_of rfl
  show W fs none f74_c _ _ _
  unfold f74_c
  obtain ⟨w, h1, p1, p2, p3, p4, _⟩ := Sl.app (e := nE) (h := h) Sl.nil (Own.sn (b := h.nx.nat)) (Nat.le_refl _) hs hc (by simp; omega)
  rw [List.nil_append] at p2
  simp (disch := omega) only [f74_r0, f74_r1, f74_r2, f74_r3, f74_r4, w_reg, w_seq, w_block, seqK_n, x_nil, x_mv, x_as, x_app, kx, rvP_ok, ev_t, ev_c, getV_some, putD_some, frame_1, of0, getK_set, Nat.reduceEqDiff, ↓reduceIte, p1]
  refine W_loop (f74_I1 h.nx.nat h w L.length (rankS L)) (fun i => L.length - i) ?_ 0 ⟨L, 0, Nat.zero_le _, rfl, Nat.le_refl _, hsm, rfl, p2, p4, by simp (disch := omega) only [getK_set, Nat.reduceEqDiff, ↓reduceIte, and_self, Int.natCast_zero]⟩
  clear p1 p2 p4 hs hsm
  generalize rankS L = R
  generalize L.length = n at *
  clear L
  rintro i fr h2 ⟨L, c, hi, hl, hci, hsm, hR, hs, hgr, g3, g4, g5⟩
  have hc1 := hgr.hc hc
  unfold f74_l1
  by_cases hlt : i < n
  · have hlt' : (i : Int) < (L.length : Int) := by omega
    have hil : i < L.length := by omega
    obtain ⟨q, hp1, hp2⟩ := hs.at i hil
    have hx := hsm.at hil
    have hg : L.getD i 0 = L[i] := by simp [List.getD, hil]
    rw [show n - i = (n - (i + 1)) + 1 by omega, elK, hg] at hR
    by_cases e : L[i] = 0
    · have e' : ((L[i] : Nat) : Int) = 0 := by omega
      rw [if_pos e] at hR
      simp (disch := omega) only [f74_r5, f74_r6, f74_r14, w_skip, w_reg, w_seq, w_cond, w_block, w_exit, seqK_n, seqK_e, atK_e, loopK_n, ckB_b, cbB_b, true_and, x_nil, x_mv, x_as, x_ld, x_bin, x_iads, x_len, kx, rvP_ok, okv_some, ev_t, ev_c, getV_some, putD_some, bin_add, bin_eql, bin_lss, of0, of1, getK_set, Nat.reduceEqDiff, ↓reduceIte, g3, g5, hs.len, hlt', decide_true, hp1, hp2, nE, e', fw64]
      exact ⟨i + 1, by omega, L, c, hlt, hl, by omega, hsm, hR, hs, hgr, by simp (disch := omega) only [getK_set, Nat.reduceEqDiff, ↓reduceIte, g3, g4, and_self, Int.natCast_add, Int.natCast_one]⟩
    · have e' : ¬ ((L[i] : Nat) : Int) = 0 := by omega
      rw [if_neg e] at hR
      simp (disch := omega) only [f74_r5, f74_r6, f74_r7, f74_r8, f74_r9, w_skip, w_reg, w_draw, w_seq, w_cond, w_block, seqK_n, ckB_b, cbB_b, true_and, x_nil, x_mv, x_as, x_ld, x_bin, x_iads, x_len, kx, kg, xg_nil, xg_mv, xg_ld, xg_bin, xg_neg, xg_iads, xd_cons, fresh_nil, stK_n, stK_s, stay_nil, rvP_ok, okv_some, ev_t, ev_c, getV_some, putD_some, bin_add, bin_eql, bin_lss, onI_i, of0, of1, getK_set, Nat.reduceEqDiff, ↓reduceIte, Bool.false_eq_true, g3, g4, g5, hs.len, hlt', decide_true, decide_false, hp1, hp2, nE, e', fw64, low_i (show 0 < L[i] by omega) hx]
      refine f74_inner (b := h.nx.nat) (h := h) (v := w) (p := L[i]) (c := c + 1) (i := i) (n := n) (R := elR L[i] (n - (i + 1)) (i + 1) L) (j := i + 1) hc p3 hx hn ⟨L, by omega, hl, by omega, hg, hsm, rfl, hs, hgr, by simp (disch := omega) only [getK_set, Nat.reduceEqDiff, ↓reduceIte, g3, g5, and_self, Int.natCast_add, Int.natCast_one]⟩ ?_
      rintro fr h2 hsm2 hl2 hs2 hgr2 ⟨g3, g4, g5⟩
      simp (disch := omega) only [f74_r14, w_reg, seqK_n, atK_n, atK_e, loopK_n, x_nil, x_mv, x_as, x_bin, kx, rvP_ok, okv_some, ev_t, ev_c, getV_some, putD_some, bin_add, of1, getK_set, ↓reduceIte, g5, fw64]
      exact ⟨i + 1, by omega, _, c + 1, hlt, hl2, by omega, hsm2, hR, hs2, hgr2, by simp (disch := omega) only [getK_set, Nat.reduceEqDiff, ↓reduceIte, g3, g4, and_self, Int.natCast_add, Int.natCast_one]⟩
  · obtain rfl : i = n := by omega
    have hlt' : ¬ (i : Int) < (L.length : Int) := by omega
    rw [Nat.sub_self, elK] at hR
    subst hR
    simp (disch := omega) only [f74_r5, f74_r15, f74_rs, w_reg, w_seq, w_cond, w_exit, w_ret, seqK_n, seqK_e, atK_e, loopK_e, ckB_b, cbB_b, true_and, retK_r, x_nil, x_mv, x_as, x_bin, x_len, kx, rvP_ok, okv_some, ev_t, getV_some, putD_some, bin_lss, oGet_s, readRs_nil, readRs_t, retV_1, Option.some.injEq, exists_eq_left', getK_set, Nat.reduceEqDiff, ↓reduceIte, Bool.false_eq_true, g3, g4, g5, hs.len, hlt', decide_false, true_and]
    exact hgr
/-- A face's border, as the reference makes it. -/
def rbTo (x : Nat) : Nat → Nat
  | 0 => 0
  | i + 1 => if x / 2 ^ i % 2 = 1 then rbTo x i ||| 2 ^ lessC x (2 ^ i) else rbTo x i
theorem rb_eq : ∀ x, x < 64 → rbTo x 6 = bordX x := by decide +kernel
theorem rb_less : ∀ x, x < 64 → ∀ i, i < 6 → x / 2 ^ i % 2 = 1 → lessC x (2 ^ i) ≤ 62 := by decide +kernel
theorem rb_lt {x : Nat} (hx : x < 64) : ∀ i, i ≤ 6 → rbTo x i < 9223372036854775808
  | 0, _ => by unfold rbTo; omega
  | i + 1, hi => by
    unfold rbTo
    have ih := rb_lt hx i (by omega)
    split
    · rename_i e
      have h1 := rb_less x hx i (by omega) e
      have h2 : 2 ^ lessC x (2 ^ i) < 2 ^ 63 := Nat.pow_lt_pow_right (by omega) (by omega)
      exact Nat.or_lt_two_pow (n := 63) ih h2
    · exact ih
theorem or_n {m n : Nat} (hm : m < 9223372036854775808) (hn : n < 9223372036854775808) : binV .or (.i .i64 (m : Int)) (.i .i64 (n : Int)) = some (.i .i64 ((m ||| n : Nat) : Int)) := bin_or (by show _ ≤ 9223372036854775807; omega) (by show _ ≤ 9223372036854775807; omega)
theorem shl_i {n : Nat} (hn : n ≤ 62) : binV .shl (.i .i64 1) (.i .i64 (n : Int)) = some (.i .i64 ((2 ^ n : Nat) : Int)) := by
  have h2 : 2 ^ n ≤ 4611686018427387904 := Nat.pow_le_pow_right (by omega) hn
  have h3 : ((2 ^ n : Nat) : Int) ≤ 4611686018427387904 := Int.ofNat_le.2 h2
  have h4 : (0 : Int) ≤ ((2 ^ n : Nat) : Int) := Int.natCast_nonneg _
  rw [bin_shl (by omega), show min (n : Int).toNat (IntKind.bits .i64) = n by show min (n : Int).toNat 64 = n; omega, Int.one_mul, show (2 : Int) ^ n = ((2 ^ n : Nat) : Int) by simp]
  rw [fw64 (by omega) (by omega)]
theorem shr_i {m n : Nat} (hn : n ≤ 62) : binV .shr (.i .i64 (m : Int)) (.i .i64 (n : Int)) = some (.i .i64 ((m / 2 ^ n : Nat) : Int)) := by
  rw [bin_shr, show min n (IntKind.bits .i64) = n by show min n 64 = n; omega]
def f73_I0 (h : H) (v o : V) (k x i : Nat) (j : Nat) (fr : Fr) (h1 : H) : Prop := h1 = h ∧ j ≤ 6 ∧ fr.get (K.ofNat 0) = some (v) ∧ fr.get (K.ofNat 1) = some (.i .i64 (k : Int)) ∧ fr.get (K.ofNat 5) = some (o) ∧ fr.get (K.ofNat 6) = some (.i .i64 (i : Int)) ∧ fr.get (K.ofNat 7) = some (.i .i64 (rbTo x j : Int)) ∧ fr.get (K.ofNat 8) = some (.i .i64 (j : Int))
theorem f73_inner {Q : Ex → Fr → H → Prop} {h : H} {v o : V} {k x i : Nat} {fr : Fr} {L : List Nat} (hs : Sl nE h v L) (hi : i < L.length) (hxi : L[i] = x) (hx : x < 64)
    (h0 : f73_I0 h v o k x i 0 fr h)
    (hq : ∀ fr, fr.get (K.ofNat 0) = some (v) ∧ fr.get (K.ofNat 1) = some (.i .i64 (k : Int)) ∧ fr.get (K.ofNat 5) = some (o) ∧ fr.get (K.ofNat 6) = some (.i .i64 (i : Int)) ∧ fr.get (K.ofNat 7) = some (.i .i64 (bordX x : Int)) → Q (.exit 2) fr h) :
    W fs ro (.loop f73_l0) Q fr h := by
  refine W_loop (f73_I0 h v o k x i) (fun j => 6 - j) ?_ 0 h0
  clear h0 fr
  rintro j fr h1 ⟨rfl, hj, g0, g1, g5, g6, g7, g8⟩
  obtain ⟨q, hp1, hp2⟩ := hs.at i hi
  unfold f73_l0
  by_cases hlt : j < 6
  · have hlt' : (j : Int) < 6 := by omega
    have hrem : ((x / 2 ^ j : Nat) : Int).tmod 2 = ((x / 2 ^ j % 2 : Nat) : Int) := rfl
    by_cases e : x / 2 ^ j % 2 = 1
    · have e' : ((x / 2 ^ j % 2 : Nat) : Int) = 1 := by omega
      have h1 := rb_less x hx j hlt e
      have hb := rb_lt hx j hj
      have h2p : 2 ^ lessC x (2 ^ j) < 9223372036854775808 := Nat.lt_of_lt_of_le (Nat.pow_lt_pow_right (a := 2) (by omega) (show lessC x (2 ^ j) < 63 by omega)) (by decide)
      have h2j : 2 ^ j < 9223372036854775808 := Nat.lt_of_lt_of_le (Nat.pow_lt_pow_right (a := 2) (by omega) (show j < 63 by omega)) (by decide)
      have hn : rbTo x (j + 1) = rbTo x j ||| 2 ^ lessC x (2 ^ j) := by rw [rbTo, if_pos e]
      simp (disch := omega) only [f73_r7, f73_r8, f73_r9, f73_r10, w_skip, w_reg, w_draw, w_seq, w_cond, w_block, seqK_n, atK_n, loopK_n, ckB_b, cbB_b, true_and, x_nil, x_mv, x_as, x_ld, x_bin, x_iads, kx, kg, xg_nil, xg_mv, xg_ld, xg_bin, xg_iads, xd_cons, fresh_nil, stK_n, stK_s, stay_nil, rvP_ok, okv_some, ev_t, ev_c, getV_some, putD_some, bin_add, bin_eql, bin_lss, bin_rem, of1, of2, of6, getK_set, Nat.reduceEqDiff, ↓reduceIte, g0, g6, g7, g8, hlt', decide_true, hp1, hp2, nE, hxi, shr_i (show j ≤ 62 by omega), hrem, e', shl_i (show j ≤ 62 by omega), andNot_n (show x < 9223372036854775808 by omega) h2j, shl_i h1, or_n hb h2p, fw64]
      exact ⟨j + 1, by omega, rfl, hlt, by rw [hn]; simp (disch := omega) only [getK_set, Nat.reduceEqDiff, ↓reduceIte, g0, g1, g5, g6, and_self, Int.natCast_add, Int.natCast_one]⟩
    · have e' : ¬ ((x / 2 ^ j % 2 : Nat) : Int) = 1 := by omega
      have hn : rbTo x (j + 1) = rbTo x j := by rw [rbTo, if_neg e]
      simp (disch := omega) only [f73_r7, f73_r8, f73_r10, w_skip, w_reg, w_seq, w_cond, w_block, seqK_n, atK_n, loopK_n, ckB_b, cbB_b, true_and, x_nil, x_mv, x_as, x_ld, x_bin, x_iads, kx, rvP_ok, okv_some, ev_t, ev_c, getV_some, putD_some, bin_add, bin_eql, bin_lss, bin_rem, of1, of2, of6, getK_set, Nat.reduceEqDiff, ↓reduceIte, Bool.false_eq_true, g0, g6, g8, hlt', decide_true, hp1, hp2, nE, hxi, shr_i (show j ≤ 62 by omega), hrem, e', decide_false, fw64]
      exact ⟨j + 1, by omega, rfl, hlt, by rw [hn]; simp (disch := omega) only [getK_set, Nat.reduceEqDiff, ↓reduceIte, g0, g1, g5, g6, g7, and_self, Int.natCast_add, Int.natCast_one]⟩
  · obtain rfl : j = 6 := by omega
    rw [rb_eq x hx] at g7
    simp (disch := omega) only [f73_r7, w_skip, w_reg, w_seq, w_cond, w_block, w_exit, seqK_n, seqK_e, loopK_e, ckB_b, cbB_b, true_and, x_nil, x_mv, x_bin, kx, rvP_ok, okv_some, ev_t, ev_c, getV_some, putD_some, bin_lss, of6, getK_set, ↓reduceIte, decide_eq_true_eq, g8]
    exact hq _ (by simp (disch := omega) only [getK_set, Nat.reduceEqDiff, ↓reduceIte, g0, g1, g5, g6, g7, and_self])
def f73_I1 (h : H) (v : V) (L : List Nat) (k : Nat) (i : Nat) (fr : Fr) (h1 : H) : Prop := ∃ o, i ≤ L.length ∧ Sl nE h1 o (rowsOf (L.take i) k) ∧ Own h.nx.nat o ∧ Grow h.nx.nat h h1 ∧ fr.get (K.ofNat 0) = some (v) ∧ fr.get (K.ofNat 1) = some (.i .i64 (k : Int)) ∧ fr.get (K.ofNat 5) = some (o) ∧ fr.get (K.ofNat 6) = some (.i .i64 (i : Int))
theorem f73_ret {h : H} {v : V} {L : List Nat} {k : Nat} (hp52 : ∀ m : Nat, m < 64 → ∀ h P, CallP fs (.fn (K.ofNat 52) []) [.i .i64 (m : Int)] h P = P (.i .i64 (pop6 m : Int)) h)
    (hs : Sl nE h v L) (hL : ∀ x ∈ L, x < 64) (hc : HC h) (hn : L.length ≤ 1000) :
    Ret fs f73 [v, .i .i64 (k : Int)] h fun u h' => Sl nE h' u (rowsOf L k) ∧ Own h.nx.nat u ∧ Grow h.nx.nat h h' := by
  apply ret_of rfl
  show W fs none f73_c _ _ _
  unfold f73_c
  simp (disch := omega) only [f73_r0, f73_r1, f73_r2, w_reg, w_seq, w_block, seqK_n, x_nil, x_as, ev_c, putD_some, frame_2, of0]
  refine W_loop (f73_I1 h v L k) (fun i => L.length - i) ?_ 0 ⟨.sn, Nat.zero_le _, Sl.nil, Own.sn, Grow.refl _ _, by simp (disch := omega) only [getK_set, Nat.reduceEqDiff, ↓reduceIte, and_self, Int.natCast_zero]⟩
  rintro i fr h1 ⟨o, hi, hso, hoo, hgr, g0, g1, g5, g6⟩
  have hc1 := hgr.hc hc
  have hs1 := hs.grow hc hgr
  unfold f73_l1
  by_cases hlt : i < L.length
  · have hlt' : (i : Int) < (L.length : Int) := by omega
    obtain ⟨q, hp1, hp2⟩ := hs1.at i hlt
    have hx := hL _ (List.getElem_mem hlt)
    have hsn := rowsOf_snoc (l := L.take i) (x := L[i]) (k := k)
    rw [← List.take_succ_eq_append_getElem hlt] at hsn
    by_cases e : pop6 L[i] = k
    · have e' : ((pop6 L[i] : Nat) : Int) = (k : Int) := by omega
      rw [if_pos e] at hsn
      simp (disch := omega) only [f73_r3, f73_r4, f73_r5, f73_r6, w_skip, w_reg, w_seq, w_cond, w_block, seqK_n, ckB_b, cbB_b, true_and, x_nil, x_mv, x_as, x_ld, x_bin, x_iads, x_call, x_len, kx, rvP_ok, okv_some, ev_t, ev_c, evs_nil, evs_cons, getV_some, putD_some, bin_neq, bin_lss, of0, getK_set, Nat.reduceEqDiff, ↓reduceIte, Bool.false_eq_true, g0, g1, g6, hs1.len, hlt', decide_true, hp1, hp2, nE, hp52 _ hx, e', ne_eq, not_true_eq_false, decide_false]
      refine f73_inner (h := h1) (v := v) (o := o) (k := k) (x := L[i]) (i := i) hs1 hlt rfl hx ⟨rfl, by omega, by simp (disch := omega) only [getK_set, Nat.reduceEqDiff, ↓reduceIte, g0, g1, g5, g6, and_self, Int.natCast_zero, rbTo]⟩ ?_
      rintro fr ⟨g0, g1, g5, g6, g7⟩
      have hrl := rowsOf_len (l := L.take i) (k := k)
      rw [List.length_take] at hrl
      obtain ⟨v', h', p1, p2, p3, p4, p5⟩ := Sl.push (e := nE) (L := rowsOf (L.take i) k) (x := bordX L[i]) (c := .i .i64 (bordX L[i] : Int)) rfl hso hoo hgr.nx hc1 (by omega)
      simp (disch := omega) only [f73_r11, f73_r12, w_reg, seqK_n, atK_n, atK_e, loopK_n, x_nil, x_mv, x_as, x_bslice, x_bin, x_app, kx, rvP_ok, okv_some, ev_t, ev_c, getV_some, putD_some, bin_add, oGet_s, cells1_i, fill_1, set_1, of0, of1, getK_set, Nat.reduceEqDiff, ↓reduceIte, g5, g6, g7, p1, fw64]
      exact ⟨i + 1, by omega, v', hlt, by rw [hsn]; exact p2, p3, hgr.trans p4, by simp (disch := omega) only [getK_set, Nat.reduceEqDiff, ↓reduceIte, g0, g1, and_self, Int.natCast_add, Int.natCast_one]⟩
    · have e' : ¬ ((pop6 L[i] : Nat) : Int) = (k : Int) := by omega
      rw [if_neg e] at hsn
      simp (disch := omega) only [f73_r3, f73_r4, f73_r12, w_skip, w_reg, w_seq, w_cond, w_block, w_exit, seqK_n, seqK_e, atK_e, loopK_n, ckB_b, cbB_b, true_and, x_nil, x_mv, x_as, x_ld, x_bin, x_iads, x_call, x_len, kx, rvP_ok, okv_some, ev_t, ev_c, evs_nil, evs_cons, getV_some, putD_some, bin_add, bin_neq, bin_lss, of1, getK_set, Nat.reduceEqDiff, ↓reduceIte, g0, g1, g6, hs1.len, hlt', decide_true, hp1, hp2, nE, hp52 _ hx, e', ne_eq, not_false_eq_true, fw64]
      exact ⟨i + 1, by omega, o, hlt, by rw [hsn]; exact hso, hoo, hgr, by simp (disch := omega) only [getK_set, Nat.reduceEqDiff, ↓reduceIte, g0, g1, g5, and_self, Int.natCast_add, Int.natCast_one]⟩
  · obtain rfl : i = L.length := by omega
    have hlt' : ¬ (L.length : Int) < (L.length : Int) := by omega
    rw [List.take_length] at hso
    simp (disch := omega) only [f73_r3, f73_r13, f73_rs, w_reg, w_seq, w_cond, w_exit, w_ret, seqK_n, seqK_e, atK_e, loopK_e, ckB_b, cbB_b, true_and, retK_r, x_nil, x_mv, x_as, x_bin, x_len, kx, rvP_ok, okv_some, ev_t, getV_some, putD_some, bin_lss, oGet_s, readRs_nil, readRs_t, retV_1, Option.some.injEq, exists_eq_left', getK_set, Nat.reduceEqDiff, ↓reduceIte, Bool.false_eq_true, g0, g5, g6, hs1.len, hlt', decide_false]
    exact ⟨hso, hoo, hgr⟩
end
end Go.Ev
namespace Go.Ev
open Go Go.RowKit
noncomputable def f44_r0 : List EOper := [⟨(some (K.ofNat 4)), none, .as (.c .sn)⟩]
noncomputable def f44_r1 : List EOper := [⟨(some (K.ofNat 11)), none, .mv (.t (K.ofNat 0))⟩, ⟨(some (K.ofNat 12)), none, .mv (.t (K.ofNat 1))⟩, ⟨(some (K.ofNat 13)), none, .call (.c (.fn (K.ofNat 33) [])) [(.t (K.ofNat 11)), (.t (K.ofNat 12))]⟩, ⟨(some (K.ofNat 5)), none, .as (.t (K.ofNat 13))⟩]
noncomputable def f44_r2 : List EOper := [⟨(some (K.ofNat 14)), none, .mv (.t (K.ofNat 0))⟩, ⟨(some (K.ofNat 15)), none, .mv (.t (K.ofNat 1))⟩, ⟨(some (K.ofNat 16)), none, .call (.c (.fn (K.ofNat 31) [])) [(.t (K.ofNat 14)), (.t (K.ofNat 15))]⟩, ⟨(some (K.ofNat 17)), none, .len (.t (K.ofNat 16))⟩, ⟨(some (K.ofNat 18)), none, .bin .sub (.t (K.ofNat 17)) (.c (.i .i64 (.ofNat 1)))⟩, ⟨(some (K.ofNat 6)), none, .as (.t (K.ofNat 18))⟩]
noncomputable def f44_r3 : List EOper := [⟨(some (K.ofNat 7)), none, .as (.c .sn)⟩]
noncomputable def f44_r4 : List EOper := [⟨(some (K.ofNat 8)), none, .as (.c (.i .i64 (.ofNat 0)))⟩]
noncomputable def f44_r5 : List EOper := [⟨(some (K.ofNat 19)), none, .mv (.t (K.ofNat 8))⟩, ⟨(some (K.ofNat 20)), none, .mv (.t (K.ofNat 6))⟩, ⟨(some (K.ofNat 21)), none, .bin .lss (.t (K.ofNat 19)) (.t (K.ofNat 20))⟩]
noncomputable def f44_r6 : List EOper := [⟨(some (K.ofNat 24)), none, .mv (.t (K.ofNat 5))⟩, ⟨(some (K.ofNat 25)), none, .mv (.t (K.ofNat 8))⟩, ⟨(some (K.ofNat 26)), none, .bin .add (.t (K.ofNat 25)) (.c (.i .i64 (.ofNat 1)))⟩, ⟨(some (K.ofNat 27)), none, .call (.c (.fn (K.ofNat 73) [])) [(.t (K.ofNat 24)), (.t (K.ofNat 26))]⟩, ⟨(some (K.ofNat 28)), none, .mv (.t (K.ofNat 5))⟩, ⟨(some (K.ofNat 29)), none, .mv (.t (K.ofNat 8))⟩, ⟨(some (K.ofNat 30)), none, .bin .add (.t (K.ofNat 29)) (.c (.i .i64 (.ofNat 2)))⟩, ⟨(some (K.ofNat 31)), none, .call (.c (.fn (K.ofNat 73) [])) [(.t (K.ofNat 28)), (.t (K.ofNat 30))]⟩, ⟨(some (K.ofNat 9)), none, .as (.t (K.ofNat 27))⟩, ⟨(some (K.ofNat 10)), none, .as (.t (K.ofNat 31))⟩]
noncomputable def f44_r7 : List EOper := [⟨(some (K.ofNat 32)), none, .mv (.t (K.ofNat 7))⟩, ⟨(some (K.ofNat 33)), none, .mv (.t (K.ofNat 9))⟩, ⟨(some (K.ofNat 34)), none, .len (.t (K.ofNat 33))⟩, ⟨(some (K.ofNat 35)), none, .mv (.t (K.ofNat 9))⟩, ⟨(some (K.ofNat 36)), none, .call (.c (.fn (K.ofNat 74) [])) [(.t (K.ofNat 35))]⟩, ⟨(some (K.ofNat 37)), none, .bin .sub (.t (K.ofNat 34)) (.t (K.ofNat 36))⟩, ⟨(some (K.ofNat 38)), none, .mv (.t (K.ofNat 10))⟩, ⟨(some (K.ofNat 39)), none, .call (.c (.fn (K.ofNat 74) [])) [(.t (K.ofNat 38))]⟩, ⟨(some (K.ofNat 40)), none, .bin .sub (.t (K.ofNat 37)) (.t (K.ofNat 39))⟩, ⟨(some (K.ofNat 41)), none, .bslice 1 1 [(.i .i64 (.ofNat 0))] [(0, 1, (.t (K.ofNat 40)))]⟩, ⟨(some (K.ofNat 42)), none, .app 1 (.t (K.ofNat 32)) (.t (K.ofNat 41))⟩, ⟨(some (K.ofNat 7)), none, .as (.t (K.ofNat 42))⟩]
noncomputable def f44_r8 : List EOper := [⟨(some (K.ofNat 22)), none, .mv (.t (K.ofNat 8))⟩, ⟨(some (K.ofNat 23)), none, .bin .add (.t (K.ofNat 22)) (.c (.i .i64 (.ofNat 1)))⟩, ⟨(some (K.ofNat 8)), none, .as (.t (K.ofNat 23))⟩]
noncomputable def f44_l0 : EC := (.seq (.seq (.reg f44_r5) (.cond (.t (K.ofNat 21)) .skip (.exit 0))) (.seq (.block 1 (.seq (.reg f44_r6) (.reg f44_r7))) (.reg f44_r8)))
noncomputable def f44_r9 : List EOper := [⟨(some (K.ofNat 43)), none, .mv (.t (K.ofNat 7))⟩, ⟨(some (K.ofNat 4)), none, .as (.t (K.ofNat 43))⟩]
noncomputable def f44_c : EC := (.seq (.reg f44_r0) (.seq (.reg f44_r1) (.seq (.reg f44_r2) (.seq (.reg f44_r3) (.seq (.seq (.reg f44_r4) (.block 0 (.loop f44_l0))) (.seq (.reg f44_r9) .ret))))))
noncomputable def f44 : EF := ⟨44, [.tmp (K.ofNat 4)], f44_c, none⟩
theorem f44_rs : f44.rs = [.tmp (K.ofNat 4)] := of_eq_true (eq_self _)
section
variable {fs : T EF} {ro : Option K}
noncomputable def rhv (l : List Nat) (k : Nat) : Int := fw .i64 (fw .i64 (((rowsOf l (k + 1)).length : Int) - (rankS (rowsOf l (k + 1)) : Int)) - (rankS (rowsOf l (k + 2)) : Int))
noncomputable def rhTo (l : List Nat) (i : Nat) : List Int := (List.range i).map (rhv l)
theorem rhTo_succ {l : List Nat} {i : Nat} : rhTo l (i + 1) = rhTo l i ++ [rhv l i] := by unfold rhTo; rw [List.range_succ, List.map_append]; rfl
def f44_I (hb : H) (u : V) (l : List Nat) (d : Nat) (i : Nat) (fr : Fr) (h1 : H) : Prop := ∃ o, i ≤ d ∧ Sl iE h1 o (rhTo l i) ∧ Own hb.nx.nat o ∧ Grow hb.nx.nat hb h1 ∧ fr.get (K.ofNat 5) = some (u) ∧ fr.get (K.ofNat 6) = some (.i .i64 (d : Int)) ∧ fr.get (K.ofNat 7) = some (o) ∧ fr.get (K.ofNat 8) = some (.i .i64 (i : Int))
theorem facTo_N {S : List Int} {m : Nat} : facTo S m = (facN S m).map fun (k : Nat) => (k : Int) := rfl
theorem f44_ret {h : H} {v : V} {S : List Int} {n : Int} (hp : ∀ a b h P, CallP fs (.fn (K.ofNat 53) []) [.i .i64 a, .i .i64 b] h P = P (.b (ptI a b)) h)
    (hp52 : ∀ m : Nat, m < 64 → ∀ h P, CallP fs (.fn (K.ofNat 52) []) [.i .i64 (m : Int)] h P = P (.i .i64 (pop6 m : Int)) h)
    (h45 : fs.get (K.ofNat 45) = some f45) (h33 : fs.get (K.ofNat 33) = some f33) (h31 : fs.get (K.ofNat 31) = some f31) (h73 : fs.get (K.ofNat 73) = some f73) (h74 : fs.get (K.ofNat 74) = some f74) (hv : Sl iE h v S) (hc : HC h) (hS : S.length ≤ 1000) (hsets : Sets S) (hn1 : 1 ≤ n) (hn6 : n ≤ 6)
    (hsz : ∀ k ∈ facN S (2 ^ n.toNat), pop6 k ≤ maxS S) :
    Ret fs f44 [.i .i64 n, v] h fun u h' => Sl iE h' u (rhTo (facN S (2 ^ n.toNat)) (maxS S)) ∧ Own h.nx.nat u ∧ Grow h.nx.nat h h' := by
  apply ret_of rfl
  show W fs none f44_c _ _ _
  unfold f44_c
  obtain ⟨hpw, hpe⟩ := pow_n hn1 hn6
  have hms := maxS_le S
  simp (disch := omega) only [f44_r0, f44_r1, w_reg, w_seq, seqK_n, x_nil, x_mv, x_as, x_call, ev_t, ev_c, evs_nil, evs_cons, getV_some, putD_some, frame_2, getK_set, Nat.reduceEqDiff, ↓reduceIte]
  refine (callP_0 (ef := f33) h33 rfl (f33_ret (n := n) hp h45 hv hc (by omega) hn1 hn6)).mono ?_
  rintro u h1 ⟨hsu, hou, gr1⟩
  have hc1 := gr1.hc hc
  simp (disch := omega) only [f44_r2, w_reg, w_seq, seqK_n, x_nil, x_mv, x_as, x_call, kx, ev_t, ev_c, evs_nil, evs_cons, getV_some, putD_some, of1, getK_set, Nat.reduceEqDiff, ↓reduceIte]
  refine (callP_0 (ef := f31) h31 rfl (f31_ret (n := n) hp hp52 h45 h33 (hv.grow hc gr1) hc1 hS hsets hn1 hn6 hsz)).mono ?_
  rintro w h2 ⟨hsw, how, gr2⟩
  have hc2 := gr2.hc hc1
  have hd1 : fw .i64 (((maxS S + 1 : Nat) : Int) - 1) = (maxS S : Int) := by rw [fw64 (by omega) (by omega)]; omega
  have hlw := hsw.len h2
  rw [rcnt_len] at hlw
  have hsu2 := hsu.grow hc1 gr2
  rw [facTo_N] at hsu2
  have hsn : Sl nE h2 u (facN S (2 ^ n.toNat)) := hsu2.unmap
  have hlt64 : ∀ x ∈ facN S (2 ^ n.toNat), x < 64 := fun x hx => by
    unfold facN at hx
    rw [List.mem_filter, List.mem_range] at hx
    omega
  have hl64 : (facN S (2 ^ n.toNat)).length ≤ 64 := by
    unfold facN
    exact Nat.le_trans (List.length_filter_le _ _) (by simp; omega)
  generalize facN S (2 ^ n.toNat) = l at *
  generalize maxS S = d at *
  simp (disch := omega) only [f44_r3, f44_r4, w_reg, w_seq, w_block, seqK_n, x_nil, x_as, x_bin, x_len, kx, rvP_ok, okv_some, ev_t, ev_c, getV_some, putD_some, bin_sub, of0, getK_set, ↓reduceIte, hlw, hd1]
  refine W_loop (f44_I h2 u l d) (fun i => d - i) ?_ 0 ⟨.sn, Nat.zero_le _, Sl.nil, Own.sn, Grow.refl _ _, by simp (disch := omega) only [getK_set, Nat.reduceEqDiff, ↓reduceIte, and_self, Int.natCast_zero]⟩
  rintro i fr h3 ⟨o, hi, hso, hoo, hgr, g5, g6, g7, g8⟩
  have hc3 := hgr.hc hc2
  have hsu3 := hsn.grow hc2 hgr
  unfold f44_l0
  by_cases hlt : i < d
  · have hlt' : (i : Int) < (d : Int) := by omega
    have a1 : fw .i64 ((i : Int) + 1) = ((i + 1 : Nat) : Int) := by rw [fw64 (by omega) (by omega)]; omega
    have a2 : fw .i64 ((i : Int) + 2) = ((i + 2 : Nat) : Int) := by rw [fw64 (by omega) (by omega)]; omega
    simp (disch := omega) only [f44_r5, f44_r6, w_skip, w_reg, w_seq, w_cond, w_block, seqK_n, ckB_b, cbB_b, true_and, x_nil, x_mv, x_bin, x_call, kx, rvP_ok, okv_some, ev_t, ev_c, evs_nil, evs_cons, getV_some, putD_some, bin_add, bin_lss, of1, of2, getK_set, Nat.reduceEqDiff, ↓reduceIte, g5, g6, g8, hlt', decide_true, a1]
    refine (callP_0 (ef := f73) h73 rfl (f73_ret (k := i + 1) hp52 hsu3 hlt64 hc3 (by omega))).mono ?_
    rintro w1 h4 ⟨s1, o1, gr4⟩
    have hc4 := gr4.hc hc3
    simp (disch := omega) only [x_mv, x_bin, x_call, kx, rvP_ok, okv_some, ev_t, ev_c, evs_nil, evs_cons, getV_some, putD_some, bin_add, getK_set, Nat.reduceEqDiff, ↓reduceIte, g5, g8, a2]
    refine (callP_0 (ef := f73) h73 rfl (f73_ret (k := i + 2) hp52 (hsu3.grow hc3 gr4) hlt64 hc4 (by omega))).mono ?_
    rintro w2 h5 ⟨s2, o2, gr5⟩
    have hc5 := gr5.hc hc4
    have s1' := s1.grow hc4 gr5
    have hr1 := rowsOf_len (l := l) (k := i + 1)
    have hr2 := rowsOf_len (l := l) (k := i + 2)
    simp (disch := omega) only [f44_r7, w_reg, seqK_n, x_nil, x_mv, x_as, x_call, x_len, kx, rvP_ok, ev_t, ev_c, evs_nil, evs_cons, getV_some, putD_some, of0, getK_set, Nat.reduceEqDiff, ↓reduceIte, g7, s1'.len]
    refine (callP_0 (ef := f74) h74 rfl (f74_ret s1' (rows_small hlt64) hc5 (by omega))).mono ?_
    rintro u1 h6 ⟨rfl, gr6⟩
    have hc6 := gr6.hc hc5
    simp (disch := omega) only [x_mv, x_bin, x_call, kx, rvP_ok, okv_some, ev_t, ev_c, evs_nil, evs_cons, getV_some, putD_some, bin_sub, getK_set, Nat.reduceEqDiff, ↓reduceIte]
    refine (callP_0 (ef := f74) h74 rfl (f74_ret (s2.grow hc5 gr6) (rows_small hlt64) hc6 (by omega))).mono ?_
    rintro u2 h7 ⟨rfl, gr7⟩
    have hc7 := gr7.hc hc6
    have ga := gr4.nx; have gb := gr5.nx; have gc := gr6.nx
    have gg : Grow h3.nx.nat h3 h7 := ((gr4.trans (gr5.low (by omega))).trans (gr6.low (by omega))).trans (gr7.low (by omega))
    have hlen : (rhTo l i).length = i := by simp [rhTo]
    have hval : fw .i64 (fw .i64 (((rowsOf l (i + 1)).length : Int) - (rankS (rowsOf l (i + 1)) : Int)) - (rankS (rowsOf l (i + 2)) : Int)) = rhv l i := rfl
    obtain ⟨v', h', p1, p2, p3, p4, p5⟩ := Sl.push (e := iE) (L := rhTo l i) (x := rhv l i) (c := .i .i64 (rhv l i)) rfl (hso.grow hc3 gg) hoo (Nat.le_trans hgr.nx gg.nx) hc7 (by omega)
    simp (disch := omega) only [f44_r8, w_reg, seqK_n, atK_n, loopK_n, x_nil, x_mv, x_as, x_bslice, x_bin, x_app, kx, rvP_ok, okv_some, ev_t, ev_c, getV_some, putD_some, bin_add, bin_sub, oGet_s, cells1_i, fill_1, set_1, of1, getK_set, Nat.reduceEqDiff, ↓reduceIte, g8, hval, p1, a1]
    exact ⟨i + 1, by omega, v', hlt, by rw [rhTo_succ]; exact p2, p3, (hgr.trans (gg.low hgr.nx)).trans p4, by simp (disch := omega) only [getK_set, Nat.reduceEqDiff, ↓reduceIte, g5, g6, and_self, Int.natCast_add, Int.natCast_one]⟩
  · obtain rfl : i = d := by omega
    have hlt' : ¬ (i : Int) < (i : Int) := by omega
    simp (disch := omega) only [f44_r5, f44_r9, f44_rs, w_reg, w_seq, w_cond, w_exit, w_ret, seqK_n, seqK_e, atK_e, loopK_e, ckB_b, cbB_b, true_and, retK_r, x_nil, x_mv, x_as, x_bin, kx, rvP_ok, okv_some, ev_t, getV_some, putD_some, bin_lss, oGet_s, readRs_nil, readRs_t, retV_1, Option.some.injEq, exists_eq_left', getK_set, Nat.reduceEqDiff, ↓reduceIte, Bool.false_eq_true, g6, g7, g8, hlt', decide_false]
    have := gr1.nx; have := gr2.nx
    exact ⟨hso, hoo.low (by omega), (gr1.trans (gr2.low (by omega))).trans (hgr.low (by omega))⟩
theorem out_st {h1 : H} {id4 : K} {F : Nat → Bool} {cs : List V} (hl : cs.length = 64) (e4 : h1.get id4 = .cells 64 cs) : storeV h1 64 (.p id4 0) (.agg (boolV F)) = .ok undefV (h1.put id4 (.cells 64 (boolV F))) := by
  rw [store_p e4 (cells64 boolV_len) (by omega)]
  congr 3
  rw [setMany_eq _ _ _ (by rw [boolV_len]; omega)]
  simp [boolV_len, hl]
theorem fill_2 {fr : Fr} {x y : EO} {z1 z2 : V} : fillE fr [z1, z2] [(0, 1, x), (1, 1, y)] = oGet (cellsN 1 (ev fr x)) none fun cs => oGet (cellsN 1 (ev fr y)) none fun ds => some (setMany (setMany [z1, z2] 0 cs) 1 ds) := of_eq_true (eq_self _)
theorem set_2 {z1 z2 a b : V} : setMany (setMany [z1, z2] 0 [a]) 1 [b] = [a, b] := of_eq_true (eq_self _)
noncomputable def lk (B : Nat → Bool) (f x : Nat) : Bool := decide (x &&& f = 0) && B (x ||| f)
noncomputable def linkB (B : Nat → Bool) (f x : Nat) : Bool := decide (x ∈ mem64 B) && lk B f x
section
variable {b : Nat} {h h1 h2 : H} {B A A' : Nat → Bool} {f : Nat} {id2 id3 id4 id5 idf idl : K} {lb : Blk}
end
end
end Go.Ev
namespace Go.Ev
open Go Go.RowKit
section
variable {fs : T EF} {ro : Option K}
/-- Is it no face? -/
noncomputable def badF (B : Nat → Bool) (f : Int) : Bool := decide (f < 0) || (decide (64 ≤ f) || !B f.toNat)
noncomputable def lkR (S : List Int) (f i : Nat) : List Int := ((List.range i).filter fun (x : Nat) => decide (x &&& f = 0) && isF S ((x ||| f : Nat) : Int)).map fun (k : Nat) => (k : Int)
noncomputable def dualTo (B : Nat → Bool) (a i : Nat) (x : Nat) : Bool := decide (x < i) && !B (lessC a x)
theorem less_le {a x : Nat} : lessC a x ≤ a := by
  show a ^^^ (a &&& x) ≤ a
  have : a ^^^ (a &&& x) = a &&& (a ^^^ (a &&& x)) := by
    apply Nat.eq_of_testBit_eq
    intro i
    simp only [Nat.testBit_xor, Nat.testBit_and]
    cases a.testBit i <;> cases x.testBit i <;> rfl
  rw [this]; exact Nat.and_le_left
noncomputable def dualB (B : Nat → Bool) (a : Nat) : Nat → Bool := dualTo B a (a + 1)
noncomputable def duR (S : List Int) (a i : Nat) : List Int := ((List.range i).filter fun (x : Nat) => !isF S (lessC a x : Int)).map fun (k : Nat) => (k : Int)
end
end Go.Ev
namespace Go.Ev
open Go Go.RowKit
section
variable {fs : T EF} {ro : Option K}
section
variable {b : Nat} {h h1 h2 : H} {id2 id3 id5 idf idl : K} {x s s' : Nat} {v : V} {lb : Blk}
end
end
end Go.Ev
namespace Go.Ev
open Go Go.RowKit
section
variable {fs : T EF} {ro : Option K}
end
end Go.Ev
namespace Go.Ev
open Go Go.RowKit
section
variable {fs : T EF} {ro : Option K}
end
end Go.Ev
namespace Go.Ev
open Go Go.RowKit
section
variable {fs : T EF} {ro : Option K}
def castL (Q : List Nat) : List Int := Q.map fun (k : Nat) => (k : Int)
end
end Go.Ev
namespace Go.Ev
open Go Go.RowKit
section
variable {fs : T EF} {ro : Option K}
end
end Go.Ev
namespace Go.Ev
open Go Go.RowKit
def bK (L : List Bool) : V := .agg (L.map V.b)
def ents (M : List (List Bool)) : List (V × V) := M.map fun L => (bK L, .b true)
theorem eqK_b : ∀ (n : Nat) (L M : List Bool), L.length = n → M.length = n → eqK (List.replicate n none) (L.map V.b) (M.map V.b) = some (decide (L = M))
  | 0, [], [], _, _ => rfl
  | 0, _ :: _, _, h, _ => by simp at h
  | 0, [], _ :: _, _, h => by simp at h
  | n + 1, [], _, h, _ => by simp at h
  | n + 1, _ :: _, [], _, h => by simp at h
  | n + 1, a :: L, b :: M, h1, h2 => by
    have ih := eqK_b n L M (by simpa using h1) (by simpa using h2)
    show oGet (some (a == b)) none (fun r => oGet (eqK (List.replicate n none) (L.map V.b) (M.map V.b)) none fun s => some (r && s)) = _
    rw [ih]
    show some ((a == b) && decide (L = M)) = _
    by_cases e1 : a = b
    · by_cases e2 : L = M
      · simp [e1, e2]
      · simp [e1, e2]
    · simp [e1]
theorem keyEq_b {n : Nat} {L M : List Bool} (h1 : L.length = n) (h2 : M.length = n) : keyEq (.many (List.replicate n none)) (bK L) (bK M) = some (decide (L = M)) := eqK_b n L M h1 h2
theorem findE_b {n : Nat} {L : List Bool} (h1 : L.length = n) : ∀ (M : List (List Bool)), (∀ x ∈ M, x.length = n) → findE (.many (List.replicate n none)) (bK L) (ents M) = some (if L ∈ M then some (.b true) else none)
  | [], _ => by
    show (oGet (keyEq (.many (List.replicate n none)) (bK L) (bK L)) none fun _ => some none) = _
    rw [keyEq_b h1 h1]; rfl
  | x :: M, h => by
    have ih := findE_b h1 M fun y hy => h y (List.mem_cons_of_mem _ hy)
    show (oGet (keyEq (.many (List.replicate n none)) (bK L) (bK x)) none fun r => bif r then some (some (.b true)) else findE (.many (List.replicate n none)) (bK L) (ents M)) = _
    rw [keyEq_b h1 (h x (by simp)), ih]
    show (bif decide (L = x) then _ else _) = _
    by_cases e : L = x
    · rw [decide_eq_true e, if_pos (show L ∈ x :: M by rw [e]; exact List.mem_cons_self)]; rfl
    · rw [decide_eq_false e]
      by_cases e2 : L ∈ M
      · rw [if_pos e2, if_pos (show L ∈ x :: M from List.mem_cons_of_mem _ e2)]; rfl
      · rw [if_neg e2, if_neg (show ¬ L ∈ x :: M from fun h => by rcases List.mem_cons.1 h with h | h <;> contradiction)]; rfl
theorem updE_b {n : Nat} {L : List Bool} (h1 : L.length = n) : ∀ (M : List (List Bool)), (∀ x ∈ M, x.length = n) → L ∉ M → updE (.many (List.replicate n none)) (bK L) (.b true) (ents M) = some (ents (M ++ [L]))
  | [], _, _ => by
    show (oGet (keyEq (.many (List.replicate n none)) (bK L) (bK L)) none fun _ => some [(bK L, V.b true)]) = _
    rw [keyEq_b h1 h1]; rfl
  | x :: M, h, hn => by
    have e : ¬ L = x := fun e => hn (by rw [e]; simp)
    have ih := updE_b h1 M (fun y hy => h y (List.mem_cons_of_mem _ hy)) fun hm => hn (List.mem_cons_of_mem _ hm)
    show (oGet (keyEq (.many (List.replicate n none)) (bK L) (bK x)) none fun r => bif r then some ((bK L, V.b true) :: ents M) else oGet (updE (.many (List.replicate n none)) (bK L) (.b true) (ents M)) none fun l => some ((bK x, V.b true) :: l)) = _
    rw [keyEq_b h1 (h x (by simp)), ih, decide_eq_false e]; rfl
/-- A set of arrays, in memory. -/
def MapI (h : H) (id : K) (kt : Nat) (M : List (List Bool)) : Prop := h.get id = .map kt (ents M)
theorem MapI.look {n kt : Nat} {h : H} {id : K} {M : List (List Bool)} {L : List Bool} (hm : MapI h id kt M) (h1 : L.length = n) (h2 : ∀ x ∈ M, x.length = n) :
    lookV kt (.many (List.replicate n none)) (.b false) h (.m id) (bK L) false = .ok (.b (decide (L ∈ M))) h := by
  show ((h.get id).onM kt fun es => oGet (findE (.many (List.replicate n none)) (bK L) es) RV.no fun r => bif false then _ else RV.ok (oGet r (.b false) fun v => v) h) = _
  rw [hm]
  show (bif Nat.beq kt kt then (oGet (findE (.many (List.replicate n none)) (bK L) (ents M)) RV.no fun r => RV.ok (oGet r (.b false) fun v => v) h) else _) = _
  rw [Nat.beq_same, findE_b h1 M h2]
  by_cases e : L ∈ M
  · rw [if_pos e, decide_eq_true e]; rfl
  · rw [if_neg e, decide_eq_false e]; rfl
theorem MapI.put {n kt : Nat} {h : H} {id : K} {M : List (List Bool)} {L : List Bool} (hm : MapI h id kt M) (h1 : L.length = n) (h2 : ∀ x ∈ M, x.length = n) (hn : L ∉ M) :
    mupdV kt (.many (List.replicate n none)) h (.m id) (bK L) (.b true) = .ok undefV (h.put id (.map kt (ents (M ++ [L])))) ∧ MapI (h.put id (.map kt (ents (M ++ [L])))) id kt (M ++ [L]) := by
  refine ⟨?_, get_put_same⟩
  show ((h.get id).onM kt fun es => oGet (updE (.many (List.replicate n none)) (bK L) (.b true) es) RV.no fun es => RV.ok undefV (h.put id (.map kt es))) = _
  rw [hm]
  show (bif Nat.beq kt kt then (oGet (updE (.many (List.replicate n none)) (bK L) (.b true) (ents M)) RV.no fun es => RV.ok undefV (h.put id (.map kt es))) else _) = _
  rw [Nat.beq_same, updE_b h1 M h2 hn]; rfl
end Go.Ev
namespace Go.Ev
open Go Go.RowKit
section
variable {fs : T EF} {fr : Fr} {h h0 : H} {k k2 : K}
theorem callP_c {ef : EF} {args caps : List V} {P : V → H → Prop} (hf : fs.get k = some ef) (hn : ef.nv = none) (hr : Ret fs ef (args ++ caps) h P) : CallP fs (.fn k caps) args h P :=
  callP_of hf hn (by rw [cat_eq]; exact hr)
end
end Go.Ev
namespace Go.Ev
open Go Go.RowKit
section
variable {fs : T EF} {ro : Option K}
def bin6 : Nat → Nat → Nat
  | _, 0 => 1
  | 0, _ + 1 => 0
  | n + 1, k + 1 => bin6 n k + bin6 n (k + 1)
noncomputable def sgnS (j : Nat) : Int := fw .i64 (1 - fw .i64 (2 * ((j : Int).tmod 2)))
noncomputable def rkS (L : List Int) (d k : Nat) : Nat → Int
  | 0 => 0
  | i + 1 => fw .i64 (rkS L d k i + fw .i64 (fw .i64 (L.getD i 0 * (bin6 (d - i) (k - i) : Int)) * sgnS (k - i)))
noncomputable def rhsS (L : List Int) : List Int := arr (fun k => rkS L (L.length - 1) k (k + 1)) L.length
end
end Go.Ev
namespace Go.Ev
open Go Go.RowKit
noncomputable def f4_r0 : List EOper := [⟨(some (K.ofNat 4)), none, .as (.c (.b false))⟩]
noncomputable def f4_r1 : List EOper := [⟨(some (K.ofNat 17)), none, .mv (.t (K.ofNat 0))⟩, ⟨(some (K.ofNat 18)), none, .mv (.t (K.ofNat 1))⟩, ⟨(some (K.ofNat 19)), none, .call (.c (.fn (K.ofNat 30) [])) [(.t (K.ofNat 17)), (.t (K.ofNat 18))]⟩, ⟨(some (K.ofNat 16)), none, .mv (.t (K.ofNat 19))⟩, ⟨(some (K.ofNat 20)), none, .ext (.t (K.ofNat 16)) 0⟩, ⟨(some (K.ofNat 21)), none, .ext (.t (K.ofNat 16)) 1⟩, ⟨(some (K.ofNat 5)), none, .as (.t (K.ofNat 20))⟩, ⟨(some (K.ofNat 6)), none, .as (.t (K.ofNat 21))⟩]
noncomputable def f4_r2 : List EOper := [⟨(some (K.ofNat 23)), none, .mv (.t (K.ofNat 5))⟩, ⟨(some (K.ofNat 24)), none, .mv (.t (K.ofNat 6))⟩, ⟨(some (K.ofNat 25)), none, .call (.c (.fn (K.ofNat 17) [])) [(.t (K.ofNat 23)), (.t (K.ofNat 24))]⟩, ⟨(some (K.ofNat 22)), none, .mv (.t (K.ofNat 25))⟩, ⟨(some (K.ofNat 26)), none, .ext (.t (K.ofNat 22)) 0⟩, ⟨(some (K.ofNat 27)), none, .ext (.t (K.ofNat 22)) 1⟩, ⟨(some (K.ofNat 7)), none, .as (.t (K.ofNat 26))⟩, ⟨(some (K.ofNat 8)), none, .as (.t (K.ofNat 27))⟩]
noncomputable def f4_r3 : List EOper := [⟨(some (K.ofNat 29)), none, .mv (.t (K.ofNat 5))⟩, ⟨(some (K.ofNat 30)), none, .mv (.t (K.ofNat 6))⟩, ⟨(some (K.ofNat 31)), none, .call (.c (.fn (K.ofNat 18) [])) [(.t (K.ofNat 29)), (.t (K.ofNat 30))]⟩, ⟨(some (K.ofNat 28)), none, .mv (.t (K.ofNat 31))⟩, ⟨(some (K.ofNat 32)), none, .ext (.t (K.ofNat 28)) 0⟩, ⟨(some (K.ofNat 33)), none, .ext (.t (K.ofNat 28)) 1⟩, ⟨(some (K.ofNat 9)), none, .as (.t (K.ofNat 32))⟩, ⟨(some (K.ofNat 10)), none, .as (.t (K.ofNat 33))⟩]
noncomputable def f4_r4 : List EOper := [⟨(some (K.ofNat 35)), none, .mv (.t (K.ofNat 5))⟩, ⟨(some (K.ofNat 36)), none, .mv (.t (K.ofNat 6))⟩, ⟨(some (K.ofNat 37)), none, .call (.c (.fn (K.ofNat 19) [])) [(.t (K.ofNat 35)), (.t (K.ofNat 36))]⟩, ⟨(some (K.ofNat 34)), none, .mv (.t (K.ofNat 37))⟩, ⟨(some (K.ofNat 38)), none, .ext (.t (K.ofNat 34)) 0⟩, ⟨(some (K.ofNat 39)), none, .ext (.t (K.ofNat 34)) 1⟩, ⟨(some (K.ofNat 11)), none, .as (.t (K.ofNat 38))⟩, ⟨(some (K.ofNat 12)), none, .as (.t (K.ofNat 39))⟩]
noncomputable def f4_r5 : List EOper := [⟨(some (K.ofNat 41)), none, .mv (.t (K.ofNat 5))⟩, ⟨(some (K.ofNat 42)), none, .mv (.t (K.ofNat 6))⟩, ⟨(some (K.ofNat 43)), none, .call (.c (.fn (K.ofNat 20) [])) [(.t (K.ofNat 41)), (.t (K.ofNat 42))]⟩, ⟨(some (K.ofNat 40)), none, .mv (.t (K.ofNat 43))⟩, ⟨(some (K.ofNat 44)), none, .ext (.t (K.ofNat 40)) 0⟩, ⟨(some (K.ofNat 45)), none, .ext (.t (K.ofNat 40)) 1⟩, ⟨(some (K.ofNat 13)), none, .as (.t (K.ofNat 44))⟩, ⟨(some (K.ofNat 14)), none, .as (.t (K.ofNat 45))⟩]
noncomputable def f4_r6 : List EOper := [⟨(some (K.ofNat 46)), none, .mv (.t (K.ofNat 5))⟩, ⟨(some (K.ofNat 47)), none, .mv (.t (K.ofNat 6))⟩, ⟨(some (K.ofNat 48)), none, .call (.c (.fn (K.ofNat 31) [])) [(.t (K.ofNat 46)), (.t (K.ofNat 47))]⟩, ⟨(some (K.ofNat 15)), none, .as (.t (K.ofNat 48))⟩]
noncomputable def f4_r7 : List EOper := [⟨(some (K.ofNat 49)), none, .mv (.t (K.ofNat 8))⟩, ⟨(some (K.ofNat 50)), none, .bin .eql (.t (K.ofNat 49)) (.c (.i .i64 (.ofNat 0)))⟩, ⟨(some (K.ofNat 51)), none, .mv (.t (K.ofNat 50))⟩, ⟨(some (K.ofNat 52)), (some ((K.ofNat 51), true)), .mv (.t (K.ofNat 7))⟩, ⟨(some (K.ofNat 53)), (some ((K.ofNat 51), true)), .mv (.t (K.ofNat 5))⟩, ⟨(some (K.ofNat 54)), (some ((K.ofNat 51), true)), .mv (.t (K.ofNat 6))⟩, ⟨(some (K.ofNat 55)), (some ((K.ofNat 51), true)), .call (.c (.fn (K.ofNat 33) [])) [(.t (K.ofNat 53)), (.t (K.ofNat 54))]⟩, ⟨(some (K.ofNat 56)), (some ((K.ofNat 51), true)), .call (.c (.fn (K.ofNat 32) [])) [(.t (K.ofNat 52)), (.t (K.ofNat 55))]⟩, ⟨(some (K.ofNat 57)), none, .pick (.t (K.ofNat 51)) (.t (K.ofNat 56)) (.c (.b false))⟩, ⟨(some (K.ofNat 58)), none, .mv (.t (K.ofNat 57))⟩, ⟨(some (K.ofNat 59)), (some ((K.ofNat 58), true)), .mv (.t (K.ofNat 10))⟩, ⟨(some (K.ofNat 60)), (some ((K.ofNat 58), true)), .bin .eql (.t (K.ofNat 59)) (.c (.i .i64 (.ofNat 0)))⟩, ⟨(some (K.ofNat 61)), none, .pick (.t (K.ofNat 58)) (.t (K.ofNat 60)) (.c (.b false))⟩, ⟨(some (K.ofNat 62)), none, .mv (.t (K.ofNat 61))⟩, ⟨(some (K.ofNat 63)), (some ((K.ofNat 62), true)), .mv (.t (K.ofNat 9))⟩, ⟨(some (K.ofNat 64)), (some ((K.ofNat 62), true)), .mv (.t (K.ofNat 15))⟩, ⟨(some (K.ofNat 65)), (some ((K.ofNat 62), true)), .call (.c (.fn (K.ofNat 32) [])) [(.t (K.ofNat 63)), (.t (K.ofNat 64))]⟩, ⟨(some (K.ofNat 66)), none, .pick (.t (K.ofNat 62)) (.t (K.ofNat 65)) (.c (.b false))⟩, ⟨(some (K.ofNat 67)), none, .mv (.t (K.ofNat 66))⟩, ⟨(some (K.ofNat 68)), (some ((K.ofNat 67), true)), .mv (.t (K.ofNat 12))⟩, ⟨(some (K.ofNat 69)), (some ((K.ofNat 67), true)), .bin .eql (.t (K.ofNat 68)) (.c (.i .i64 (.ofNat 0)))⟩, ⟨(some (K.ofNat 70)), none, .pick (.t (K.ofNat 67)) (.t (K.ofNat 69)) (.c (.b false))⟩, ⟨(some (K.ofNat 71)), none, .mv (.t (K.ofNat 70))⟩, ⟨(some (K.ofNat 72)), (some ((K.ofNat 71), true)), .mv (.t (K.ofNat 11))⟩, ⟨(some (K.ofNat 73)), (some ((K.ofNat 71), true)), .mv (.t (K.ofNat 15))⟩, ⟨(some (K.ofNat 74)), (some ((K.ofNat 71), true)), .call (.c (.fn (K.ofNat 34) [])) [(.t (K.ofNat 73))]⟩, ⟨(some (K.ofNat 75)), (some ((K.ofNat 71), true)), .call (.c (.fn (K.ofNat 32) [])) [(.t (K.ofNat 72)), (.t (K.ofNat 74))]⟩, ⟨(some (K.ofNat 76)), none, .pick (.t (K.ofNat 71)) (.t (K.ofNat 75)) (.c (.b false))⟩, ⟨(some (K.ofNat 77)), none, .mv (.t (K.ofNat 76))⟩, ⟨(some (K.ofNat 78)), (some ((K.ofNat 77), true)), .mv (.t (K.ofNat 14))⟩, ⟨(some (K.ofNat 79)), (some ((K.ofNat 77), true)), .bin .eql (.t (K.ofNat 78)) (.c (.i .i64 (.ofNat 0)))⟩, ⟨(some (K.ofNat 80)), none, .pick (.t (K.ofNat 77)) (.t (K.ofNat 79)) (.c (.b false))⟩, ⟨(some (K.ofNat 81)), none, .mv (.t (K.ofNat 80))⟩, ⟨(some (K.ofNat 82)), (some ((K.ofNat 81), true)), .mv (.t (K.ofNat 13))⟩, ⟨(some (K.ofNat 83)), (some ((K.ofNat 81), true)), .mv (.t (K.ofNat 15))⟩, ⟨(some (K.ofNat 84)), (some ((K.ofNat 81), true)), .call (.c (.fn (K.ofNat 35) [])) [(.t (K.ofNat 83))]⟩, ⟨(some (K.ofNat 85)), (some ((K.ofNat 81), true)), .bin .eql (.t (K.ofNat 82)) (.t (K.ofNat 84))⟩, ⟨(some (K.ofNat 86)), none, .pick (.t (K.ofNat 81)) (.t (K.ofNat 85)) (.c (.b false))⟩, ⟨(some (K.ofNat 87)), none, .mv (.t (K.ofNat 86))⟩, ⟨(some (K.ofNat 88)), (some ((K.ofNat 87), true)), .call (.c (.fn (K.ofNat 29) [])) []⟩, ⟨(some (K.ofNat 89)), none, .pick (.t (K.ofNat 87)) (.t (K.ofNat 88)) (.c (.b false))⟩, ⟨(some (K.ofNat 4)), none, .as (.t (K.ofNat 89))⟩]
noncomputable def f4_c : EC := (.seq (.reg f4_r0) (.seq (.reg f4_r1) (.seq (.reg f4_r2) (.seq (.reg f4_r3) (.seq (.reg f4_r4) (.seq (.reg f4_r5) (.seq (.reg f4_r6) (.seq (.reg f4_r7) .ret))))))))
noncomputable def f4 : EF := ⟨90, [.tmp (K.ofNat 4)], f4_c, none⟩
section
variable {fs : T EF} {ro : Option K}
structure Facts4 (N : Int) (P : List Int) : Prop where
  chk : chkS N P = 0
  len : P.length ≤ 10
  sets : Sets P
  sz : ∀ k ∈ facN P (2 ^ N.toNat), pop6 k ≤ maxS P
  fac : memI (famB P) = facTo P (2 ^ N.toNat)
  cnt : cntS (mem64 (famB P)) = rcnt (maxS P) (facN P (2 ^ N.toNat))
  hs : hsS (cntS (mem64 (famB P))) = rhsS (cntS (mem64 (famB P)))
  eu : euS ((cntS (mem64 (famB P))).drop 1) 0 1 = reuS (cntS (mem64 (famB P))) ((cntS (mem64 (famB P))).length - 1) 1 0
  ne : 1 ≤ (cntS (mem64 (famB P))).length
end
end Go.Ev
namespace Go.Ev
open Go Go.RowKit
/-! ### The sets -/
theorem tameX_in {N x : Int} (h1 : 1 ≤ N) (h6 : N ≤ 6) : 0 ≤ tameX N x ∧ tameX N x < 2 ^ N.toNat := by
  have h0 : 0 ≤ fw .u64 x := by rw [fw_eq]; exact Int.emod_nonneg _ (by decide)
  obtain ⟨m, hm⟩ := Int.eq_ofNat_of_zero_le h0
  unfold tameX
  rw [hm]
  have key : ∀ p : Nat, 0 < p → p ≤ 64 → 0 ≤ fw .i64 (Int.tmod (m : Int) (p : Int)) ∧ fw .i64 (Int.tmod (m : Int) (p : Int)) < (p : Int) := by
    intro p hp hp2
    have e : Int.tmod (m : Int) (p : Int) = ((m % p : Nat) : Int) := rfl
    have hlt := Nat.mod_lt m hp
    rw [e, fw64 (by omega) (by omega)]
    omega
  obtain ⟨q1, q2⟩ := pow_n h1 h6
  rw [← q2]
  exact key _ (Nat.two_pow_pos _) q1
theorem tameS_in {N : Int} {L : List Int} {i : Nat} (h1 : 1 ≤ N) (h6 : N ≤ 6) : ∀ s ∈ tameS N L i, 0 ≤ s ∧ s < 2 ^ N.toNat := by
  intro s hs
  unfold tameS at hs
  rcases List.mem_cons.1 hs with rfl | hs
  · have : N = 1 ∨ N = 2 ∨ N = 3 ∨ N = 4 ∨ N = 5 ∨ N = 6 := by omega
    rcases this with rfl | rfl | rfl | rfl | rfl | rfl <;> decide
  · obtain ⟨x, _, rfl⟩ := List.mem_map.1 hs
    exact tameX_in h1 h6
theorem sets_in {N : Int} {S : List Int} (h1 : 1 ≤ N) (h6 : N ≤ 6) (h : ∀ s ∈ S, 0 ≤ s ∧ s < 2 ^ N.toNat) : Sets S := by
  intro s hs
  obtain ⟨a, b⟩ := h s hs
  obtain ⟨q1, q2⟩ := pow_n h1 h6
  exact ⟨s.toNat, by omega, by omega⟩
theorem mem_pieces {S : List Int} {x : Int} (h : x ∈ piecesTo S 64) : ∃ k : Nat, x = (k : Int) ∧ k < 64 ∧ (k : Int) ∈ S ∧ ∀ y ∈ S, y = (k : Int) ∨ ptI (k : Int) y = false := by
  unfold piecesTo at h
  obtain ⟨k, hk, rfl⟩ := List.mem_map.1 h
  rw [List.mem_filter, List.mem_range, Bool.and_eq_true] at hk
  obtain ⟨h1, h2, h3⟩ := hk
  refine ⟨k, rfl, h1, ?_, fun y hy => ?_⟩
  · unfold inP at h2
    obtain ⟨y, hy, e⟩ := List.any_eq_true.1 h2
    have : y = (k : Int) := by simpa using e
    rw [← this]; exact hy
  · unfold grP at h3
    have := List.all_eq_true.1 h3 y hy
    simpa using this
theorem pieces_ne {S : List Int} (hS : Sets S) (hne : S ≠ []) : piecesTo S 64 ≠ [] := by
  obtain ⟨m, hm, hmax⟩ := exists_max S hne
  obtain ⟨t, ht, rfl⟩ := hS m hm
  have hmem : (t : Int) ∈ piecesTo S 64 := by
    unfold piecesTo
    rw [List.mem_map]
    refine ⟨t, ?_, rfl⟩
    rw [List.mem_filter, List.mem_range, Bool.and_eq_true]
    refine ⟨ht, ?_, ?_⟩
    · unfold inP; rw [List.any_eq_true]; exact ⟨_, hm, by simp⟩
    · unfold grP; rw [List.all_eq_true]
      intro y hy
      obtain ⟨u, hu, rfl⟩ := hS y hy
      rw [ptI_nat ht hu]
      have h1 := hmax _ hy
      by_cases e : u = t
      · simp [e]
      · have : ¬ t &&& u = t := fun h2 => by have := sub_le h2; omega
        simp [this]
  intro e
  rw [e] at hmem; cases hmem
theorem pieces_sorted {S : List Int} {i : Nat} : (piecesTo S i).Pairwise (· < ·) := by
  unfold piecesTo
  rw [List.pairwise_map]
  refine List.Pairwise.imp (R := (· < ·)) (fun h => by omega) ?_
  exact List.Pairwise.filter _ List.pairwise_lt_range
theorem facts_P {N : Int} {L : List Int} (h1 : 1 ≤ N) (h6 : N ≤ 6) :
    let P := (tameP N L).take 10
    P ≠ [] ∧ P.length ≤ 10 ∧ P.Pairwise (· < ·) ∧ (∀ x ∈ P, 1 ≤ x ∧ x < 2 ^ N.toNat) ∧ ∀ x ∈ P, ∀ y ∈ P, y = x ∨ ptI x y = false := by
  intro P
  have hin := tameS_in (N := N) (L := L) (i := 10) h1 h6
  have hS := sets_in h1 h6 hin
  have hone : (1 : Int) ∈ tameS N L 10 := by unfold tameS; exact List.mem_cons_self
  have hpos : ∀ x ∈ piecesTo (tameS N L 10) 64, 1 ≤ x ∧ x < 2 ^ N.toNat := by
    intro x hx
    obtain ⟨k, rfl, hk, hks, hkm⟩ := mem_pieces hx
    have := hin _ hks
    refine ⟨?_, this.2⟩
    rcases Nat.eq_zero_or_pos k with e | e
    · subst e
      rcases hkm 1 hone with h | h
      · cases h
      · have h2 : ptI ((0 : Nat) : Int) ((1 : Nat) : Int) = false := h
        rw [ptI_nat (by omega) (by omega)] at h2
        simp at h2
    · omega
  have hP : P = (piecesTo (tameS N L 10) 64).take 10 := by
    show (tameP N L).take 10 = _
    unfold tameP
    simp only []
    rw [if_neg]
    rintro ⟨_, e⟩
    obtain ⟨a, b⟩ := List.getElem?_eq_some_iff.1 e
    have := (hpos _ (List.getElem_mem a)).1
    omega
  rw [hP]
  have sub : ∀ x ∈ (piecesTo (tameS N L 10) 64).take 10, x ∈ piecesTo (tameS N L 10) 64 := fun x hx => List.mem_of_mem_take hx
  refine ⟨fun e => ?_, by rw [List.length_take]; omega, List.Pairwise.sublist (List.take_sublist _ _) pieces_sorted, fun x hx => hpos x (sub x hx), fun x hx y hy => ?_⟩
  · have h2 := pieces_ne hS (by unfold tameS; simp)
    have h3 := congrArg List.length e
    rw [List.length_take] at h3
    have : (piecesTo (tameS N L 10) 64).length ≠ 0 := fun e => h2 (List.length_eq_zero_iff.1 e)
    have h3 : min 10 (piecesTo (tameS N L 10) 64).length = 0 := h3
    omega
  · obtain ⟨k, rfl, hk, hks, hkm⟩ := mem_pieces (sub x hx)
    obtain ⟨j, rfl, hj, hjs, hjm⟩ := mem_pieces (sub y hy)
    exact hkm _ hjs
theorem chk_good {N : Int} {P : List Int} (h1 : 1 ≤ N) (h6 : N ≤ 6) (hne : P ≠ []) (hl : P.length ≤ 10) (hs : P.Pairwise (· < ·)) (hin : ∀ x ∈ P, 1 ≤ x ∧ x < 2 ^ N.toNat) (ha : ∀ x ∈ P, ∀ y ∈ P, y = x ∨ ptI x y = false) : chkS N P = 0 := by
  unfold chkS
  rw [if_neg (by omega), if_pos]
  unfold goodS
  have h0 : P.length ≠ 0 := fun e => hne (List.length_eq_zero_iff.1 e)
  rw [decide_eq_true (by omega), decide_eq_true hl, Bool.true_and, Bool.true_and, List.all_eq_true]
  intro i hi
  have hi : i < P.length := by simpa using hi
  have hg : P.getD i 0 = P[i] := by simp [List.getD, hi]
  unfold okAt
  rw [hg]
  have hm := List.getElem_mem hi
  have hb := hin _ hm
  rw [decide_eq_true hb.1, decide_eq_true hb.2, Bool.true_and, Bool.true_and, List.all_eq_true]
  intro y hy
  obtain ⟨j, hj, rfl⟩ := List.getElem_of_mem hy
  have hj2 : j < i := by rw [List.length_take] at hj; omega
  rw [List.getElem_take]
  have hlt : P[j] < P[i] := List.pairwise_iff_getElem.1 hs j i (by omega) hi hj2
  unfold pairOk
  rw [decide_eq_true hlt]
  rcases ha P[j] (List.getElem_mem _) P[i] hm with e | e
  · omega
  · rw [e]; rfl
/-! ### The faces -/
theorem range_filter {B : Nat → Bool} {m : Nat} : ∀ n, m ≤ n → (∀ k, m ≤ k → k < n → B k = false) → (List.range n).filter B = (List.range m).filter B := by
  intro n
  induction n with
  | zero => intro h _; have : m = 0 := by omega
            rw [this]
  | succ n ih =>
    intro h hb
    by_cases e : m = n + 1
    · rw [e]
    · rw [List.range_succ, List.filter_append, ih (by omega) (fun k h1 h2 => hb k h1 (by omega))]
      simp [hb n (by omega) (by omega)]
theorem faces_eq {N : Int} {P : List Int} (h1 : 1 ≤ N) (h6 : N ≤ 6) (hin : ∀ x ∈ P, 1 ≤ x ∧ x < 2 ^ N.toNat) : mem64 (famB P) = facN P (2 ^ N.toNat) := by
  obtain ⟨q1, q2⟩ := pow_n h1 h6
  unfold mem64 facN
  show (List.range 64).filter (famB P) = (List.range (2 ^ N.toNat)).filter (famB P)
  refine range_filter 64 q1 fun k hk hk2 => ?_
  unfold famB
  rw [List.any_eq_false]
  intro s hs
  obtain ⟨a, b⟩ := hin s hs
  have e : s = (s.toNat : Int) := by omega
  rw [e, ptI_nat hk2 (by omega), decide_eq_true_eq]
  intro h
  have := sub_le h
  omega
theorem pop_mono : ∀ s : Nat, s < 64 → ∀ k : Nat, k < 64 → k &&& s = k → pop6 k ≤ pop6 s := by
  have h : ((List.range 64).all fun s => (List.range 64).all fun k => !(decide (k &&& s = k)) || decide (pop6 k ≤ pop6 s)) = true := by decide +kernel
  intro s hs k hk hsub
  have h1 := List.all_eq_true.1 (List.all_eq_true.1 h s (by simpa using hs)) k (by simpa using hk)
  rw [decide_eq_true hsub] at h1
  simpa using h1
theorem maxS_mem : ∀ {P : List Int} {s : Int}, s ∈ P → pop6 s.toNat ≤ maxS P := by
  intro P
  refine snoc_ind (P := fun P => ∀ {s : Int}, s ∈ P → pop6 s.toNat ≤ maxS P) (fun h => by cases h) (fun l a ih s hs => ?_) P
  rw [maxS_snoc]
  rcases List.mem_append.1 hs with h | h
  · have := ih h; omega
  · have : s = a := by simpa using h
    subst this; omega
theorem maxS_ex : ∀ {P : List Int}, P ≠ [] → ∃ s ∈ P, pop6 s.toNat = maxS P := by
  intro P
  refine snoc_ind (P := fun P => P ≠ [] → ∃ s ∈ P, pop6 s.toNat = maxS P) (fun h => absurd rfl h) (fun l a ih _ => ?_) P
  rw [maxS_snoc]
  by_cases e : l = []
  · subst e; exact ⟨a, by simp, by show _ = max 0 _; omega⟩
  · obtain ⟨s, hs, hm⟩ := ih e
    by_cases h : pop6 a.toNat ≤ maxS l
    · exact ⟨s, by simp [hs], by omega⟩
    · exact ⟨a, by simp, by omega⟩
theorem face_sz {N : Int} {P : List Int} (h1 : 1 ≤ N) (h6 : N ≤ 6) (hin : ∀ x ∈ P, 1 ≤ x ∧ x < 2 ^ N.toNat) : ∀ k ∈ facN P (2 ^ N.toNat), pop6 k ≤ maxS P := by
  obtain ⟨q1, q2⟩ := pow_n h1 h6
  intro k hk
  unfold facN at hk
  rw [List.mem_filter, List.mem_range] at hk
  obtain ⟨hk1, hk2⟩ := hk
  unfold isF at hk2
  obtain ⟨s, hs, e⟩ := List.any_eq_true.1 hk2
  obtain ⟨a, b⟩ := hin s hs
  have es : s = (s.toNat : Int) := by omega
  rw [es, ptI_nat (by omega) (by omega), decide_eq_true_eq] at e
  exact Nat.le_trans (pop_mono s.toNat (by omega) k (by omega) e) (maxS_mem hs)
theorem face_piece {N : Int} {P : List Int} (h1 : 1 ≤ N) (h6 : N ≤ 6) (hin : ∀ x ∈ P, 1 ≤ x ∧ x < 2 ^ N.toNat) {s : Int} (hs : s ∈ P) : s.toNat ∈ facN P (2 ^ N.toNat) := by
  obtain ⟨q1, q2⟩ := pow_n h1 h6
  obtain ⟨a, b⟩ := hin s hs
  unfold facN
  rw [List.mem_filter, List.mem_range]
  refine ⟨by omega, ?_⟩
  unfold isF
  rw [List.any_eq_true]
  refine ⟨s, hs, ?_⟩
  have es : s = (s.toNat : Int) := by omega
  have e2 : ptI (s.toNat : Int) (s.toNat : Int) = true := by rw [ptI_nat (by omega) (by omega)]; simp
  rw [← es] at e2 ⊢
  exact e2
/-! ### The counts -/
theorem getD_cpad {C : List Int} {m j : Nat} : (cpad C m).getD j 0 = C.getD j 0 := by
  unfold cpad
  by_cases h : j < C.length
  · simp [List.getD, List.getElem?_append_left h]
  · simp only [List.getD]
    rw [List.getElem?_append_right (by omega), List.getElem?_replicate, List.getElem?_eq_none (by omega)]
    split <;> rfl
theorem cnt_len {d : Nat} : ∀ (l : List Nat), (∀ k ∈ l, pop6 k ≤ d) → (cntS l).length ≤ d + 1 ∧ (∀ k ∈ l, pop6 k < (cntS l).length) ∧ ∀ j, (cntS l).getD j 0 = (rcnt d l).getD j 0 := by
  intro l
  refine snoc_ind (P := fun l => (∀ k ∈ l, pop6 k ≤ d) → (cntS l).length ≤ d + 1 ∧ (∀ k ∈ l, pop6 k < (cntS l).length) ∧ ∀ j, (cntS l).getD j 0 = (rcnt d l).getD j 0) (fun _ => ?_) (fun l k ih hd => ?_) l
  · refine ⟨by simp [cntS], (fun k h => by cases h), fun j => ?_⟩
    show ([] : List Int).getD j 0 = (List.replicate (d + 1) (0 : Int)).getD j 0
    simp only [List.getD, List.getElem?_nil, List.getElem?_replicate]
    split <;> rfl
  · obtain ⟨i1, i2, i3⟩ := ih (fun k hk => hd k (by simp [hk]))
    have hk := hd k (by simp)
    rw [cntS_snoc, rcnt_snoc]
    have hlen : (cstep (cntS l) (pop6 k)).length = max (cntS l).length (pop6 k + 1) := by
      unfold cstep cpad
      rw [List.length_set, List.length_append, List.length_replicate]; omega
    refine ⟨by rw [hlen]; omega, fun x hx => ?_, fun j => ?_⟩
    · rw [hlen]
      rcases List.mem_append.1 hx with h | h
      · have := i2 x h; omega
      · have : x = k := by simpa using h
        subst this; omega
    · unfold cstep bump
      have hp := cpad_len (C := cntS l) (m := pop6 k)
      have hr := rcnt_len (d := d) l
      have g1 : ∀ (A : List Int) (i : Nat) (x : Int), i < A.length → (A.set i x).getD j 0 = if i = j then x else A.getD j 0 := by
        intro A i x hi
        simp only [List.getD, List.getElem?_set]
        by_cases e : i = j
        · subst e; simp [hi]
        · simp [e]
      rw [g1 _ _ _ hp, g1 _ _ _ (by omega), getD_cpad, getD_cpad, i3, i3]
theorem counts_eq {d : Nat} {l : List Nat} (hd : ∀ k ∈ l, pop6 k ≤ d) (he : ∃ k ∈ l, pop6 k = d) : cntS l = rcnt d l := by
  obtain ⟨h1, h2, h3⟩ := cnt_len l hd
  obtain ⟨k, hk, e⟩ := he
  have h4 := h2 k hk
  have hr := rcnt_len (d := d) l
  apply List.ext_getElem (by omega)
  intro i a b
  have := h3 i
  simp only [List.getD] at this
  rw [List.getElem?_eq_getElem a, List.getElem?_eq_getElem b] at this
  simpa using this
end Go.Ev
namespace Go.Ev
open Go Go.RowKit
theorem sg0 : sgnS 0 = 1 := by decide +kernel
theorem sg1 : sgnS 1 = -1 := by decide +kernel
theorem sg2 : sgnS 2 = 1 := by decide +kernel
theorem sg3 : sgnS 3 = -1 := by decide +kernel
theorem sg4 : sgnS 4 = 1 := by decide +kernel
theorem sg5 : sgnS 5 = -1 := by decide +kernel
theorem sg6 : sgnS 6 = 1 := by decide +kernel
theorem hsA1 {a : Int} (ha : 0 ≤ a ∧ a ≤ 64) : hsS [a] = [1 * a] := by
  simp [hsS, hsTo, List.range, List.range.loop, innerS]
theorem hsB1 {a : Int} (ha : 0 ≤ a ∧ a ≤ 64) : rhsS [a] = [1 * a] := by
  simp [rhsS, arr, List.range, List.range.loop, rkS, bin6, sg0]
  simp (disch := omega) only [fw64]
theorem hsA2 {a b : Int} (ha : 0 ≤ a ∧ a ≤ 64) (hb : 0 ≤ b ∧ b ≤ 64) : hsS [a, b] = [1 * a, (-1) * a + 1 * b] := by
  simp [hsS, hsTo, List.range, List.range.loop, innerS]
  simp (disch := omega) only [fw64]
  omega
theorem hsB2 {a b : Int} (ha : 0 ≤ a ∧ a ≤ 64) (hb : 0 ≤ b ∧ b ≤ 64) : rhsS [a, b] = [1 * a, (-1) * a + 1 * b] := by
  simp [rhsS, arr, List.range, List.range.loop, rkS, bin6, sg0, sg1]
  simp (disch := omega) only [fw64]
  exact ⟨trivial, trivial⟩
theorem hsA3 {a b c : Int} (ha : 0 ≤ a ∧ a ≤ 64) (hb : 0 ≤ b ∧ b ≤ 64) (hc : 0 ≤ c ∧ c ≤ 64) : hsS [a, b, c] = [1 * a, (-2) * a + 1 * b, 1 * a + (-1) * b + 1 * c] := by
  simp [hsS, hsTo, List.range, List.range.loop, innerS]
  simp (disch := omega) only [fw64]
  omega
theorem hsB3 {a b c : Int} (ha : 0 ≤ a ∧ a ≤ 64) (hb : 0 ≤ b ∧ b ≤ 64) (hc : 0 ≤ c ∧ c ≤ 64) : rhsS [a, b, c] = [1 * a, (-2) * a + 1 * b, 1 * a + (-1) * b + 1 * c] := by
  simp [rhsS, arr, List.range, List.range.loop, rkS, bin6, sg0, sg1, sg2]
  simp (disch := omega) only [fw64]
  simp only [true_and, and_true]
  omega
theorem hsA4 {a b c d : Int} (ha : 0 ≤ a ∧ a ≤ 64) (hb : 0 ≤ b ∧ b ≤ 64) (hc : 0 ≤ c ∧ c ≤ 64) (hd : 0 ≤ d ∧ d ≤ 64) : hsS [a, b, c, d] = [1 * a, (-3) * a + 1 * b, 3 * a + (-2) * b + 1 * c, (-1) * a + 1 * b + (-1) * c + 1 * d] := by
  simp [hsS, hsTo, List.range, List.range.loop, innerS]
  simp (disch := omega) only [fw64]
  omega
theorem hsB4 {a b c d : Int} (ha : 0 ≤ a ∧ a ≤ 64) (hb : 0 ≤ b ∧ b ≤ 64) (hc : 0 ≤ c ∧ c ≤ 64) (hd : 0 ≤ d ∧ d ≤ 64) : rhsS [a, b, c, d] = [1 * a, (-3) * a + 1 * b, 3 * a + (-2) * b + 1 * c, (-1) * a + 1 * b + (-1) * c + 1 * d] := by
  simp [rhsS, arr, List.range, List.range.loop, rkS, bin6, sg0, sg1, sg2, sg3]
  simp (disch := omega) only [fw64]
  simp only [true_and, and_true]
  omega
theorem hsA5 {a b c d e : Int} (ha : 0 ≤ a ∧ a ≤ 64) (hb : 0 ≤ b ∧ b ≤ 64) (hc : 0 ≤ c ∧ c ≤ 64) (hd : 0 ≤ d ∧ d ≤ 64) (he : 0 ≤ e ∧ e ≤ 64) : hsS [a, b, c, d, e] = [1 * a, (-4) * a + 1 * b, 6 * a + (-3) * b + 1 * c, (-4) * a + 3 * b + (-2) * c + 1 * d, 1 * a + (-1) * b + 1 * c + (-1) * d + 1 * e] := by
  simp [hsS, hsTo, List.range, List.range.loop, innerS]
  simp (disch := omega) only [fw64]
  omega
theorem hsB5 {a b c d e : Int} (ha : 0 ≤ a ∧ a ≤ 64) (hb : 0 ≤ b ∧ b ≤ 64) (hc : 0 ≤ c ∧ c ≤ 64) (hd : 0 ≤ d ∧ d ≤ 64) (he : 0 ≤ e ∧ e ≤ 64) : rhsS [a, b, c, d, e] = [1 * a, (-4) * a + 1 * b, 6 * a + (-3) * b + 1 * c, (-4) * a + 3 * b + (-2) * c + 1 * d, 1 * a + (-1) * b + 1 * c + (-1) * d + 1 * e] := by
  simp [rhsS, arr, List.range, List.range.loop, rkS, bin6, sg0, sg1, sg2, sg3, sg4]
  simp (disch := omega) only [fw64]
  simp only [true_and, and_true]
  omega
theorem hsA6 {a b c d e f : Int} (ha : 0 ≤ a ∧ a ≤ 64) (hb : 0 ≤ b ∧ b ≤ 64) (hc : 0 ≤ c ∧ c ≤ 64) (hd : 0 ≤ d ∧ d ≤ 64) (he : 0 ≤ e ∧ e ≤ 64) (hf : 0 ≤ f ∧ f ≤ 64) : hsS [a, b, c, d, e, f] = [1 * a, (-5) * a + 1 * b, 10 * a + (-4) * b + 1 * c, (-10) * a + 6 * b + (-3) * c + 1 * d, 5 * a + (-4) * b + 3 * c + (-2) * d + 1 * e, (-1) * a + 1 * b + (-1) * c + 1 * d + (-1) * e + 1 * f] := by
  simp [hsS, hsTo, List.range, List.range.loop, innerS]
  simp (disch := omega) only [fw64]
  omega
theorem hsB6 {a b c d e f : Int} (ha : 0 ≤ a ∧ a ≤ 64) (hb : 0 ≤ b ∧ b ≤ 64) (hc : 0 ≤ c ∧ c ≤ 64) (hd : 0 ≤ d ∧ d ≤ 64) (he : 0 ≤ e ∧ e ≤ 64) (hf : 0 ≤ f ∧ f ≤ 64) : rhsS [a, b, c, d, e, f] = [1 * a, (-5) * a + 1 * b, 10 * a + (-4) * b + 1 * c, (-10) * a + 6 * b + (-3) * c + 1 * d, 5 * a + (-4) * b + 3 * c + (-2) * d + 1 * e, (-1) * a + 1 * b + (-1) * c + 1 * d + (-1) * e + 1 * f] := by
  simp [rhsS, arr, List.range, List.range.loop, rkS, bin6, sg0, sg1, sg2, sg3, sg4, sg5]
  simp (disch := omega) only [fw64]
  simp only [true_and, and_true]
  omega
theorem hsA7 {a b c d e f g : Int} (ha : 0 ≤ a ∧ a ≤ 64) (hb : 0 ≤ b ∧ b ≤ 64) (hc : 0 ≤ c ∧ c ≤ 64) (hd : 0 ≤ d ∧ d ≤ 64) (he : 0 ≤ e ∧ e ≤ 64) (hf : 0 ≤ f ∧ f ≤ 64) (hg : 0 ≤ g ∧ g ≤ 64) : hsS [a, b, c, d, e, f, g] = [1 * a, (-6) * a + 1 * b, 15 * a + (-5) * b + 1 * c, (-20) * a + 10 * b + (-4) * c + 1 * d, 15 * a + (-10) * b + 6 * c + (-3) * d + 1 * e, (-6) * a + 5 * b + (-4) * c + 3 * d + (-2) * e + 1 * f, 1 * a + (-1) * b + 1 * c + (-1) * d + 1 * e + (-1) * f + 1 * g] := by
  simp [hsS, hsTo, List.range, List.range.loop, innerS]
  simp (disch := omega) only [fw64]
  omega
theorem hsB7 {a b c d e f g : Int} (ha : 0 ≤ a ∧ a ≤ 64) (hb : 0 ≤ b ∧ b ≤ 64) (hc : 0 ≤ c ∧ c ≤ 64) (hd : 0 ≤ d ∧ d ≤ 64) (he : 0 ≤ e ∧ e ≤ 64) (hf : 0 ≤ f ∧ f ≤ 64) (hg : 0 ≤ g ∧ g ≤ 64) : rhsS [a, b, c, d, e, f, g] = [1 * a, (-6) * a + 1 * b, 15 * a + (-5) * b + 1 * c, (-20) * a + 10 * b + (-4) * c + 1 * d, 15 * a + (-10) * b + 6 * c + (-3) * d + 1 * e, (-6) * a + 5 * b + (-4) * c + 3 * d + (-2) * e + 1 * f, 1 * a + (-1) * b + 1 * c + (-1) * d + 1 * e + (-1) * f + 1 * g] := by
  simp [rhsS, arr, List.range, List.range.loop, rkS, bin6, sg0, sg1, sg2, sg3, sg4, sg5, sg6]
  simp (disch := omega) only [fw64]
  simp only [true_and, and_true]
  omega
theorem tm1 : Int.tmod (1 : Int) 2 = 1 := by decide
theorem tm3 : Int.tmod (3 : Int) 2 = 1 := by decide
theorem tm4 : Int.tmod (4 : Int) 2 = 0 := by decide
theorem tm5 : Int.tmod (5 : Int) 2 = 1 := by decide
theorem tm6 : Int.tmod (6 : Int) 2 = 0 := by decide
theorem tf1 : fw .i64 1 = 1 := by decide +kernel
theorem tf2 : fw .i64 (-1) = -1 := by decide +kernel
theorem tf3 : fw .i64 2 = 2 := by decide +kernel
theorem hs_eq {L : List Int} (h1 : 1 ≤ L.length) (h7 : L.length ≤ 7) (hb : ∀ x ∈ L, 0 ≤ x ∧ x ≤ 64) : hsS L = rhsS L := by
  match L, h1, h7, hb with
  | [a], _, _, hb => rw [hsA1 (hb a (by simp)), hsB1 (hb a (by simp))]
  | [a, b], _, _, hb => rw [hsA2 (hb a (by simp)) (hb b (by simp)), hsB2 (hb a (by simp)) (hb b (by simp))]
  | [a, b, c], _, _, hb => rw [hsA3 (hb a (by simp)) (hb b (by simp)) (hb c (by simp)), hsB3 (hb a (by simp)) (hb b (by simp)) (hb c (by simp))]
  | [a, b, c, d], _, _, hb => rw [hsA4 (hb a (by simp)) (hb b (by simp)) (hb c (by simp)) (hb d (by simp)), hsB4 (hb a (by simp)) (hb b (by simp)) (hb c (by simp)) (hb d (by simp))]
  | [a, b, c, d, e], _, _, hb => rw [hsA5 (hb a (by simp)) (hb b (by simp)) (hb c (by simp)) (hb d (by simp)) (hb e (by simp)), hsB5 (hb a (by simp)) (hb b (by simp)) (hb c (by simp)) (hb d (by simp)) (hb e (by simp))]
  | [a, b, c, d, e, f], _, _, hb => rw [hsA6 (hb a (by simp)) (hb b (by simp)) (hb c (by simp)) (hb d (by simp)) (hb e (by simp)) (hb f (by simp)), hsB6 (hb a (by simp)) (hb b (by simp)) (hb c (by simp)) (hb d (by simp)) (hb e (by simp)) (hb f (by simp))]
  | [a, b, c, d, e, f, g], _, _, hb => rw [hsA7 (hb a (by simp)) (hb b (by simp)) (hb c (by simp)) (hb d (by simp)) (hb e (by simp)) (hb f (by simp)) (hb g (by simp)), hsB7 (hb a (by simp)) (hb b (by simp)) (hb c (by simp)) (hb d (by simp)) (hb e (by simp)) (hb f (by simp)) (hb g (by simp))]
  | [], h1, _, _ => simp at h1
  | _ :: _ :: _ :: _ :: _ :: _ :: _ :: _ :: _, _, h7, _ => simp at h7
theorem eu1 {a : Int} (ha : 0 ≤ a ∧ a ≤ 64) : euS (List.drop 1 [a]) 0 1 = reuS [a] 0 1 0 := by
  simp [euS, reuS, List.drop]
theorem eu2 {a b : Int} (ha : 0 ≤ a ∧ a ≤ 64) (hb : 0 ≤ b ∧ b ≤ 64) : euS (List.drop 1 [a, b]) 0 1 = reuS [a, b] 1 1 0 := by
  simp [euS, reuS, List.drop, tm1, tf1, tf3]
theorem eu3 {a b c : Int} (ha : 0 ≤ a ∧ a ≤ 64) (hb : 0 ≤ b ∧ b ≤ 64) (hc : 0 ≤ c ∧ c ≤ 64) : euS (List.drop 1 [a, b, c]) 0 1 = reuS [a, b, c] 2 1 0 := by
  simp [euS, reuS, isub_eq, List.drop, tm1, tf1, tf2, tf3]
  simp (disch := omega) only [fw64]
  omega
theorem eu4 {a b c d : Int} (ha : 0 ≤ a ∧ a ≤ 64) (hb : 0 ≤ b ∧ b ≤ 64) (hc : 0 ≤ c ∧ c ≤ 64) (hd : 0 ≤ d ∧ d ≤ 64) : euS (List.drop 1 [a, b, c, d]) 0 1 = reuS [a, b, c, d] 3 1 0 := by
  simp [euS, reuS, isub_eq, List.drop, tm1, tm3, tf1, tf2, tf3]
  simp (disch := omega) only [fw64]
  omega
theorem eu5 {a b c d e : Int} (ha : 0 ≤ a ∧ a ≤ 64) (hb : 0 ≤ b ∧ b ≤ 64) (hc : 0 ≤ c ∧ c ≤ 64) (hd : 0 ≤ d ∧ d ≤ 64) (he : 0 ≤ e ∧ e ≤ 64) : euS (List.drop 1 [a, b, c, d, e]) 0 1 = reuS [a, b, c, d, e] 4 1 0 := by
  simp [euS, reuS, isub_eq, List.drop, tm1, tm3, tm4, tf1, tf2, tf3]
  simp (disch := omega) only [fw64]
  omega
theorem eu6 {a b c d e f : Int} (ha : 0 ≤ a ∧ a ≤ 64) (hb : 0 ≤ b ∧ b ≤ 64) (hc : 0 ≤ c ∧ c ≤ 64) (hd : 0 ≤ d ∧ d ≤ 64) (he : 0 ≤ e ∧ e ≤ 64) (hf : 0 ≤ f ∧ f ≤ 64) : euS (List.drop 1 [a, b, c, d, e, f]) 0 1 = reuS [a, b, c, d, e, f] 5 1 0 := by
  simp [euS, reuS, isub_eq, List.drop, tm1, tm3, tm4, tm5, tf1, tf2, tf3]
  simp (disch := omega) only [fw64]
  omega
theorem eu7 {a b c d e f g : Int} (ha : 0 ≤ a ∧ a ≤ 64) (hb : 0 ≤ b ∧ b ≤ 64) (hc : 0 ≤ c ∧ c ≤ 64) (hd : 0 ≤ d ∧ d ≤ 64) (he : 0 ≤ e ∧ e ≤ 64) (hf : 0 ≤ f ∧ f ≤ 64) (hg : 0 ≤ g ∧ g ≤ 64) : euS (List.drop 1 [a, b, c, d, e, f, g]) 0 1 = reuS [a, b, c, d, e, f, g] 6 1 0 := by
  simp [euS, reuS, isub_eq, List.drop, tm1, tm3, tm4, tm5, tm6, tf1, tf2, tf3]
  simp (disch := omega) only [fw64]
  omega
theorem eu_eq {L : List Int} (h1 : 1 ≤ L.length) (h7 : L.length ≤ 7) (hb : ∀ x ∈ L, 0 ≤ x ∧ x ≤ 64) : euS (L.drop 1) 0 1 = reuS L (L.length - 1) 1 0 := by
  match L, h1, h7, hb with
  | [a], _, _, hb => exact eu1 (hb a (by simp))
  | [a, b], _, _, hb => exact eu2 (hb a (by simp)) (hb b (by simp))
  | [a, b, c], _, _, hb => exact eu3 (hb a (by simp)) (hb b (by simp)) (hb c (by simp))
  | [a, b, c, d], _, _, hb => exact eu4 (hb a (by simp)) (hb b (by simp)) (hb c (by simp)) (hb d (by simp))
  | [a, b, c, d, e], _, _, hb => exact eu5 (hb a (by simp)) (hb b (by simp)) (hb c (by simp)) (hb d (by simp)) (hb e (by simp))
  | [a, b, c, d, e, f], _, _, hb => exact eu6 (hb a (by simp)) (hb b (by simp)) (hb c (by simp)) (hb d (by simp)) (hb e (by simp)) (hb f (by simp))
  | [a, b, c, d, e, f, g], _, _, hb => exact eu7 (hb a (by simp)) (hb b (by simp)) (hb c (by simp)) (hb d (by simp)) (hb e (by simp)) (hb f (by simp)) (hb g (by simp))
  | [], h1, _, _ => simp at h1
  | _ :: _ :: _ :: _ :: _ :: _ :: _ :: _ :: _, _, h7, _ => simp at h7
theorem facts4 (n : Int) (L : List Int) : Facts4 (tameN n) ((tameP (tameN n) L).take 10) := by
  obtain ⟨n1, n6⟩ := tameN_in n
  obtain ⟨f1, f2, f3, f4, f5⟩ := facts_P (N := tameN n) (L := L) n1 n6
  generalize (tameP (tameN n) L).take 10 = P at *
  generalize tameN n = N at *
  have hsets : Sets P := sets_in n1 n6 (fun s hs => by have := f4 s hs; omega)
  have hsz := face_sz n1 n6 f4
  have hfe := faces_eq n1 n6 f4
  have hcnt : cntS (mem64 (famB P)) = rcnt (maxS P) (facN P (2 ^ N.toNat)) := by
    rw [hfe]
    obtain ⟨s, hs, e⟩ := maxS_ex f1
    exact counts_eq hsz ⟨s.toNat, face_piece n1 n6 f4 hs, e⟩
  have hne : 1 ≤ (cntS (mem64 (famB P))).length := by rw [hcnt, rcnt_len]; omega
  have h7 := cntS_len (mem64 (famB P))
  have hbd : ∀ x ∈ cntS (mem64 (famB P)), 0 ≤ x ∧ x ≤ 64 := fun x hx => by
    have := cntS_bd _ x hx
    have := mem64_len (B := famB P)
    omega
  exact ⟨chk_good n1 n6 f1 f2 f3 f4 f5, f2, hsets, hsz, by unfold memI facTo; rw [hfe]; rfl, hcnt, hs_eq hne h7 hbd, eu_eq hne h7 hbd, hne⟩
end Go.Ev
namespace Go.Ev
open Go Go.RowKit
noncomputable def f8_r0 : List EOper := [⟨(some (K.ofNat 6)), none, .as (.c (.b false))⟩]
noncomputable def f8_r1 : List EOper := [⟨(some (K.ofNat 19)), none, .mv (.t (K.ofNat 0))⟩, ⟨(some (K.ofNat 20)), none, .mv (.t (K.ofNat 1))⟩, ⟨(some (K.ofNat 21)), none, .call (.c (.fn (K.ofNat 30) [])) [(.t (K.ofNat 19)), (.t (K.ofNat 20))]⟩, ⟨(some (K.ofNat 18)), none, .mv (.t (K.ofNat 21))⟩, ⟨(some (K.ofNat 22)), none, .ext (.t (K.ofNat 18)) 0⟩, ⟨(some (K.ofNat 23)), none, .ext (.t (K.ofNat 18)) 1⟩, ⟨(some (K.ofNat 7)), none, .as (.t (K.ofNat 22))⟩, ⟨(some (K.ofNat 8)), none, .as (.t (K.ofNat 23))⟩]
noncomputable def f8_r2 : List EOper := [⟨(some (K.ofNat 25)), none, .mv (.t (K.ofNat 7))⟩, ⟨(some (K.ofNat 26)), none, .mv (.t (K.ofNat 8))⟩, ⟨(some (K.ofNat 27)), none, .call (.c (.fn (K.ofNat 26) [])) [(.t (K.ofNat 25)), (.t (K.ofNat 26))]⟩, ⟨(some (K.ofNat 24)), none, .mv (.t (K.ofNat 27))⟩, ⟨(some (K.ofNat 28)), none, .ext (.t (K.ofNat 24)) 0⟩, ⟨(some (K.ofNat 29)), none, .ext (.t (K.ofNat 24)) 1⟩, ⟨(some (K.ofNat 9)), none, .as (.t (K.ofNat 28))⟩, ⟨(some (K.ofNat 10)), none, .as (.t (K.ofNat 29))⟩]
noncomputable def f8_r3 : List EOper := [⟨(some (K.ofNat 30)), none, .mv (.t (K.ofNat 10))⟩, ⟨(some (K.ofNat 31)), none, .bin .neq (.t (K.ofNat 30)) (.c (.i .i64 (.ofNat 0)))⟩, ⟨(some (K.ofNat 32)), none, .mv (.t (K.ofNat 31))⟩, ⟨(some (K.ofNat 33)), (some ((K.ofNat 32), false)), .mv (.t (K.ofNat 9))⟩, ⟨(some (K.ofNat 34)), (some ((K.ofNat 32), false)), .mv (.t (K.ofNat 7))⟩, ⟨(some (K.ofNat 35)), (some ((K.ofNat 32), false)), .mv (.t (K.ofNat 8))⟩, ⟨(some (K.ofNat 36)), (some ((K.ofNat 32), false)), .call (.c (.fn (K.ofNat 44) [])) [(.t (K.ofNat 34)), (.t (K.ofNat 35))]⟩, ⟨(some (K.ofNat 37)), (some ((K.ofNat 32), false)), .call (.c (.fn (K.ofNat 32) [])) [(.t (K.ofNat 33)), (.t (K.ofNat 36))]⟩, ⟨(some (K.ofNat 38)), (some ((K.ofNat 32), false)), .not (.t (K.ofNat 37))⟩, ⟨(some (K.ofNat 39)), none, .pick (.t (K.ofNat 32)) (.c (.b true)) (.t (K.ofNat 38))⟩]
noncomputable def f8_r4 : List EOper := [⟨(some (K.ofNat 6)), none, .as (.c (.b false))⟩]
noncomputable def f8_r5 : List EOper := [⟨(some (K.ofNat 11)), none, .as (.c (.i .i64 (.ofNat 0)))⟩]
noncomputable def f8_r6 : List EOper := [⟨(some (K.ofNat 40)), none, .mv (.t (K.ofNat 11))⟩, ⟨(some (K.ofNat 41)), none, .bin .lss (.t (K.ofNat 40)) (.c (.i .i64 (.ofNat 2)))⟩]
noncomputable def f8_r7 : List EOper := [⟨(some (K.ofNat 45)), none, .mv (.t (K.ofNat 7))⟩, ⟨(some (K.ofNat 46)), none, .mv (.t (K.ofNat 8))⟩, ⟨(some (K.ofNat 47)), none, .mv (.t (K.ofNat 2))⟩, ⟨(some (K.ofNat 48)), none, .call (.c (.fn (K.ofNat 27) [])) [(.t (K.ofNat 45)), (.t (K.ofNat 46)), (.t (K.ofNat 47))]⟩, ⟨(some (K.ofNat 44)), none, .mv (.t (K.ofNat 48))⟩, ⟨(some (K.ofNat 49)), none, .ext (.t (K.ofNat 44)) 0⟩, ⟨(some (K.ofNat 50)), none, .ext (.t (K.ofNat 44)) 1⟩, ⟨(some (K.ofNat 12)), none, .as (.t (K.ofNat 49))⟩, ⟨(some (K.ofNat 13)), none, .as (.t (K.ofNat 50))⟩]
noncomputable def f8_r8 : List EOper := [⟨(some (K.ofNat 51)), none, .mv (.t (K.ofNat 2))⟩, ⟨(some (K.ofNat 52)), none, .bin .lss (.t (K.ofNat 51)) (.c (.i .i64 (.ofNat 0)))⟩, ⟨(some (K.ofNat 53)), none, .mv (.t (K.ofNat 52))⟩, ⟨(some (K.ofNat 54)), (some ((K.ofNat 53), false)), .mv (.t (K.ofNat 2))⟩, ⟨(some (K.ofNat 55)), (some ((K.ofNat 53), false)), .mv (.t (K.ofNat 7))⟩, ⟨(some (K.ofNat 56)), (some ((K.ofNat 53), false)), .bin .shl (.c (.i .i64 (.ofNat 1))) (.t (K.ofNat 55))⟩, ⟨(some (K.ofNat 57)), (some ((K.ofNat 53), false)), .bin .geq (.t (K.ofNat 54)) (.t (K.ofNat 56))⟩, ⟨(some (K.ofNat 58)), none, .pick (.t (K.ofNat 53)) (.c (.b true)) (.t (K.ofNat 57))⟩, ⟨(some (K.ofNat 59)), none, .mv (.t (K.ofNat 58))⟩, ⟨(some (K.ofNat 60)), (some ((K.ofNat 59), false)), .mv (.t (K.ofNat 8))⟩, ⟨(some (K.ofNat 61)), (some ((K.ofNat 59), false)), .mv (.t (K.ofNat 2))⟩, ⟨(some (K.ofNat 62)), (some ((K.ofNat 59), false)), .call (.c (.fn (K.ofNat 45) [])) [(.t (K.ofNat 60)), (.t (K.ofNat 61))]⟩, ⟨(some (K.ofNat 63)), (some ((K.ofNat 59), false)), .not (.t (K.ofNat 62))⟩, ⟨(some (K.ofNat 64)), none, .pick (.t (K.ofNat 59)) (.c (.b true)) (.t (K.ofNat 63))⟩]
noncomputable def f8_r9 : List EOper := [⟨(some (K.ofNat 65)), none, .mv (.t (K.ofNat 13))⟩, ⟨(some (K.ofNat 66)), none, .bin .neq (.t (K.ofNat 65)) (.c (.i .i64 (.ofNat 1)))⟩, ⟨(some (K.ofNat 67)), none, .mv (.t (K.ofNat 66))⟩, ⟨(some (K.ofNat 68)), (some ((K.ofNat 67), false)), .mv (.t (K.ofNat 12))⟩, ⟨(some (K.ofNat 69)), (some ((K.ofNat 67), false)), .len (.t (K.ofNat 68))⟩, ⟨(some (K.ofNat 70)), (some ((K.ofNat 67), false)), .bin .neq (.t (K.ofNat 69)) (.c (.i .i64 (.ofNat 0)))⟩, ⟨(some (K.ofNat 71)), none, .pick (.t (K.ofNat 67)) (.c (.b true)) (.t (K.ofNat 70))⟩]
noncomputable def f8_r10 : List EOper := [⟨(some (K.ofNat 6)), none, .as (.c (.b false))⟩]
noncomputable def f8_r11 : List EOper := [⟨(some (K.ofNat 72)), none, .mv (.t (K.ofNat 13))⟩, ⟨(some (K.ofNat 73)), none, .bin .neq (.t (K.ofNat 72)) (.c (.i .i64 (.ofNat 0)))⟩, ⟨(some (K.ofNat 74)), none, .mv (.t (K.ofNat 73))⟩, ⟨(some (K.ofNat 75)), (some ((K.ofNat 74), false)), .mv (.t (K.ofNat 12))⟩, ⟨(some (K.ofNat 76)), (some ((K.ofNat 74), false)), .mv (.t (K.ofNat 7))⟩, ⟨(some (K.ofNat 77)), (some ((K.ofNat 74), false)), .mv (.t (K.ofNat 8))⟩, ⟨(some (K.ofNat 78)), (some ((K.ofNat 74), false)), .mv (.t (K.ofNat 2))⟩, ⟨(some (K.ofNat 79)), (some ((K.ofNat 74), false)), .call (.c (.fn (K.ofNat 46) [])) [(.t (K.ofNat 76)), (.t (K.ofNat 77)), (.t (K.ofNat 78))]⟩, ⟨(some (K.ofNat 80)), (some ((K.ofNat 74), false)), .call (.c (.fn (K.ofNat 32) [])) [(.t (K.ofNat 75)), (.t (K.ofNat 79))]⟩, ⟨(some (K.ofNat 81)), (some ((K.ofNat 74), false)), .not (.t (K.ofNat 80))⟩, ⟨(some (K.ofNat 82)), none, .pick (.t (K.ofNat 74)) (.c (.b true)) (.t (K.ofNat 81))⟩]
noncomputable def f8_r12 : List EOper := [⟨(some (K.ofNat 6)), none, .as (.c (.b false))⟩]
noncomputable def f8_r13 : List EOper := [⟨(some (K.ofNat 83)), none, .mv (.t (K.ofNat 7))⟩, ⟨(some (K.ofNat 84)), none, .mv (.t (K.ofNat 8))⟩, ⟨(some (K.ofNat 85)), none, .call (.c (.fn (K.ofNat 33) [])) [(.t (K.ofNat 83)), (.t (K.ofNat 84))]⟩, ⟨(some (K.ofNat 14)), none, .as (.t (K.ofNat 85))⟩]
noncomputable def f8_r14 : List EOper := [⟨(some (K.ofNat 86)), none, .mv (.t (K.ofNat 14))⟩, ⟨(some (K.ofNat 87)), none, .mv (.t (K.ofNat 2))⟩, ⟨(some (K.ofNat 88)), none, .conv .u64 (.t (K.ofNat 87))⟩, ⟨(some (K.ofNat 89)), none, .mv (.t (K.ofNat 14))⟩, ⟨(some (K.ofNat 90)), none, .len (.t (K.ofNat 89))⟩, ⟨(some (K.ofNat 91)), none, .conv .u64 (.t (K.ofNat 90))⟩, ⟨(some (K.ofNat 92)), none, .bin .rem (.t (K.ofNat 88)) (.t (K.ofNat 91))⟩, ⟨(some (K.ofNat 93)), none, .conv .i64 (.t (K.ofNat 92))⟩, ⟨(some (K.ofNat 94)), none, .iads 1 (.t (K.ofNat 86)) (.t (K.ofNat 93))⟩, ⟨(some (K.ofNat 95)), none, .ld (.t (K.ofNat 94))⟩, ⟨(some (K.ofNat 2)), none, .as (.t (K.ofNat 95))⟩]
noncomputable def f8_r15 : List EOper := [⟨(some (K.ofNat 42)), none, .mv (.t (K.ofNat 11))⟩, ⟨(some (K.ofNat 43)), none, .bin .add (.t (K.ofNat 42)) (.c (.i .i64 (.ofNat 1)))⟩, ⟨(some (K.ofNat 11)), none, .as (.t (K.ofNat 43))⟩]
noncomputable def f8_l0 : EC := (.seq (.seq (.reg f8_r6) (.cond (.t (K.ofNat 41)) .skip (.exit 0))) (.seq (.block 1 (.seq (.reg f8_r7) (.seq (.seq (.reg f8_r8) (.cond (.t (K.ofNat 64)) (.seq (.reg f8_r9) (.cond (.t (K.ofNat 71)) (.seq (.reg f8_r10) .ret) .skip)) (.seq (.reg f8_r11) (.cond (.t (K.ofNat 82)) (.seq (.reg f8_r12) .ret) .skip)))) (.seq (.reg f8_r13) (.reg f8_r14))))) (.reg f8_r15)))
noncomputable def f8_r16 : List EOper := [⟨(some (K.ofNat 97)), none, .mv (.t (K.ofNat 7))⟩, ⟨(some (K.ofNat 98)), none, .mv (.t (K.ofNat 8))⟩, ⟨(some (K.ofNat 99)), none, .call (.c (.fn (K.ofNat 28) [])) [(.t (K.ofNat 97)), (.t (K.ofNat 98))]⟩, ⟨(some (K.ofNat 96)), none, .mv (.t (K.ofNat 99))⟩, ⟨(some (K.ofNat 100)), none, .ext (.t (K.ofNat 96)) 0⟩, ⟨(some (K.ofNat 101)), none, .ext (.t (K.ofNat 96)) 1⟩, ⟨(some (K.ofNat 15)), none, .as (.t (K.ofNat 100))⟩, ⟨(some (K.ofNat 16)), none, .as (.t (K.ofNat 101))⟩]
noncomputable def f8_r17 : List EOper := [⟨(some (K.ofNat 102)), none, .mv (.t (K.ofNat 7))⟩, ⟨(some (K.ofNat 103)), none, .mv (.t (K.ofNat 8))⟩, ⟨(some (K.ofNat 104)), none, .call (.c (.fn (K.ofNat 47) [])) [(.t (K.ofNat 102)), (.t (K.ofNat 103))]⟩, ⟨(some (K.ofNat 17)), none, .as (.t (K.ofNat 104))⟩]
noncomputable def f8_r18 : List EOper := [⟨(some (K.ofNat 106)), none, .mv (.t (K.ofNat 17))⟩, ⟨(some (K.ofNat 107)), none, .len (.t (K.ofNat 106))⟩, ⟨(some (K.ofNat 108)), none, .bin .eql (.t (K.ofNat 107)) (.c (.i .i64 (.ofNat 0)))⟩, ⟨(some (K.ofNat 109)), none, .mv (.t (K.ofNat 108))⟩, ⟨(some (K.ofNat 110)), (some ((K.ofNat 109), false)), .mv (.t (K.ofNat 17))⟩, ⟨(some (K.ofNat 111)), (some ((K.ofNat 109), false)), .mv (.t (K.ofNat 17))⟩, ⟨(some (K.ofNat 112)), (some ((K.ofNat 109), false)), .len (.t (K.ofNat 111))⟩, ⟨(some (K.ofNat 113)), (some ((K.ofNat 109), false)), .bin .sub (.t (K.ofNat 112)) (.c (.i .i64 (.ofNat 1)))⟩, ⟨(some (K.ofNat 114)), (some ((K.ofNat 109), false)), .iads 1 (.t (K.ofNat 110)) (.t (K.ofNat 113))⟩, ⟨(some (K.ofNat 115)), (some ((K.ofNat 109), false)), .ld (.t (K.ofNat 114))⟩, ⟨(some (K.ofNat 116)), (some ((K.ofNat 109), false)), .bin .eql (.t (K.ofNat 115)) (.c (.i .i64 (.ofNat 0)))⟩, ⟨(some (K.ofNat 117)), none, .pick (.t (K.ofNat 109)) (.c (.b true)) (.t (K.ofNat 116))⟩, ⟨(some (K.ofNat 105)), none, .as (.t (K.ofNat 117))⟩]
noncomputable def f8_r19 : List EOper := [⟨(some (K.ofNat 118)), none, .mv (.t (K.ofNat 16))⟩, ⟨(some (K.ofNat 119)), none, .bin .eql (.t (K.ofNat 118)) (.c (.i .i64 (.ofNat 4)))⟩, ⟨(some (K.ofNat 120)), none, .mv (.t (K.ofNat 119))⟩, ⟨(some (K.ofNat 121)), (some ((K.ofNat 120), true)), .mv (.t (K.ofNat 15))⟩, ⟨(some (K.ofNat 122)), (some ((K.ofNat 120), true)), .len (.t (K.ofNat 121))⟩, ⟨(some (K.ofNat 123)), (some ((K.ofNat 120), true)), .bin .eql (.t (K.ofNat 122)) (.c (.i .i64 (.ofNat 0)))⟩, ⟨(some (K.ofNat 124)), none, .pick (.t (K.ofNat 120)) (.t (K.ofNat 123)) (.c (.b false))⟩, ⟨(some (K.ofNat 125)), none, .mv (.t (K.ofNat 124))⟩, ⟨(some (K.ofNat 126)), (some ((K.ofNat 125), true)), .call (.c (.fn (K.ofNat 29) [])) []⟩, ⟨(some (K.ofNat 127)), none, .pick (.t (K.ofNat 125)) (.t (K.ofNat 126)) (.c (.b false))⟩, ⟨(some (K.ofNat 6)), none, .as (.t (K.ofNat 127))⟩]
noncomputable def f8_r20 : List EOper := [⟨(some (K.ofNat 129)), none, .mv (.t (K.ofNat 17))⟩, ⟨(some (K.ofNat 130)), none, .len (.t (K.ofNat 129))⟩, ⟨(some (K.ofNat 131)), none, .bin .gtr (.t (K.ofNat 130)) (.c (.i .i64 (.ofNat 10)))⟩, ⟨(some (K.ofNat 128)), none, .as (.t (K.ofNat 131))⟩]
noncomputable def f8_r21 : List EOper := [⟨(some (K.ofNat 132)), none, .mv (.t (K.ofNat 16))⟩, ⟨(some (K.ofNat 133)), none, .bin .eql (.t (K.ofNat 132)) (.c (.i .i64 (.ofNat 8)))⟩, ⟨(some (K.ofNat 134)), none, .mv (.t (K.ofNat 133))⟩, ⟨(some (K.ofNat 135)), (some ((K.ofNat 134), true)), .mv (.t (K.ofNat 15))⟩, ⟨(some (K.ofNat 136)), (some ((K.ofNat 134), true)), .len (.t (K.ofNat 135))⟩, ⟨(some (K.ofNat 137)), (some ((K.ofNat 134), true)), .bin .eql (.t (K.ofNat 136)) (.c (.i .i64 (.ofNat 0)))⟩, ⟨(some (K.ofNat 138)), none, .pick (.t (K.ofNat 134)) (.t (K.ofNat 137)) (.c (.b false))⟩, ⟨(some (K.ofNat 139)), none, .mv (.t (K.ofNat 138))⟩, ⟨(some (K.ofNat 140)), (some ((K.ofNat 139), true)), .call (.c (.fn (K.ofNat 29) [])) []⟩, ⟨(some (K.ofNat 141)), none, .pick (.t (K.ofNat 139)) (.t (K.ofNat 140)) (.c (.b false))⟩, ⟨(some (K.ofNat 6)), none, .as (.t (K.ofNat 141))⟩]
noncomputable def f8_r22 : List EOper := [⟨(some (K.ofNat 142)), none, .mv (.t (K.ofNat 16))⟩, ⟨(some (K.ofNat 143)), none, .bin .eql (.t (K.ofNat 142)) (.c (.i .i64 (.ofNat 0)))⟩, ⟨(some (K.ofNat 144)), none, .mv (.t (K.ofNat 143))⟩, ⟨(some (K.ofNat 145)), (some ((K.ofNat 144), true)), .mv (.t (K.ofNat 15))⟩, ⟨(some (K.ofNat 146)), (some ((K.ofNat 144), true)), .mv (.t (K.ofNat 17))⟩, ⟨(some (K.ofNat 147)), (some ((K.ofNat 144), true)), .call (.c (.fn (K.ofNat 32) [])) [(.t (K.ofNat 145)), (.t (K.ofNat 146))]⟩, ⟨(some (K.ofNat 148)), none, .pick (.t (K.ofNat 144)) (.t (K.ofNat 147)) (.c (.b false))⟩, ⟨(some (K.ofNat 149)), none, .mv (.t (K.ofNat 148))⟩, ⟨(some (K.ofNat 150)), (some ((K.ofNat 149), true)), .call (.c (.fn (K.ofNat 29) [])) []⟩, ⟨(some (K.ofNat 151)), none, .pick (.t (K.ofNat 149)) (.t (K.ofNat 150)) (.c (.b false))⟩, ⟨(some (K.ofNat 6)), none, .as (.t (K.ofNat 151))⟩]
noncomputable def f8_c : EC := (.seq (.reg f8_r0) (.seq (.reg f8_r1) (.seq (.reg f8_r2) (.seq (.seq (.reg f8_r3) (.cond (.t (K.ofNat 39)) (.seq (.reg f8_r4) .ret) .skip)) (.seq (.seq (.reg f8_r5) (.block 0 (.loop f8_l0))) (.seq (.reg f8_r16) (.seq (.reg f8_r17) (.seq (.block 2 (.seq (.reg f8_r18) (.cond (.t (K.ofNat 105)) (.seq (.reg f8_r19) .ret) (.seq (.reg f8_r20) (.cond (.t (K.ofNat 128)) (.seq (.reg f8_r21) .ret) .skip))))) (.seq (.reg f8_r22) .ret)))))))))
noncomputable def f8 : EF := ⟨152, [.tmp (K.ofNat 6)], f8_c, none⟩
section
variable {fs : T EF} {ro : Option K}
structure Facts8 (N : Int) (P : List Int) : Prop where
  chk : chkS N P = 0
  len : P.length ≤ 10
  sets : Sets P
  sz : ∀ k ∈ facN P (2 ^ N.toNat), pop6 k ≤ maxS P
  ne : 1 ≤ (cntS (mem64 (famB P))).length
  hol : hollS (cntS (mem64 (famB P))) (famB P) = rhTo (facN P (2 ^ N.toNat)) (maxS P)
  bad : ∀ f : Int, badF (famB P) f = (decide (f < 0) || (decide ((2 : Int) ^ N.toNat ≤ f) || !isF P f))
  lnk : ∀ f : Nat, f < 64 → famB P f = true → topsTo (linkB (famB P) f) 64 = piecesTo (lkR P f (2 ^ N.toNat)) 64
  du : topsTo (dualB (famB P) (2 ^ N.toNat - 1)) 64 = piecesTo (duR P (2 ^ N.toNat - 1) (2 ^ N.toNat - 1 + 1)) 64
  du0 : ∀ D, D = piecesTo (duR P (2 ^ N.toNat - 1) (2 ^ N.toNat - 1 + 1)) 64 → ∀ h : 0 < D.length, (D[0]? = some 0 ↔ D[D.length - 1]'(by omega) = 0)
  fne : 1 ≤ (facTo P (2 ^ N.toNat)).length
end
end Go.Ev
namespace Go.Ev
open Go Go.RowKit
theorem tops_congr {B B' : Nat → Bool} (h : ∀ k, k < 64 → B k = B' k) : topsTo B 64 = topsTo B' 64 := by
  have hm : mem64 B = mem64 B' := by
    unfold mem64
    apply List.filter_congr
    intro k hk
    exact h k (by simpa using hk)
  have ht : isTop B = isTop B' := by funext x; unfold isTop; rw [hm]
  unfold topsTo
  rw [hm, ht]
theorem fam_iff {S : List Int} (hS : Sets S) {y : Nat} (hy : y < 64) : famB S y = true ↔ ∃ t : Nat, t < 64 ∧ (t : Int) ∈ S ∧ y &&& t = y := by
  unfold famB
  rw [List.any_eq_true]
  constructor
  · rintro ⟨s, hs, h⟩
    obtain ⟨t, ht, rfl⟩ := hS s hs
    rw [ptI_nat hy ht, decide_eq_true_eq] at h
    exact ⟨t, ht, hs, h⟩
  · rintro ⟨t, ht, hs, h⟩
    exact ⟨_, hs, by rw [ptI_nat hy ht, decide_eq_true_eq]; exact h⟩
theorem fam_down {S : List Int} (hS : Sets S) {x y : Nat} (hx : x < 64) (hy : y < 64) (h : x &&& y = x) (hf : famB S y = true) : famB S x = true := by
  obtain ⟨t, ht, hs, e⟩ := (fam_iff hS hy).1 hf
  exact (fam_iff hS hx).2 ⟨t, ht, hs, sub_trans h e⟩
theorem bit_sub {x y : Nat} (h : x &&& y = x) (i : Nat) : x.testBit i = true → y.testBit i = true := by
  intro hx
  have := congrArg (fun n => Nat.testBit n i) h
  simp only [Nat.testBit_and] at this
  rw [hx] at this
  simpa using this
theorem or_sub {x y f : Nat} (h : x &&& y = x) : (x ||| f) &&& (y ||| f) = x ||| f := by
  apply Nat.eq_of_testBit_eq
  intro i
  have := bit_sub h i
  simp only [Nat.testBit_and, Nat.testBit_or]
  cases h1 : x.testBit i <;> cases h2 : y.testBit i <;> cases f.testBit i <;> simp_all
theorem self_or {x f : Nat} : x &&& (x ||| f) = x := by
  apply Nat.eq_of_testBit_eq
  intro i
  simp only [Nat.testBit_and, Nat.testBit_or]
  cases x.testBit i <;> cases f.testBit i <;> rfl
theorem less_sub {a x y : Nat} (h : x &&& y = x) : lessC a y &&& lessC a x = lessC a y := by
  show (a ^^^ (a &&& y)) &&& (a ^^^ (a &&& x)) = a ^^^ (a &&& y)
  apply Nat.eq_of_testBit_eq
  intro i
  have := bit_sub h i
  simp only [Nat.testBit_and, Nat.testBit_xor]
  cases h1 : x.testBit i <;> cases h2 : y.testBit i <;> cases a.testBit i <;> simp_all
theorem sets_map {l : List Nat} (h : ∀ k ∈ l, k < 64) : Sets (l.map fun (k : Nat) => (k : Int)) := by
  intro s hs
  obtain ⟨k, hk, rfl⟩ := List.mem_map.1 hs
  exact ⟨k, h k hk, rfl⟩
theorem cast_mem {l : List Nat} {t : Nat} (h : (t : Int) ∈ l.map fun (k : Nat) => (k : Int)) : t ∈ l := by
  obtain ⟨k, hk, e⟩ := List.mem_map.1 h
  have : k = t := by omega
  rw [← this]; exact hk
theorem zero_piece {S : List Int} (h0 : (0 : Int) ∈ piecesTo S 64) : ∀ d ∈ piecesTo S 64, d = 0 := by
  intro d hd
  obtain ⟨k, hk0, hk, hks, hkm⟩ := mem_pieces h0
  obtain ⟨j, rfl, hj, hjs, hjm⟩ := mem_pieces hd
  rcases hkm _ hjs with e | e
  · omega
  · have : k = 0 := by omega
    subst this
    rw [ptI_nat hk hj] at e
    simp at e
theorem rcnt_at {d : Nat} : ∀ (l : List Nat), (∀ k ∈ l, pop6 k ≤ d) → ∀ j, j ≤ d → (rcnt d l).getD j 0 = ((rowsOf l j).length : Int) := by
  intro l
  refine snoc_ind (P := fun l => (∀ k ∈ l, pop6 k ≤ d) → ∀ j, j ≤ d → (rcnt d l).getD j 0 = ((rowsOf l j).length : Int)) (fun _ j hj => ?_) (fun l k ih h j hj => ?_) l
  · simp only [rcnt, List.foldl_nil, List.getD]
    rw [List.getElem?_replicate, if_pos (by omega)]; rfl
  · have ih := ih (fun y hy => h y (List.mem_append_left _ hy))
    have hk := h k (by simp)
    have hl := rcnt_len (d := d) l
    rw [rcnt_snoc, rowsOf_snoc]
    unfold bump
    by_cases e : pop6 k = j
    · subst e
      rw [if_pos rfl, List.length_append]
      have := ih (pop6 k) hk
      simp only [List.getD] at this ⊢
      rw [List.getElem?_set, if_pos rfl, if_pos (by omega)]
      simp only [Option.getD_some, List.length_singleton]
      omega
    · rw [if_neg e]
      have := ih j hj
      simp only [List.getD] at this ⊢
      rw [List.getElem?_set, if_neg e]; exact this
theorem facts8 (n : Int) (L : List Int) : Facts8 (tameN n) ((tameP (tameN n) L).take 10) := by
  obtain ⟨n1, n6⟩ := tameN_in n
  obtain ⟨f1, f2, f3, f4, f5⟩ := facts_P (N := tameN n) (L := L) n1 n6
  obtain ⟨c1, c2, hsets, hsz, _, hcnt, _, _, hne⟩ := facts4 n L
  generalize (tameP (tameN n) L).take 10 = P at *
  generalize tameN n = N at *
  have hfe := faces_eq n1 n6 f4
  obtain ⟨hpw, hpe⟩ := pow_n n1 n6
  have hpos : 0 < 2 ^ N.toNat := Nat.two_pow_pos _
  have hmem : ∀ k, k < 64 → famB P k = true → k < 2 ^ N.toNat := fun k hk h => by
    have h2 : k ∈ mem64 (famB P) := by unfold mem64; rw [List.mem_filter, List.mem_range]; exact ⟨hk, h⟩
    rw [hfe] at h2
    unfold facN at h2
    rw [List.mem_filter, List.mem_range] at h2
    exact h2.1
  generalize hM : 2 ^ N.toNat = M at *
  have hM1 : M - 1 + 1 = M := by omega
  refine ⟨c1, c2, hsets, by rw [hM]; exact hsz, hne, ?_, ?_, ?_, ?_, ?_, ?_⟩
  · rw [hM, hcnt]
    unfold hollS rhTo
    rw [rcnt_len, Nat.add_sub_cancel]
    apply List.map_congr_left
    intro t ht
    have ht : t < maxS P := by simpa using ht
    unfold hvS rhv brS
    rw [rcnt_at _ hsz (t + 1) (by omega), hfe]
  · intro f
    unfold badF
    by_cases b1 : f < 0
    · rw [decide_eq_true b1]; rfl
    · rw [decide_eq_false b1, Bool.false_or, Bool.false_or]
      by_cases b2 : 64 ≤ f
      · rw [decide_eq_true b2, decide_eq_true (by omega)]; rfl
      · obtain ⟨k, rfl⟩ := Int.eq_ofNat_of_zero_le (show 0 ≤ f by omega)
        rw [decide_eq_false b2, Bool.false_or]
        show (!famB P k) = (_ || !famB P k)
        cases hb : famB P k
        · simp
        · have := hmem k (by omega) hb
          rw [decide_eq_false (by omega)]; rfl
  · intro f hf hff
    rw [hM]
    have hs2 : Sets (lkR P f M) := sets_map fun k hk => by
      rw [List.mem_filter, List.mem_range] at hk; omega
    rw [← tops_pieces hs2]
    apply tops_congr
    intro x hx
    rw [Bool.eq_iff_iff, fam_iff hs2 hx]
    unfold linkB lk
    simp only [Bool.and_eq_true, decide_eq_true_eq]
    constructor
    · rintro ⟨h1, h2, h3⟩
      rw [hfe] at h1
      unfold facN at h1
      rw [List.mem_filter, List.mem_range] at h1
      refine ⟨x, hx, ?_, Nat.and_self x⟩
      unfold lkR
      rw [List.mem_map]
      refine ⟨x, ?_, rfl⟩
      rw [List.mem_filter, List.mem_range, decide_eq_true h2, Bool.true_and]
      exact ⟨h1.1, h3⟩
    · rintro ⟨t, ht, hts, hxt⟩
      have hts := cast_mem hts
      rw [List.mem_filter, List.mem_range, Bool.and_eq_true, decide_eq_true_eq] at hts
      obtain ⟨h1, h2, h3⟩ := hts
      have h3 : famB P (t ||| f) = true := h3
      have hxf : x ||| f < 64 := Nat.or_lt_two_pow (n := 6) hx hf
      have htf : t ||| f < 64 := Nat.or_lt_two_pow (n := 6) ht hf
      have h4 := fam_down hsets hxf htf (or_sub hxt) h3
      have h5 := fam_down hsets hx hxf self_or h4
      refine ⟨?_, ?_, h4⟩
      · unfold mem64; rw [List.mem_filter, List.mem_range]; exact ⟨hx, h5⟩
      · rw [← hxt, Nat.and_assoc, h2, Nat.and_zero]
  · rw [hM]
    have hs2 : Sets (duR P (M - 1) (M - 1 + 1)) := sets_map fun k hk => by
      rw [List.mem_filter, List.mem_range] at hk; omega
    rw [← tops_pieces hs2]
    apply tops_congr
    intro x hx
    rw [Bool.eq_iff_iff, fam_iff hs2 hx]
    unfold dualB dualTo
    simp only [Bool.and_eq_true, decide_eq_true_eq, Bool.not_eq_true']
    constructor
    · rintro ⟨h1, h2⟩
      refine ⟨x, hx, ?_, Nat.and_self x⟩
      unfold duR
      rw [List.mem_map]
      refine ⟨x, ?_, rfl⟩
      rw [List.mem_filter, List.mem_range]
      exact ⟨h1, by show (!famB P (lessC (M - 1) x)) = true; rw [h2]; rfl⟩
    · rintro ⟨t, ht, hts, hxt⟩
      have hts := cast_mem hts
      rw [List.mem_filter, List.mem_range] at hts
      obtain ⟨h1, h2⟩ := hts
      have h2 : (!famB P (lessC (M - 1) t)) = true := h2
      have hle := sub_le hxt
      have ha := @less_le (M - 1) x
      have hb := @less_le (M - 1) t
      refine ⟨by omega, ?_⟩
      cases hc : famB P (lessC (M - 1) x)
      · rfl
      · have := fam_down hsets (by omega) (by omega) (less_sub hxt) hc
        rw [this] at h2; cases h2
  · rw [hM]
    rintro D rfl h
    constructor
    · intro e
      obtain ⟨a, b⟩ := List.getElem?_eq_some_iff.1 e
      have h0 := List.getElem_mem a
      rw [b] at h0
      exact zero_piece h0 _ (List.getElem_mem _)
    · intro e
      have h0 := List.getElem_mem (l := piecesTo (duR P (M - 1) (M - 1 + 1)) 64) (n := (piecesTo (duR P (M - 1) (M - 1 + 1)) 64).length - 1) (by omega)
      rw [e] at h0
      rw [List.getElem?_eq_getElem h]
      exact congrArg some (zero_piece h0 _ (List.getElem_mem _))
  · rw [hM]
    obtain ⟨s, hs, _⟩ := maxS_ex f1
    have := face_piece n1 n6 f4 hs
    rw [hM] at this
    unfold facTo
    rw [List.length_map]
    exact List.length_pos_of_mem this
end Go.Ev
namespace Go.Ev
open Go Go.RowKit
end Go.Ev
namespace Go.Ev
open Go Go.RowKit
end Go.Ev
namespace Go.Ev
open Go Go.RowKit
section
variable {α : Type} {e : α → V} {h h' : H} {v : V} {L : List α}
theorem cellsN_arr {f : Nat → α} {n : Nat} : cellsN n (.agg ((arr f n).map e)) = some ((arr f n).map e) := by
  show (bif Nat.beq (lenL ((arr f n).map e)) n then some ((arr f n).map e) else none) = _
  rw [lenL_eq, List.length_map, arr_len, Nat.beq_refl]; rfl
theorem Ar.box {f : Nat → α} {n : Nat} : Ar e (h.new (.cells n ((arr f n).map e))) h.nx (arr f n) := by
  unfold Ar; rw [get_new_same, arr_len]
/-- The whole array is stored. -/
theorem Ar.stn {f g : Nat → α} {n : Nat} {id : K} (ha : Ar e h id (arr f n)) : storeV h n (.p id 0) (.agg ((arr g n).map e)) = .ok undefV (h.put id (.cells n ((arr g n).map e))) := by
  unfold Ar at ha
  rw [arr_len] at ha
  rw [store_p ha cellsN_arr (by omega), setMany_eq _ _ _ (by simp [arr]), List.take_zero, List.nil_append, List.drop_eq_nil_of_le (by simp [arr]), List.append_nil]
end
structure Ids where
  (P O B M T F : K)
section
variable {b c : Nat} {h0 h h' : H} {d : Ids} {v : V} {Q O : List Nat} {M : List (List Bool)} {o w : V}
end
end Go.Ev
namespace Go.Ev
open Go Go.RowKit
section
variable {fs : T EF} {ro : Option K}
structure Anti (Q : List Nat) : Prop where
  len : Q.length ≤ 10
  lt : ∀ y ∈ Q, y < 64
  no : ∀ i j, i < Q.length → j < Q.length → j ≠ i → Q.getD i 0 &&& Q.getD j 0 ≠ Q.getD i 0
end
end Go.Ev
namespace Go.Ev
open Go Go.RowKit
section
variable {fs : T EF} {ro : Option K}
end
end Go.Ev
namespace Go.Ev
open Go Go.RowKit
structure Cpx (N : Int) (P : List Int) : Prop where
  chk : chkS N P = 0
  ne : P ≠ []
  ex : ∃ Q, P = castL Q ∧ Anti Q
theorem cast_toNat : ∀ {P : List Int}, (∀ x ∈ P, 0 ≤ x) → castL (P.map Int.toNat) = P
  | [], _ => rfl
  | x :: P, h => by
    have ih := cast_toNat (P := P) fun y hy => h y (List.mem_cons_of_mem _ hy)
    have hx := h x (by simp)
    unfold castL at ih ⊢
    rw [List.map_cons, List.map_cons, ih]
    congr 1
    show ((x.toNat : Nat) : Int) = x
    omega
theorem cpx_of {N : Int} {P : List Int} (h1 : 1 ≤ N) (h6 : N ≤ 6) (hne : P ≠ []) (hl : P.length ≤ 10) (hs : P.Pairwise (· < ·)) (hin : ∀ x ∈ P, 1 ≤ x ∧ x < 2 ^ N.toNat) (ha : ∀ x ∈ P, ∀ y ∈ P, y = x ∨ ptI x y = false) : Cpx N P := by
  refine ⟨chk_good h1 h6 hne hl hs hin ha, hne, P.map Int.toNat, (cast_toNat fun x hx => by have := (hin x hx).1; omega).symm, ?_⟩
  obtain ⟨hpw, hpe⟩ := pow_n h1 h6
  have hlt : ∀ y ∈ P.map Int.toNat, y < 64 := by
    intro y hy
    obtain ⟨x, hx, rfl⟩ := List.mem_map.1 hy
    have := hin x hx
    omega
  refine ⟨by simpa using hl, hlt, fun i j hi hj hne => ?_⟩
  have hi' : i < P.length := by simpa using hi
  have hj' : j < P.length := by simpa using hj
  have ei : (P.map Int.toNat).getD i 0 = P[i].toNat := by simp [List.getD, hi']
  have ej : (P.map Int.toNat).getD j 0 = P[j].toNat := by simp [List.getD, hj']
  have pi := hin _ (List.getElem_mem hi')
  have pj := hin _ (List.getElem_mem hj')
  have ci : ((P[i].toNat : Nat) : Int) = P[i] := by omega
  have cj : ((P[j].toNat : Nat) : Int) = P[j] := by omega
  rw [ei, ej]
  intro e
  rcases ha _ (List.getElem_mem hi') _ (List.getElem_mem hj') with h | h
  · rw [List.pairwise_iff_getElem] at hs
    rcases Nat.lt_or_gt_of_ne hne with h2 | h2
    · have := hs j i hj' hi' h2; omega
    · have := hs i j hi' hj' h2; omega
  · rw [← ci, ← cj, ptI_nat (by omega) (by omega), decide_eq_true e] at h
    cases h
end Go.Ev
namespace Go.Ev
open Go Go.RowKit
theorem fam_cast {B : List Nat} (hB : ∀ z ∈ B, z < 64) {k : Nat} (hk : k < 64) : famB (castL B) k = true ↔ ∃ y ∈ B, k &&& y = k := by
  rw [show castL B = B.map fun (k : Nat) => (k : Int) from rfl, fam_iff (sets_map hB) hk]
  constructor
  · rintro ⟨t, _, h1, h2⟩
    exact ⟨t, cast_mem h1, h2⟩
  · rintro ⟨y, h1, h2⟩
    exact ⟨y, hB y h1, List.mem_map.2 ⟨y, h1, rfl⟩, h2⟩
end Go.Ev
namespace Go.Ev
open Go Go.RowKit
section
variable {fs : T EF} {ro : Option K}
end
end Go.Ev
namespace Go.Ev
open Go Go.RowKit
noncomputable def f23_r0 : List EOper := [⟨(some (K.ofNat 6)), none, .as (.c .sn)⟩, ⟨(some (K.ofNat 7)), none, .as (.c (.i .i64 (.ofNat 0)))⟩]
noncomputable def f23_r1 : List EOper := [⟨(some (K.ofNat 14)), none, .mv (.t (K.ofNat 0))⟩, ⟨(some (K.ofNat 15)), none, .mv (.t (K.ofNat 1))⟩, ⟨(some (K.ofNat 16)), none, .call (.c (.fn (K.ofNat 16) [])) [(.t (K.ofNat 14)), (.t (K.ofNat 15))]⟩, ⟨(some (K.ofNat 8)), none, .as (.t (K.ofNat 16))⟩]
noncomputable def f23_r2 : List EOper := [⟨(some (K.ofNat 17)), none, .mv (.t (K.ofNat 8))⟩, ⟨(some (K.ofNat 18)), none, .bin .neq (.t (K.ofNat 17)) (.c (.i .i64 (.ofNat 0)))⟩]
noncomputable def f23_r3 : List EOper := [⟨(some (K.ofNat 19)), none, .mv (.t (K.ofNat 8))⟩, ⟨(some (K.ofNat 6)), none, .as (.c .sn)⟩, ⟨(some (K.ofNat 7)), none, .as (.t (K.ofNat 19))⟩]
noncomputable def f23_r4 : List EOper := [⟨(some (K.ofNat 21)), none, .mv (.t (K.ofNat 1))⟩, ⟨(some (K.ofNat 22)), none, .mv (.t (K.ofNat 2))⟩, ⟨(some (K.ofNat 23)), none, .call (.c (.fn (K.ofNat 60) [])) [(.t (K.ofNat 21)), (.t (K.ofNat 22))]⟩, ⟨(some (K.ofNat 20)), none, .mv (.t (K.ofNat 23))⟩, ⟨(some (K.ofNat 24)), none, .ext (.t (K.ofNat 20)) 0⟩, ⟨(some (K.ofNat 25)), none, .ext (.t (K.ofNat 20)) 1⟩, ⟨(some (K.ofNat 9)), none, .as (.t (K.ofNat 24))⟩, ⟨(some (K.ofNat 10)), none, .as (.t (K.ofNat 25))⟩]
noncomputable def f23_r5 : List EOper := [⟨(some (K.ofNat 26)), none, .mv (.t (K.ofNat 10))⟩, ⟨(some (K.ofNat 27)), none, .not (.t (K.ofNat 26))⟩]
noncomputable def f23_r6 : List EOper := [⟨(some (K.ofNat 6)), none, .as (.c .sn)⟩, ⟨(some (K.ofNat 7)), none, .as (.c (.i .i64 (.ofNat 1)))⟩]
noncomputable def f23_r7 : List EOper := [⟨(some (K.ofNat 28)), none, .mv (.t (K.ofNat 9))⟩, ⟨(some (K.ofNat 29)), none, .len (.t (K.ofNat 28))⟩, ⟨(some (K.ofNat 30)), none, .mkslice 1 [(.i .i64 (.ofNat 0))] (.t (K.ofNat 29))⟩, ⟨(some (K.ofNat 11)), none, .as (.t (K.ofNat 30))⟩]
noncomputable def f23_r8 : List EOper := [⟨(some (K.ofNat 31)), none, .mv (.t (K.ofNat 9))⟩, ⟨(some (K.ofNat 32)), none, .len (.t (K.ofNat 31))⟩, ⟨(some (K.ofNat 33)), none, .mv (.c (.i .i64 (.ofNat 0)))⟩]
noncomputable def f23_r9 : List EOper := [⟨(some (K.ofNat 34)), none, .bin .lss (.t (K.ofNat 33)) (.t (K.ofNat 32))⟩]
noncomputable def f23_r10 : List EOper := [⟨(some (K.ofNat 35)), none, .mv (.t (K.ofNat 33))⟩, ⟨(some (K.ofNat 36)), none, .iads 1 (.t (K.ofNat 31)) (.t (K.ofNat 33))⟩, ⟨(some (K.ofNat 37)), none, .ld (.t (K.ofNat 36))⟩, ⟨(some (K.ofNat 12)), none, .as (.t (K.ofNat 35))⟩, ⟨(some (K.ofNat 13)), none, .as (.t (K.ofNat 37))⟩]
noncomputable def f23_r11 : List EOper := [⟨(some (K.ofNat 38)), none, .mv (.t (K.ofNat 11))⟩, ⟨(some (K.ofNat 39)), none, .mv (.t (K.ofNat 12))⟩, ⟨(some (K.ofNat 40)), none, .mv (.t (K.ofNat 13))⟩, ⟨(some (K.ofNat 41)), none, .mv (.t (K.ofNat 9))⟩, ⟨(some (K.ofNat 42)), none, .mv (.t (K.ofNat 12))⟩, ⟨(some (K.ofNat 43)), none, .slice 1 (.t (K.ofNat 41)) none (some (.t (K.ofNat 42))) none⟩, ⟨(some (K.ofNat 44)), none, .call (.c (.fn (K.ofNat 61) [])) [(.t (K.ofNat 40)), (.t (K.ofNat 43))]⟩, ⟨(some (K.ofNat 45)), none, .iads 1 (.t (K.ofNat 38)) (.t (K.ofNat 39))⟩, ⟨none, none, .st 1 (.t (K.ofNat 45)) (.t (K.ofNat 44))⟩]
noncomputable def f23_r12 : List EOper := [⟨(some (K.ofNat 46)), none, .bin .add (.t (K.ofNat 33)) (.c (.i .i64 (.ofNat 1)))⟩, ⟨(some (K.ofNat 33)), none, .mv (.t (K.ofNat 46))⟩]
noncomputable def f23_l0 : EC := (.seq (.reg f23_r9) (.seq (.cond (.t (K.ofNat 34)) .skip (.exit 0)) (.seq (.block 1 (.seq (.reg f23_r10) (.reg f23_r11))) (.reg f23_r12))))
noncomputable def f23_r13 : List EOper := [⟨(some (K.ofNat 47)), none, .mv (.t (K.ofNat 11))⟩, ⟨(some (K.ofNat 6)), none, .as (.t (K.ofNat 47))⟩, ⟨(some (K.ofNat 7)), none, .as (.c (.i .i64 (.ofNat 0)))⟩]
noncomputable def f23_c : EC := (.seq (.reg f23_r0) (.seq (.seq (.reg f23_r1) (.seq (.reg f23_r2) (.cond (.t (K.ofNat 18)) (.seq (.reg f23_r3) .ret) .skip))) (.seq (.reg f23_r4) (.seq (.seq (.reg f23_r5) (.cond (.t (K.ofNat 27)) (.seq (.reg f23_r6) .ret) .skip)) (.seq (.reg f23_r7) (.seq (.seq (.reg f23_r8) (.block 0 (.loop f23_l0))) (.seq (.reg f23_r13) .ret)))))))
noncomputable def f23 : EF := ⟨48, [.tmp (K.ofNat 6), .tmp (K.ofNat 7)], f23_c, none⟩
section
variable {fs : T EF} {ro : Option K}
end
end Go.Ev
namespace Go.Ev
open Go Go.RowKit
end Go.Ev
namespace Go.Ev
open Go Go.RowKit
noncomputable def f22_r0 : List EOper := [⟨(some (K.ofNat 6)), none, .as (.c (.b false))⟩, ⟨(some (K.ofNat 7)), none, .as (.c (.i .i64 (.ofNat 0)))⟩]
noncomputable def f22_r1 : List EOper := [⟨(some (K.ofNat 11)), none, .mv (.t (K.ofNat 0))⟩, ⟨(some (K.ofNat 12)), none, .mv (.t (K.ofNat 1))⟩, ⟨(some (K.ofNat 13)), none, .call (.c (.fn (K.ofNat 16) [])) [(.t (K.ofNat 11)), (.t (K.ofNat 12))]⟩, ⟨(some (K.ofNat 8)), none, .as (.t (K.ofNat 13))⟩]
noncomputable def f22_r2 : List EOper := [⟨(some (K.ofNat 14)), none, .mv (.t (K.ofNat 8))⟩, ⟨(some (K.ofNat 15)), none, .bin .neq (.t (K.ofNat 14)) (.c (.i .i64 (.ofNat 0)))⟩]
noncomputable def f22_r3 : List EOper := [⟨(some (K.ofNat 16)), none, .mv (.t (K.ofNat 8))⟩, ⟨(some (K.ofNat 6)), none, .as (.c (.b false))⟩, ⟨(some (K.ofNat 7)), none, .as (.t (K.ofNat 16))⟩]
noncomputable def f22_r4 : List EOper := [⟨(some (K.ofNat 18)), none, .mv (.t (K.ofNat 1))⟩, ⟨(some (K.ofNat 19)), none, .mv (.t (K.ofNat 2))⟩, ⟨(some (K.ofNat 20)), none, .call (.c (.fn (K.ofNat 60) [])) [(.t (K.ofNat 18)), (.t (K.ofNat 19))]⟩, ⟨(some (K.ofNat 17)), none, .mv (.t (K.ofNat 20))⟩, ⟨(some (K.ofNat 21)), none, .ext (.t (K.ofNat 17)) 0⟩, ⟨(some (K.ofNat 22)), none, .ext (.t (K.ofNat 17)) 1⟩, ⟨(some (K.ofNat 9)), none, .as (.t (K.ofNat 21))⟩, ⟨(some (K.ofNat 10)), none, .as (.t (K.ofNat 22))⟩]
noncomputable def f22_r5 : List EOper := [⟨(some (K.ofNat 23)), none, .mv (.t (K.ofNat 10))⟩, ⟨(some (K.ofNat 6)), none, .as (.t (K.ofNat 23))⟩, ⟨(some (K.ofNat 7)), none, .as (.c (.i .i64 (.ofNat 0)))⟩]
noncomputable def f22_c : EC := (.seq (.reg f22_r0) (.seq (.seq (.reg f22_r1) (.seq (.reg f22_r2) (.cond (.t (K.ofNat 15)) (.seq (.reg f22_r3) .ret) .skip))) (.seq (.reg f22_r4) (.seq (.reg f22_r5) .ret))))
noncomputable def f22 : EF := ⟨24, [.tmp (K.ofNat 6), .tmp (K.ofNat 7)], f22_c, none⟩
section
variable {fs : T EF} {ro : Option K}
end
end Go.Ev
namespace Go.Ev
open Go Go.RowKit
section
variable {fs : T EF} {ro : Option K}
/-- The numbers up to i are rising, and none is a part of a later one. -/
theorem okAt_iff {n : Int} {S : List Int} {i : Nat} (hi : i < S.length) : okAt n S i = true ↔ 1 ≤ S[i] ∧ S[i] < 2 ^ n.toNat ∧ ∀ k (hk : k < i), S[k] < S[i] ∧ ptI S[k] S[i] = false := by
  unfold okAt
  rw [show S.getD i 0 = S[i] by simp [List.getD, hi]]
  simp only [Bool.and_eq_true, decide_eq_true_eq, List.all_eq_true]
  constructor
  · rintro ⟨⟨h1, h2⟩, h3⟩
    refine ⟨h1, h2, fun k hk => ?_⟩
    have := h3 S[k] (by rw [List.mem_take_iff_getElem]; exact ⟨k, by omega, rfl⟩)
    unfold pairOk at this
    simp only [Bool.and_eq_true, decide_eq_true_eq, Bool.not_eq_true'] at this
    exact this
  · rintro ⟨h1, h2, h3⟩
    refine ⟨⟨h1, h2⟩, fun y hy => ?_⟩
    rw [List.mem_take_iff_getElem] at hy
    obtain ⟨k, hk, rfl⟩ := hy
    obtain ⟨a, b⟩ := h3 k (by omega)
    unfold pairOk
    rw [decide_eq_true a, b]; rfl
theorem pt_le {a b : Int} (ha : 0 ≤ a) (ha6 : a < 64) (hb : 0 ≤ b) (hb6 : b < 64) (h : ptI a b = true) : a ≤ b := by
  obtain ⟨m, rfl⟩ := Int.eq_ofNat_of_zero_le ha
  obtain ⟨k, rfl⟩ := Int.eq_ofNat_of_zero_le hb
  have h : ptI (m : Int) (k : Int) = true := h
  rw [ptI_nat (by omega) (by omega), decide_eq_true_eq] at h
  have := Nat.and_le_right (n := m) (m := k)
  rw [h] at this
  have : m ≤ k := this
  omega
end
end Go.Ev
