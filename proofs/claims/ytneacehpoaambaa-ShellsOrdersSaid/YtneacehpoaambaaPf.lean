/-
  Functions of the seat: the reference's Pure; the law's pure.
  Functions of the seat: the reference's next.
  Functions of the seat: the reference's Shelling.
  Functions of the seat: the reference's Shellable.
  Maps whose keys are arrays of bools, and whose values are true: sets of these.
  More rules: six arguments, two literals in one stage, literals that must stay, calls of closures.
  Functions of the seat: the reference's Hs.
  The law ShellsCounts.
  What is true of the complexes that the law makes, and of their counts.
  Horner's rule and the sum with binomial coefficients give the same; so do the two sums with signs.
  The law ShellsHollows.
  What is true of complexes: links, duals, and the numbers of holes.
  What is true of shellings: which piece may come next.
  What is true of the search for a shelling: orders of pieces, each of which may come next.
  The state of the search for a shelling: its boxes, its two slices, its map.
  Functions of the seat: the search for a shelling (findShelling's closure).
  Functions of the seat: findShelling, Shell.
  Complexes as the laws make them: tame, and pure.
  McMullen: the new parts of a shelling, by the number of their corners, are the h-list.
-/
import Derived.Test.YtneacehpoaambaaPe
namespace Go.Ev
open Go Go.RowKit
noncomputable def f71_r0 : List EOper := [⟨(some (K.ofNat 2)), none, .as (.c (.b false))⟩]
noncomputable def f71_r1 : List EOper := [⟨(some (K.ofNat 3)), none, .as (.c (.i .i64 (.ofNat 0)))⟩]
noncomputable def f71_r2 : List EOper := [⟨(some (K.ofNat 4)), none, .mv (.t (K.ofNat 3))⟩, ⟨(some (K.ofNat 5)), none, .mv (.t (K.ofNat 0))⟩, ⟨(some (K.ofNat 6)), none, .len (.t (K.ofNat 5))⟩, ⟨(some (K.ofNat 7)), none, .bin .lss (.t (K.ofNat 4)) (.t (K.ofNat 6))⟩]
noncomputable def f71_r3 : List Stage := [⟨[⟨(some (K.ofNat 10)), none, .mv (.t (K.ofNat 0))⟩, ⟨(some (K.ofNat 11)), none, .mv (.t (K.ofNat 3))⟩, ⟨(some (K.ofNat 12)), none, .iads 1 (.t (K.ofNat 10)) (.t (K.ofNat 11))⟩, ⟨(some (K.ofNat 13)), none, .ld (.t (K.ofNat 12))⟩, ⟨(some (K.ofNat 15)), none, .mv (.t (K.ofNat 0))⟩, ⟨(some (K.ofNat 16)), none, .iads 1 (.t (K.ofNat 15)) (.c (.i .i64 (.ofNat 0)))⟩, ⟨(some (K.ofNat 17)), none, .ld (.t (K.ofNat 16))⟩], [], (some ⟨(some (K.ofNat 14)), none, .call (.c (.fn (K.ofNat 52) [])) [(.t (K.ofNat 13))]⟩), []⟩, ⟨[], [⟨(some (K.ofNat 15)), none, .mv (.t (K.ofNat 0))⟩, ⟨(some (K.ofNat 16)), none, .iads 1 (.t (K.ofNat 15)) (.c (.i .i64 (.ofNat 0)))⟩, ⟨(some (K.ofNat 17)), none, .ld (.t (K.ofNat 16))⟩], (some ⟨(some (K.ofNat 18)), none, .call (.c (.fn (K.ofNat 52) [])) [(.t (K.ofNat 17))]⟩), []⟩, ⟨[⟨(some (K.ofNat 19)), none, .bin .neq (.t (K.ofNat 14)) (.t (K.ofNat 18))⟩], [], none, []⟩]
noncomputable def f71_r4 : List EOper := [⟨(some (K.ofNat 2)), none, .as (.c (.b false))⟩]
noncomputable def f71_r5 : List EOper := [⟨(some (K.ofNat 8)), none, .mv (.t (K.ofNat 3))⟩, ⟨(some (K.ofNat 9)), none, .bin .add (.t (K.ofNat 8)) (.c (.i .i64 (.ofNat 1)))⟩, ⟨(some (K.ofNat 3)), none, .as (.t (K.ofNat 9))⟩]
noncomputable def f71_l0 : EC := (.seq (.seq (.reg f71_r2) (.cond (.t (K.ofNat 7)) .skip (.exit 0))) (.seq (.block 1 (.seq (.draw f71_r3) (.cond (.t (K.ofNat 19)) (.seq (.reg f71_r4) .ret) .skip))) (.reg f71_r5)))
noncomputable def f71_r6 : List EOper := [⟨(some (K.ofNat 2)), none, .as (.c (.b true))⟩]
noncomputable def f71_c : EC := (.seq (.reg f71_r0) (.seq (.seq (.reg f71_r1) (.block 0 (.loop f71_l0))) (.seq (.reg f71_r6) .ret)))
noncomputable def f71 : EF := ⟨20, [.tmp (K.ofNat 2)], f71_c, none⟩
theorem f71_rs : f71.rs = [.tmp (K.ofNat 2)] := of_eq_true (eq_self _)
noncomputable def f38_r0 : List EOper := [⟨(some (K.ofNat 4)), none, .as (.c (.i .i64 (.ofNat 0)))⟩, ⟨(some (K.ofNat 5)), none, .as (.c .sn)⟩]
noncomputable def f38_r1 : List EOper := [⟨(some (K.ofNat 10)), none, .mv (.t (K.ofNat 0))⟩, ⟨(some (K.ofNat 11)), none, .mv (.t (K.ofNat 1))⟩, ⟨(some (K.ofNat 12)), none, .call (.c (.fn (K.ofNat 30) [])) [(.t (K.ofNat 10)), (.t (K.ofNat 11))]⟩, ⟨(some (K.ofNat 9)), none, .mv (.t (K.ofNat 12))⟩, ⟨(some (K.ofNat 13)), none, .ext (.t (K.ofNat 9)) 0⟩, ⟨(some (K.ofNat 14)), none, .ext (.t (K.ofNat 9)) 1⟩, ⟨(some (K.ofNat 0)), none, .as (.t (K.ofNat 13))⟩, ⟨(some (K.ofNat 6)), none, .as (.t (K.ofNat 14))⟩]
noncomputable def f38_r2 : List EOper := [⟨(some (K.ofNat 7)), none, .as (.c .sn)⟩]
noncomputable def f38_r3 : List EOper := [⟨(some (K.ofNat 8)), none, .as (.c (.i .i64 (.ofNat 0)))⟩]
noncomputable def f38_r4 : List EOper := [⟨(some (K.ofNat 15)), none, .mv (.t (K.ofNat 8))⟩, ⟨(some (K.ofNat 16)), none, .mv (.t (K.ofNat 6))⟩, ⟨(some (K.ofNat 17)), none, .len (.t (K.ofNat 16))⟩, ⟨(some (K.ofNat 18)), none, .bin .lss (.t (K.ofNat 15)) (.t (K.ofNat 17))⟩]
noncomputable def f38_r5 : List Stage := [⟨[⟨(some (K.ofNat 21)), none, .mv (.t (K.ofNat 6))⟩, ⟨(some (K.ofNat 22)), none, .mv (.t (K.ofNat 8))⟩, ⟨(some (K.ofNat 23)), none, .iads 1 (.t (K.ofNat 21)) (.t (K.ofNat 22))⟩, ⟨(some (K.ofNat 24)), none, .ld (.t (K.ofNat 23))⟩, ⟨(some (K.ofNat 26)), none, .mv (.t (K.ofNat 6))⟩, ⟨(some (K.ofNat 27)), none, .mv (.t (K.ofNat 6))⟩, ⟨(some (K.ofNat 28)), none, .len (.t (K.ofNat 27))⟩, ⟨(some (K.ofNat 29)), none, .bin .sub (.t (K.ofNat 28)) (.c (.i .i64 (.ofNat 1)))⟩, ⟨(some (K.ofNat 30)), none, .iads 1 (.t (K.ofNat 26)) (.t (K.ofNat 29))⟩, ⟨(some (K.ofNat 31)), none, .ld (.t (K.ofNat 30))⟩], [], (some ⟨(some (K.ofNat 25)), none, .call (.c (.fn (K.ofNat 52) [])) [(.t (K.ofNat 24))]⟩), []⟩, ⟨[], [⟨(some (K.ofNat 26)), none, .mv (.t (K.ofNat 6))⟩, ⟨(some (K.ofNat 27)), none, .mv (.t (K.ofNat 6))⟩, ⟨(some (K.ofNat 28)), none, .len (.t (K.ofNat 27))⟩, ⟨(some (K.ofNat 29)), none, .bin .sub (.t (K.ofNat 28)) (.c (.i .i64 (.ofNat 1)))⟩, ⟨(some (K.ofNat 30)), none, .iads 1 (.t (K.ofNat 26)) (.t (K.ofNat 29))⟩, ⟨(some (K.ofNat 31)), none, .ld (.t (K.ofNat 30))⟩], (some ⟨(some (K.ofNat 32)), none, .call (.c (.fn (K.ofNat 52) [])) [(.t (K.ofNat 31))]⟩), []⟩, ⟨[⟨(some (K.ofNat 33)), none, .bin .eql (.t (K.ofNat 25)) (.t (K.ofNat 32))⟩], [], none, []⟩]
noncomputable def f38_r6 : List EOper := [⟨(some (K.ofNat 34)), none, .mv (.t (K.ofNat 7))⟩, ⟨(some (K.ofNat 35)), none, .mv (.t (K.ofNat 6))⟩, ⟨(some (K.ofNat 36)), none, .mv (.t (K.ofNat 8))⟩, ⟨(some (K.ofNat 37)), none, .iads 1 (.t (K.ofNat 35)) (.t (K.ofNat 36))⟩, ⟨(some (K.ofNat 38)), none, .ld (.t (K.ofNat 37))⟩, ⟨(some (K.ofNat 39)), none, .bslice 1 1 [(.i .i64 (.ofNat 0))] [(0, 1, (.t (K.ofNat 38)))]⟩, ⟨(some (K.ofNat 40)), none, .app 1 (.t (K.ofNat 34)) (.t (K.ofNat 39))⟩, ⟨(some (K.ofNat 7)), none, .as (.t (K.ofNat 40))⟩]
noncomputable def f38_r7 : List EOper := [⟨(some (K.ofNat 19)), none, .mv (.t (K.ofNat 8))⟩, ⟨(some (K.ofNat 20)), none, .bin .add (.t (K.ofNat 19)) (.c (.i .i64 (.ofNat 1)))⟩, ⟨(some (K.ofNat 8)), none, .as (.t (K.ofNat 20))⟩]
noncomputable def f38_l0 : EC := (.seq (.seq (.reg f38_r4) (.cond (.t (K.ofNat 18)) .skip (.exit 0))) (.seq (.block 1 (.seq (.draw f38_r5) (.cond (.t (K.ofNat 33)) (.reg f38_r6) .skip))) (.reg f38_r7)))
noncomputable def f38_r8 : List EOper := [⟨(some (K.ofNat 41)), none, .mv (.t (K.ofNat 0))⟩, ⟨(some (K.ofNat 42)), none, .mv (.t (K.ofNat 7))⟩, ⟨(some (K.ofNat 4)), none, .as (.t (K.ofNat 41))⟩, ⟨(some (K.ofNat 5)), none, .as (.t (K.ofNat 42))⟩]
noncomputable def f38_c : EC := (.seq (.reg f38_r0) (.seq (.reg f38_r1) (.seq (.reg f38_r2) (.seq (.seq (.reg f38_r3) (.block 0 (.loop f38_l0))) (.seq (.reg f38_r8) .ret)))))
noncomputable def f38 : EF := ⟨43, [.tmp (K.ofNat 4), .tmp (K.ofNat 5)], f38_c, none⟩
theorem f38_rs : f38.rs = [.tmp (K.ofNat 4), .tmp (K.ofNat 5)] := of_eq_true (eq_self _)
section
variable {fs : T EF} {ro : Option K}
def f71_I (h : H) (v : V) (S : List Int) (i : Nat) (fr : Fr) (h1 : H) : Prop := h1 = h ∧ i ≤ S.length ∧ (S.take i).all (fun s => decide (pop6 s.toNat = pop6 (S.headD 0).toNat)) = true ∧ fr.get (K.ofNat 0) = some (v) ∧ fr.get (K.ofNat 3) = some (.i .i64 (i : Int))
theorem f71_ret {h : H} {v : V} {S : List Int} (hp52 : ∀ m : Nat, m < 64 → ∀ h P, CallP fs (.fn (K.ofNat 52) []) [.i .i64 (m : Int)] h P = P (.i .i64 (pop6 m : Int)) h)
    (hv : Sl iE h v S) (hS : S.length ≤ 1000000) (hsets : Sets S) :
    Ret fs f71 [v] h fun u h' => u = .b (pureS S) ∧ h' = h := by
  apply ret_of rfl
  show W fs none f71_c _ _ _
  unfold f71_c
  simp (disch := omega) only [f71_r0, f71_r1, w_reg, w_seq, w_block, seqK_n, x_nil, x_as, ev_c, putD_some, frame_1, of0]
  refine W_loop (f71_I h v S) (fun i => S.length - i) ?_ 0 ⟨rfl, Nat.zero_le _, by simp, by simp (disch := omega) only [getK_set, Nat.reduceEqDiff, ↓reduceIte, and_self, Int.natCast_zero]⟩
  rintro i fr h1 ⟨rfl, hi, hal, g0, g3⟩
  unfold f71_l0
  by_cases hlt : i < S.length
  · have hlt' : (i : Int) < (S.length : Int) := by omega
    obtain ⟨p, hp1, hp2⟩ := hv.at i hlt
    obtain ⟨q, hq1, hq2, hq3⟩ := hv.atb 0 (by omega)
    have hq1' : ∀ k h1, iadsV 1 v (.i k 0) h1 = .ok q h1 := fun k h1 => hq1 k h1
    obtain ⟨a, ha, hae⟩ := hsets S[i] (List.getElem_mem hlt)
    obtain ⟨b, hb, hbe⟩ := hsets S[0] (List.getElem_mem (by omega))
    have hd : S.headD 0 = S[0] := by cases S with | nil => simp at hlt | cons x l => rfl
    have hs := all_snoc (p := fun s => decide (pop6 s.toNat = pop6 (S.headD 0).toNat)) hlt
    rw [hal, Bool.true_and] at hs
    simp only [hd, hae, hbe, Int.toNat_natCast] at hs
    rw [hae] at hp2
    rw [hbe] at hq2
    by_cases e : pop6 a = pop6 b
    · have e' : ¬ ((pop6 a : Nat) : Int) ≠ ((pop6 b : Nat) : Int) := by omega
      rw [decide_eq_true e] at hs
      simp (disch := omega) only [f71_r2, f71_r3, f71_r5, w_skip, w_reg, w_draw, w_seq, w_cond, w_block, seqK_n, atK_n, loopK_n, ckB_b, cbB_b, true_and, x_nil, x_mv, x_as, x_bin, x_call, x_len, kx, kg, xg_nil, xg_mv, xg_ld, xg_bin, xg_iads, xd_cons, fresh_nil, stK_n, stK_s, stay_nil, stay_cons, again_ok, stay_mv, beq_i, stay_iads, stay_ld, rvP_ok, okv_some, ev_t, ev_c, evs_nil, evs_cons, getV_some, putD_some, bin_add, bin_neq, bin_lss, of0, of1, getK_set, Nat.reduceEqDiff, ↓reduceIte, Bool.false_eq_true, g0, g3, hv.len, hlt', decide_true, hp1, hp2, iE, hq1', hq2, hq3, hv.beq, hp52 _ ha, hp52 _ hb, e', decide_false, and_self, fw64]
      exact ⟨i + 1, by omega, rfl, hlt, by rw [← hs]; simp only [hd, hbe, Int.toNat_natCast], by simp (disch := omega) only [getK_set, Nat.reduceEqDiff, ↓reduceIte, g0, and_self, Int.natCast_add, Int.natCast_one]⟩
    · have e' : ¬ ((pop6 a : Nat) : Int) = ((pop6 b : Nat) : Int) := by omega
      have hf : pureS S = false := by
        unfold pureS
        rw [List.all_eq_false]
        refine ⟨S[i], List.getElem_mem hlt, ?_⟩
        rw [hd, hae, hbe]
        simpa using e
      simp (disch := omega) only [f71_r2, f71_r3, f71_r4, f71_rs, w_skip, w_reg, w_draw, w_seq, w_cond, w_block, w_ret, seqK_n, seqK_r, atK_r, loopK_r, ckB_b, cbB_b, retK_r, x_nil, x_mv, x_as, x_bin, x_call, x_len, kx, kg, xg_nil, xg_mv, xg_ld, xg_bin, xg_iads, xd_cons, fresh_nil, stK_n, stK_s, stay_nil, stay_cons, again_ok, stay_mv, beq_i, stay_iads, stay_ld, rvP_ok, okv_some, ev_t, ev_c, evs_nil, evs_cons, getV_some, putD_some, bin_neq, bin_lss, oGet_s, readRs_nil, readRs_t, retV_1, of0, Option.some.injEq, exists_eq_left', getK_set, Nat.reduceEqDiff, ↓reduceIte, g0, g3, hv.len, hlt', decide_true, hp1, hp2, iE, hq1', hq2, hq3, hv.beq, hp52 _ ha, hp52 _ hb, ne_eq, e', not_false_eq_true, decide_true, hf, and_self]
  · obtain rfl : i = S.length := by omega
    have hlt' : ¬ (S.length : Int) < (S.length : Int) := by omega
    rw [List.take_length] at hal
    have hf : pureS S = true := hal
    simp (disch := omega) only [f71_r2, f71_r6, f71_rs, w_reg, w_seq, w_cond, w_exit, w_ret, seqK_n, seqK_e, atK_e, loopK_e, ckB_b, cbB_b, retK_r, x_nil, x_mv, x_as, x_bin, x_len, kx, rvP_ok, okv_some, ev_t, ev_c, getV_some, putD_some, bin_lss, oGet_s, readRs_nil, readRs_t, retV_1, Option.some.injEq, exists_eq_left', getK_set, Nat.reduceEqDiff, ↓reduceIte, Bool.false_eq_true, g0, g3, hv.len, hlt', decide_false, hf, and_self]
noncomputable def pureL (P : List Int) (l : List Int) : List Int := l.filter fun s => decide (pop6 s.toNat = pop6 (P.getLastD 0).toNat)
theorem pureL_snoc {P l : List Int} {s : Int} : pureL P (l ++ [s]) = if pop6 s.toNat = pop6 (P.getLastD 0).toNat then pureL P l ++ [s] else pureL P l := by
  unfold pureL
  generalize (P.getLastD 0).toNat = z
  rw [List.filter_append]
  by_cases e : pop6 s.toNat = pop6 z <;> simp [e]
theorem pureL_len {P l : List Int} : (pureL P l).length ≤ l.length := List.length_filter_le _ _
def f38_I (h : H) (n : Int) (v : V) (P : List Int) (i : Nat) (fr : Fr) (h1 : H) : Prop := ∃ o, i ≤ P.length ∧ Sl iE h1 o (pureL P (P.take i)) ∧ Own h.nx.nat o ∧ Grow h.nx.nat h h1 ∧ fr.get (K.ofNat 0) = some (.i .i64 n) ∧ fr.get (K.ofNat 6) = some (v) ∧ fr.get (K.ofNat 7) = some (o) ∧ fr.get (K.ofNat 8) = some (.i .i64 (i : Int))
theorem f38_sr {h : H} {v : V} {L : List Int} {n : Int}
    (hp : ∀ a b h P, CallP fs (.fn (K.ofNat 53) []) [.i .i64 a, .i .i64 b] h P = P (.b (ptI a b)) h) (hp52 : ∀ m : Nat, m < 64 → ∀ h P, CallP fs (.fn (K.ofNat 52) []) [.i .i64 (m : Int)] h P = P (.i .i64 (pop6 m : Int)) h)
    (h49 : fs.get (K.ofNat 49) = some f49) (h30 : fs.get (K.ofNat 30) = some f30) (hv : Sr iE h v L) (hc : HC h) (hsets : Sets ((tameP (tameN n) L).take 10)) :
    Ret fs f38 [.i .i64 n, v] h fun r h' => ∃ u, r = .tup [.i .i64 (tameN n), u] ∧ Sl iE h' u (pureL ((tameP (tameN n) L).take 10) ((tameP (tameN n) L).take 10)) ∧ Own h.nx.nat u ∧ Grow h.nx.nat h h' := by
  apply ret_of rfl
  show W fs none f38_c _ _ _
  unfold f38_c
  simp (disch := omega) only [f38_r0, f38_r1, w_reg, w_seq, seqK_n, x_nil, x_mv, x_as, x_call, ev_t, ev_c, evs_nil, evs_cons, getV_some, putD_some, frame_2, of0, getK_set, Nat.reduceEqDiff, ↓reduceIte]
  refine (callP_0 (ef := f30) h30 rfl (f30_sr (n := n) hp h49 hv hc)).mono ?_
  rintro r h1 ⟨u, rfl, hsu, _, gr1⟩
  have hPl : ((tameP (tameN n) L).take 10).length ≤ 10 := by rw [List.length_take]; omega
  generalize (tameP (tameN n) L).take 10 = P at *
  generalize tameN n = N at *
  have hc1 := gr1.hc hc
  simp (disch := omega) only [f38_r2, f38_r3, w_reg, w_seq, w_block, seqK_n, x_nil, x_mv, x_as, x_ext, kx, rvP_ok, okv_some, ev_t, ev_c, getV_some, putD_some, onTup_t, nth0, nth1, of0, getK_set, Nat.reduceEqDiff, ↓reduceIte]
  refine W_loop (f38_I h1 N u P) (fun i => P.length - i) ?_ 0 ⟨.sn, Nat.zero_le _, Sl.nil, Own.sn, Grow.refl _ _, by simp (disch := omega) only [getK_set, Nat.reduceEqDiff, ↓reduceIte, and_self, Int.natCast_zero]⟩
  rintro i fr h2 ⟨o, hi, hso, hoo, hgr, g0, g6, g7, g8⟩
  have hc2 := hgr.hc hc1
  have hs2 := hsu.grow hc1 hgr
  unfold f38_l0
  by_cases hlt : i < P.length
  · have hlt' : (i : Int) < (P.length : Int) := by omega
    obtain ⟨p, hp1, hp2⟩ := hs2.at i hlt
    obtain ⟨q, hq1, hq2, hq3⟩ := hs2.atb (P.length - 1) (by omega)
    obtain ⟨a, ha, hae⟩ := hsets P[i] (List.getElem_mem hlt)
    obtain ⟨b, hb, hbe⟩ := hsets (P[P.length - 1]'(by omega)) (List.getElem_mem _)
    have hd : P.getLastD 0 = P[P.length - 1]'(by omega) := by
      rw [List.getLastD_eq_getLast?, List.getLast?_eq_getElem?, List.getElem?_eq_getElem (by omega)]; rfl
    have hsub : fw .i64 ((P.length : Int) - 1) = ((P.length - 1 : Nat) : Int) := by rw [fw64 (by omega) (by omega)]; omega
    have hs := pureL_snoc (P := P) (l := P.take i) (s := P[i])
    rw [← List.take_succ_eq_append_getElem hlt] at hs
    simp only [hd, hbe, Int.toNat_natCast] at hs
    rw [show (P[i]).toNat = a by rw [hae]; rfl] at hs
    have hq2b := hq2
    rw [hbe] at hq2
    have hp2a := hp2
    rw [hae] at hp2
    have hlen := pureL_len (P := P) (l := P.take i)
    rw [List.length_take] at hlen
    by_cases e : pop6 a = pop6 b
    · have e' : ((pop6 a : Nat) : Int) = ((pop6 b : Nat) : Int) := by omega
      rw [if_pos e] at hs
      obtain ⟨v', h', p1, p2, p3, p4, p5⟩ := Sl.push (e := iE) (L := pureL P (P.take i)) (x := P[i]) (c := .i .i64 (a : Int)) (by rw [hae]; rfl) hso hoo hgr.nx hc2 (by omega)
      simp (disch := omega) only [f38_r4, f38_r5, f38_r6, f38_r7, w_skip, w_reg, w_draw, w_seq, w_cond, w_block, seqK_n, atK_n, loopK_n, ckB_b, cbB_b, true_and, x_nil, x_mv, x_as, x_bslice, x_ld, x_bin, x_iads, x_call, x_len, x_app, kx, kg, xg_nil, xg_mv, xg_ld, xg_bin, xg_iads, xg_len, xd_cons, fresh_nil, stK_n, stK_s, stay_nil, stay_cons, again_ok, stay_mv, stay_len, beq_i, stay_iads, stay_ld, stay_bin, rvP_ok, okv_some, ev_t, ev_c, evs_nil, evs_cons, getV_some, putD_some, bin_add, bin_sub, bin_eql, bin_lss, oGet_s, cells1_i, fill_1, set_1, of0, of1, getK_set, Nat.reduceEqDiff, ↓reduceIte, g6, g7, g8, hs2.len, hlt', decide_true, hp1, hp2, iE, hsub, hq1, hq2, hq3, hs2.beq, hp52 _ ha, hp52 _ hb, e', and_self, p1, fw64]
      exact ⟨i + 1, by omega, v', hlt, by rw [hs]; exact p2, p3, hgr.trans p4, by simp (disch := omega) only [getK_set, Nat.reduceEqDiff, ↓reduceIte, g0, g6, and_self, Int.natCast_add, Int.natCast_one]⟩
    · have e' : ¬ ((pop6 a : Nat) : Int) = ((pop6 b : Nat) : Int) := by omega
      rw [if_neg e] at hs
      simp (disch := omega) only [f38_r4, f38_r5, f38_r7, w_skip, w_reg, w_draw, w_seq, w_cond, w_block, seqK_n, atK_n, loopK_n, ckB_b, cbB_b, true_and, x_nil, x_mv, x_as, x_bin, x_call, x_len, kx, kg, xg_nil, xg_mv, xg_ld, xg_bin, xg_iads, xg_len, xd_cons, fresh_nil, stK_n, stK_s, stay_nil, stay_cons, again_ok, stay_mv, stay_len, beq_i, stay_iads, stay_ld, stay_bin, rvP_ok, okv_some, ev_t, ev_c, evs_nil, evs_cons, getV_some, putD_some, bin_add, bin_sub, bin_eql, bin_lss, of1, getK_set, Nat.reduceEqDiff, ↓reduceIte, Bool.false_eq_true, g6, g8, hs2.len, hlt', decide_true, decide_false, hp1, hp2, iE, hsub, hq1, hq2, hq3, hs2.beq, hp52 _ ha, hp52 _ hb, e', and_self, fw64]
      exact ⟨i + 1, by omega, o, hlt, by rw [hs]; exact hso, hoo, hgr, by simp (disch := omega) only [getK_set, Nat.reduceEqDiff, ↓reduceIte, g0, g6, g7, and_self, Int.natCast_add, Int.natCast_one]⟩
  · obtain rfl : i = P.length := by omega
    have hlt' : ¬ (P.length : Int) < (P.length : Int) := by omega
    rw [List.take_length] at hso
    simp (disch := omega) only [f38_r4, f38_r8, f38_rs, w_reg, w_seq, w_cond, w_exit, w_ret, seqK_n, seqK_e, atK_e, loopK_e, ckB_b, cbB_b, true_and, retK_r, x_nil, x_mv, x_as, x_bin, x_len, kx, rvP_ok, okv_some, ev_t, getV_some, putD_some, bin_lss, oGet_s, readRs_nil, readRs_t, retV_2, Option.some.injEq, exists_eq_left', getK_set, Nat.reduceEqDiff, ↓reduceIte, Bool.false_eq_true, g0, g6, g7, g8, hs2.len, hlt', decide_false]
    exact ⟨o, rfl, hso, hoo.low gr1.nx, gr1.trans (hgr.low gr1.nx)⟩
end
end Go.Ev
namespace Go.Ev
open Go Go.RowKit
noncomputable def f70_r0 : List EOper := [⟨(some (K.ofNat 6)), none, .as (.c (.b false))⟩]
noncomputable def f70_r1 : List EOper := [⟨(some (K.ofNat 12)), none, .mv (.t (K.ofNat 0))⟩, ⟨(some (K.ofNat 13)), none, .mv (.t (K.ofNat 2))⟩, ⟨(some (K.ofNat 14)), none, .iads 1 (.t (K.ofNat 12)) (.t (K.ofNat 13))⟩, ⟨(some (K.ofNat 15)), none, .ld (.t (K.ofNat 14))⟩, ⟨(some (K.ofNat 7)), none, .as (.t (K.ofNat 15))⟩]
noncomputable def f70_r2 : List EOper := [⟨(some (K.ofNat 8)), none, .as (.c (.i .i64 (.ofNat 0)))⟩]
noncomputable def f70_r3 : List EOper := [⟨(some (K.ofNat 16)), none, .mv (.t (K.ofNat 8))⟩, ⟨(some (K.ofNat 17)), none, .mv (.t (K.ofNat 0))⟩, ⟨(some (K.ofNat 18)), none, .len (.t (K.ofNat 17))⟩, ⟨(some (K.ofNat 19)), none, .bin .lss (.t (K.ofNat 16)) (.t (K.ofNat 18))⟩]
noncomputable def f70_r4 : List EOper := [⟨(some (K.ofNat 22)), none, .mv (.t (K.ofNat 1))⟩, ⟨(some (K.ofNat 23)), none, .mv (.t (K.ofNat 8))⟩, ⟨(some (K.ofNat 24)), none, .bin .shr (.t (K.ofNat 22)) (.t (K.ofNat 23))⟩, ⟨(some (K.ofNat 25)), none, .bin .rem (.t (K.ofNat 24)) (.c (.i .i64 (.ofNat 2)))⟩, ⟨(some (K.ofNat 26)), none, .bin .eql (.t (K.ofNat 25)) (.c (.i .i64 (.ofNat 0)))⟩]
noncomputable def f70_r5 : List EOper := [⟨(some (K.ofNat 9)), none, .as (.c (.b false))⟩]
noncomputable def f70_r6 : List EOper := [⟨(some (K.ofNat 10)), none, .as (.c (.i .i64 (.ofNat 0)))⟩]
noncomputable def f70_r7 : List EOper := [⟨(some (K.ofNat 27)), none, .mv (.t (K.ofNat 10))⟩, ⟨(some (K.ofNat 28)), none, .mv (.t (K.ofNat 0))⟩, ⟨(some (K.ofNat 29)), none, .len (.t (K.ofNat 28))⟩, ⟨(some (K.ofNat 30)), none, .bin .lss (.t (K.ofNat 27)) (.t (K.ofNat 29))⟩]
noncomputable def f70_r8 : List EOper := [⟨(some (K.ofNat 33)), none, .mv (.t (K.ofNat 7))⟩, ⟨(some (K.ofNat 34)), none, .mv (.t (K.ofNat 0))⟩, ⟨(some (K.ofNat 35)), none, .mv (.t (K.ofNat 10))⟩, ⟨(some (K.ofNat 36)), none, .iads 1 (.t (K.ofNat 34)) (.t (K.ofNat 35))⟩, ⟨(some (K.ofNat 37)), none, .ld (.t (K.ofNat 36))⟩, ⟨(some (K.ofNat 38)), none, .bin .andNot (.t (K.ofNat 33)) (.t (K.ofNat 37))⟩, ⟨(some (K.ofNat 11)), none, .as (.t (K.ofNat 38))⟩]
noncomputable def f70_r9 : List EOper := [⟨(some (K.ofNat 39)), none, .mv (.t (K.ofNat 9))⟩, ⟨(some (K.ofNat 40)), none, .mv (.t (K.ofNat 39))⟩, ⟨(some (K.ofNat 41)), (some ((K.ofNat 40), false)), .mv (.t (K.ofNat 1))⟩, ⟨(some (K.ofNat 42)), (some ((K.ofNat 40), false)), .mv (.t (K.ofNat 10))⟩, ⟨(some (K.ofNat 43)), (some ((K.ofNat 40), false)), .bin .shr (.t (K.ofNat 41)) (.t (K.ofNat 42))⟩, ⟨(some (K.ofNat 44)), (some ((K.ofNat 40), false)), .bin .rem (.t (K.ofNat 43)) (.c (.i .i64 (.ofNat 2)))⟩, ⟨(some (K.ofNat 45)), (some ((K.ofNat 40), false)), .bin .eql (.t (K.ofNat 44)) (.c (.i .i64 (.ofNat 1)))⟩, ⟨(some (K.ofNat 46)), (some ((K.ofNat 40), false)), .mv (.t (K.ofNat 45))⟩, ⟨(some (K.ofNat 47)), (some ((K.ofNat 46), true)), .mv (.t (K.ofNat 11))⟩, ⟨(some (K.ofNat 48)), (some ((K.ofNat 46), true)), .call (.c (.fn (K.ofNat 52) [])) [(.t (K.ofNat 47))]⟩, ⟨(some (K.ofNat 49)), (some ((K.ofNat 46), true)), .bin .eql (.t (K.ofNat 48)) (.c (.i .i64 (.ofNat 1)))⟩, ⟨(some (K.ofNat 50)), (some ((K.ofNat 40), false)), .pick (.t (K.ofNat 46)) (.t (K.ofNat 49)) (.c (.b false))⟩, ⟨(some (K.ofNat 51)), (some ((K.ofNat 40), false)), .mv (.t (K.ofNat 50))⟩, ⟨(some (K.ofNat 52)), (some ((K.ofNat 51), true)), .mv (.t (K.ofNat 11))⟩, ⟨(some (K.ofNat 53)), (some ((K.ofNat 51), true)), .mv (.t (K.ofNat 0))⟩, ⟨(some (K.ofNat 54)), (some ((K.ofNat 51), true)), .mv (.t (K.ofNat 8))⟩, ⟨(some (K.ofNat 55)), (some ((K.ofNat 51), true)), .iads 1 (.t (K.ofNat 53)) (.t (K.ofNat 54))⟩, ⟨(some (K.ofNat 56)), (some ((K.ofNat 51), true)), .ld (.t (K.ofNat 55))⟩, ⟨(some (K.ofNat 57)), (some ((K.ofNat 51), true)), .bin .and (.t (K.ofNat 52)) (.t (K.ofNat 56))⟩, ⟨(some (K.ofNat 58)), (some ((K.ofNat 51), true)), .bin .eql (.t (K.ofNat 57)) (.c (.i .i64 (.ofNat 0)))⟩, ⟨(some (K.ofNat 59)), (some ((K.ofNat 40), false)), .pick (.t (K.ofNat 51)) (.t (K.ofNat 58)) (.c (.b false))⟩, ⟨(some (K.ofNat 60)), none, .pick (.t (K.ofNat 40)) (.c (.b true)) (.t (K.ofNat 59))⟩, ⟨(some (K.ofNat 9)), none, .as (.t (K.ofNat 60))⟩]
noncomputable def f70_r10 : List EOper := [⟨(some (K.ofNat 31)), none, .mv (.t (K.ofNat 10))⟩, ⟨(some (K.ofNat 32)), none, .bin .add (.t (K.ofNat 31)) (.c (.i .i64 (.ofNat 1)))⟩, ⟨(some (K.ofNat 10)), none, .as (.t (K.ofNat 32))⟩]
noncomputable def f70_l0 : EC := (.seq (.seq (.reg f70_r7) (.cond (.t (K.ofNat 30)) .skip (.exit 2))) (.seq (.block 3 (.seq (.reg f70_r8) (.reg f70_r9))) (.reg f70_r10)))
noncomputable def f70_r11 : List EOper := [⟨(some (K.ofNat 61)), none, .mv (.t (K.ofNat 9))⟩, ⟨(some (K.ofNat 62)), none, .not (.t (K.ofNat 61))⟩]
noncomputable def f70_r12 : List EOper := [⟨(some (K.ofNat 6)), none, .as (.c (.b false))⟩]
noncomputable def f70_r13 : List EOper := [⟨(some (K.ofNat 20)), none, .mv (.t (K.ofNat 8))⟩, ⟨(some (K.ofNat 21)), none, .bin .add (.t (K.ofNat 20)) (.c (.i .i64 (.ofNat 1)))⟩, ⟨(some (K.ofNat 8)), none, .as (.t (K.ofNat 21))⟩]
noncomputable def f70_l1 : EC := (.seq (.seq (.reg f70_r3) (.cond (.t (K.ofNat 19)) .skip (.exit 0))) (.seq (.block 1 (.seq (.seq (.reg f70_r4) (.cond (.t (K.ofNat 26)) (.exit 1) .skip)) (.seq (.reg f70_r5) (.seq (.seq (.reg f70_r6) (.block 2 (.loop f70_l0))) (.seq (.reg f70_r11) (.cond (.t (K.ofNat 62)) (.seq (.reg f70_r12) .ret) .skip)))))) (.reg f70_r13)))
noncomputable def f70_r14 : List EOper := [⟨(some (K.ofNat 6)), none, .as (.c (.b true))⟩]
noncomputable def f70_c : EC := (.seq (.reg f70_r0) (.seq (.reg f70_r1) (.seq (.seq (.reg f70_r2) (.block 0 (.loop f70_l1))) (.seq (.reg f70_r14) .ret))))
noncomputable def f70 : EF := ⟨63, [.tmp (K.ofNat 6)], f70_c, none⟩
theorem f70_rs : f70.rs = [.tmp (K.ofNat 6)] := of_eq_true (eq_self _)
section
variable {fs : T EF} {ro : Option K}
noncomputable def nxC (Q : List Nat) (m x y b : Nat) : Bool := decide (m / 2 ^ b % 2 = 1) && (decide (pop6 (lessC x (Q.getD b 0)) = 1) && decide (lessC x (Q.getD b 0) &&& y = 0))
noncomputable def nxA (Q : List Nat) (m x y j : Nat) : Bool := (List.range j).any (nxC Q m x y)
theorem nxA_succ {Q : List Nat} {m x y j : Nat} : nxA Q m x y (j + 1) = (nxA Q m x y j || nxC Q m x y j) := by
  unfold nxA; rw [List.range_succ, List.any_append]; simp
noncomputable def nxB (Q : List Nat) (m x a : Nat) : Bool := decide (m / 2 ^ a % 2 = 0) || nxA Q m x (Q.getD a 0) Q.length
/-- May the i-th piece come next, after those of m? -/
noncomputable def nextR (Q : List Nat) (m i : Nat) : Bool := (List.range Q.length).all (nxB Q m (Q.getD i 0))
def f70_I0 (h : H) (v : V) (Q : List Nat) (m i x a : Nat) (j : Nat) (fr : Fr) (h1 : H) : Prop := h1 = h ∧ j ≤ Q.length ∧ fr.get (K.ofNat 0) = some (v) ∧ fr.get (K.ofNat 1) = some (.i .i64 (m : Int)) ∧ fr.get (K.ofNat 2) = some (.i .i64 (i : Int)) ∧ fr.get (K.ofNat 7) = some (.i .i64 (x : Int)) ∧ fr.get (K.ofNat 8) = some (.i .i64 (a : Int)) ∧ fr.get (K.ofNat 9) = some (.b (nxA Q m x (Q.getD a 0) j)) ∧ fr.get (K.ofNat 10) = some (.i .i64 (j : Int))
theorem f70_inner {C : Ex → Fr → H → Prop} {h : H} {v : V} {Q : List Nat} {m i x a : Nat} {fr : Fr}
    (hp52 : ∀ m : Nat, m < 64 → ∀ h P, CallP fs (.fn (K.ofNat 52) []) [.i .i64 (m : Int)] h P = P (.i .i64 (pop6 m : Int)) h)
    (hs : Sl nE h v Q) (hQ : ∀ y ∈ Q, y < 64) (hQl : Q.length ≤ 60) (hx : x < 64) (ha : a < Q.length)
    (h0 : f70_I0 h v Q m i x a 0 fr h)
    (hq : ∀ fr, fr.get (K.ofNat 0) = some (v) ∧ fr.get (K.ofNat 1) = some (.i .i64 (m : Int)) ∧ fr.get (K.ofNat 2) = some (.i .i64 (i : Int)) ∧ fr.get (K.ofNat 7) = some (.i .i64 (x : Int)) ∧ fr.get (K.ofNat 8) = some (.i .i64 (a : Int)) ∧ fr.get (K.ofNat 9) = some (.b (nxA Q m x (Q.getD a 0) Q.length)) → C (.exit 2) fr h) :
    W fs ro (.loop f70_l0) C fr h := by
  refine W_loop (f70_I0 h v Q m i x a) (fun j => Q.length - j) ?_ 0 h0
  clear h0 fr
  rintro j fr h1 ⟨rfl, hj, g0, g1, g2, g7, g8, g9, g10⟩
  unfold f70_l0
  by_cases hlt : j < Q.length
  · have hlt' : (j : Int) < (Q.length : Int) := by omega
    obtain ⟨p, hp1, hp2⟩ := hs.at j hlt
    obtain ⟨q, hq1, hq2⟩ := hs.at a ha
    have hyj := hQ _ (List.getElem_mem hlt)
    have hya := hQ _ (List.getElem_mem ha)
    have gj : Q.getD j 0 = Q[j] := by simp [List.getD, hlt]
    have gA : Q.getD a 0 = Q[a] := by simp [List.getD, ha]
    have hsn := nxA_succ (Q := Q) (m := m) (x := x) (y := Q.getD a 0) (j := j)
    unfold nxC at hsn
    rw [gj] at hsn
    have hle := @less_le x Q[j]
    have an1 := andNot_n (show x < 9223372036854775808 by omega) (show Q[j] < 9223372036854775808 by omega)
    have an2 := and_n kmi (show lessC x Q[j] < 9223372036854775808 by omega) (show Q[a] < 9223372036854775808 by omega)
    have hrem : ((m / 2 ^ j : Nat) : Int).tmod 2 = ((m / 2 ^ j % 2 : Nat) : Int) := rfl
    have fin : ∀ fr b, nxA Q m x (Q.getD a 0) (j + 1) = b → fr.get (K.ofNat 0) = some (v) ∧ fr.get (K.ofNat 1) = some (.i .i64 (m : Int)) ∧ fr.get (K.ofNat 2) = some (.i .i64 (i : Int)) ∧ fr.get (K.ofNat 7) = some (.i .i64 (x : Int)) ∧ fr.get (K.ofNat 8) = some (.i .i64 (a : Int)) ∧ fr.get (K.ofNat 9) = some (.b b) ∧ fr.get (K.ofNat 10) = some (.i .i64 (j : Int)) →
        X fs f70_r10 (loopK (f70_I0 h1 v Q m i x a) (fun j => Q.length - j) j C .normal) fr h1 := by
      clear g0 g1 g2 g7 g8 g9 g10 fr
      rintro fr b rfl ⟨g0, g1, g2, g7, g8, g9, g10⟩
      simp (disch := omega) only [f70_r10, loopK_n, x_nil, x_mv, x_as, x_bin, kx, rvP_ok, okv_some, ev_t, ev_c, getV_some, putD_some, bin_add, of1, getK_set, ↓reduceIte, g10, fw64]
      exact ⟨j + 1, by omega, rfl, hlt, by simp (disch := omega) only [getK_set, Nat.reduceEqDiff, ↓reduceIte, g0, g1, g2, g7, g8, g9, and_self, Int.natCast_add, Int.natCast_one]⟩
    rw [gA] at g9 hsn fin
    cases e0 : nxA Q m x Q[a] j
    · rw [e0] at g9 hsn
      rw [Bool.false_or] at hsn
      by_cases e1 : m / 2 ^ j % 2 = 1
      · have e1' : ((m / 2 ^ j % 2 : Nat) : Int) = 1 := by omega
        rw [decide_eq_true e1, Bool.true_and] at hsn
        by_cases e2 : pop6 (lessC x Q[j]) = 1
        · have e2' : ((pop6 (lessC x Q[j]) : Nat) : Int) = 1 := by omega
          rw [decide_eq_true e2, Bool.true_and] at hsn
          by_cases e3 : lessC x Q[j] &&& Q[a] = 0
          · have e3' : ((lessC x Q[j] &&& Q[a] : Nat) : Int) = 0 := by omega
            rw [decide_eq_true e3] at hsn
            simp (disch := omega) only [f70_r7, f70_r8, f70_r9, w_skip, w_reg, w_seq, w_cond, w_block, seqK_n, atK_n, ckB_b, cbB_b, okG_b, asG_t, asG_f, true_and, x_nil, x_g, x_mv, x_as, x_pick, x_ld, x_bin, x_iads, x_call, x_len, kx, rvP_ok, okv_some, ev_t, ev_c, evs_nil, evs_cons, getV_some, putD_some, bin_eql, bin_lss, bin_rem, pick_b, of0, of1, of2, getK_set, Nat.reduceEqDiff, ↓reduceIte, Bool.false_eq_true, Bool.not_false, g0, g1, g7, g8, g9, g10, hs.len, hlt', decide_true, hp1, hp2, hq1, hq2, nE, an1, an2, shr_i (show j ≤ 62 by omega), hrem, e1', hp52 _ (show lessC x Q[j] < 64 by omega), e2', e3']
            exact fin _ _ hsn (by simp (disch := omega) only [getK_set, Nat.reduceEqDiff, ↓reduceIte, g0, g1, g2, g7, g8, g10, and_self])
          · have e3' : ¬ ((lessC x Q[j] &&& Q[a] : Nat) : Int) = 0 := by omega
            rw [decide_eq_false e3] at hsn
            simp (disch := omega) only [f70_r7, f70_r8, f70_r9, w_skip, w_reg, w_seq, w_cond, w_block, seqK_n, atK_n, ckB_b, cbB_b, okG_b, asG_t, asG_f, true_and, x_nil, x_g, x_mv, x_as, x_pick, x_ld, x_bin, x_iads, x_call, x_len, kx, rvP_ok, okv_some, ev_t, ev_c, evs_nil, evs_cons, getV_some, putD_some, bin_eql, bin_lss, bin_rem, pick_b, of0, of1, of2, getK_set, Nat.reduceEqDiff, ↓reduceIte, Bool.false_eq_true, Bool.not_false, g0, g1, g7, g8, g9, g10, hs.len, hlt', decide_true, decide_false, hp1, hp2, hq1, hq2, nE, an1, an2, shr_i (show j ≤ 62 by omega), hrem, e1', hp52 _ (show lessC x Q[j] < 64 by omega), e2', e3']
            exact fin _ _ hsn (by simp (disch := omega) only [getK_set, Nat.reduceEqDiff, ↓reduceIte, g0, g1, g2, g7, g8, g10, and_self])
        · have e2' : ¬ ((pop6 (lessC x Q[j]) : Nat) : Int) = 1 := by omega
          rw [decide_eq_false e2, Bool.false_and] at hsn
          simp (disch := omega) only [f70_r7, f70_r8, f70_r9, w_skip, w_reg, w_seq, w_cond, w_block, seqK_n, atK_n, ckB_b, cbB_b, okG_b, asG_t, asG_f, true_and, x_nil, x_g, x_mv, x_as, x_pick, x_ld, x_bin, x_iads, x_call, x_len, kx, rvP_ok, okv_some, ev_t, ev_c, evs_nil, evs_cons, getV_some, putD_some, bin_eql, bin_lss, bin_rem, pick_b, of0, of1, of2, getK_set, Nat.reduceEqDiff, ↓reduceIte, Bool.false_eq_true, Bool.not_false, g0, g1, g7, g9, g10, hs.len, hlt', decide_true, decide_false, hp1, hp2, nE, an1, shr_i (show j ≤ 62 by omega), hrem, e1', hp52 _ (show lessC x Q[j] < 64 by omega), e2']
          exact fin _ _ hsn (by simp (disch := omega) only [getK_set, Nat.reduceEqDiff, ↓reduceIte, g0, g1, g2, g7, g8, g10, and_self])
      · have e1' : ¬ ((m / 2 ^ j % 2 : Nat) : Int) = 1 := by omega
        rw [decide_eq_false e1, Bool.false_and] at hsn
        simp (disch := omega) only [f70_r7, f70_r8, f70_r9, w_skip, w_reg, w_seq, w_cond, w_block, seqK_n, atK_n, ckB_b, cbB_b, okG_b, asG_t, asG_f, true_and, x_nil, x_g, x_mv, x_as, x_pick, x_ld, x_bin, x_iads, x_len, kx, rvP_ok, okv_some, ev_t, ev_c, getV_some, putD_some, bin_eql, bin_lss, bin_rem, pick_b, of0, of1, of2, getK_set, Nat.reduceEqDiff, ↓reduceIte, Bool.false_eq_true, Bool.not_false, g0, g1, g7, g9, g10, hs.len, hlt', decide_true, decide_false, hp1, hp2, nE, an1, shr_i (show j ≤ 62 by omega), hrem, e1']
        exact fin _ _ hsn (by simp (disch := omega) only [getK_set, Nat.reduceEqDiff, ↓reduceIte, g0, g1, g2, g7, g8, g10, and_self])
    · rw [e0] at g9 hsn
      rw [Bool.true_or] at hsn
      simp (disch := omega) only [f70_r7, f70_r8, f70_r9, w_skip, w_reg, w_seq, w_cond, w_block, seqK_n, atK_n, ckB_b, cbB_b, okG_b, okG_u, asG_f, asG_u, true_and, x_nil, x_g, x_mv, x_as, x_pick, x_ld, x_bin, x_iads, x_len, kx, rvP_ok, okv_some, ev_t, ev_c, getV_some, putD_some, bin_lss, pick_b, of0, of1, of2, getK_set, Nat.reduceEqDiff, ↓reduceIte, Bool.false_eq_true, Bool.not_true, g0, g7, g9, g10, hs.len, hlt', decide_true, hp1, hp2, nE, an1]
      exact fin _ _ hsn (by simp (disch := omega) only [getK_set, Nat.reduceEqDiff, ↓reduceIte, g0, g1, g2, g7, g8, g10, and_self])
  · obtain rfl : j = Q.length := by omega
    have hlt' : ¬ (Q.length : Int) < (Q.length : Int) := by omega
    simp (disch := omega) only [f70_r7, w_reg, w_seq, w_cond, w_exit, seqK_n, seqK_e, loopK_e, ckB_b, cbB_b, true_and, x_nil, x_mv, x_bin, x_len, kx, rvP_ok, okv_some, ev_t, getV_some, putD_some, bin_lss, getK_set, Nat.reduceEqDiff, ↓reduceIte, Bool.false_eq_true, g0, g10, hs.len, hlt', decide_false]
    exact hq _ (by simp (disch := omega) only [getK_set, Nat.reduceEqDiff, ↓reduceIte, g0, g1, g2, g7, g8, g9, and_self])
def f70_I1 (h : H) (v : V) (Q : List Nat) (m i : Nat) (a : Nat) (fr : Fr) (h1 : H) : Prop := h1 = h ∧ a ≤ Q.length ∧ (List.range a).all (nxB Q m (Q.getD i 0)) = true ∧ fr.get (K.ofNat 0) = some (v) ∧ fr.get (K.ofNat 1) = some (.i .i64 (m : Int)) ∧ fr.get (K.ofNat 2) = some (.i .i64 (i : Int)) ∧ fr.get (K.ofNat 7) = some (.i .i64 (Q.getD i 0 : Int)) ∧ fr.get (K.ofNat 8) = some (.i .i64 (a : Int))
theorem f70_ret {h : H} {v : V} {Q : List Nat} {m i : Nat}
    (hp52 : ∀ m : Nat, m < 64 → ∀ h P, CallP fs (.fn (K.ofNat 52) []) [.i .i64 (m : Int)] h P = P (.i .i64 (pop6 m : Int)) h)
    (hs : Sl nE h v Q) (hQ : ∀ y ∈ Q, y < 64) (hQl : Q.length ≤ 60) (hi : i < Q.length) :
    Ret fs f70 [v, .i .i64 (m : Int), .i .i64 (i : Int)] h fun u h' => u = .b (nextR Q m i) ∧ h' = h := by
  apply ret_of rfl
  show W fs none f70_c _ _ _
  unfold f70_c
  obtain ⟨p, hp1, hp2⟩ := hs.at i hi
  have hx := hQ _ (List.getElem_mem hi)
  have gi : Q.getD i 0 = Q[i] := by simp [List.getD, hi]
  simp (disch := omega) only [f70_r0, f70_r1, f70_r2, w_reg, w_seq, w_block, seqK_n, x_nil, x_mv, x_as, x_ld, x_iads, kx, rvP_ok, ev_t, ev_c, getV_some, putD_some, frame_3, of0, getK_set, Nat.reduceEqDiff, ↓reduceIte, hp1, hp2, nE]
  refine W_loop (f70_I1 h v Q m i) (fun a => Q.length - a) ?_ 0 ⟨rfl, Nat.zero_le _, by simp, by simp (disch := omega) only [getK_set, Nat.reduceEqDiff, ↓reduceIte, gi, and_self, Int.natCast_zero]⟩
  rintro a fr h1 ⟨rfl, ha, hal, g0, g1, g2, g7, g8⟩
  unfold f70_l1
  by_cases hlt : a < Q.length
  · have hlt' : (a : Int) < (Q.length : Int) := by omega
    have hs2 : (List.range (a + 1)).all (nxB Q m (Q.getD i 0)) = nxB Q m (Q.getD i 0) a := by
      rw [List.range_succ, List.all_append, hal, Bool.true_and]; simp
    unfold nxB at hs2
    have hrem : ((m / 2 ^ a : Nat) : Int).tmod 2 = ((m / 2 ^ a % 2 : Nat) : Int) := rfl
    by_cases e : m / 2 ^ a % 2 = 0
    · have e' : ((m / 2 ^ a % 2 : Nat) : Int) = 0 := by omega
      rw [decide_eq_true e, Bool.true_or] at hs2
      simp (disch := omega) only [f70_r3, f70_r4, f70_r13, w_skip, w_reg, w_seq, w_cond, w_block, w_exit, seqK_n, seqK_e, atK_e, loopK_n, ckB_b, cbB_b, true_and, x_nil, x_mv, x_as, x_bin, x_len, kx, rvP_ok, okv_some, ev_t, ev_c, getV_some, putD_some, bin_add, bin_eql, bin_lss, bin_rem, of0, of1, of2, getK_set, Nat.reduceEqDiff, ↓reduceIte, g0, g1, g8, hs.len, hlt', decide_true, shr_i (show a ≤ 62 by omega), hrem, e', fw64]
      exact ⟨a + 1, by omega, rfl, hlt, hs2, by simp (disch := omega) only [getK_set, Nat.reduceEqDiff, ↓reduceIte, g0, g1, g2, g7, and_self, Int.natCast_add, Int.natCast_one]⟩
    · have e' : ¬ ((m / 2 ^ a % 2 : Nat) : Int) = 0 := by omega
      rw [decide_eq_false e, Bool.false_or] at hs2
      simp (disch := omega) only [f70_r3, f70_r4, f70_r5, f70_r6, w_skip, w_reg, w_seq, w_cond, w_block, seqK_n, ckB_b, cbB_b, true_and, x_nil, x_mv, x_as, x_bin, x_len, kx, rvP_ok, okv_some, ev_t, ev_c, getV_some, putD_some, bin_eql, bin_lss, bin_rem, of0, of2, getK_set, Nat.reduceEqDiff, ↓reduceIte, Bool.false_eq_true, g0, g1, g8, hs.len, hlt', decide_true, decide_false, shr_i (show a ≤ 62 by omega), hrem, e']
      refine f70_inner (h := h1) (v := v) (Q := Q) (m := m) (i := i) (x := Q.getD i 0) (a := a) hp52 hs hQ hQl (by rw [gi]; exact hx) hlt ⟨rfl, Nat.zero_le _, by simp (disch := omega) only [true_and, Option.some.injEq, getK_set, Nat.reduceEqDiff, ↓reduceIte, g0, g1, g2, g7, g8, Int.natCast_zero]; exact ⟨rfl, trivial⟩⟩ ?_
      rintro fr ⟨g0, g1, g2, g7, g8, g9⟩
      cases e2 : nxA Q m (Q.getD i 0) (Q.getD a 0) Q.length
      · rw [e2] at g9 hs2
        have hf : nextR Q m i = false := by
          unfold nextR
          rw [List.all_eq_false]
          refine ⟨a, by simpa using hlt, ?_⟩
          unfold nxB
          rw [decide_eq_false e, e2]; simp
        simp (disch := omega) only [f70_r11, f70_r12, f70_rs, w_reg, w_seq, w_cond, w_ret, seqK_n, seqK_r, atK_r, atK_e, loopK_r, ckB_b, cbB_b, retK_r, x_nil, x_mv, x_as, x_not, kx, rvP_ok, ev_t, ev_c, getV_some, putD_some, onB_b, oGet_s, readRs_nil, readRs_t, retV_1, Option.some.injEq, exists_eq_left', getK_set, ↓reduceIte, Bool.not_false, g9, hf, and_self]
      · rw [e2] at g9 hs2
        simp (disch := omega) only [f70_r11, f70_r13, w_skip, w_reg, w_seq, w_cond, seqK_n, atK_n, atK_e, loopK_n, ckB_b, cbB_b, true_and, x_nil, x_mv, x_as, x_bin, x_not, kx, rvP_ok, okv_some, ev_t, ev_c, getV_some, putD_some, bin_add, onB_b, of1, getK_set, Nat.reduceEqDiff, ↓reduceIte, Bool.false_eq_true, Bool.not_true, g8, g9, fw64]
        exact ⟨a + 1, by omega, rfl, hlt, hs2, by simp (disch := omega) only [getK_set, Nat.reduceEqDiff, ↓reduceIte, g0, g1, g2, g7, and_self, Int.natCast_add, Int.natCast_one]⟩
  · obtain rfl : a = Q.length := by omega
    have hlt' : ¬ (Q.length : Int) < (Q.length : Int) := by omega
    have hf : nextR Q m i = true := hal
    simp (disch := omega) only [f70_r3, f70_r14, f70_rs, w_reg, w_seq, w_cond, w_exit, w_ret, seqK_n, seqK_e, atK_e, loopK_e, ckB_b, cbB_b, retK_r, x_nil, x_mv, x_as, x_bin, x_len, kx, rvP_ok, okv_some, ev_t, ev_c, getV_some, putD_some, bin_lss, oGet_s, readRs_nil, readRs_t, retV_1, Option.some.injEq, exists_eq_left', getK_set, Nat.reduceEqDiff, ↓reduceIte, Bool.false_eq_true, g0, g8, hs.len, hlt', decide_false, hf, and_self]
end
end Go.Ev
namespace Go.Ev
open Go Go.RowKit
noncomputable def f37_r0 : List EOper := [⟨(some (K.ofNat 4)), none, .as (.c (.b false))⟩]
noncomputable def f37_r1 : List EOper := [⟨(some (K.ofNat 5)), none, .as (.c (.i .i64 (.ofNat 0)))⟩]
noncomputable def f37_r2 : List EOper := [⟨(some (K.ofNat 6)), none, .as (.c (.i .i64 (.ofNat 0)))⟩]
noncomputable def f37_r3 : List EOper := [⟨(some (K.ofNat 8)), none, .mv (.t (K.ofNat 6))⟩, ⟨(some (K.ofNat 9)), none, .mv (.t (K.ofNat 1))⟩, ⟨(some (K.ofNat 10)), none, .len (.t (K.ofNat 9))⟩, ⟨(some (K.ofNat 11)), none, .bin .lss (.t (K.ofNat 8)) (.t (K.ofNat 10))⟩]
noncomputable def f37_r4 : List EOper := [⟨(some (K.ofNat 14)), none, .mv (.t (K.ofNat 1))⟩, ⟨(some (K.ofNat 15)), none, .mv (.t (K.ofNat 6))⟩, ⟨(some (K.ofNat 16)), none, .iads 1 (.t (K.ofNat 14)) (.t (K.ofNat 15))⟩, ⟨(some (K.ofNat 17)), none, .ld (.t (K.ofNat 16))⟩, ⟨(some (K.ofNat 7)), none, .as (.t (K.ofNat 17))⟩]
noncomputable def f37_r5 : List EOper := [⟨(some (K.ofNat 18)), none, .mv (.t (K.ofNat 7))⟩, ⟨(some (K.ofNat 19)), none, .bin .lss (.t (K.ofNat 18)) (.c (.i .i64 (.ofNat 0)))⟩, ⟨(some (K.ofNat 20)), none, .mv (.t (K.ofNat 19))⟩, ⟨(some (K.ofNat 21)), (some ((K.ofNat 20), false)), .mv (.t (K.ofNat 7))⟩, ⟨(some (K.ofNat 22)), (some ((K.ofNat 20), false)), .mv (.t (K.ofNat 0))⟩, ⟨(some (K.ofNat 23)), (some ((K.ofNat 20), false)), .len (.t (K.ofNat 22))⟩, ⟨(some (K.ofNat 24)), (some ((K.ofNat 20), false)), .bin .geq (.t (K.ofNat 21)) (.t (K.ofNat 23))⟩, ⟨(some (K.ofNat 25)), none, .pick (.t (K.ofNat 20)) (.c (.b true)) (.t (K.ofNat 24))⟩, ⟨(some (K.ofNat 26)), none, .mv (.t (K.ofNat 25))⟩, ⟨(some (K.ofNat 27)), (some ((K.ofNat 26), false)), .mv (.t (K.ofNat 5))⟩, ⟨(some (K.ofNat 28)), (some ((K.ofNat 26), false)), .mv (.t (K.ofNat 7))⟩, ⟨(some (K.ofNat 29)), (some ((K.ofNat 26), false)), .bin .shr (.t (K.ofNat 27)) (.t (K.ofNat 28))⟩, ⟨(some (K.ofNat 30)), (some ((K.ofNat 26), false)), .bin .rem (.t (K.ofNat 29)) (.c (.i .i64 (.ofNat 2)))⟩, ⟨(some (K.ofNat 31)), (some ((K.ofNat 26), false)), .bin .eql (.t (K.ofNat 30)) (.c (.i .i64 (.ofNat 1)))⟩, ⟨(some (K.ofNat 32)), none, .pick (.t (K.ofNat 26)) (.c (.b true)) (.t (K.ofNat 31))⟩, ⟨(some (K.ofNat 33)), none, .mv (.t (K.ofNat 32))⟩, ⟨(some (K.ofNat 34)), (some ((K.ofNat 33), false)), .mv (.t (K.ofNat 0))⟩, ⟨(some (K.ofNat 35)), (some ((K.ofNat 33), false)), .mv (.t (K.ofNat 5))⟩, ⟨(some (K.ofNat 36)), (some ((K.ofNat 33), false)), .mv (.t (K.ofNat 7))⟩, ⟨(some (K.ofNat 37)), (some ((K.ofNat 33), false)), .call (.c (.fn (K.ofNat 70) [])) [(.t (K.ofNat 34)), (.t (K.ofNat 35)), (.t (K.ofNat 36))]⟩, ⟨(some (K.ofNat 38)), (some ((K.ofNat 33), false)), .not (.t (K.ofNat 37))⟩, ⟨(some (K.ofNat 39)), none, .pick (.t (K.ofNat 33)) (.c (.b true)) (.t (K.ofNat 38))⟩]
noncomputable def f37_r6 : List EOper := [⟨(some (K.ofNat 4)), none, .as (.c (.b false))⟩]
noncomputable def f37_r7 : List EOper := [⟨(some (K.ofNat 40)), none, .mv (.t (K.ofNat 5))⟩, ⟨(some (K.ofNat 41)), none, .mv (.t (K.ofNat 7))⟩, ⟨(some (K.ofNat 42)), none, .bin .shl (.c (.i .i64 (.ofNat 1))) (.t (K.ofNat 41))⟩, ⟨(some (K.ofNat 43)), none, .bin .or (.t (K.ofNat 40)) (.t (K.ofNat 42))⟩, ⟨(some (K.ofNat 5)), none, .as (.t (K.ofNat 43))⟩]
noncomputable def f37_r8 : List EOper := [⟨(some (K.ofNat 12)), none, .mv (.t (K.ofNat 6))⟩, ⟨(some (K.ofNat 13)), none, .bin .add (.t (K.ofNat 12)) (.c (.i .i64 (.ofNat 1)))⟩, ⟨(some (K.ofNat 6)), none, .as (.t (K.ofNat 13))⟩]
noncomputable def f37_l0 : EC := (.seq (.seq (.reg f37_r3) (.cond (.t (K.ofNat 11)) .skip (.exit 0))) (.seq (.block 1 (.seq (.reg f37_r4) (.seq (.seq (.reg f37_r5) (.cond (.t (K.ofNat 39)) (.seq (.reg f37_r6) .ret) .skip)) (.reg f37_r7)))) (.reg f37_r8)))
noncomputable def f37_r9 : List EOper := [⟨(some (K.ofNat 44)), none, .mv (.t (K.ofNat 1))⟩, ⟨(some (K.ofNat 45)), none, .len (.t (K.ofNat 44))⟩, ⟨(some (K.ofNat 46)), none, .mv (.t (K.ofNat 0))⟩, ⟨(some (K.ofNat 47)), none, .len (.t (K.ofNat 46))⟩, ⟨(some (K.ofNat 48)), none, .bin .eql (.t (K.ofNat 45)) (.t (K.ofNat 47))⟩, ⟨(some (K.ofNat 49)), none, .mv (.t (K.ofNat 48))⟩, ⟨(some (K.ofNat 50)), (some ((K.ofNat 49), true)), .mv (.t (K.ofNat 0))⟩, ⟨(some (K.ofNat 51)), (some ((K.ofNat 49), true)), .call (.c (.fn (K.ofNat 71) [])) [(.t (K.ofNat 50))]⟩, ⟨(some (K.ofNat 52)), none, .pick (.t (K.ofNat 49)) (.t (K.ofNat 51)) (.c (.b false))⟩, ⟨(some (K.ofNat 4)), none, .as (.t (K.ofNat 52))⟩]
noncomputable def f37_c : EC := (.seq (.reg f37_r0) (.seq (.reg f37_r1) (.seq (.seq (.reg f37_r2) (.block 0 (.loop f37_l0))) (.seq (.reg f37_r9) .ret))))
noncomputable def f37 : EF := ⟨53, [.tmp (K.ofNat 4)], f37_c, none⟩
theorem f37_rs : f37.rs = [.tmp (K.ofNat 4)] := of_eq_true (eq_self _)
section
variable {fs : T EF} {ro : Option K}
noncomputable def shT (Q : List Nat) : List Int → Nat → Bool
  | [], _ => true
  | o :: t, m => !decide (o < 0) && (!decide ((Q.length : Int) ≤ o) && (!decide (m / 2 ^ o.toNat % 2 = 1) && (nextR Q m o.toNat && shT Q t (m ||| 2 ^ o.toNat))))
def castL (Q : List Nat) : List Int := Q.map fun (k : Nat) => (k : Int)
noncomputable def shellR (Q : List Nat) (O : List Int) : Bool := shT Q O 0 && (decide (O.length = Q.length) && pureS (castL Q))
def f37_I (h : H) (v w : V) (Q : List Nat) (O : List Int) (R : Bool) (i : Nat) (fr : Fr) (h1 : H) : Prop := ∃ m : Nat, h1 = h ∧ i ≤ O.length ∧ m < 2 ^ 60 ∧ shT Q (O.drop i) m = R ∧ fr.get (K.ofNat 0) = some (v) ∧ fr.get (K.ofNat 1) = some (w) ∧ fr.get (K.ofNat 5) = some (.i .i64 (m : Int)) ∧ fr.get (K.ofNat 6) = some (.i .i64 (i : Int))
theorem f37_ret {h : H} {v w : V} {Q : List Nat} {O : List Int}
    (hp52 : ∀ m : Nat, m < 64 → ∀ h P, CallP fs (.fn (K.ofNat 52) []) [.i .i64 (m : Int)] h P = P (.i .i64 (pop6 m : Int)) h) (h70 : fs.get (K.ofNat 70) = some f70) (h71 : fs.get (K.ofNat 71) = some f71)
    (hv : Sl iE h v (castL Q)) (hw : Sl iE h w O) (hQ : ∀ y ∈ Q, y < 64) (hQl : Q.length ≤ 60) (hO : O.length ≤ 1000000) :
    Ret fs f37 [v, w] h fun u h' => u = .b (shellR Q O) ∧ h' = h := by
  apply ret_of rfl
  show W fs none f37_c _ _ _
  unfold f37_c
  have hs : Sl nE h v Q := hv.unmap
  simp (disch := omega) only [f37_r0, f37_r1, f37_r2, w_reg, w_seq, w_block, seqK_n, x_nil, x_as, ev_c, putD_some, frame_2, of0]
  refine W_loop (f37_I h v w Q O (shT Q O 0)) (fun i => O.length - i) ?_ 0 ⟨0, rfl, Nat.zero_le _, by decide, rfl, by simp (disch := omega) only [getK_set, Nat.reduceEqDiff, ↓reduceIte, and_self, Int.natCast_zero]⟩
  rintro i fr h1 ⟨m, rfl, hi, hm, hR, g0, g1, g5, g6⟩
  have hm' : m < 1152921504606846976 := hm
  unfold f37_l0
  by_cases hlt : i < O.length
  · have hlt' : (i : Int) < (O.length : Int) := by omega
    obtain ⟨p, hp1, hp2⟩ := hw.at i hlt
    rw [List.drop_eq_getElem_cons hlt, shT] at hR
    have bad : shT Q O 0 = false → shellR Q O = false := fun e => by unfold shellR; rw [e, Bool.false_and]
    by_cases b1 : O[i] < 0
    · rw [decide_eq_true b1, Bool.not_true, Bool.false_and] at hR
      simp (disch := omega) only [f37_r3, f37_r4, f37_r5, f37_r6, f37_rs, w_skip, w_reg, w_seq, w_cond, w_block, w_ret, seqK_n, seqK_r, atK_r, loopK_r, ckB_b, cbB_b, okG_b, asG_f, retK_r, x_nil, x_g, x_mv, x_as, x_pick, x_ld, x_bin, x_iads, x_len, kx, rvP_ok, okv_some, ev_t, ev_c, getV_some, putD_some, bin_lss, pick_b, oGet_s, readRs_nil, readRs_t, retV_1, of0, of1, of2, Option.some.injEq, exists_eq_left', getK_set, Nat.reduceEqDiff, ↓reduceIte, Bool.false_eq_true, Bool.not_true, g1, g6, hw.len, hlt', decide_true, hp1, hp2, iE, b1, bad hR.symm, and_self]
    · rw [decide_eq_false b1, Bool.not_false, Bool.true_and] at hR
      by_cases b2 : (Q.length : Int) ≤ O[i]
      · rw [decide_eq_true b2, Bool.not_true, Bool.false_and] at hR
        simp (disch := omega) only [f37_r3, f37_r4, f37_r5, f37_r6, f37_rs, w_skip, w_reg, w_seq, w_cond, w_block, w_ret, seqK_n, seqK_r, atK_r, loopK_r, ckB_b, cbB_b, okG_b, asG_f, retK_r, x_nil, x_g, x_mv, x_as, x_pick, x_ld, x_bin, x_iads, x_len, kx, rvP_ok, okv_some, ev_t, ev_c, getV_some, putD_some, bin_lss, bin_geq, pick_b, oGet_s, readRs_nil, readRs_t, retV_1, of0, of1, of2, Option.some.injEq, exists_eq_left', getK_set, Nat.reduceEqDiff, ↓reduceIte, Bool.false_eq_true, Bool.not_true, Bool.not_false, g0, g1, g6, hw.len, hs.len, hlt', decide_true, decide_false, hp1, hp2, iE, b1, b2, bad hR.symm, and_self]
      · rw [decide_eq_false b2, Bool.not_false, Bool.true_and] at hR
        obtain ⟨k, hk⟩ := Int.eq_ofNat_of_zero_le (show 0 ≤ O[i] by omega)
        rw [hk] at hR hp2 b1 b2
        have hkl : k < Q.length := by omega
        simp only [Int.toNat_natCast] at hR
        have hrem : ((m / 2 ^ k : Nat) : Int).tmod 2 = ((m / 2 ^ k % 2 : Nat) : Int) := rfl
        by_cases b3 : m / 2 ^ k % 2 = 1
        · have b3' : ((m / 2 ^ k % 2 : Nat) : Int) = 1 := by omega
          rw [decide_eq_true b3, Bool.not_true, Bool.false_and] at hR
          simp (disch := omega) only [f37_r3, f37_r4, f37_r5, f37_r6, f37_rs, w_skip, w_reg, w_seq, w_cond, w_block, w_ret, seqK_n, seqK_r, atK_r, loopK_r, ckB_b, cbB_b, okG_b, asG_f, retK_r, x_nil, x_g, x_mv, x_as, x_pick, x_ld, x_bin, x_iads, x_len, kx, rvP_ok, okv_some, ev_t, ev_c, getV_some, putD_some, bin_eql, bin_lss, bin_geq, bin_rem, pick_b, oGet_s, readRs_nil, readRs_t, retV_1, of0, of1, of2, Option.some.injEq, exists_eq_left', getK_set, Nat.reduceEqDiff, ↓reduceIte, Bool.false_eq_true, Bool.not_true, Bool.not_false, g0, g1, g5, g6, hw.len, hs.len, hlt', decide_true, decide_false, hp1, hp2, iE, b1, b2, shr_i (show k ≤ 62 by omega), hrem, b3', bad hR.symm, and_self]
        · have b3' : ¬ ((m / 2 ^ k % 2 : Nat) : Int) = 1 := by omega
          rw [decide_eq_false b3, Bool.not_false, Bool.true_and] at hR
          simp (disch := omega) only [f37_r3, f37_r4, f37_r5, w_skip, w_reg, w_seq, w_cond, w_block, seqK_n, ckB_b, cbB_b, okG_b, asG_f, true_and, x_nil, x_g, x_mv, x_as, x_pick, x_ld, x_bin, x_iads, x_call, x_len, kx, rvP_ok, okv_some, ev_t, ev_c, evs_nil, evs_cons, getV_some, putD_some, bin_eql, bin_lss, bin_geq, bin_rem, pick_b, of0, of1, of2, getK_set, Nat.reduceEqDiff, ↓reduceIte, Bool.false_eq_true, Bool.not_false, g0, g1, g5, g6, hw.len, hs.len, hlt', decide_true, decide_false, hp1, hp2, iE, b1, b2, shr_i (show k ≤ 62 by omega), hrem, b3']
          refine (callP_0 (ef := f70) h70 rfl (f70_ret (m := m) hp52 hs hQ hQl hkl)).mono ?_
          rintro u h2 ⟨rfl, rfl⟩
          cases b4 : nextR Q m k
          · rw [b4, Bool.false_and] at hR
            simp (disch := omega) only [f37_r6, f37_rs, w_reg, w_seq, w_cond, w_ret, seqK_n, seqK_r, atK_r, loopK_r, ckB_b, cbB_b, okG_b, asG_f, retK_r, x_nil, x_g, x_as, x_pick, x_not, kx, rvP_ok, ev_t, ev_c, getV_some, putD_some, pick_b, onB_b, oGet_s, readRs_nil, readRs_t, retV_1, Option.some.injEq, exists_eq_left', getK_set, Nat.reduceEqDiff, ↓reduceIte, Bool.false_eq_true, Bool.not_false, bad hR.symm, and_self]
          · rw [b4, Bool.true_and] at hR
            have h2k : 2 ^ k < 2 ^ 60 := Nat.pow_lt_pow_right (by omega) (by omega)
            have h2k' : 2 ^ k < 1152921504606846976 := h2k
            have hor := Nat.or_lt_two_pow hm h2k
            simp (disch := omega) only [f37_r7, f37_r8, w_skip, w_reg, w_cond, seqK_n, atK_n, loopK_n, ckB_b, cbB_b, okG_b, asG_f, true_and, x_nil, x_g, x_mv, x_as, x_pick, x_bin, x_not, kx, rvP_ok, okv_some, ev_t, ev_c, getV_some, putD_some, bin_add, pick_b, onB_b, of1, getK_set, Nat.reduceEqDiff, ↓reduceIte, Bool.false_eq_true, Bool.not_true, Bool.not_false, g5, g6, shl_i (show k ≤ 62 by omega), or_n (show m < 9223372036854775808 by omega) (show 2 ^ k < 9223372036854775808 by omega), fw64]
            exact ⟨i + 1, by omega, m ||| 2 ^ k, rfl, hlt, hor, hR, by simp (disch := omega) only [getK_set, Nat.reduceEqDiff, ↓reduceIte, g0, g1, and_self, Int.natCast_add, Int.natCast_one]⟩
  · obtain rfl : i = O.length := by omega
    have hlt' : ¬ (O.length : Int) < (O.length : Int) := by omega
    rw [List.drop_length, shT] at hR
    by_cases e : O.length = Q.length
    · have e' : (O.length : Int) = (Q.length : Int) := by omega
      have hf : shellR Q O = pureS (castL Q) := by unfold shellR; rw [← hR, decide_eq_true e]; simp
      simp (disch := omega) only [f37_r3, f37_r9, w_reg, w_seq, w_cond, w_exit, seqK_n, seqK_e, atK_e, loopK_e, ckB_b, cbB_b, okG_b, asG_t, true_and, x_nil, x_g, x_mv, x_bin, x_call, x_len, kx, rvP_ok, okv_some, ev_t, ev_c, evs_nil, evs_cons, getV_some, putD_some, bin_eql, bin_lss, getK_set, Nat.reduceEqDiff, ↓reduceIte, Bool.false_eq_true, g0, g1, g6, hw.len, hs.len, Int.lt_irrefl, decide_false, decide_true, e']
      refine (callP_0 (ef := f71) h71 rfl (f71_ret hp52 hv (by simp [castL]; omega) (fun s hs => by
        obtain ⟨k, hk, rfl⟩ := List.mem_map.1 hs
        exact ⟨k, hQ k hk, rfl⟩))).mono ?_
      rintro u h2 ⟨rfl, rfl⟩
      simp (disch := omega) only [f37_rs, w_ret, seqK_n, retK_r, x_nil, x_as, x_pick, kx, rvP_ok, ev_t, ev_c, getV_some, putD_some, pick_b, oGet_s, readRs_nil, readRs_t, retV_1, Option.some.injEq, exists_eq_left', getK_set, Nat.reduceEqDiff, ↓reduceIte, hf, and_self]
    · have e' : ¬ (O.length : Int) = (Q.length : Int) := by omega
      have hf : shellR Q O = false := by unfold shellR; rw [decide_eq_false e]; simp
      simp (disch := omega) only [f37_r3, f37_r9, f37_rs, w_reg, w_seq, w_cond, w_exit, w_ret, seqK_n, seqK_e, atK_e, loopK_e, ckB_b, cbB_b, okG_b, asG_t, retK_r, x_nil, x_g, x_mv, x_as, x_pick, x_bin, x_len, kx, rvP_ok, okv_some, ev_t, ev_c, getV_some, putD_some, bin_eql, bin_lss, pick_b, oGet_s, readRs_nil, readRs_t, retV_1, Option.some.injEq, exists_eq_left', getK_set, Nat.reduceEqDiff, ↓reduceIte, Bool.false_eq_true, g0, g1, g6, hw.len, hs.len, hlt', decide_false, e', hf, and_self]
end
end Go.Ev
namespace Go.Ev
open Go Go.RowKit
noncomputable def f36_r0 : List EOper := [⟨(some (K.ofNat 2)), none, .as (.c (.b false))⟩]
noncomputable def f36_r1 : List EOper := [⟨(some (K.ofNat 6)), none, .mv (.t (K.ofNat 0))⟩, ⟨(some (K.ofNat 7)), none, .len (.t (K.ofNat 6))⟩, ⟨(some (K.ofNat 8)), none, .bin .shl (.c (.i .i64 (.ofNat 1))) (.t (K.ofNat 7))⟩, ⟨(some (K.ofNat 9)), none, .mkslice 1 [(.b false)] (.t (K.ofNat 8))⟩, ⟨(some (K.ofNat 3)), none, .as (.t (K.ofNat 9))⟩]
noncomputable def f36_r2 : List EOper := [⟨(some (K.ofNat 10)), none, .mv (.t (K.ofNat 3))⟩, ⟨(some (K.ofNat 11)), none, .iads 1 (.t (K.ofNat 10)) (.c (.i .i64 (.ofNat 0)))⟩, ⟨none, none, .st 1 (.t (K.ofNat 11)) (.c (.b true))⟩]
noncomputable def f36_r3 : List EOper := [⟨(some (K.ofNat 4)), none, .as (.c (.i .i64 (.ofNat 0)))⟩]
noncomputable def f36_r4 : List EOper := [⟨(some (K.ofNat 12)), none, .mv (.t (K.ofNat 4))⟩, ⟨(some (K.ofNat 13)), none, .mv (.t (K.ofNat 3))⟩, ⟨(some (K.ofNat 14)), none, .len (.t (K.ofNat 13))⟩, ⟨(some (K.ofNat 15)), none, .bin .lss (.t (K.ofNat 12)) (.t (K.ofNat 14))⟩]
noncomputable def f36_r5 : List EOper := [⟨(some (K.ofNat 5)), none, .as (.c (.i .i64 (.ofNat 0)))⟩]
noncomputable def f36_r6 : List EOper := [⟨(some (K.ofNat 18)), none, .mv (.t (K.ofNat 5))⟩, ⟨(some (K.ofNat 19)), none, .mv (.t (K.ofNat 0))⟩, ⟨(some (K.ofNat 20)), none, .len (.t (K.ofNat 19))⟩, ⟨(some (K.ofNat 21)), none, .bin .lss (.t (K.ofNat 18)) (.t (K.ofNat 20))⟩, ⟨(some (K.ofNat 22)), none, .mv (.t (K.ofNat 21))⟩, ⟨(some (K.ofNat 23)), (some ((K.ofNat 22), true)), .mv (.t (K.ofNat 3))⟩, ⟨(some (K.ofNat 24)), (some ((K.ofNat 22), true)), .mv (.t (K.ofNat 4))⟩, ⟨(some (K.ofNat 25)), (some ((K.ofNat 22), true)), .iads 1 (.t (K.ofNat 23)) (.t (K.ofNat 24))⟩, ⟨(some (K.ofNat 26)), (some ((K.ofNat 22), true)), .ld (.t (K.ofNat 25))⟩, ⟨(some (K.ofNat 27)), none, .pick (.t (K.ofNat 22)) (.t (K.ofNat 26)) (.c (.b false))⟩]
noncomputable def f36_r7 : List EOper := [⟨(some (K.ofNat 30)), none, .mv (.t (K.ofNat 4))⟩, ⟨(some (K.ofNat 31)), none, .mv (.t (K.ofNat 5))⟩, ⟨(some (K.ofNat 32)), none, .bin .shr (.t (K.ofNat 30)) (.t (K.ofNat 31))⟩, ⟨(some (K.ofNat 33)), none, .bin .rem (.t (K.ofNat 32)) (.c (.i .i64 (.ofNat 2)))⟩, ⟨(some (K.ofNat 34)), none, .bin .eql (.t (K.ofNat 33)) (.c (.i .i64 (.ofNat 0)))⟩, ⟨(some (K.ofNat 35)), none, .mv (.t (K.ofNat 34))⟩, ⟨(some (K.ofNat 36)), (some ((K.ofNat 35), true)), .mv (.t (K.ofNat 0))⟩, ⟨(some (K.ofNat 37)), (some ((K.ofNat 35), true)), .mv (.t (K.ofNat 4))⟩, ⟨(some (K.ofNat 38)), (some ((K.ofNat 35), true)), .mv (.t (K.ofNat 5))⟩, ⟨(some (K.ofNat 39)), (some ((K.ofNat 35), true)), .call (.c (.fn (K.ofNat 70) [])) [(.t (K.ofNat 36)), (.t (K.ofNat 37)), (.t (K.ofNat 38))]⟩, ⟨(some (K.ofNat 40)), none, .pick (.t (K.ofNat 35)) (.t (K.ofNat 39)) (.c (.b false))⟩]
noncomputable def f36_r8 : List EOper := [⟨(some (K.ofNat 41)), none, .mv (.t (K.ofNat 3))⟩, ⟨(some (K.ofNat 42)), none, .mv (.t (K.ofNat 4))⟩, ⟨(some (K.ofNat 43)), none, .mv (.t (K.ofNat 5))⟩, ⟨(some (K.ofNat 44)), none, .bin .shl (.c (.i .i64 (.ofNat 1))) (.t (K.ofNat 43))⟩, ⟨(some (K.ofNat 45)), none, .bin .or (.t (K.ofNat 42)) (.t (K.ofNat 44))⟩, ⟨(some (K.ofNat 46)), none, .iads 1 (.t (K.ofNat 41)) (.t (K.ofNat 45))⟩, ⟨none, none, .st 1 (.t (K.ofNat 46)) (.c (.b true))⟩]
noncomputable def f36_r9 : List EOper := [⟨(some (K.ofNat 28)), none, .mv (.t (K.ofNat 5))⟩, ⟨(some (K.ofNat 29)), none, .bin .add (.t (K.ofNat 28)) (.c (.i .i64 (.ofNat 1)))⟩, ⟨(some (K.ofNat 5)), none, .as (.t (K.ofNat 29))⟩]
noncomputable def f36_l0 : EC := (.seq (.seq (.reg f36_r6) (.cond (.t (K.ofNat 27)) .skip (.exit 2))) (.seq (.block 3 (.seq (.reg f36_r7) (.cond (.t (K.ofNat 40)) (.reg f36_r8) .skip))) (.reg f36_r9)))
noncomputable def f36_r10 : List EOper := [⟨(some (K.ofNat 16)), none, .mv (.t (K.ofNat 4))⟩, ⟨(some (K.ofNat 17)), none, .bin .add (.t (K.ofNat 16)) (.c (.i .i64 (.ofNat 1)))⟩, ⟨(some (K.ofNat 4)), none, .as (.t (K.ofNat 17))⟩]
noncomputable def f36_l1 : EC := (.seq (.seq (.reg f36_r4) (.cond (.t (K.ofNat 15)) .skip (.exit 0))) (.seq (.block 1 (.seq (.reg f36_r5) (.block 2 (.loop f36_l0)))) (.reg f36_r10)))
noncomputable def f36_r11 : List EOper := [⟨(some (K.ofNat 47)), none, .mv (.t (K.ofNat 0))⟩, ⟨(some (K.ofNat 48)), none, .call (.c (.fn (K.ofNat 71) [])) [(.t (K.ofNat 47))]⟩, ⟨(some (K.ofNat 49)), none, .mv (.t (K.ofNat 48))⟩, ⟨(some (K.ofNat 50)), (some ((K.ofNat 49), true)), .mv (.t (K.ofNat 3))⟩, ⟨(some (K.ofNat 51)), (some ((K.ofNat 49), true)), .mv (.t (K.ofNat 3))⟩, ⟨(some (K.ofNat 52)), (some ((K.ofNat 49), true)), .len (.t (K.ofNat 51))⟩, ⟨(some (K.ofNat 53)), (some ((K.ofNat 49), true)), .bin .sub (.t (K.ofNat 52)) (.c (.i .i64 (.ofNat 1)))⟩, ⟨(some (K.ofNat 54)), (some ((K.ofNat 49), true)), .iads 1 (.t (K.ofNat 50)) (.t (K.ofNat 53))⟩, ⟨(some (K.ofNat 55)), (some ((K.ofNat 49), true)), .ld (.t (K.ofNat 54))⟩, ⟨(some (K.ofNat 56)), none, .pick (.t (K.ofNat 49)) (.t (K.ofNat 55)) (.c (.b false))⟩, ⟨(some (K.ofNat 2)), none, .as (.t (K.ofNat 56))⟩]
noncomputable def f36_c : EC := (.seq (.reg f36_r0) (.seq (.reg f36_r1) (.seq (.reg f36_r2) (.seq (.seq (.reg f36_r3) (.block 0 (.loop f36_l1))) (.seq (.reg f36_r11) .ret)))))
noncomputable def f36 : EF := ⟨57, [.tmp (K.ofNat 2)], f36_c, none⟩
section
variable {fs : T EF} {ro : Option K}
/-- May the i-th piece come after those of m? -/
def okN (Q : List Nat) (m i : Nat) : Prop := i < Q.length ∧ m / 2 ^ i % 2 = 0 ∧ nextR Q m i = true
inductive Reach (Q : List Nat) : Nat → Prop
  | zero : Reach Q 0
  | step {m i : Nat} : Reach Q m → okN Q m i → Reach Q (m ||| 2 ^ i)
structure TabI (Q : List Nat) (L : List Bool) (a j : Nat) : Prop where
  len : L.length = 2 ^ Q.length
  sound : ∀ m, L.getD m false = true → Reach Q m
  zero : L.getD 0 false = true
  below : ∀ m, m < a → L.getD m false = true → ∀ i, okN Q m i → L.getD (m ||| 2 ^ i) false = true
  now : L.getD a false = true → ∀ i, i < j → okN Q a i → L.getD (a ||| 2 ^ i) false = true
theorem getD_set {L : List Bool} {k m : Nat} (hk : k < L.length) : (L.set k true).getD m false = if k = m then true else L.getD m false := by
  simp only [List.getD]
  rw [List.getElem?_set]
  by_cases e : k = m
  · rw [if_pos e, if_pos hk, if_pos e]; rfl
  · rw [if_neg e, if_neg e]
theorem or_gt {a i : Nat} (h : a / 2 ^ i % 2 = 0) : a < a ||| 2 ^ i := by
  have h1 : a ≤ a ||| 2 ^ i := Nat.left_le_or
  rcases Nat.lt_or_ge a (a ||| 2 ^ i) with h2 | h2
  · exact h2
  · have e : a ||| 2 ^ i = a := by omega
    have := congrArg (fun n => Nat.testBit n i) e
    simp only [Nat.testBit_or, Nat.testBit_two_pow_self, Bool.or_true] at this
    rw [Nat.testBit_eq_decide_div_mod_eq, h] at this
    simp at this
theorem TabI.put {Q : List Nat} {L : List Bool} {a j : Nat} (t : TabI Q L a j) (ha : L.getD a false = true) (ho : okN Q a j) (hk : a ||| 2 ^ j < L.length) : TabI Q (L.set (a ||| 2 ^ j) true) a (j + 1) := by
  have hgt := or_gt ho.2.1
  refine ⟨by rw [List.length_set]; exact t.len, fun m hm => ?_, ?_, fun m hm h1 i hi => ?_, fun h1 i hij hi => ?_⟩
  · rw [getD_set hk] at hm
    by_cases e : a ||| 2 ^ j = m
    · rw [← e]; exact .step (t.sound a ha) ho
    · rw [if_neg e] at hm; exact t.sound m hm
  · rw [getD_set hk]; split
    · rfl
    · exact t.zero
  · rw [getD_set hk, if_neg (by omega)] at h1
    rw [getD_set hk]; split
    · rfl
    · exact t.below m hm h1 i hi
  · rw [getD_set hk]
    by_cases e : i = j
    · subst e; rw [if_pos rfl]
    · split
      · rfl
      · exact t.now ha i (by omega) hi
theorem TabI.skip {Q : List Nat} {L : List Bool} {a j : Nat} (t : TabI Q L a j) (h : ¬ okN Q a j) : TabI Q L a (j + 1) :=
  ⟨t.len, t.sound, t.zero, t.below, fun h1 i hij hi => by
    by_cases e : i = j
    · subst e; exact absurd hi h
    · exact t.now h1 i (by omega) hi⟩
theorem TabI.next {Q : List Nat} {L : List Bool} {a j : Nat} (t : TabI Q L a j) (h : L.getD a false = true → Q.length ≤ j) : TabI Q L (a + 1) 0 :=
  ⟨t.len, t.sound, t.zero, fun m hm h1 i hi => by
    by_cases e : m = a
    · subst e; exact t.now h1 i (Nat.lt_of_lt_of_le hi.1 (h h1)) hi
    · exact t.below m (by omega) h1 i hi, fun h1 i hij => by omega⟩
end
end Go.Ev
namespace Go.Ev
open Go Go.RowKit
def bK (L : List Bool) : V := .agg (L.map V.b)
def ents (M : List (List Bool)) : List (V × V) := M.map fun L => (bK L, .b true)
theorem eqK_b : ∀ (n : Nat) (L M : List Bool), L.length = n → M.length = n → eqK (List.replicate n none) (L.map V.b) (M.map V.b) = some (decide (L = M))
  | 0, [], [], _, _ => rfl
  | 0, _ :: _, _, h, _ => by simp at h
  | 0, [], _ :: _, _, h => by simp at h
  | n + 1, [], _, h, _ => by simp at h
  | n + 1, _ :: _, [], _, h => by simp at h
  | n + 1, a :: L, b :: M, h1, h2 => by
    have ih := eqK_b n L M (by simpa using h1) (by simpa using h2)
    show oGet (some (a == b)) none (fun r => oGet (eqK (List.replicate n none) (L.map V.b) (M.map V.b)) none fun s => some (r && s)) = _
    rw [ih]
    show some ((a == b) && decide (L = M)) = _
    by_cases e1 : a = b
    · by_cases e2 : L = M
      · simp [e1, e2]
      · simp [e1, e2]
    · simp [e1]
theorem keyEq_b {n : Nat} {L M : List Bool} (h1 : L.length = n) (h2 : M.length = n) : keyEq (.many (List.replicate n none)) (bK L) (bK M) = some (decide (L = M)) := eqK_b n L M h1 h2
theorem findE_b {n : Nat} {L : List Bool} (h1 : L.length = n) : ∀ (M : List (List Bool)), (∀ x ∈ M, x.length = n) → findE (.many (List.replicate n none)) (bK L) (ents M) = some (if L ∈ M then some (.b true) else none)
  | [], _ => by
    show (oGet (keyEq (.many (List.replicate n none)) (bK L) (bK L)) none fun _ => some none) = _
    rw [keyEq_b h1 h1]; rfl
  | x :: M, h => by
    have ih := findE_b h1 M fun y hy => h y (List.mem_cons_of_mem _ hy)
    show (oGet (keyEq (.many (List.replicate n none)) (bK L) (bK x)) none fun r => bif r then some (some (.b true)) else findE (.many (List.replicate n none)) (bK L) (ents M)) = _
    rw [keyEq_b h1 (h x (by simp)), ih]
    show (bif decide (L = x) then _ else _) = _
    by_cases e : L = x
    · rw [decide_eq_true e, if_pos (show L ∈ x :: M by rw [e]; exact List.mem_cons_self)]; rfl
    · rw [decide_eq_false e]
      by_cases e2 : L ∈ M
      · rw [if_pos e2, if_pos (show L ∈ x :: M from List.mem_cons_of_mem _ e2)]; rfl
      · rw [if_neg e2, if_neg (show ¬ L ∈ x :: M from fun h => by rcases List.mem_cons.1 h with h | h <;> contradiction)]; rfl
theorem updE_b {n : Nat} {L : List Bool} (h1 : L.length = n) : ∀ (M : List (List Bool)), (∀ x ∈ M, x.length = n) → L ∉ M → updE (.many (List.replicate n none)) (bK L) (.b true) (ents M) = some (ents (M ++ [L]))
  | [], _, _ => by
    show (oGet (keyEq (.many (List.replicate n none)) (bK L) (bK L)) none fun _ => some [(bK L, V.b true)]) = _
    rw [keyEq_b h1 h1]; rfl
  | x :: M, h, hn => by
    have e : ¬ L = x := fun e => hn (by rw [e]; simp)
    have ih := updE_b h1 M (fun y hy => h y (List.mem_cons_of_mem _ hy)) fun hm => hn (List.mem_cons_of_mem _ hm)
    show (oGet (keyEq (.many (List.replicate n none)) (bK L) (bK x)) none fun r => bif r then some ((bK L, V.b true) :: ents M) else oGet (updE (.many (List.replicate n none)) (bK L) (.b true) (ents M)) none fun l => some ((bK x, V.b true) :: l)) = _
    rw [keyEq_b h1 (h x (by simp)), ih, decide_eq_false e]; rfl
/-- A set of arrays, in memory. -/
def MapI (h : H) (id : K) (kt : Nat) (M : List (List Bool)) : Prop := h.get id = .map kt (ents M)
theorem MapI.look {n kt : Nat} {h : H} {id : K} {M : List (List Bool)} {L : List Bool} (hm : MapI h id kt M) (h1 : L.length = n) (h2 : ∀ x ∈ M, x.length = n) :
    lookV kt (.many (List.replicate n none)) (.b false) h (.m id) (bK L) false = .ok (.b (decide (L ∈ M))) h := by
  show ((h.get id).onM kt fun es => oGet (findE (.many (List.replicate n none)) (bK L) es) RV.no fun r => bif false then _ else RV.ok (oGet r (.b false) fun v => v) h) = _
  rw [hm]
  show (bif Nat.beq kt kt then (oGet (findE (.many (List.replicate n none)) (bK L) (ents M)) RV.no fun r => RV.ok (oGet r (.b false) fun v => v) h) else _) = _
  rw [Nat.beq_same, findE_b h1 M h2]
  by_cases e : L ∈ M
  · rw [if_pos e, decide_eq_true e]; rfl
  · rw [if_neg e, decide_eq_false e]; rfl
theorem MapI.put {n kt : Nat} {h : H} {id : K} {M : List (List Bool)} {L : List Bool} (hm : MapI h id kt M) (h1 : L.length = n) (h2 : ∀ x ∈ M, x.length = n) (hn : L ∉ M) :
    mupdV kt (.many (List.replicate n none)) h (.m id) (bK L) (.b true) = .ok undefV (h.put id (.map kt (ents (M ++ [L])))) ∧ MapI (h.put id (.map kt (ents (M ++ [L])))) id kt (M ++ [L]) := by
  refine ⟨?_, get_put_same⟩
  show ((h.get id).onM kt fun es => oGet (updE (.many (List.replicate n none)) (bK L) (.b true) es) RV.no fun es => RV.ok undefV (h.put id (.map kt es))) = _
  rw [hm]
  show (bif Nat.beq kt kt then (oGet (updE (.many (List.replicate n none)) (bK L) (.b true) (ents M)) RV.no fun es => RV.ok undefV (h.put id (.map kt es))) else _) = _
  rw [Nat.beq_same, updE_b h1 M h2 hn]; rfl
end Go.Ev
namespace Go.Ev
open Go Go.RowKit
section
variable {fs : T EF} {fr : Fr} {h h0 : H} {k k2 : K}
end
end Go.Ev
namespace Go.Ev
open Go Go.RowKit
noncomputable def f34_r0 : List EOper := [⟨(some (K.ofNat 2)), none, .as (.c .sn)⟩]
noncomputable def f34_r1 : List EOper := [⟨(some (K.ofNat 7)), none, .mv (.t (K.ofNat 0))⟩, ⟨(some (K.ofNat 8)), none, .len (.t (K.ofNat 7))⟩, ⟨(some (K.ofNat 9)), none, .bin .sub (.t (K.ofNat 8)) (.c (.i .i64 (.ofNat 1)))⟩, ⟨(some (K.ofNat 3)), none, .as (.t (K.ofNat 9))⟩]
noncomputable def f34_r2 : List EOper := [⟨(some (K.ofNat 10)), none, .mv (.t (K.ofNat 3))⟩, ⟨(some (K.ofNat 11)), none, .bin .add (.t (K.ofNat 10)) (.c (.i .i64 (.ofNat 1)))⟩, ⟨(some (K.ofNat 12)), none, .mkslice 1 [(.i .i64 (.ofNat 0))] (.t (K.ofNat 11))⟩, ⟨(some (K.ofNat 4)), none, .as (.t (K.ofNat 12))⟩]
noncomputable def f34_r3 : List EOper := [⟨(some (K.ofNat 5)), none, .as (.c (.i .i64 (.ofNat 0)))⟩]
noncomputable def f34_r4 : List EOper := [⟨(some (K.ofNat 13)), none, .mv (.t (K.ofNat 5))⟩, ⟨(some (K.ofNat 14)), none, .mv (.t (K.ofNat 3))⟩, ⟨(some (K.ofNat 15)), none, .bin .leq (.t (K.ofNat 13)) (.t (K.ofNat 14))⟩]
noncomputable def f34_r5 : List EOper := [⟨(some (K.ofNat 6)), none, .as (.c (.i .i64 (.ofNat 0)))⟩]
noncomputable def f34_r6 : List EOper := [⟨(some (K.ofNat 18)), none, .mv (.t (K.ofNat 6))⟩, ⟨(some (K.ofNat 19)), none, .mv (.t (K.ofNat 5))⟩, ⟨(some (K.ofNat 20)), none, .bin .leq (.t (K.ofNat 18)) (.t (K.ofNat 19))⟩]
noncomputable def f34_r7 : List Stage := [⟨[⟨(some (K.ofNat 23)), none, .mv (.t (K.ofNat 4))⟩, ⟨(some (K.ofNat 24)), none, .mv (.t (K.ofNat 5))⟩, ⟨(some (K.ofNat 25)), none, .mv (.t (K.ofNat 4))⟩, ⟨(some (K.ofNat 26)), none, .mv (.t (K.ofNat 5))⟩, ⟨(some (K.ofNat 27)), none, .iads 1 (.t (K.ofNat 25)) (.t (K.ofNat 26))⟩, ⟨(some (K.ofNat 28)), none, .ld (.t (K.ofNat 27))⟩, ⟨(some (K.ofNat 29)), none, .mv (.t (K.ofNat 0))⟩, ⟨(some (K.ofNat 30)), none, .mv (.t (K.ofNat 6))⟩, ⟨(some (K.ofNat 31)), none, .iads 1 (.t (K.ofNat 29)) (.t (K.ofNat 30))⟩, ⟨(some (K.ofNat 32)), none, .ld (.t (K.ofNat 31))⟩, ⟨(some (K.ofNat 33)), none, .mv (.t (K.ofNat 3))⟩, ⟨(some (K.ofNat 34)), none, .mv (.t (K.ofNat 6))⟩, ⟨(some (K.ofNat 35)), none, .bin .sub (.t (K.ofNat 33)) (.t (K.ofNat 34))⟩, ⟨(some (K.ofNat 36)), none, .mv (.t (K.ofNat 5))⟩, ⟨(some (K.ofNat 37)), none, .mv (.t (K.ofNat 6))⟩, ⟨(some (K.ofNat 38)), none, .bin .sub (.t (K.ofNat 36)) (.t (K.ofNat 37))⟩, ⟨(some (K.ofNat 41)), none, .mv (.t (K.ofNat 5))⟩, ⟨(some (K.ofNat 42)), none, .mv (.t (K.ofNat 6))⟩, ⟨(some (K.ofNat 43)), none, .bin .sub (.t (K.ofNat 41)) (.t (K.ofNat 42))⟩, ⟨(some (K.ofNat 44)), none, .bin .rem (.t (K.ofNat 43)) (.c (.i .i64 (.ofNat 2)))⟩, ⟨(some (K.ofNat 45)), none, .bin .mul (.c (.i .i64 (.ofNat 2))) (.t (K.ofNat 44))⟩, ⟨(some (K.ofNat 46)), none, .bin .sub (.c (.i .i64 (.ofNat 1))) (.t (K.ofNat 45))⟩], [], (some ⟨(some (K.ofNat 39)), none, .call (.c (.fn (K.ofNat 69) [])) [(.t (K.ofNat 35)), (.t (K.ofNat 38))]⟩), []⟩, ⟨[⟨(some (K.ofNat 40)), none, .bin .mul (.t (K.ofNat 32)) (.t (K.ofNat 39))⟩, ⟨(some (K.ofNat 47)), none, .bin .mul (.t (K.ofNat 40)) (.t (K.ofNat 46))⟩, ⟨(some (K.ofNat 48)), none, .bin .add (.t (K.ofNat 28)) (.t (K.ofNat 47))⟩, ⟨(some (K.ofNat 49)), none, .iads 1 (.t (K.ofNat 23)) (.t (K.ofNat 24))⟩], [⟨(some (K.ofNat 23)), none, .mv (.t (K.ofNat 4))⟩, ⟨(some (K.ofNat 24)), none, .mv (.t (K.ofNat 5))⟩, ⟨(some (K.ofNat 25)), none, .mv (.t (K.ofNat 4))⟩, ⟨(some (K.ofNat 26)), none, .mv (.t (K.ofNat 5))⟩, ⟨(some (K.ofNat 27)), none, .iads 1 (.t (K.ofNat 25)) (.t (K.ofNat 26))⟩, ⟨(some (K.ofNat 28)), none, .ld (.t (K.ofNat 27))⟩, ⟨(some (K.ofNat 29)), none, .mv (.t (K.ofNat 0))⟩, ⟨(some (K.ofNat 30)), none, .mv (.t (K.ofNat 6))⟩, ⟨(some (K.ofNat 31)), none, .iads 1 (.t (K.ofNat 29)) (.t (K.ofNat 30))⟩, ⟨(some (K.ofNat 32)), none, .ld (.t (K.ofNat 31))⟩, ⟨(some (K.ofNat 41)), none, .mv (.t (K.ofNat 5))⟩, ⟨(some (K.ofNat 42)), none, .mv (.t (K.ofNat 6))⟩, ⟨(some (K.ofNat 43)), none, .bin .sub (.t (K.ofNat 41)) (.t (K.ofNat 42))⟩, ⟨(some (K.ofNat 44)), none, .bin .rem (.t (K.ofNat 43)) (.c (.i .i64 (.ofNat 2)))⟩, ⟨(some (K.ofNat 45)), none, .bin .mul (.c (.i .i64 (.ofNat 2))) (.t (K.ofNat 44))⟩, ⟨(some (K.ofNat 46)), none, .bin .sub (.c (.i .i64 (.ofNat 1))) (.t (K.ofNat 45))⟩], (some ⟨none, none, .st 1 (.t (K.ofNat 49)) (.t (K.ofNat 48))⟩), []⟩, ⟨[], [], none, []⟩]
noncomputable def f34_r8 : List EOper := [⟨(some (K.ofNat 21)), none, .mv (.t (K.ofNat 6))⟩, ⟨(some (K.ofNat 22)), none, .bin .add (.t (K.ofNat 21)) (.c (.i .i64 (.ofNat 1)))⟩, ⟨(some (K.ofNat 6)), none, .as (.t (K.ofNat 22))⟩]
noncomputable def f34_l0 : EC := (.seq (.seq (.reg f34_r6) (.cond (.t (K.ofNat 20)) .skip (.exit 2))) (.seq (.block 3 (.draw f34_r7)) (.reg f34_r8)))
noncomputable def f34_r9 : List EOper := [⟨(some (K.ofNat 16)), none, .mv (.t (K.ofNat 5))⟩, ⟨(some (K.ofNat 17)), none, .bin .add (.t (K.ofNat 16)) (.c (.i .i64 (.ofNat 1)))⟩, ⟨(some (K.ofNat 5)), none, .as (.t (K.ofNat 17))⟩]
noncomputable def f34_l1 : EC := (.seq (.seq (.reg f34_r4) (.cond (.t (K.ofNat 15)) .skip (.exit 0))) (.seq (.block 1 (.seq (.reg f34_r5) (.block 2 (.loop f34_l0)))) (.reg f34_r9)))
noncomputable def f34_r10 : List EOper := [⟨(some (K.ofNat 50)), none, .mv (.t (K.ofNat 4))⟩, ⟨(some (K.ofNat 2)), none, .as (.t (K.ofNat 50))⟩]
noncomputable def f34_c : EC := (.seq (.reg f34_r0) (.seq (.reg f34_r1) (.seq (.reg f34_r2) (.seq (.seq (.reg f34_r3) (.block 0 (.loop f34_l1))) (.seq (.reg f34_r10) .ret)))))
noncomputable def f34 : EF := ⟨51, [.tmp (K.ofNat 2)], f34_c, none⟩
section
variable {fs : T EF} {ro : Option K}
def bin6 : Nat → Nat → Nat
  | _, 0 => 1
  | 0, _ + 1 => 0
  | n + 1, k + 1 => bin6 n k + bin6 n (k + 1)
noncomputable def sgnS (j : Nat) : Int := fw .i64 (1 - fw .i64 (2 * ((j : Int).tmod 2)))
noncomputable def rkS (L : List Int) (d k : Nat) : Nat → Int
  | 0 => 0
  | i + 1 => fw .i64 (rkS L d k i + fw .i64 (fw .i64 (L.getD i 0 * (bin6 (d - i) (k - i) : Int)) * sgnS (k - i)))
noncomputable def rhsS (L : List Int) : List Int := arr (fun k => rkS L (L.length - 1) k (k + 1)) L.length
end
end Go.Ev
namespace Go.Ev
open Go Go.RowKit
noncomputable def f4_r0 : List EOper := [⟨(some (K.ofNat 4)), none, .as (.c (.b false))⟩]
noncomputable def f4_r1 : List EOper := [⟨(some (K.ofNat 17)), none, .mv (.t (K.ofNat 0))⟩, ⟨(some (K.ofNat 18)), none, .mv (.t (K.ofNat 1))⟩, ⟨(some (K.ofNat 19)), none, .call (.c (.fn (K.ofNat 30) [])) [(.t (K.ofNat 17)), (.t (K.ofNat 18))]⟩, ⟨(some (K.ofNat 16)), none, .mv (.t (K.ofNat 19))⟩, ⟨(some (K.ofNat 20)), none, .ext (.t (K.ofNat 16)) 0⟩, ⟨(some (K.ofNat 21)), none, .ext (.t (K.ofNat 16)) 1⟩, ⟨(some (K.ofNat 5)), none, .as (.t (K.ofNat 20))⟩, ⟨(some (K.ofNat 6)), none, .as (.t (K.ofNat 21))⟩]
noncomputable def f4_r2 : List EOper := [⟨(some (K.ofNat 23)), none, .mv (.t (K.ofNat 5))⟩, ⟨(some (K.ofNat 24)), none, .mv (.t (K.ofNat 6))⟩, ⟨(some (K.ofNat 25)), none, .call (.c (.fn (K.ofNat 17) [])) [(.t (K.ofNat 23)), (.t (K.ofNat 24))]⟩, ⟨(some (K.ofNat 22)), none, .mv (.t (K.ofNat 25))⟩, ⟨(some (K.ofNat 26)), none, .ext (.t (K.ofNat 22)) 0⟩, ⟨(some (K.ofNat 27)), none, .ext (.t (K.ofNat 22)) 1⟩, ⟨(some (K.ofNat 7)), none, .as (.t (K.ofNat 26))⟩, ⟨(some (K.ofNat 8)), none, .as (.t (K.ofNat 27))⟩]
noncomputable def f4_r3 : List EOper := [⟨(some (K.ofNat 29)), none, .mv (.t (K.ofNat 5))⟩, ⟨(some (K.ofNat 30)), none, .mv (.t (K.ofNat 6))⟩, ⟨(some (K.ofNat 31)), none, .call (.c (.fn (K.ofNat 18) [])) [(.t (K.ofNat 29)), (.t (K.ofNat 30))]⟩, ⟨(some (K.ofNat 28)), none, .mv (.t (K.ofNat 31))⟩, ⟨(some (K.ofNat 32)), none, .ext (.t (K.ofNat 28)) 0⟩, ⟨(some (K.ofNat 33)), none, .ext (.t (K.ofNat 28)) 1⟩, ⟨(some (K.ofNat 9)), none, .as (.t (K.ofNat 32))⟩, ⟨(some (K.ofNat 10)), none, .as (.t (K.ofNat 33))⟩]
noncomputable def f4_r4 : List EOper := [⟨(some (K.ofNat 35)), none, .mv (.t (K.ofNat 5))⟩, ⟨(some (K.ofNat 36)), none, .mv (.t (K.ofNat 6))⟩, ⟨(some (K.ofNat 37)), none, .call (.c (.fn (K.ofNat 19) [])) [(.t (K.ofNat 35)), (.t (K.ofNat 36))]⟩, ⟨(some (K.ofNat 34)), none, .mv (.t (K.ofNat 37))⟩, ⟨(some (K.ofNat 38)), none, .ext (.t (K.ofNat 34)) 0⟩, ⟨(some (K.ofNat 39)), none, .ext (.t (K.ofNat 34)) 1⟩, ⟨(some (K.ofNat 11)), none, .as (.t (K.ofNat 38))⟩, ⟨(some (K.ofNat 12)), none, .as (.t (K.ofNat 39))⟩]
noncomputable def f4_r5 : List EOper := [⟨(some (K.ofNat 41)), none, .mv (.t (K.ofNat 5))⟩, ⟨(some (K.ofNat 42)), none, .mv (.t (K.ofNat 6))⟩, ⟨(some (K.ofNat 43)), none, .call (.c (.fn (K.ofNat 20) [])) [(.t (K.ofNat 41)), (.t (K.ofNat 42))]⟩, ⟨(some (K.ofNat 40)), none, .mv (.t (K.ofNat 43))⟩, ⟨(some (K.ofNat 44)), none, .ext (.t (K.ofNat 40)) 0⟩, ⟨(some (K.ofNat 45)), none, .ext (.t (K.ofNat 40)) 1⟩, ⟨(some (K.ofNat 13)), none, .as (.t (K.ofNat 44))⟩, ⟨(some (K.ofNat 14)), none, .as (.t (K.ofNat 45))⟩]
noncomputable def f4_r6 : List EOper := [⟨(some (K.ofNat 46)), none, .mv (.t (K.ofNat 5))⟩, ⟨(some (K.ofNat 47)), none, .mv (.t (K.ofNat 6))⟩, ⟨(some (K.ofNat 48)), none, .call (.c (.fn (K.ofNat 31) [])) [(.t (K.ofNat 46)), (.t (K.ofNat 47))]⟩, ⟨(some (K.ofNat 15)), none, .as (.t (K.ofNat 48))⟩]
noncomputable def f4_r7 : List EOper := [⟨(some (K.ofNat 49)), none, .mv (.t (K.ofNat 8))⟩, ⟨(some (K.ofNat 50)), none, .bin .eql (.t (K.ofNat 49)) (.c (.i .i64 (.ofNat 0)))⟩, ⟨(some (K.ofNat 51)), none, .mv (.t (K.ofNat 50))⟩, ⟨(some (K.ofNat 52)), (some ((K.ofNat 51), true)), .mv (.t (K.ofNat 7))⟩, ⟨(some (K.ofNat 53)), (some ((K.ofNat 51), true)), .mv (.t (K.ofNat 5))⟩, ⟨(some (K.ofNat 54)), (some ((K.ofNat 51), true)), .mv (.t (K.ofNat 6))⟩, ⟨(some (K.ofNat 55)), (some ((K.ofNat 51), true)), .call (.c (.fn (K.ofNat 33) [])) [(.t (K.ofNat 53)), (.t (K.ofNat 54))]⟩, ⟨(some (K.ofNat 56)), (some ((K.ofNat 51), true)), .call (.c (.fn (K.ofNat 32) [])) [(.t (K.ofNat 52)), (.t (K.ofNat 55))]⟩, ⟨(some (K.ofNat 57)), none, .pick (.t (K.ofNat 51)) (.t (K.ofNat 56)) (.c (.b false))⟩, ⟨(some (K.ofNat 58)), none, .mv (.t (K.ofNat 57))⟩, ⟨(some (K.ofNat 59)), (some ((K.ofNat 58), true)), .mv (.t (K.ofNat 10))⟩, ⟨(some (K.ofNat 60)), (some ((K.ofNat 58), true)), .bin .eql (.t (K.ofNat 59)) (.c (.i .i64 (.ofNat 0)))⟩, ⟨(some (K.ofNat 61)), none, .pick (.t (K.ofNat 58)) (.t (K.ofNat 60)) (.c (.b false))⟩, ⟨(some (K.ofNat 62)), none, .mv (.t (K.ofNat 61))⟩, ⟨(some (K.ofNat 63)), (some ((K.ofNat 62), true)), .mv (.t (K.ofNat 9))⟩, ⟨(some (K.ofNat 64)), (some ((K.ofNat 62), true)), .mv (.t (K.ofNat 15))⟩, ⟨(some (K.ofNat 65)), (some ((K.ofNat 62), true)), .call (.c (.fn (K.ofNat 32) [])) [(.t (K.ofNat 63)), (.t (K.ofNat 64))]⟩, ⟨(some (K.ofNat 66)), none, .pick (.t (K.ofNat 62)) (.t (K.ofNat 65)) (.c (.b false))⟩, ⟨(some (K.ofNat 67)), none, .mv (.t (K.ofNat 66))⟩, ⟨(some (K.ofNat 68)), (some ((K.ofNat 67), true)), .mv (.t (K.ofNat 12))⟩, ⟨(some (K.ofNat 69)), (some ((K.ofNat 67), true)), .bin .eql (.t (K.ofNat 68)) (.c (.i .i64 (.ofNat 0)))⟩, ⟨(some (K.ofNat 70)), none, .pick (.t (K.ofNat 67)) (.t (K.ofNat 69)) (.c (.b false))⟩, ⟨(some (K.ofNat 71)), none, .mv (.t (K.ofNat 70))⟩, ⟨(some (K.ofNat 72)), (some ((K.ofNat 71), true)), .mv (.t (K.ofNat 11))⟩, ⟨(some (K.ofNat 73)), (some ((K.ofNat 71), true)), .mv (.t (K.ofNat 15))⟩, ⟨(some (K.ofNat 74)), (some ((K.ofNat 71), true)), .call (.c (.fn (K.ofNat 34) [])) [(.t (K.ofNat 73))]⟩, ⟨(some (K.ofNat 75)), (some ((K.ofNat 71), true)), .call (.c (.fn (K.ofNat 32) [])) [(.t (K.ofNat 72)), (.t (K.ofNat 74))]⟩, ⟨(some (K.ofNat 76)), none, .pick (.t (K.ofNat 71)) (.t (K.ofNat 75)) (.c (.b false))⟩, ⟨(some (K.ofNat 77)), none, .mv (.t (K.ofNat 76))⟩, ⟨(some (K.ofNat 78)), (some ((K.ofNat 77), true)), .mv (.t (K.ofNat 14))⟩, ⟨(some (K.ofNat 79)), (some ((K.ofNat 77), true)), .bin .eql (.t (K.ofNat 78)) (.c (.i .i64 (.ofNat 0)))⟩, ⟨(some (K.ofNat 80)), none, .pick (.t (K.ofNat 77)) (.t (K.ofNat 79)) (.c (.b false))⟩, ⟨(some (K.ofNat 81)), none, .mv (.t (K.ofNat 80))⟩, ⟨(some (K.ofNat 82)), (some ((K.ofNat 81), true)), .mv (.t (K.ofNat 13))⟩, ⟨(some (K.ofNat 83)), (some ((K.ofNat 81), true)), .mv (.t (K.ofNat 15))⟩, ⟨(some (K.ofNat 84)), (some ((K.ofNat 81), true)), .call (.c (.fn (K.ofNat 35) [])) [(.t (K.ofNat 83))]⟩, ⟨(some (K.ofNat 85)), (some ((K.ofNat 81), true)), .bin .eql (.t (K.ofNat 82)) (.t (K.ofNat 84))⟩, ⟨(some (K.ofNat 86)), none, .pick (.t (K.ofNat 81)) (.t (K.ofNat 85)) (.c (.b false))⟩, ⟨(some (K.ofNat 87)), none, .mv (.t (K.ofNat 86))⟩, ⟨(some (K.ofNat 88)), (some ((K.ofNat 87), true)), .call (.c (.fn (K.ofNat 29) [])) []⟩, ⟨(some (K.ofNat 89)), none, .pick (.t (K.ofNat 87)) (.t (K.ofNat 88)) (.c (.b false))⟩, ⟨(some (K.ofNat 4)), none, .as (.t (K.ofNat 89))⟩]
noncomputable def f4_c : EC := (.seq (.reg f4_r0) (.seq (.reg f4_r1) (.seq (.reg f4_r2) (.seq (.reg f4_r3) (.seq (.reg f4_r4) (.seq (.reg f4_r5) (.seq (.reg f4_r6) (.seq (.reg f4_r7) .ret))))))))
noncomputable def f4 : EF := ⟨90, [.tmp (K.ofNat 4)], f4_c, none⟩
section
variable {fs : T EF} {ro : Option K}
structure Calls4 (fs : T EF) : Prop where
  p53 : ∀ a b h P, CallP fs (.fn (K.ofNat 53) []) [.i .i64 a, .i .i64 b] h P = P (.b (ptI a b)) h
  p54 : ∀ a b h P, CallP fs (.fn (K.ofNat 54) []) [.i .i64 a, .i .i64 b] h P = P (.b (ptI a b)) h
  p52 : ∀ m : Nat, m < 64 → ∀ h P, CallP fs (.fn (K.ofNat 52) []) [.i .i64 (m : Int)] h P = P (.i .i64 (pop6 m : Int)) h
  p75 : ∀ m : Nat, m < 64 → ∀ h P, CallP fs (.fn (K.ofNat 75) []) [.i .i64 (m : Int)] h P = P (.i .i64 (pop6 m : Int)) h
  ch : ∀ n k : Nat, k ≤ n → n ≤ 6 → ∀ h P, CallP fs (.fn (K.ofNat 69) []) [.i .i64 (n : Int), .i .i64 (k : Int)] h P = P (.i .i64 (bin6 n k : Int)) h
  aw : ∀ h P, CallP fs (.fn (K.ofNat 29) []) [] h P = P (.b true) h
  c32 : ∀ h v u L M P, Sl iE h v L → Sl iE h u M → L.length ≤ 1000000 → P (.b (decide (L = M))) h → CallP fs (.fn (K.ofNat 32) []) [v, u] h P
  c16 : fs.get (K.ofNat 16) = some f16
  c17 : fs.get (K.ofNat 17) = some f17
  c18 : fs.get (K.ofNat 18) = some f18
  c19 : fs.get (K.ofNat 19) = some f19
  c20 : fs.get (K.ofNat 20) = some f20
  c30 : fs.get (K.ofNat 30) = some f30
  c31 : fs.get (K.ofNat 31) = some f31
  c33 : fs.get (K.ofNat 33) = some f33
  c34 : fs.get (K.ofNat 34) = some f34
  c35 : fs.get (K.ofNat 35) = some f35
  c45 : fs.get (K.ofNat 45) = some f45
  c49 : fs.get (K.ofNat 49) = some f49
  c55 : fs.get (K.ofNat 55) = some f55
  c56 : fs.get (K.ofNat 56) = some f56
  c57 : fs.get (K.ofNat 57) = some f57
  c77 : fs.get (K.ofNat 77) = some f77
  c78 : fs.get (K.ofNat 78) = some f78
  c90 : fs.get (K.ofNat 90) = some f90
  c91 : fs.get (K.ofNat 91) = some alF
structure Facts4 (N : Int) (P : List Int) : Prop where
  chk : chkS N P = 0
  len : P.length ≤ 10
  sets : Sets P
  sz : ∀ k ∈ facN P (2 ^ N.toNat), pop6 k ≤ maxS P
  fac : memI (famB P) = facTo P (2 ^ N.toNat)
  cnt : cntS (mem64 (famB P)) = rcnt (maxS P) (facN P (2 ^ N.toNat))
  hs : hsS (cntS (mem64 (famB P))) = rhsS (cntS (mem64 (famB P)))
  eu : euS ((cntS (mem64 (famB P))).drop 1) 0 1 = reuS (cntS (mem64 (famB P))) ((cntS (mem64 (famB P))).length - 1) 1 0
  ne : 1 ≤ (cntS (mem64 (famB P))).length
end
end Go.Ev
namespace Go.Ev
open Go Go.RowKit
/-! ### The sets -/
theorem tameX_in {N x : Int} (h1 : 1 ≤ N) (h6 : N ≤ 6) : 0 ≤ tameX N x ∧ tameX N x < 2 ^ N.toNat := by
  have h0 : 0 ≤ fw .u64 x := by rw [fw_eq]; exact Int.emod_nonneg _ (by decide)
  obtain ⟨m, hm⟩ := Int.eq_ofNat_of_zero_le h0
  unfold tameX
  rw [hm]
  have key : ∀ p : Nat, 0 < p → p ≤ 64 → 0 ≤ fw .i64 (Int.tmod (m : Int) (p : Int)) ∧ fw .i64 (Int.tmod (m : Int) (p : Int)) < (p : Int) := by
    intro p hp hp2
    have e : Int.tmod (m : Int) (p : Int) = ((m % p : Nat) : Int) := rfl
    have hlt := Nat.mod_lt m hp
    rw [e, fw64 (by omega) (by omega)]
    omega
  obtain ⟨q1, q2⟩ := pow_n h1 h6
  rw [← q2]
  exact key _ (Nat.two_pow_pos _) q1
theorem tameS_in {N : Int} {L : List Int} {i : Nat} (h1 : 1 ≤ N) (h6 : N ≤ 6) : ∀ s ∈ tameS N L i, 0 ≤ s ∧ s < 2 ^ N.toNat := by
  intro s hs
  unfold tameS at hs
  rcases List.mem_cons.1 hs with rfl | hs
  · have : N = 1 ∨ N = 2 ∨ N = 3 ∨ N = 4 ∨ N = 5 ∨ N = 6 := by omega
    rcases this with rfl | rfl | rfl | rfl | rfl | rfl <;> decide
  · obtain ⟨x, _, rfl⟩ := List.mem_map.1 hs
    exact tameX_in h1 h6
theorem sets_in {N : Int} {S : List Int} (h1 : 1 ≤ N) (h6 : N ≤ 6) (h : ∀ s ∈ S, 0 ≤ s ∧ s < 2 ^ N.toNat) : Sets S := by
  intro s hs
  obtain ⟨a, b⟩ := h s hs
  obtain ⟨q1, q2⟩ := pow_n h1 h6
  exact ⟨s.toNat, by omega, by omega⟩
theorem mem_pieces {S : List Int} {x : Int} (h : x ∈ piecesTo S 64) : ∃ k : Nat, x = (k : Int) ∧ k < 64 ∧ (k : Int) ∈ S ∧ ∀ y ∈ S, y = (k : Int) ∨ ptI (k : Int) y = false := by
  unfold piecesTo at h
  obtain ⟨k, hk, rfl⟩ := List.mem_map.1 h
  rw [List.mem_filter, List.mem_range, Bool.and_eq_true] at hk
  obtain ⟨h1, h2, h3⟩ := hk
  refine ⟨k, rfl, h1, ?_, fun y hy => ?_⟩
  · unfold inP at h2
    obtain ⟨y, hy, e⟩ := List.any_eq_true.1 h2
    have : y = (k : Int) := by simpa using e
    rw [← this]; exact hy
  · unfold grP at h3
    have := List.all_eq_true.1 h3 y hy
    simpa using this
theorem pieces_ne {S : List Int} (hS : Sets S) (hne : S ≠ []) : piecesTo S 64 ≠ [] := by
  obtain ⟨m, hm, hmax⟩ := exists_max S hne
  obtain ⟨t, ht, rfl⟩ := hS m hm
  have hmem : (t : Int) ∈ piecesTo S 64 := by
    unfold piecesTo
    rw [List.mem_map]
    refine ⟨t, ?_, rfl⟩
    rw [List.mem_filter, List.mem_range, Bool.and_eq_true]
    refine ⟨ht, ?_, ?_⟩
    · unfold inP; rw [List.any_eq_true]; exact ⟨_, hm, by simp⟩
    · unfold grP; rw [List.all_eq_true]
      intro y hy
      obtain ⟨u, hu, rfl⟩ := hS y hy
      rw [ptI_nat ht hu]
      have h1 := hmax _ hy
      by_cases e : u = t
      · simp [e]
      · have : ¬ t &&& u = t := fun h2 => by have := sub_le h2; omega
        simp [this]
  intro e
  rw [e] at hmem; cases hmem
theorem pieces_sorted {S : List Int} {i : Nat} : (piecesTo S i).Pairwise (· < ·) := by
  unfold piecesTo
  rw [List.pairwise_map]
  refine List.Pairwise.imp (R := (· < ·)) (fun h => by omega) ?_
  exact List.Pairwise.filter _ List.pairwise_lt_range
theorem facts_P {N : Int} {L : List Int} (h1 : 1 ≤ N) (h6 : N ≤ 6) :
    let P := (tameP N L).take 10
    P ≠ [] ∧ P.length ≤ 10 ∧ P.Pairwise (· < ·) ∧ (∀ x ∈ P, 1 ≤ x ∧ x < 2 ^ N.toNat) ∧ ∀ x ∈ P, ∀ y ∈ P, y = x ∨ ptI x y = false := by
  intro P
  have hin := tameS_in (N := N) (L := L) (i := 10) h1 h6
  have hS := sets_in h1 h6 hin
  have hone : (1 : Int) ∈ tameS N L 10 := by unfold tameS; exact List.mem_cons_self
  have hpos : ∀ x ∈ piecesTo (tameS N L 10) 64, 1 ≤ x ∧ x < 2 ^ N.toNat := by
    intro x hx
    obtain ⟨k, rfl, hk, hks, hkm⟩ := mem_pieces hx
    have := hin _ hks
    refine ⟨?_, this.2⟩
    rcases Nat.eq_zero_or_pos k with e | e
    · subst e
      rcases hkm 1 hone with h | h
      · cases h
      · have h2 : ptI ((0 : Nat) : Int) ((1 : Nat) : Int) = false := h
        rw [ptI_nat (by omega) (by omega)] at h2
        simp at h2
    · omega
  have hP : P = (piecesTo (tameS N L 10) 64).take 10 := by
    show (tameP N L).take 10 = _
    unfold tameP
    simp only []
    rw [if_neg]
    rintro ⟨_, e⟩
    obtain ⟨a, b⟩ := List.getElem?_eq_some_iff.1 e
    have := (hpos _ (List.getElem_mem a)).1
    omega
  rw [hP]
  have sub : ∀ x ∈ (piecesTo (tameS N L 10) 64).take 10, x ∈ piecesTo (tameS N L 10) 64 := fun x hx => List.mem_of_mem_take hx
  refine ⟨fun e => ?_, by rw [List.length_take]; omega, List.Pairwise.sublist (List.take_sublist _ _) pieces_sorted, fun x hx => hpos x (sub x hx), fun x hx y hy => ?_⟩
  · have h2 := pieces_ne hS (by unfold tameS; simp)
    have h3 := congrArg List.length e
    rw [List.length_take] at h3
    have : (piecesTo (tameS N L 10) 64).length ≠ 0 := fun e => h2 (List.length_eq_zero_iff.1 e)
    have h3 : min 10 (piecesTo (tameS N L 10) 64).length = 0 := h3
    omega
  · obtain ⟨k, rfl, hk, hks, hkm⟩ := mem_pieces (sub x hx)
    obtain ⟨j, rfl, hj, hjs, hjm⟩ := mem_pieces (sub y hy)
    exact hkm _ hjs
theorem chk_good {N : Int} {P : List Int} (h1 : 1 ≤ N) (h6 : N ≤ 6) (hne : P ≠ []) (hl : P.length ≤ 10) (hs : P.Pairwise (· < ·)) (hin : ∀ x ∈ P, 1 ≤ x ∧ x < 2 ^ N.toNat) (ha : ∀ x ∈ P, ∀ y ∈ P, y = x ∨ ptI x y = false) : chkS N P = 0 := by
  unfold chkS
  rw [if_neg (by omega), if_pos]
  unfold goodS
  have h0 : P.length ≠ 0 := fun e => hne (List.length_eq_zero_iff.1 e)
  rw [decide_eq_true (by omega), decide_eq_true hl, Bool.true_and, Bool.true_and, List.all_eq_true]
  intro i hi
  have hi : i < P.length := by simpa using hi
  have hg : P.getD i 0 = P[i] := by simp [List.getD, hi]
  unfold okAt
  rw [hg]
  have hm := List.getElem_mem hi
  have hb := hin _ hm
  rw [decide_eq_true hb.1, decide_eq_true hb.2, Bool.true_and, Bool.true_and, List.all_eq_true]
  intro y hy
  obtain ⟨j, hj, rfl⟩ := List.getElem_of_mem hy
  have hj2 : j < i := by rw [List.length_take] at hj; omega
  rw [List.getElem_take]
  have hlt : P[j] < P[i] := List.pairwise_iff_getElem.1 hs j i (by omega) hi hj2
  unfold pairOk
  rw [decide_eq_true hlt]
  rcases ha P[j] (List.getElem_mem _) P[i] hm with e | e
  · omega
  · rw [e]; rfl
end Go.Ev
namespace Go.Ev
open Go Go.RowKit
end Go.Ev
namespace Go.Ev
open Go Go.RowKit
section
variable {fs : T EF} {ro : Option K}
structure Calls8 (fs : T EF) : Prop where
  p53 : ∀ a b h P, CallP fs (.fn (K.ofNat 53) []) [.i .i64 a, .i .i64 b] h P = P (.b (ptI a b)) h
  p54 : ∀ a b h P, CallP fs (.fn (K.ofNat 54) []) [.i .i64 a, .i .i64 b] h P = P (.b (ptI a b)) h
  p52 : ∀ m : Nat, m < 64 → ∀ h P, CallP fs (.fn (K.ofNat 52) []) [.i .i64 (m : Int)] h P = P (.i .i64 (pop6 m : Int)) h
  p75 : ∀ m : Nat, m < 64 → ∀ h P, CallP fs (.fn (K.ofNat 75) []) [.i .i64 (m : Int)] h P = P (.i .i64 (pop6 m : Int)) h
  aw : ∀ h P, CallP fs (.fn (K.ofNat 29) []) [] h P = P (.b true) h
  c32 : ∀ h v u L M P, Sl iE h v L → Sl iE h u M → L.length ≤ 1000000 → P (.b (decide (L = M))) h → CallP fs (.fn (K.ofNat 32) []) [v, u] h P
  pt : ∃ ef, fs.get (K.ofNat 54) = some ef ∧ ef.nv = some (flatG partG)
  c16 : fs.get (K.ofNat 16) = some f16
  c26 : fs.get (K.ofNat 26) = some f26
  c27 : fs.get (K.ofNat 27) = some f27
  c28 : fs.get (K.ofNat 28) = some f28
  c30 : fs.get (K.ofNat 30) = some f30
  c31 : fs.get (K.ofNat 31) = some f31
  c33 : fs.get (K.ofNat 33) = some f33
  c44 : fs.get (K.ofNat 44) = some f44
  c45 : fs.get (K.ofNat 45) = some f45
  c46 : fs.get (K.ofNat 46) = some f46
  c47 : fs.get (K.ofNat 47) = some f47
  c49 : fs.get (K.ofNat 49) = some f49
  c55 : fs.get (K.ofNat 55) = some f55
  c57 : fs.get (K.ofNat 57) = some f57
  c64 : fs.get (K.ofNat 64) = some f64
  c65 : fs.get (K.ofNat 65) = some f65
  c66 : fs.get (K.ofNat 66) = some f66
  c67 : fs.get (K.ofNat 67) = some f67
  c68 : fs.get (K.ofNat 68) = some f68
  c73 : fs.get (K.ofNat 73) = some f73
  c74 : fs.get (K.ofNat 74) = some f74
  c78 : fs.get (K.ofNat 78) = some f78
  c82 : fs.get (K.ofNat 82) = some f82
  c83 : fs.get (K.ofNat 83) = some f83
  c89 : fs.get (K.ofNat 89) = some f89
  c91 : fs.get (K.ofNat 91) = some alF
  c92 : fs.get (K.ofNat 92) = some coF
  c93 : fs.get (K.ofNat 93) = some f93
  c94 : fs.get (K.ofNat 94) = some f94
structure Facts8 (N : Int) (P : List Int) : Prop where
  chk : chkS N P = 0
  len : P.length ≤ 10
  sets : Sets P
  sz : ∀ k ∈ facN P (2 ^ N.toNat), pop6 k ≤ maxS P
  ne : 1 ≤ (cntS (mem64 (famB P))).length
  hol : hollS (cntS (mem64 (famB P))) (famB P) = rhTo (facN P (2 ^ N.toNat)) (maxS P)
  bad : ∀ f : Int, badF (famB P) f = (decide (f < 0) || (decide ((2 : Int) ^ N.toNat ≤ f) || !isF P f))
  lnk : ∀ f : Nat, f < 64 → famB P f = true → topsTo (linkB (famB P) f) 64 = piecesTo (lkR P f (2 ^ N.toNat)) 64
  du : topsTo (dualB (famB P) (2 ^ N.toNat - 1)) 64 = piecesTo (duR P (2 ^ N.toNat - 1) (2 ^ N.toNat - 1 + 1)) 64
  du0 : ∀ D, D = piecesTo (duR P (2 ^ N.toNat - 1) (2 ^ N.toNat - 1 + 1)) 64 → ∀ h : 0 < D.length, (D[0]? = some 0 ↔ D[D.length - 1]'(by omega) = 0)
  fne : 1 ≤ (facTo P (2 ^ N.toNat)).length
end
end Go.Ev
namespace Go.Ev
open Go Go.RowKit
theorem self_or {x f : Nat} : x &&& (x ||| f) = x := by
  apply Nat.eq_of_testBit_eq
  intro i
  simp only [Nat.testBit_and, Nat.testBit_or]
  cases x.testBit i <;> cases f.testBit i <;> rfl
theorem sets_map {l : List Nat} (h : ∀ k ∈ l, k < 64) : Sets (l.map fun (k : Nat) => (k : Int)) := by
  intro s hs
  obtain ⟨k, hk, rfl⟩ := List.mem_map.1 hs
  exact ⟨k, h k hk, rfl⟩
end Go.Ev
namespace Go.Ev
open Go Go.RowKit
theorem opp_one : ∀ x, x < 64 → ∀ z, z < 64 → x &&& z ≠ x → ∀ c ∈ cornN x, lessC x c &&& z = lessC x c → lessC x z = c := by decide +kernel
theorem one_opp : ∀ x, x < 64 → ∀ z, z < 64 → pop6 (lessC x z) = 1 → lessC x z ∈ cornN x ∧ lessC x (lessC x z) &&& z = lessC x (lessC x z) := by decide +kernel
theorem corn_pop : ∀ x, x < 64 → ∀ c ∈ cornN x, pop6 c = 1 := by decide +kernel
theorem corn_or : ∀ x, x < 64 → ∀ c ∈ cornN x, ∀ y, y < 64 → c &&& y = c ∨ c &&& y = 0 := by decide +kernel
theorem corn_ne : ∀ x, x < 64 → ∀ c ∈ cornN x, c ≠ 0 := by decide +kernel
theorem or_sub_iff {a b y : Nat} : (a ||| b) &&& y = a ||| b ↔ a &&& y = a ∧ b &&& y = b := by
  constructor
  · intro h
    constructor
    · exact sub_trans self_or h
    · exact sub_trans (by rw [Nat.or_comm]; exact self_or) h
  · rintro ⟨h1, h2⟩
    rw [Nat.and_or_distrib_right, h1, h2]
theorem fold_sub {p : Nat → Bool} {y : Nat} : ∀ (l : List Nat), ((l.foldl (fun s c => if p c = true then s ||| c else s) 0) &&& y = l.foldl (fun s c => if p c = true then s ||| c else s) 0) ↔ ∀ c ∈ l, p c = true → c &&& y = c := by
  intro l
  refine snoc_ind (P := fun l => ((l.foldl (fun s c => if p c = true then s ||| c else s) 0) &&& y = l.foldl (fun s c => if p c = true then s ||| c else s) 0) ↔ ∀ c ∈ l, p c = true → c &&& y = c) (by simp) (fun l a ih => ?_) l
  rw [List.foldl_append]
  show ((if p a = true then _ ||| a else _) &&& y = if p a = true then _ ||| a else _) ↔ _
  by_cases e : p a = true
  · rw [if_pos e, or_sub_iff, ih]
    constructor
    · rintro ⟨h1, h2⟩ c hc hp
      rcases List.mem_append.1 hc with h | h
      · exact h1 c h hp
      · rw [List.mem_singleton.1 h]; exact h2
    · intro h
      exact ⟨fun c hc hp => h c (List.mem_append_left _ hc) hp, h a (by simp) e⟩
  · rw [if_neg e, ih]
    constructor
    · intro h1 c hc hp
      rcases List.mem_append.1 hc with h | h
      · exact h1 c h hp
      · rw [List.mem_singleton.1 h] at hp; exact absurd hp e
    · intro h c hc hp
      exact h c (List.mem_append_left _ hc) hp
theorem newPS_lt {x : Nat} {S : List Int} (hx : x < 64) : newPS x S < 64 := by
  have := npTo_lt (S := S) hx (cornN x).length (Nat.le_refl _)
  rwa [show npTo x S (cornN x).length = newPS x S by unfold npTo newPS; rw [List.take_length]] at this
theorem opp_iff {x c : Nat} {B : List Nat} (hx : x < 64) (hB : ∀ z ∈ B, z < 64) : oppS x c (castL B) = true ↔ ∃ z ∈ B, lessC x c &&& z = lessC x c := by
  unfold oppS castL
  rw [List.any_eq_true]
  have hl := @less_le x c
  constructor
  · rintro ⟨s, hs, h⟩
    obtain ⟨z, hz, rfl⟩ := List.mem_map.1 hs
    have hz64 := hB z hz
    rw [ptI_nat (by omega) (by omega), decide_eq_true_eq] at h
    exact ⟨z, hz, h⟩
  · rintro ⟨z, hz, h⟩
    have hz64 := hB z hz
    exact ⟨_, List.mem_map.2 ⟨z, hz, rfl⟩, by rw [ptI_nat (by omega) (by omega), decide_eq_true_eq]; exact h⟩
/-- A piece fits if each piece before it misses a corner whose opposite side lies in some piece before. -/
theorem fits_iff {x : Nat} {B : List Nat} (hx : x < 64) (hB : ∀ z ∈ B, z < 64) (ha : ∀ z ∈ B, x &&& z ≠ x) :
    fitS x (castL B) = true ↔ ∀ y ∈ B, ∃ z ∈ B, pop6 (lessC x z) = 1 ∧ lessC x z &&& y = 0 := by
  have key : ∀ y ∈ B, (ptI (newPS x (castL B) : Int) (y : Int) = false ↔ ∃ z ∈ B, pop6 (lessC x z) = 1 ∧ lessC x z &&& y = 0) := by
    intro y hy
    have hy64 := hB y hy
    rw [ptI_nat (newPS_lt hx) hy64, decide_eq_false_iff_not]
    unfold newPS
    rw [fold_sub]
    constructor
    · intro h
      have h2 : ∃ c ∈ cornN x, oppS x c (castL B) = true ∧ ¬ c &&& y = c := by
        apply Classical.byContradiction
        intro hn
        exact h fun c hc hp => Classical.byContradiction fun hne => hn ⟨c, hc, hp, hne⟩
      obtain ⟨c, hc, ho, hne⟩ := h2
      obtain ⟨z, hz, hs⟩ := (opp_iff hx hB).1 ho
      have e := opp_one x hx z (hB z hz) (ha z hz) c hc hs
      refine ⟨z, hz, by rw [e]; exact corn_pop x hx c hc, ?_⟩
      rw [e]
      rcases corn_or x hx c hc y hy64 with h3 | h3
      · exact absurd h3 hne
      · exact h3
    · rintro ⟨z, hz, h1, h2⟩ h
      obtain ⟨hc, hs⟩ := one_opp x hx z (hB z hz) h1
      have := h _ hc ((opp_iff hx hB).2 ⟨z, hz, hs⟩)
      rw [h2] at this
      exact corn_ne x hx _ hc this.symm
  unfold fitS
  rw [List.all_eq_true]
  constructor
  · intro h y hy
    have := h _ (List.mem_map.2 ⟨y, hy, rfl⟩)
    exact (key y hy).1 (by simpa using this)
  · intro h s hs
    obtain ⟨y, hy, rfl⟩ := List.mem_map.1 hs
    have := (key y hy).2 (h y hy)
    simpa using this
theorem nextR_iff {Q : List Nat} {m i : Nat} : nextR Q m i = true ↔ ∀ a, a < Q.length → m / 2 ^ a % 2 = 1 → ∃ b, b < Q.length ∧ m / 2 ^ b % 2 = 1 ∧ pop6 (lessC (Q.getD i 0) (Q.getD b 0)) = 1 ∧ lessC (Q.getD i 0) (Q.getD b 0) &&& Q.getD a 0 = 0 := by
  unfold nextR nxB nxA nxC
  simp only [List.all_eq_true, List.mem_range, Bool.or_eq_true, decide_eq_true_eq, List.any_eq_true, Bool.and_eq_true]
  constructor
  · intro h a ha h1
    rcases h a ha with h2 | ⟨b, h3, h4, h5, h6⟩
    · omega
    · exact ⟨b, h3, h4, h5, h6⟩
  · intro h a ha
    by_cases e : m / 2 ^ a % 2 = 0
    · exact .inl e
    · obtain ⟨b, h3, h4, h5, h6⟩ := h a ha (by omega)
      exact .inr ⟨b, h3, h4, h5, h6⟩
/-- Both say the same, if m is the set of the pieces before. -/
theorem fits_next {Q B : List Nat} {m i : Nat} (hi : i < Q.length) (hQ : ∀ y ∈ Q, y < 64) (ha : ∀ j, j < Q.length → j ≠ i → Q.getD i 0 &&& Q.getD j 0 ≠ Q.getD i 0)
    (hm : m / 2 ^ i % 2 = 0) (hB : ∀ z, z ∈ B ↔ ∃ j, j < Q.length ∧ m / 2 ^ j % 2 = 1 ∧ Q.getD j 0 = z) : fitS (Q.getD i 0) (castL B) = nextR Q m i := by
  have hQ' : ∀ j, j < Q.length → Q.getD j 0 < 64 := fun j hj => by
    have := hQ _ (List.getElem_mem hj)
    simpa [List.getD, hj] using this
  have h64 : ∀ z ∈ B, z < 64 := fun z hz => by
    obtain ⟨j, hj, _, rfl⟩ := (hB z).1 hz
    exact hQ' j hj
  have hanti : ∀ z ∈ B, Q.getD i 0 &&& z ≠ Q.getD i 0 := fun z hz => by
    obtain ⟨j, hj, h1, rfl⟩ := (hB z).1 hz
    exact ha j hj fun e => by rw [e] at h1; omega
  rw [Bool.eq_iff_iff, fits_iff (hQ' i hi) h64 hanti, nextR_iff]
  constructor
  · intro h a hal h1
    obtain ⟨z, hz, h2, h3⟩ := h _ ((hB _).2 ⟨a, hal, h1, rfl⟩)
    obtain ⟨b, hb, h4, rfl⟩ := (hB z).1 hz
    exact ⟨b, hb, h4, h2, h3⟩
  · intro h y hy
    obtain ⟨a, hal, h1, rfl⟩ := (hB y).1 hy
    obtain ⟨b, hb, h2, h3, h4⟩ := h a hal h1
    exact ⟨_, (hB _).2 ⟨b, hb, h2, rfl⟩, h3, h4⟩
end Go.Ev
namespace Go.Ev
open Go Go.RowKit
/-- From m the rest can follow. -/
inductive Fin0 (Q : List Nat) : Nat → Prop
  | full : Fin0 Q (2 ^ Q.length - 1)
  | step {m i : Nat} : okN Q m i → Fin0 Q (m ||| 2 ^ i) → Fin0 Q m
/-- The set of the indices. -/
def setO (O : List Nat) : Nat := O.foldl (fun s i => s ||| 2 ^ i) 0
theorem setO_snoc {O : List Nat} {i : Nat} : setO (O ++ [i]) = setO O ||| 2 ^ i := by unfold setO; rw [List.foldl_append]; rfl
theorem setO_nil : setO [] = 0 := rfl
theorem setO_bit (O : List Nat) (j : Nat) : (setO O).testBit j = decide (j ∈ O) := by
  refine snoc_ind (P := fun O => (setO O).testBit j = decide (j ∈ O)) (by simp [setO]) (fun l a ih => ?_) O
  rw [setO_snoc, Nat.testBit_or, ih, Nat.testBit_two_pow]
  by_cases e : a = j
  · subst e; simp
  · by_cases e2 : j ∈ l
    · simp [e2]
    · simp [e2, e, Ne.symm e]
theorem bit_iff {m j : Nat} : m.testBit j = true ↔ m / 2 ^ j % 2 = 1 := by rw [Nat.testBit_eq_decide_div_mod_eq, decide_eq_true_eq]
theorem bit_iff0 {m j : Nat} : m.testBit j = false ↔ m / 2 ^ j % 2 = 0 := by rw [Nat.testBit_eq_decide_div_mod_eq, decide_eq_false_iff_not]; omega
theorem setO_mem {O : List Nat} {j : Nat} : setO O / 2 ^ j % 2 = 1 ↔ j ∈ O := by rw [← bit_iff, setO_bit, decide_eq_true_eq]
theorem setO_not {O : List Nat} {j : Nat} : setO O / 2 ^ j % 2 = 0 ↔ j ∉ O := by rw [← bit_iff0, setO_bit, decide_eq_false_iff_not]
theorem setO_lt {O : List Nat} {n : Nat} (h : ∀ i ∈ O, i < n) : setO O < 2 ^ n := by
  revert h
  refine snoc_ind (P := fun O => (∀ i ∈ O, i < n) → setO O < 2 ^ n) (fun _ => Nat.two_pow_pos n) (fun l a ih h => ?_) O
  rw [setO_snoc]
  exact Nat.or_lt_two_pow (ih fun i hi => h i (List.mem_append_left _ hi)) (Nat.pow_lt_pow_right (by omega) (h a (by simp)))
/-- An order in which each piece may come next. -/
inductive Ord (Q : List Nat) : List Nat → Prop
  | nil : Ord Q []
  | snoc {O : List Nat} {i : Nat} : Ord Q O → okN Q (setO O) i → Ord Q (O ++ [i])
theorem Ord.lt {Q O : List Nat} (h : Ord Q O) : ∀ i ∈ O, i < Q.length := by
  induction h with
  | nil => intro i hi; cases hi
  | snoc _ ho ih =>
    intro i hi
    rcases List.mem_append.1 hi with h | h
    · exact ih i h
    · rw [List.mem_singleton.1 h]; exact ho.1
theorem nodup_len : ∀ (n : Nat) (O : List Nat), O.Nodup → (∀ i ∈ O, i < n) → O.length ≤ n ∧ (O.length = n → ∀ j, j < n → j ∈ O)
  | 0, [], _, _ => ⟨Nat.le_refl _, fun _ j hj => by omega⟩
  | 0, a :: l, _, h => absurd (h a List.mem_cons_self) (by omega)
  | n + 1, O, hd, h => by
    have hd2 : (O.erase n).Nodup := hd.erase n
    have h2 : ∀ i ∈ O.erase n, i < n := fun i hi => by
      have h3 := h i (List.mem_of_mem_erase hi)
      have h4 : i ≠ n := ((List.Nodup.mem_erase_iff hd).1 hi).1
      omega
    obtain ⟨q1, q2⟩ := nodup_len n (O.erase n) hd2 h2
    by_cases e : n ∈ O
    · have hl := List.length_erase_of_mem e
      have : 1 ≤ O.length := List.length_pos_of_mem e
      refine ⟨by omega, fun h5 j hj => ?_⟩
      by_cases e2 : j = n
      · rw [e2]; exact e
      · exact List.mem_of_mem_erase (q2 (by omega) j (by omega))
    · rw [List.erase_of_not_mem e] at q1 q2
      refine ⟨by omega, fun h5 => by omega⟩
theorem Ord.nodup {Q O : List Nat} (h : Ord Q O) : O.Nodup := by
  induction h with
  | nil => exact List.nodup_nil
  | snoc hh ho ih =>
    rw [List.nodup_append]
    refine ⟨ih, by simp, ?_⟩
    intro a ha b hb e
    rw [List.mem_singleton.1 hb] at e
    subst e
    exact setO_not.1 ho.2.1 ha
theorem Ord.len {Q O : List Nat} (h : Ord Q O) : O.length ≤ Q.length := (nodup_len _ _ h.nodup h.lt).1
theorem Ord.full {Q O : List Nat} (h : Ord Q O) (hl : O.length = Q.length) : setO O = 2 ^ Q.length - 1 := by
  apply Nat.eq_of_testBit_eq
  intro j
  rw [setO_bit, Nat.testBit_two_pow_sub_one]
  by_cases e : j < Q.length
  · rw [decide_eq_true e, decide_eq_true ((nodup_len _ _ h.nodup h.lt).2 hl j e)]
  · rw [decide_eq_false e, decide_eq_false fun hm => e (h.lt j hm)]
theorem Ord.fin {Q O : List Nat} (h : Ord Q O) : Fin0 Q (setO O) → Fin0 Q 0 := by
  induction h with
  | nil => exact fun h => h
  | snoc _ ho ih => exact fun h => ih (.step ho (by rw [← setO_snoc]; exact h))
/-- The reference's test of such an order. -/
theorem shT_app {Q : List Nat} : ∀ (A B : List Int) (m : Nat), shT Q (A ++ B) m = (shT Q A m && shT Q B (A.foldl (fun s i => s ||| 2 ^ i.toNat) m))
  | [], B, m => rfl
  | o :: A, B, m => by
    show shT Q (o :: (A ++ B)) m = _
    rw [shT, shT_app A B, shT]
    show _ = ((_ && _) && shT Q B (A.foldl _ (m ||| 2 ^ o.toNat)))
    cases decide (o < 0) <;> cases decide ((Q.length : Int) ≤ o) <;> cases decide (m / 2 ^ o.toNat % 2 = 1) <;> cases nextR Q m o.toNat <;> simp
theorem foldO (O : List Nat) : ∀ m, (castL O).foldl (fun s i => s ||| 2 ^ i.toNat) m = O.foldl (fun s i => s ||| 2 ^ i) m := by
  induction O with
  | nil => intro m; rfl
  | cons a l ih => intro m; exact ih _
theorem Ord.sh {Q O : List Nat} (h : Ord Q O) : shT Q (castL O) 0 = true := by
  induction h with
  | nil => rfl
  | @snoc O i _ ho ih =>
    have e : castL (O ++ [i]) = castL O ++ [(i : Int)] := by unfold castL; rw [List.map_append]; rfl
    rw [e, shT_app, ih, foldO]
    show (true && shT Q [(i : Int)] (setO O)) = true
    have h1 : ¬ (i : Int) < 0 := by omega
    have h2 : ¬ (Q.length : Int) ≤ (i : Int) := by have := ho.1; omega
    have h3 : ¬ setO O / 2 ^ i % 2 = 1 := by have := ho.2.1; omega
    rw [shT, shT, decide_eq_false h1, decide_eq_false h2, show ((i : Int)).toNat = i from rfl, decide_eq_false h3, ho.2.2]; rfl
theorem Ord.shell {Q O : List Nat} (h : Ord Q O) (hl : O.length = Q.length) (hp : pureS (castL Q) = true) : shellR Q (castL O) = true := by
  unfold shellR
  rw [h.sh, hp, decide_eq_true (show (castL O).length = Q.length by unfold castL; rw [List.length_map]; exact hl)]; rfl
/-- What was tried: sets from which the rest can't follow, or those of a beginning of the order. -/
structure Tri (Q : List Nat) (M : List (List Bool)) (O : List Nat) : Prop where
  len : ∀ x ∈ M, x.length = 10
  bad : ∀ x ∈ M, (∃ m, m < 1024 ∧ x = arr (fun i => m.testBit i) 10 ∧ ¬ Fin0 Q m) ∨ ∃ k, k < O.length ∧ x = arr (fun i => (setO (O.take k)).testBit i) 10
theorem Tri.enter {Q M : List _} {O : List Nat} {i : Nat} (t : Tri Q M O) : Tri Q (M ++ [arr (fun i => (setO O).testBit i) 10]) (O ++ [i]) := by
  refine ⟨fun x hx => ?_, fun x hx => ?_⟩
  · rcases List.mem_append.1 hx with h | h
    · exact t.len x h
    · rw [List.mem_singleton.1 h, arr_len]
  · rcases List.mem_append.1 hx with h | h
    · rcases t.bad x h with h2 | ⟨k, h2, h3⟩
      · exact .inl h2
      · exact .inr ⟨k, by simp; omega, by rw [List.take_append_of_le_length (by omega)]; exact h3⟩
    · rw [List.mem_singleton.1 h]
      exact .inr ⟨O.length, by simp, by rw [List.take_append_of_le_length (by omega), List.take_length]⟩
/-- While the pieces are gone through: the set itself is there too. -/
structure Tri1 (Q : List Nat) (M : List (List Bool)) (O : List Nat) : Prop where
  len : ∀ x ∈ M, x.length = 10
  bad : ∀ x ∈ M, (∃ m, m < 1024 ∧ x = arr (fun i => m.testBit i) 10 ∧ ¬ Fin0 Q m) ∨ ∃ k, k ≤ O.length ∧ x = arr (fun i => (setO (O.take k)).testBit i) 10
theorem Tri.add {Q M : List _} {O : List Nat} (t : Tri Q M O) : Tri1 Q (M ++ [arr (fun i => (setO O).testBit i) 10]) O := by
  refine ⟨fun x hx => ?_, fun x hx => ?_⟩
  · rcases List.mem_append.1 hx with h | h
    · exact t.len x h
    · rw [List.mem_singleton.1 h, arr_len]
  · rcases List.mem_append.1 hx with h | h
    · rcases t.bad x h with h2 | ⟨k, h2, h3⟩
      · exact .inl h2
      · exact .inr ⟨k, by omega, h3⟩
    · rw [List.mem_singleton.1 h]
      exact .inr ⟨O.length, Nat.le_refl _, by rw [List.take_length]⟩
theorem Tri.up {Q M : List _} {O : List Nat} {i : Nat} (t : Tri Q M (O ++ [i])) : Tri1 Q M O :=
  ⟨t.len, fun x hx => by
    rcases t.bad x hx with h2 | ⟨k, h2, h3⟩
    · exact .inl h2
    · simp only [List.length_append, List.length_cons, List.length_nil] at h2
      exact .inr ⟨k, by omega, by rw [List.take_append_of_le_length (by omega)] at h3; exact h3⟩⟩
theorem Tri1.out {Q M : List _} {O : List Nat} (t : Tri1 Q M O) (ho : Ord Q O) (hQ : Q.length ≤ 10) (hf : ¬ Fin0 Q (setO O)) : Tri Q M O :=
  ⟨t.len, fun x hx => by
    rcases t.bad x hx with h2 | ⟨k, h2, h3⟩
    · exact .inl h2
    · by_cases e : k = O.length
      · subst e
        rw [List.take_length] at h3
        have h4 := setO_lt ho.lt
        have h5 : 2 ^ Q.length ≤ 2 ^ 10 := Nat.pow_le_pow_right (by omega) hQ
        exact .inl ⟨_, by omega, h3, hf⟩
      · exact .inr ⟨k, by omega, h3⟩⟩
end Go.Ev
namespace Go.Ev
open Go Go.RowKit
section
variable {α : Type} {e : α → V} {h h' : H} {v : V} {L : List α}
theorem Sl.map {β : Type} {e : β → V} {f : α → β} (hs : Sl (fun x => e (f x)) h v L) : Sl e h v (L.map f) := by
  rcases hs with ⟨rfl, rfl⟩ | ⟨id, off, m, cs, rfl, hb, hl, hm, hx⟩
  · exact .inl ⟨rfl, rfl⟩
  · exact .inr ⟨id, off, m, cs, by rw [List.length_map], hb, hl, by rw [List.length_map]; exact hm, fun i hi => by
      have hi' : i < L.length := by simpa using hi
      rw [hx i hi', List.getElem_map]⟩
theorem Ar.box {f : Nat → α} {n : Nat} : Ar e (h.new (.cells n ((arr f n).map e))) h.nx (arr f n) := by
  unfold Ar; rw [get_new_same, arr_len]
end
/-- Two slices in different blocks. -/
def Apart (o w : V) : Prop := ∀ id off n sz, o = .sl id off n sz → NotIn id w
theorem Apart.symm {o w : V} (h : Apart o w) : Apart w o := fun id off n sz e off' n' sz' e' => h id off' n' sz' e' off n sz e
structure Ids where
  (P O B M T F : K)
structure IdsOk (b c : Nat) (d : Ids) : Prop where
  a1 : b ≤ d.P.nat
  a2 : d.P.nat < d.O.nat
  a3 : d.O.nat < d.B.nat
  a4 : d.B.nat < d.M.nat
  a5 : d.M.nat < d.T.nat
  a6 : d.T.nat < d.F.nat
  a7 : d.F.nat < c
noncomputable def capsF (d : Ids) : List V := [.p d.O 0, .p d.P 0, .p d.T 0, .p d.B 0, .p d.F 0]
structure FSt (b c : Nat) (h0 : H) (d : Ids) (v : V) (Q : List Nat) (M : List (List Bool)) (O : List Nat) (o w : V) (h : H) : Prop where
  gr : Grow b h0 h
  nx : c ≤ h.nx.nat
  eP : h.get d.P = .cells 1 [v]
  eO : h.get d.O = .cells 1 [o]
  eB : h.get d.B = .cells 1 [w]
  eM : MapI h d.M 89 M
  eT : h.get d.T = .cells 1 [.m d.M]
  eF : h.get d.F = .cells 1 [.fn (K.ofNat 79) (capsF d)]
  so : Sl nE h o O
  sw : Sl nE h w (O.map fun i => Q.getD i 0)
  oo : Own c o
  ow : Own c w
  ap : Apart o w
  /-- What lies beside stays. -/
def Kept (c : Nat) (h : H) (o w : V) (h' : H) (o' w' : V) : Prop := h.nx.nat ≤ h'.nx.nat ∧ ∀ id : K, c ≤ id.nat → id.nat < h.nx.nat → NotIn id o → NotIn id w → h'.get id = h.get id ∧ NotIn id o' ∧ NotIn id w'
theorem Kept.refl {c : Nat} {h : H} {o w : V} : Kept c h o w h o w := ⟨Nat.le_refl _, fun _ _ _ h1 h2 => ⟨rfl, h1, h2⟩⟩
theorem Kept.trans {c : Nat} {h h1 h2 : H} {o w o1 w1 o2 w2 : V} (k : Kept c h o w h1 o1 w1) (l : Kept c h1 o1 w1 h2 o2 w2) : Kept c h o w h2 o2 w2 := by
  refine ⟨Nat.le_trans k.1 l.1, fun id h1 h2 h3 h4 => ?_⟩
  obtain ⟨q1, q2, q3⟩ := k.2 id h1 h2 h3 h4
  have := k.1
  obtain ⟨q4, q5, q6⟩ := l.2 id h1 (by omega) q2 q3
  exact ⟨q4.trans q1, q5, q6⟩
theorem Kept.grow {c : Nat} {h h' : H} {o w : V} (g : Grow h.nx.nat h h') : Kept c h o w h' o w := ⟨g.nx, fun id _ h2 h3 h4 => ⟨g.old id h2, h3, h4⟩⟩
theorem Kept.put {c : Nat} {h : H} {o w : V} {id : K} {x : Blk} (hi : id.nat < c) : Kept c h o w (h.put id x) o w := ⟨Nat.le_refl _, fun id' h1 _ h3 h4 => ⟨get_put_other (kNe (by omega)).symm, h3, h4⟩⟩
section
variable {b c : Nat} {h0 h h' : H} {d : Ids} {v : V} {Q O : List Nat} {M : List (List Bool)} {o w : V}
theorem FSt.hc (t : FSt b c h0 d v Q M O o w h) (h1 : HC h0) : HC h := t.gr.hc h1
theorem FSt.grow (t : FSt b c h0 d v Q M O o w h) (h1 : HC h0) (k : IdsOk b c d) (g : Grow h.nx.nat h h') : FSt b c h0 d v Q M O o w h' := by
  have := t.nx; have := g.nx; obtain ⟨a1, a2, a3, a4, a5, a6, a7⟩ := k
  have hc := t.hc h1
  exact ⟨t.gr.trans (g.low (by omega)), by omega, by rw [g.old _ (by omega)]; exact t.eP, by rw [g.old _ (by omega)]; exact t.eO, by rw [g.old _ (by omega)]; exact t.eB, by unfold MapI; rw [g.old _ (by omega)]; exact t.eM,
    by rw [g.old _ (by omega)]; exact t.eT, by rw [g.old _ (by omega)]; exact t.eF, t.so.grow hc g, t.sw.grow hc g, t.oo, t.ow, t.ap⟩
/-- The map gets an entry. -/
theorem FSt.mark (t : FSt b c h0 d v Q M O o w h) (k : IdsOk b c d) {M' : List (List Bool)} {x : Blk} (h1 : MapI (h.put d.M x) d.M 89 M') : FSt b c h0 d v Q M' O o w (h.put d.M x) := by
  have := t.nx; obtain ⟨a1, a2, a3, a4, a5, a6, a7⟩ := k
  have n1 := t.oo.notIn (id := d.M) (by omega)
  have n2 := t.ow.notIn (id := d.M) (by omega)
  exact ⟨t.gr.trans (Grow.put (by omega) (by omega) _), t.nx, by rw [get_put_other (kNe (by omega))]; exact t.eP, by rw [get_put_other (kNe (by omega))]; exact t.eO, by rw [get_put_other (kNe (by omega))]; exact t.eB, h1,
    by rw [get_put_other (kNe (by omega)).symm]; exact t.eT, by rw [get_put_other (kNe (by omega)).symm]; exact t.eF, t.so.put n1 _, t.sw.put n2 _, t.oo, t.ow, t.ap⟩
/-- Both slices have turned, and lie in their boxes. -/
theorem FSt.turn {O' : List Nat} {o' w' : V} {h2 : H} (t : FSt b c h0 d v Q M O o w h) (k : IdsOk b c d) (g : Grow c h h2) (so : Sl nE h2 o' O') (sw : Sl nE h2 w' (O'.map fun i => Q.getD i 0)) (oo : Own c o') (ow : Own c w') (ap : Apart o' w') :
    FSt b c h0 d v Q M O' o' w' ((h2.put d.O (.cells 1 [o'])).put d.B (.cells 1 [w'])) := by
  have := t.nx; have := g.nx; obtain ⟨a1, a2, a3, a4, a5, a6, a7⟩ := k
  have ne : ∀ j : K, j.nat < c → j ≠ d.O → j ≠ d.B → ((h2.put d.O (.cells 1 [o'])).put d.B (.cells 1 [w'])).get j = h.get j := fun j hj n1 n2 => by rw [get_put_other n2, get_put_other n1, g.old _ hj]
  have g1 : Grow b h2 (h2.put d.O (.cells 1 [o'])) := Grow.put (by omega) (by omega) _
  have g2 : Grow b (h2.put d.O (.cells 1 [o'])) ((h2.put d.O (.cells 1 [o'])).put d.B (.cells 1 [w'])) := Grow.put (by omega) (by rw [nx_put]; omega) _
  refine ⟨((t.gr.trans (g.low (by omega))).trans g1).trans g2, by rw [nx_put, nx_put]; omega, by rw [ne _ (by omega) (kNe (by omega)) (kNe (by omega))]; exact t.eP, by rw [get_put_other (kNe (by omega)), get_put_same], get_put_same,
    by unfold MapI; rw [ne _ (by omega) (kNe (by omega)).symm (kNe (by omega)).symm]; exact t.eM, by rw [ne _ (by omega) (kNe (by omega)).symm (kNe (by omega)).symm]; exact t.eT, by rw [ne _ (by omega) (kNe (by omega)).symm (kNe (by omega)).symm]; exact t.eF,
    (so.put (oo.notIn (by omega)) _).put (oo.notIn (by omega)) _, (sw.put (ow.notIn (by omega)) _).put (ow.notIn (by omega)) _, oo, ow, ap⟩
/-- order, before = append(order, i), append(before, piece) -/
theorem FSt.push (t : FSt b c h0 d v Q M O o w h) (h1 : HC h0) (k : IdsOk b c d) (i : Nat) (hn : O.length < 1000000) (A B : Blk) (hA : A = .cells (1 * 1) [nE i]) (hB : B = .cells (1 * 1) [nE (Q.getD i 0)]) :
    ∃ o' w' h3 h4, appV 1 ((h.new A).new B) o (.sl h.nx 0 1 1) = .ok o' h3 ∧ h3.get d.B = .cells 1 [w] ∧ h3.get (h.new A).nx = B ∧ appV 1 h3 w (.sl (h.new A).nx 0 1 1) = .ok w' h4 ∧
      storeV h4 1 (.p d.O 0) o' = .ok undefV (h4.put d.O (.cells 1 [o'])) ∧ storeV (h4.put d.O (.cells 1 [o'])) 1 (.p d.B 0) w' = .ok undefV ((h4.put d.O (.cells 1 [o'])).put d.B (.cells 1 [w'])) ∧
      FSt b c h0 d v Q M (O ++ [i]) o' w' ((h4.put d.O (.cells 1 [o'])).put d.B (.cells 1 [w'])) ∧ Kept c h o w ((h4.put d.O (.cells 1 [o'])).put d.B (.cells 1 [w'])) o' w' := by
  have nx := t.nx; have kk := k; obtain ⟨a1, a2, a3, a4, a5, a6, a7⟩ := k
  have hc := t.hc h1
  have n1 := nx_new h A
  have n2 := nx_new (h.new A) B
  have g1 : Grow h.nx.nat h (h.new A) := Grow.new (Nat.le_refl _) A
  have hc1 := g1.hc hc
  have g2 : Grow (h.new A).nx.nat (h.new A) ((h.new A).new B) := Grow.new (Nat.le_refl _) B
  have g12 : Grow h.nx.nat h ((h.new A).new B) := g1.trans (g2.low (by omega))
  have hc2 := g2.hc hc1
  have sA : Sl nE (h.new A) (.sl h.nx 0 1 1) [i] := by subst hA; exact Sl.lit
  have sB : Sl nE ((h.new A).new B) (.sl (h.new A).nx 0 1 1) [Q.getD i 0] := by subst hB; exact Sl.lit
  obtain ⟨o', h3, p1, p2, p3, p4, p5⟩ := Sl.app (b := c) (t.so.grow hc g12) t.oo (by omega) (sA.grow hc1 g2) hc2 (by simp; omega)
  have hc3 := p4.hc hc2
  have nx3 := p4.nx
  have lo := t.so.lt hc
  have lw := t.sw.lt hc
  have oB : NotIn (h.new A).nx o := fun off n sz e => by have := lo _ _ _ _ e; omega
  have wB : NotIn (h.new A).nx w := fun off n sz e => by have := lw _ _ _ _ e; omega
  obtain ⟨b3, b4⟩ := p5 (h.new A).nx (by omega) oB
  have eB3 : h3.get (h.new A).nx = B := b3.trans get_new_same
  have sB3 : Sl nE h3 (.sl (h.new A).nx 0 1 1) [Q.getD i 0] := sB.same fun id off n sz e => by cases e; exact b3
  have sw3 : Sl nE h3 w (O.map fun i => Q.getD i 0) := (t.sw.grow hc g12).same fun id off n sz e => (p5 id (by have := lw _ _ _ _ e; omega) (t.ap.symm _ _ _ _ e)).1
  obtain ⟨w', h4, q1, q2, q3, q4, q5⟩ := Sl.app (b := c) sw3 t.ow (by omega) sB3 hc3 (by simp; omega)
  have nx4 := q4.nx
  have lo3 := p2.lt hc3
  -- the new order lies in no block of before
  have ow3 : Apart o' w := fun id off n sz e off' n' sz' e' => (p5 id (by have := lw _ _ _ _ e'; omega) (t.ap.symm _ _ _ _ e')).2 _ _ _ e
  have so4 : Sl nE h4 o' (O ++ [i]) := p2.same fun id off n sz e => (q5 id (lo3 _ _ _ _ e) (ow3 _ _ _ _ e)).1
  have ap4 : Apart o' w' := fun id off n sz e => (q5 id (lo3 _ _ _ _ e) (ow3 _ _ _ _ e)).2
  have gg : Grow c h h4 := ((g12.low (by omega)).trans p4).trans q4
  have sw4 : Sl nE h4 w' ((O ++ [i]).map fun i => Q.getD i 0) := by rw [List.map_append]; exact q2
  have eB3' : h3.get d.B = .cells 1 [w] := by rw [p4.old _ (by omega), g12.old _ (by omega)]; exact t.eB
  have eO4 : h4.get d.O = .cells 1 [o] := by rw [gg.old _ (by omega)]; exact t.eO
  have eB4 : (h4.put d.O (.cells 1 [o'])).get d.B = .cells 1 [w] := by rw [get_put_other (kNe (by omega)).symm, gg.old _ (by omega)]; exact t.eB
  refine ⟨o', w', h3, h4, p1, eB3', eB3, q1, ?_, ?_, t.turn kk gg so4 sw4 p3 q3 ap4, ?_⟩
  · rw [store_p eO4 p2.one (by omega)]; rfl
  · rw [store_p eB4 q2.one (by omega)]; rfl
  · refine ⟨by rw [nx_put, nx_put]; omega, fun id i1 i2 i3 i4 => ?_⟩
    obtain ⟨r1, r2⟩ := p5 id (by omega) i3
    obtain ⟨r3, r4⟩ := q5 id (by omega) i4
    refine ⟨?_, ?_, r4⟩
    · rw [get_put_other (kNe (by omega)).symm, get_put_other (kNe (by omega)).symm, r3, r1, g12.old _ i2]
    · exact r2
end
end Go.Ev
namespace Go.Ev
open Go Go.RowKit
noncomputable def f79_r0 : List EOper := [⟨(some (K.ofNat 6)), none, .box 10 (.t (K.ofNat 0))⟩, ⟨(some (K.ofNat 7)), none, .as (.c (.b false))⟩]
noncomputable def f79_r1 : List EOper := [⟨(some (K.ofNat 11)), none, .ld (.t (K.ofNat 1))⟩, ⟨(some (K.ofNat 12)), none, .len (.t (K.ofNat 11))⟩, ⟨(some (K.ofNat 13)), none, .ld (.t (K.ofNat 2))⟩, ⟨(some (K.ofNat 14)), none, .len (.t (K.ofNat 13))⟩, ⟨(some (K.ofNat 15)), none, .bin .eql (.t (K.ofNat 12)) (.t (K.ofNat 14))⟩]
noncomputable def f79_r2 : List EOper := [⟨(some (K.ofNat 7)), none, .as (.c (.b true))⟩]
noncomputable def f79_r3 : List EOper := [⟨(some (K.ofNat 16)), none, .ld (.t (K.ofNat 3))⟩, ⟨(some (K.ofNat 17)), none, .ldn 10 (.t (K.ofNat 6))⟩, ⟨(some (K.ofNat 18)), none, .look 89 (.many (List.replicate 10 none)) (.b false) (.t (K.ofNat 16)) (.t (K.ofNat 17)) false⟩]
noncomputable def f79_r4 : List EOper := [⟨(some (K.ofNat 7)), none, .as (.c (.b false))⟩]
noncomputable def f79_r5 : List EOper := [⟨(some (K.ofNat 19)), none, .ld (.t (K.ofNat 3))⟩, ⟨(some (K.ofNat 20)), none, .ldn 10 (.t (K.ofNat 6))⟩, ⟨none, none, .mupd 89 (.many (List.replicate 10 none)) (.t (K.ofNat 19)) (.t (K.ofNat 20)) (.c (.b true))⟩]
noncomputable def f79_r6 : List EOper := [⟨(some (K.ofNat 21)), none, .ld (.t (K.ofNat 2))⟩, ⟨(some (K.ofNat 22)), none, .len (.t (K.ofNat 21))⟩, ⟨(some (K.ofNat 23)), none, .mv (.c (.i .i64 (.ofNat 0)))⟩]
noncomputable def f79_r7 : List EOper := [⟨(some (K.ofNat 24)), none, .bin .lss (.t (K.ofNat 23)) (.t (K.ofNat 22))⟩]
noncomputable def f79_r8 : List EOper := [⟨(some (K.ofNat 25)), none, .mv (.t (K.ofNat 23))⟩, ⟨(some (K.ofNat 26)), none, .iads 1 (.t (K.ofNat 21)) (.t (K.ofNat 23))⟩, ⟨(some (K.ofNat 27)), none, .ld (.t (K.ofNat 26))⟩, ⟨(some (K.ofNat 8)), none, .as (.t (K.ofNat 25))⟩, ⟨(some (K.ofNat 9)), none, .as (.t (K.ofNat 27))⟩]
noncomputable def f79_r9 : List EOper := [⟨(some (K.ofNat 28)), none, .mv (.t (K.ofNat 8))⟩, ⟨(some (K.ofNat 29)), none, .iadr 10 1 (.t (K.ofNat 6)) (.t (K.ofNat 28))⟩, ⟨(some (K.ofNat 30)), none, .ld (.t (K.ofNat 29))⟩, ⟨(some (K.ofNat 31)), none, .mv (.t (K.ofNat 30))⟩, ⟨(some (K.ofNat 32)), (some ((K.ofNat 31), false)), .mv (.t (K.ofNat 9))⟩, ⟨(some (K.ofNat 33)), (some ((K.ofNat 31), false)), .ld (.t (K.ofNat 4))⟩, ⟨(some (K.ofNat 34)), (some ((K.ofNat 31), false)), .call (.c (.fn (K.ofNat 80) [])) [(.t (K.ofNat 32)), (.t (K.ofNat 33))]⟩, ⟨(some (K.ofNat 35)), (some ((K.ofNat 31), false)), .not (.t (K.ofNat 34))⟩, ⟨(some (K.ofNat 36)), none, .pick (.t (K.ofNat 31)) (.c (.b true)) (.t (K.ofNat 35))⟩]
noncomputable def f79_r10 : List Stage := [⟨[⟨(some (K.ofNat 37)), none, .ld (.t (K.ofNat 1))⟩, ⟨(some (K.ofNat 38)), none, .mv (.t (K.ofNat 8))⟩, ⟨(some (K.ofNat 39)), none, .bslice 1 1 [(.i .i64 (.ofNat 0))] [(0, 1, (.t (K.ofNat 38)))]⟩, ⟨(some (K.ofNat 41)), none, .ld (.t (K.ofNat 4))⟩, ⟨(some (K.ofNat 42)), none, .mv (.t (K.ofNat 9))⟩, ⟨(some (K.ofNat 43)), none, .bslice 1 1 [(.i .i64 (.ofNat 0))] [(0, 1, (.t (K.ofNat 42)))]⟩], [], (some ⟨(some (K.ofNat 40)), none, .app 1 (.t (K.ofNat 37)) (.t (K.ofNat 39))⟩), [(K.ofNat 39), (K.ofNat 43)]⟩, ⟨[], [⟨(some (K.ofNat 41)), none, .ld (.t (K.ofNat 4))⟩, ⟨(some (K.ofNat 42)), none, .mv (.t (K.ofNat 9))⟩, ⟨(some (K.ofNat 43)), none, .bslice 1 1 [(.i .i64 (.ofNat 0))] [(0, 1, (.t (K.ofNat 42)))]⟩], (some ⟨(some (K.ofNat 44)), none, .app 1 (.t (K.ofNat 41)) (.t (K.ofNat 43))⟩), []⟩, ⟨[], [], (some ⟨none, none, .st 1 (.t (K.ofNat 1)) (.t (K.ofNat 40))⟩), []⟩, ⟨[], [], (some ⟨none, none, .st 1 (.t (K.ofNat 4)) (.t (K.ofNat 44))⟩), []⟩, ⟨[], [], none, []⟩]
noncomputable def f79_r11 : List EOper := [⟨(some (K.ofNat 45)), none, .ldn 10 (.t (K.ofNat 6))⟩, ⟨(some (K.ofNat 10)), none, .alloc 10 (List.replicate 10 (.b false))⟩, ⟨none, none, .st 10 (.t (K.ofNat 10)) (.t (K.ofNat 45))⟩]
noncomputable def f79_r12 : List EOper := [⟨(some (K.ofNat 46)), none, .mv (.t (K.ofNat 8))⟩, ⟨(some (K.ofNat 47)), none, .iadr 10 1 (.t (K.ofNat 10)) (.t (K.ofNat 46))⟩, ⟨none, none, .st 1 (.t (K.ofNat 47)) (.c (.b true))⟩]
noncomputable def f79_r13 : List EOper := [⟨(some (K.ofNat 48)), none, .ld (.t (K.ofNat 5))⟩, ⟨(some (K.ofNat 49)), none, .ldn 10 (.t (K.ofNat 10))⟩, ⟨(some (K.ofNat 50)), none, .call (.t (K.ofNat 48)) [(.t (K.ofNat 49))]⟩]
noncomputable def f79_r14 : List EOper := [⟨(some (K.ofNat 7)), none, .as (.c (.b true))⟩]
noncomputable def f79_r15 : List Stage := [⟨[⟨(some (K.ofNat 51)), none, .ld (.t (K.ofNat 1))⟩, ⟨(some (K.ofNat 52)), none, .ld (.t (K.ofNat 1))⟩, ⟨(some (K.ofNat 53)), none, .len (.t (K.ofNat 52))⟩, ⟨(some (K.ofNat 54)), none, .bin .sub (.t (K.ofNat 53)) (.c (.i .i64 (.ofNat 1)))⟩, ⟨(some (K.ofNat 55)), none, .slice 1 (.t (K.ofNat 51)) none (some (.t (K.ofNat 54))) none⟩, ⟨(some (K.ofNat 56)), none, .ld (.t (K.ofNat 4))⟩, ⟨(some (K.ofNat 57)), none, .ld (.t (K.ofNat 4))⟩, ⟨(some (K.ofNat 58)), none, .len (.t (K.ofNat 57))⟩, ⟨(some (K.ofNat 59)), none, .bin .sub (.t (K.ofNat 58)) (.c (.i .i64 (.ofNat 1)))⟩, ⟨(some (K.ofNat 60)), none, .slice 1 (.t (K.ofNat 56)) none (some (.t (K.ofNat 59))) none⟩], [], (some ⟨none, none, .st 1 (.t (K.ofNat 1)) (.t (K.ofNat 55))⟩), []⟩, ⟨[], [⟨(some (K.ofNat 56)), none, .ld (.t (K.ofNat 4))⟩, ⟨(some (K.ofNat 57)), none, .ld (.t (K.ofNat 4))⟩, ⟨(some (K.ofNat 58)), none, .len (.t (K.ofNat 57))⟩, ⟨(some (K.ofNat 59)), none, .bin .sub (.t (K.ofNat 58)) (.c (.i .i64 (.ofNat 1)))⟩, ⟨(some (K.ofNat 60)), none, .slice 1 (.t (K.ofNat 56)) none (some (.t (K.ofNat 59))) none⟩], (some ⟨none, none, .st 1 (.t (K.ofNat 4)) (.t (K.ofNat 60))⟩), []⟩, ⟨[], [], none, []⟩]
noncomputable def f79_r16 : List EOper := [⟨(some (K.ofNat 61)), none, .bin .add (.t (K.ofNat 23)) (.c (.i .i64 (.ofNat 1)))⟩, ⟨(some (K.ofNat 23)), none, .mv (.t (K.ofNat 61))⟩]
noncomputable def f79_l0 : EC := (.seq (.reg f79_r7) (.seq (.cond (.t (K.ofNat 24)) .skip (.exit 0)) (.seq (.block 1 (.seq (.reg f79_r8) (.seq (.seq (.reg f79_r9) (.cond (.t (K.ofNat 36)) (.exit 1) .skip)) (.seq (.draw f79_r10) (.seq (.reg f79_r11) (.seq (.reg f79_r12) (.seq (.seq (.reg f79_r13) (.cond (.t (K.ofNat 50)) (.seq (.reg f79_r14) .ret) .skip)) (.draw f79_r15)))))))) (.reg f79_r16))))
noncomputable def f79_r17 : List EOper := [⟨(some (K.ofNat 7)), none, .as (.c (.b false))⟩]
noncomputable def f79_c : EC := (.seq (.reg f79_r0) (.seq (.seq (.reg f79_r1) (.cond (.t (K.ofNat 15)) (.seq (.reg f79_r2) .ret) .skip)) (.seq (.seq (.reg f79_r3) (.cond (.t (K.ofNat 18)) (.seq (.reg f79_r4) .ret) .skip)) (.seq (.reg f79_r5) (.seq (.seq (.reg f79_r6) (.block 0 (.loop f79_l0))) (.seq (.reg f79_r17) .ret))))))
noncomputable def f79 : EF := ⟨62, [.tmp (K.ofNat 7)], f79_c, none⟩
section
variable {fs : T EF} {ro : Option K}
/-- What the search needs to call. -/
structure Calls79 (fs : T EF) : Prop where
  p54 : ∀ a b h P, CallP fs (.fn (K.ofNat 54) []) [.i .i64 a, .i .i64 b] h P = P (.b (ptI a b)) h
  pt : ∃ ef, fs.get (K.ofNat 54) = some ef ∧ ef.nv = some (flatG partG)
  c82 : fs.get (K.ofNat 82) = some f82
  c92 : fs.get (K.ofNat 92) = some coF
  c83 : fs.get (K.ofNat 83) = some f83
  c61 : fs.get (K.ofNat 61) = some f61
  c80 : fs.get (K.ofNat 80) = some f80
  c79 : fs.get (K.ofNat 79) = some f79
structure Anti (Q : List Nat) : Prop where
  len : Q.length ≤ 10
  lt : ∀ y ∈ Q, y < 64
  no : ∀ i j, i < Q.length → j < Q.length → j ≠ i → Q.getD i 0 &&& Q.getD j 0 ≠ Q.getD i 0
def bitsA (m : Nat) : List Bool := arr (fun i => m.testBit i) 10
structure Post79 (b c : Nat) (h0 : H) (d : Ids) (v : V) (Q O : List Nat) (o w : V) (h : H) (r : Bool) (h' : H) : Prop where
  ex : ∃ M' O' o' w', FSt b c h0 d v Q M' O' o' w' h' ∧ Kept c h o w h' o' w' ∧ (r = true → Ord Q O' ∧ O'.length = Q.length) ∧ (r = false → O' = O ∧ Tri Q M' O ∧ ¬ Fin0 Q (setO O))
theorem bitsA_set {O : List Nat} {i : Nat} : (bitsA (setO O)).set i true = bitsA (setO (O ++ [i])) := by
  unfold bitsA
  rw [arr_set]
  apply arr_congr
  intro k _
  rw [setO_snoc, Nat.testBit_or, Nat.testBit_two_pow]
  by_cases e : k = i
  · subst e; simp
  · rw [if_neg e, decide_eq_false (fun h => e h.symm), Bool.or_false]
theorem bitsA_len {m : Nat} : (bitsA m).length = 10 := arr_len
end
end Go.Ev
namespace Go.Ev
open Go Go.RowKit
noncomputable def f59_r0 : List EOper := [⟨(some (K.ofNat 1)), none, .box 1 (.t (K.ofNat 0))⟩, ⟨(some (K.ofNat 2)), none, .as (.c .sn)⟩, ⟨(some (K.ofNat 3)), none, .as (.c (.b false))⟩]
noncomputable def f59_r1 : List EOper := [⟨(some (K.ofNat 4)), none, .alloc 1 [.sn]⟩, ⟨(some (K.ofNat 5)), none, .alloc 1 [.sn]⟩]
noncomputable def f59_r2 : List EOper := [⟨(some (K.ofNat 8)), none, .mkmap 89⟩, ⟨(some (K.ofNat 6)), none, .alloc 1 [.mn]⟩, ⟨none, none, .st 1 (.t (K.ofNat 6)) (.t (K.ofNat 8))⟩]
noncomputable def f59_r3 : List EOper := [⟨(some (K.ofNat 7)), none, .alloc 1 [.fnil]⟩]
noncomputable def f59_r4 : List EOper := [⟨(some (K.ofNat 9)), none, .mkfn (K.ofNat 79) [(.t (K.ofNat 4)), (.t (K.ofNat 1)), (.t (K.ofNat 6)), (.t (K.ofNat 5)), (.t (K.ofNat 7))]⟩, ⟨none, none, .st 1 (.t (K.ofNat 7)) (.t (K.ofNat 9))⟩]
noncomputable def f59_r5 : List EOper := [⟨(some (K.ofNat 10)), none, .ld (.t (K.ofNat 7))⟩, ⟨(some (K.ofNat 11)), none, .build (List.replicate 10 (.b false)) []⟩, ⟨(some (K.ofNat 12)), none, .call (.t (K.ofNat 10)) [(.t (K.ofNat 11))]⟩, ⟨(some (K.ofNat 13)), none, .not (.t (K.ofNat 12))⟩]
noncomputable def f59_r6 : List EOper := [⟨(some (K.ofNat 2)), none, .as (.c .sn)⟩, ⟨(some (K.ofNat 3)), none, .as (.c (.b false))⟩]
noncomputable def f59_r7 : List EOper := [⟨(some (K.ofNat 14)), none, .ld (.t (K.ofNat 4))⟩, ⟨(some (K.ofNat 2)), none, .as (.t (K.ofNat 14))⟩, ⟨(some (K.ofNat 3)), none, .as (.c (.b true))⟩]
noncomputable def f59_c : EC := (.seq (.reg f59_r0) (.seq (.reg f59_r1) (.seq (.reg f59_r2) (.seq (.reg f59_r3) (.seq (.reg f59_r4) (.seq (.seq (.reg f59_r5) (.cond (.t (K.ofNat 13)) (.seq (.reg f59_r6) .ret) .skip)) (.seq (.reg f59_r7) .ret)))))))
noncomputable def f59 : EF := ⟨15, [.tmp (K.ofNat 2), .tmp (K.ofNat 3)], f59_c, none⟩
noncomputable def f21_r0 : List EOper := [⟨(some (K.ofNat 4)), none, .as (.c .sn)⟩, ⟨(some (K.ofNat 5)), none, .as (.c (.b false))⟩, ⟨(some (K.ofNat 6)), none, .as (.c (.i .i64 (.ofNat 0)))⟩]
noncomputable def f21_r1 : List EOper := [⟨(some (K.ofNat 10)), none, .mv (.t (K.ofNat 0))⟩, ⟨(some (K.ofNat 11)), none, .mv (.t (K.ofNat 1))⟩, ⟨(some (K.ofNat 12)), none, .call (.c (.fn (K.ofNat 16) [])) [(.t (K.ofNat 10)), (.t (K.ofNat 11))]⟩, ⟨(some (K.ofNat 7)), none, .as (.t (K.ofNat 12))⟩]
noncomputable def f21_r2 : List EOper := [⟨(some (K.ofNat 13)), none, .mv (.t (K.ofNat 7))⟩, ⟨(some (K.ofNat 14)), none, .bin .neq (.t (K.ofNat 13)) (.c (.i .i64 (.ofNat 0)))⟩]
noncomputable def f21_r3 : List EOper := [⟨(some (K.ofNat 15)), none, .mv (.t (K.ofNat 7))⟩, ⟨(some (K.ofNat 4)), none, .as (.c .sn)⟩, ⟨(some (K.ofNat 5)), none, .as (.c (.b false))⟩, ⟨(some (K.ofNat 6)), none, .as (.t (K.ofNat 15))⟩]
noncomputable def f21_r4 : List EOper := [⟨(some (K.ofNat 16)), none, .mv (.t (K.ofNat 1))⟩, ⟨(some (K.ofNat 17)), none, .call (.c (.fn (K.ofNat 58) [])) [(.t (K.ofNat 16))]⟩, ⟨(some (K.ofNat 18)), none, .not (.t (K.ofNat 17))⟩]
noncomputable def f21_r5 : List EOper := [⟨(some (K.ofNat 4)), none, .as (.c .sn)⟩, ⟨(some (K.ofNat 5)), none, .as (.c (.b false))⟩, ⟨(some (K.ofNat 6)), none, .as (.c (.i .i64 (.ofNat 0)))⟩]
noncomputable def f21_r6 : List EOper := [⟨(some (K.ofNat 20)), none, .mv (.t (K.ofNat 1))⟩, ⟨(some (K.ofNat 21)), none, .call (.c (.fn (K.ofNat 59) [])) [(.t (K.ofNat 20))]⟩, ⟨(some (K.ofNat 19)), none, .mv (.t (K.ofNat 21))⟩, ⟨(some (K.ofNat 22)), none, .ext (.t (K.ofNat 19)) 0⟩, ⟨(some (K.ofNat 23)), none, .ext (.t (K.ofNat 19)) 1⟩, ⟨(some (K.ofNat 8)), none, .as (.t (K.ofNat 22))⟩, ⟨(some (K.ofNat 9)), none, .as (.t (K.ofNat 23))⟩]
noncomputable def f21_r7 : List EOper := [⟨(some (K.ofNat 24)), none, .mv (.t (K.ofNat 8))⟩, ⟨(some (K.ofNat 25)), none, .mv (.t (K.ofNat 9))⟩, ⟨(some (K.ofNat 4)), none, .as (.t (K.ofNat 24))⟩, ⟨(some (K.ofNat 5)), none, .as (.t (K.ofNat 25))⟩, ⟨(some (K.ofNat 6)), none, .as (.c (.i .i64 (.ofNat 0)))⟩]
noncomputable def f21_c : EC := (.seq (.reg f21_r0) (.seq (.seq (.reg f21_r1) (.seq (.reg f21_r2) (.cond (.t (K.ofNat 14)) (.seq (.reg f21_r3) .ret) .skip))) (.seq (.seq (.reg f21_r4) (.cond (.t (K.ofNat 18)) (.seq (.reg f21_r5) .ret) .skip)) (.seq (.reg f21_r6) (.seq (.reg f21_r7) .ret)))))
noncomputable def f21 : EF := ⟨26, [.tmp (K.ofNat 4), .tmp (K.ofNat 5), .tmp (K.ofNat 6)], f21_c, none⟩
section
variable {fs : T EF} {ro : Option K}
structure Found (Q : List Nat) (h h' : H) (x : Bool) (u : V) : Prop where
  gr : Grow h.nx.nat h h'
  yes : x = true → ∃ O, Sl nE h' u O ∧ Own h.nx.nat u ∧ Ord Q O ∧ O.length = Q.length
  no : x = false → u = .sn ∧ ¬ Fin0 Q 0
end
end Go.Ev
namespace Go.Ev
open Go Go.RowKit
structure Cpx (N : Int) (P : List Int) : Prop where
  chk : chkS N P = 0
  ne : P ≠ []
  ex : ∃ Q, P = castL Q ∧ Anti Q
theorem cast_toNat : ∀ {P : List Int}, (∀ x ∈ P, 0 ≤ x) → castL (P.map Int.toNat) = P
  | [], _ => rfl
  | x :: P, h => by
    have ih := cast_toNat (P := P) fun y hy => h y (List.mem_cons_of_mem _ hy)
    have hx := h x (by simp)
    unfold castL at ih ⊢
    rw [List.map_cons, List.map_cons, ih]
    congr 1
    show ((x.toNat : Nat) : Int) = x
    omega
theorem cpx_of {N : Int} {P : List Int} (h1 : 1 ≤ N) (h6 : N ≤ 6) (hne : P ≠ []) (hl : P.length ≤ 10) (hs : P.Pairwise (· < ·)) (hin : ∀ x ∈ P, 1 ≤ x ∧ x < 2 ^ N.toNat) (ha : ∀ x ∈ P, ∀ y ∈ P, y = x ∨ ptI x y = false) : Cpx N P := by
  refine ⟨chk_good h1 h6 hne hl hs hin ha, hne, P.map Int.toNat, (cast_toNat fun x hx => by have := (hin x hx).1; omega).symm, ?_⟩
  obtain ⟨hpw, hpe⟩ := pow_n h1 h6
  have hlt : ∀ y ∈ P.map Int.toNat, y < 64 := by
    intro y hy
    obtain ⟨x, hx, rfl⟩ := List.mem_map.1 hy
    have := hin x hx
    omega
  refine ⟨by simpa using hl, hlt, fun i j hi hj hne => ?_⟩
  have hi' : i < P.length := by simpa using hi
  have hj' : j < P.length := by simpa using hj
  have ei : (P.map Int.toNat).getD i 0 = P[i].toNat := by simp [List.getD, hi']
  have ej : (P.map Int.toNat).getD j 0 = P[j].toNat := by simp [List.getD, hj']
  have pi := hin _ (List.getElem_mem hi')
  have pj := hin _ (List.getElem_mem hj')
  have ci : ((P[i].toNat : Nat) : Int) = P[i] := by omega
  have cj : ((P[j].toNat : Nat) : Int) = P[j] := by omega
  rw [ei, ej]
  intro e
  rcases ha _ (List.getElem_mem hi') _ (List.getElem_mem hj') with h | h
  · rw [List.pairwise_iff_getElem] at hs
    rcases Nat.lt_or_gt_of_ne hne with h2 | h2
    · have := hs j i hj' hi' h2; omega
    · have := hs i j hi' hj' h2; omega
  · rw [← ci, ← cj, ptI_nat (by omega) (by omega), decide_eq_true e] at h
    cases h
theorem cpx_tame (n : Int) (L : List Int) : Cpx (tameN n) ((tameP (tameN n) L).take 10) := by
  obtain ⟨n1, n6⟩ := tameN_in n
  obtain ⟨f1, f2, f3, f4, f5⟩ := facts_P (N := tameN n) (L := L) n1 n6
  exact cpx_of n1 n6 f1 f2 f3 f4 f5
theorem cpx_pure (n : Int) (L : List Int) : Cpx (tameN n) (pureL ((tameP (tameN n) L).take 10) ((tameP (tameN n) L).take 10)) := by
  obtain ⟨n1, n6⟩ := tameN_in n
  obtain ⟨f1, f2, f3, f4, f5⟩ := facts_P (N := tameN n) (L := L) n1 n6
  generalize (tameP (tameN n) L).take 10 = P at *
  have hsub : ∀ x ∈ pureL P P, x ∈ P := fun x hx => (List.mem_filter.1 hx).1
  refine cpx_of n1 n6 ?_ (Nat.le_trans pureL_len f2) (f3.sublist List.filter_sublist) (fun x hx => f4 x (hsub x hx)) (fun x hx y hy => f5 x (hsub x hx) y (hsub y hy))
  intro e
  have hm : P.getLastD 0 ∈ P := by
    cases P with
    | nil => exact absurd rfl f1
    | cons a l => simp [List.getLastD]
  have : P.getLastD 0 ∈ pureL P P := List.mem_filter.2 ⟨hm, by simp⟩
  rw [e] at this; cases this
end Go.Ev
namespace Go.Ev
open Go Go.RowKit
/-- The pieces of an order, and their new parts. -/
def pcsO (Q O : List Nat) : List Nat := O.map fun i => Q.getD i 0
noncomputable def newsO (Q O : List Nat) : List Nat := (List.range O.length).map fun i => newPS (Q.getD (O.getD i 0) 0) (castL (pcsO Q (O.take i)))
theorem newsO_len {Q O : List Nat} : (newsO Q O).length = O.length := by unfold newsO; simp
theorem pcsO_snoc {Q O : List Nat} {i : Nat} : pcsO Q (O ++ [i]) = pcsO Q O ++ [Q.getD i 0] := by unfold pcsO; simp
theorem castL_snoc {B : List Nat} {x : Nat} : castL (B ++ [x]) = castL B ++ [(x : Int)] := by unfold castL; simp
theorem getD_mem {Q : List Nat} {i : Nat} (h : i < Q.length) : Q.getD i 0 ∈ Q := by simp [List.getD, h]
end Go.Ev
