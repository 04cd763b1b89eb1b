/-
  Bern: corners that are arguments (101, 78), powers (102), what is left (113)., and what follows.
-/
import Derived.Test.YtahogmegmjpndaaDoorPe
namespace Go.Ev
open Go Go.RowKit
noncomputable def f101_r0 : List EOper := [oG 1 (.box 2 (tG 0)), oG 2 (.as (.c (.b false)))]
noncomputable def f101_r1 : List Stage := [⟨[oG 5 (.iadr 2 1 (tG 1) (cG 0)), oG 6 (.ld (tG 5)), oG 7 (.iadr 2 1 (tG 1) (cG 1)), oG 8 (.ld (tG 7))], [], (some (oG 3 (.as (tG 6)))), []⟩, ⟨[], [oG 7 (.iadr 2 1 (tG 1) (cG 1)), oG 8 (.ld (tG 7))], (some (oG 4 (.as (tG 8)))), []⟩, ⟨[], [], none, []⟩]
noncomputable def f101_r2 : List EOper := [oG 9 (.mv (tG 3)), oG 10 (.bin .lss (tG 9) (.c (.i .i64 (.negSucc 999999)))), oG 11 (.mv (tG 10)), gG 12 11 false (.mv (tG 3)), gG 13 11 false (.bin .gtr (tG 12) (cG 1000000)), oG 14 (.pick (tG 11) (.c (.b true)) (tG 13)), oG 15 (.mv (tG 14)), gG 16 15 false (.mv (tG 4)), gG 17 15 false (.bin .lss (tG 16) (cG 1)), oG 18 (.pick (tG 15) (.c (.b true)) (tG 17)), oG 19 (.mv (tG 18)), gG 20 19 false (.mv (tG 4)), gG 21 19 false (.bin .rem (cG 240) (tG 20)), gG 22 19 false (.bin .neq (tG 21) (cG 0)), oG 23 (.pick (tG 19) (.c (.b true)) (tG 22))]
noncomputable def f101_r3 : List EOper := [oG 2 (.as (.c (.b false)))]
noncomputable def f101_r4 : List EOper := [oG 24 (.mv (tG 3)), oG 25 (.mv (tG 4)), oG 26 (.call (fG 104) [(tG 24), (tG 25)]), oG 27 (.bin .eql (tG 26) (cG 1)), oG 2 (.as (tG 27))]
noncomputable def f101_c : EC := (.seq (.reg f101_r0) (.seq (.draw f101_r1) (.seq (.seq (.reg f101_r2) (.cond (tG 23) (.seq (.reg f101_r3) .ret) .skip)) (.seq (.reg f101_r4) .ret))))
noncomputable def f101 : EF := ⟨28, [.tmp (.ofNat 2)], f101_c, none⟩
theorem f101_rs : f101.rs = [.tmp (.ofNat 2)] := of_eq_true (eq_self _)
noncomputable def f78_r0 : List EOper := [oG 2 (.alloc 2 [.sn, (.i .i64 (.ofNat 0))]), oG 3 (.as (.c (.b false)))]
noncomputable def f78_r1 : List EOper := [oG 7 (.mv (tG 0)), oG 8 (.len (tG 7)), oG 9 (.bin .lss (tG 8) (cG 1)), oG 10 (.mv (tG 9)), gG 11 10 false (.mv (tG 0)), gG 12 10 false (.len (tG 11)), gG 13 10 false (.bin .gtr (tG 12) (cG 7)), oG 14 (.pick (tG 10) (.c (.b true)) (tG 13))]
noncomputable def f78_r2 : List EOper := [oG 15 (.build [.sn, (.i .i64 (.ofNat 0))] []), ⟨none, none, .st 2 (tG 2) (tG 15)⟩, oG 3 (.as (.c (.b false)))]
noncomputable def f78_r3 : List EOper := [oG 16 (.mv (tG 0)), oG 17 (.len (tG 16)), oG 18 (.mkslice 1 [(.i .i64 (.ofNat 0))] (tG 17)), oG 19 (.build [.sn, (.i .i64 (.ofNat 0))] [(0, 1, (tG 18)), (1, 1, (cG 240))]), oG 4 (.alloc 2 [.sn, (.i .i64 (.ofNat 0))]), ⟨none, none, .st 2 (tG 4) (tG 19)⟩]
noncomputable def f78_r4 : List EOper := [oG 20 (.mv (tG 0)), oG 21 (.len (tG 20)), oG 22 (.mv (cG 0))]
noncomputable def f78_r5 : List EOper := [oG 23 (.bin .lss (tG 22) (tG 21))]
noncomputable def f78_r6 : List EOper := [oG 24 (.mv (tG 22)), oG 25 (.iads 2 (tG 20) (tG 22)), oG 26 (.ldn 2 (tG 25)), oG 6 (.alloc 2 [(.i .i64 (.ofNat 0)), (.i .i64 (.ofNat 0))]), oG 5 (.as (tG 24)), ⟨none, none, .st 2 (tG 6) (tG 26)⟩]
noncomputable def f78_r7 : List EOper := [oG 27 (.ldn 2 (tG 6)), oG 28 (.call (fG 101) [(tG 27)]), oG 29 (.not (tG 28))]
noncomputable def f78_r8 : List EOper := [oG 30 (.build [.sn, (.i .i64 (.ofNat 0))] []), ⟨none, none, .st 2 (tG 2) (tG 30)⟩, oG 3 (.as (.c (.b false)))]
noncomputable def f78_r9 : List Stage := [⟨[oG 31 (.fadr 0 (tG 4)), oG 32 (.ld (tG 31)), oG 33 (.mv (tG 5)), oG 34 (.iadr 2 1 (tG 6) (cG 0)), oG 35 (.ld (tG 34)), oG 36 (.iadr 2 1 (tG 6) (cG 1)), oG 37 (.ld (tG 36)), oG 38 (.bin .quo (cG 240) (tG 37)), oG 39 (.bin .mul (tG 35) (tG 38)), oG 40 (.iads 1 (tG 32) (tG 33))], [], (some ⟨none, none, .st 1 (tG 40) (tG 39)⟩), []⟩, ⟨[], [], none, []⟩]
noncomputable def f78_r10 : List EOper := [oG 41 (.bin .add (tG 22) (cG 1)), oG 22 (.mv (tG 41))]
noncomputable def f78_l0 : EC := (.seq (.reg f78_r5) (.seq (.cond (tG 23) .skip (.exit 0)) (.seq (.block 1 (.seq (.reg f78_r6) (.seq (.seq (.reg f78_r7) (.cond (tG 29) (.seq (.reg f78_r8) .ret) .skip)) (.draw f78_r9)))) (.reg f78_r10))))
noncomputable def f78_r11 : List EOper := [oG 42 (.ldn 2 (tG 4)), ⟨none, none, .st 2 (tG 2) (tG 42)⟩, oG 3 (.as (.c (.b true)))]
noncomputable def f78_c : EC := (.seq (.reg f78_r0) (.seq (.seq (.reg f78_r1) (.cond (tG 14) (.seq (.reg f78_r2) .ret) .skip)) (.seq (.reg f78_r3) (.seq (.seq (.reg f78_r4) (.block 0 (.loop f78_l0))) (.seq (.reg f78_r11) .ret)))))
noncomputable def f78 : EF := ⟨43, [.celln (.ofNat 2) 2, .tmp (.ofNat 3)], f78_c, none⟩
theorem f78_rs : f78.rs = [.celln (.ofNat 2) 2, .tmp (.ofNat 3)] := of_eq_true (eq_self _)
noncomputable def f102_r0 : List EOper := [oG 4 (.as (cG 0))]
noncomputable def f102_r1 : List EOper := [oG 5 (.as (cG 1))]
noncomputable def f102_r2 : List EOper := [oG 6 (.mv (tG 1)), oG 7 (.mv (cG 0))]
noncomputable def f102_r3 : List EOper := [oG 8 (.bin .lss (tG 7) (tG 6))]
noncomputable def f102_r4 : List EOper := [oG 9 (.mv (tG 5)), oG 10 (.mv (tG 0)), oG 11 (.bin .mul (tG 9) (tG 10)), oG 5 (.as (tG 11))]
noncomputable def f102_r5 : List EOper := [oG 12 (.bin .add (tG 7) (cG 1)), oG 7 (.mv (tG 12))]
noncomputable def f102_l0 : EC := (.seq (.reg f102_r3) (.seq (.cond (tG 8) .skip (.exit 0)) (.seq (.block 1 (.reg f102_r4)) (.reg f102_r5))))
noncomputable def f102_r6 : List EOper := [oG 13 (.mv (tG 5)), oG 4 (.as (tG 13))]
noncomputable def f102_c : EC := (.seq (.reg f102_r0) (.seq (.reg f102_r1) (.seq (.seq (.reg f102_r2) (.block 0 (.loop f102_l0))) (.seq (.reg f102_r6) .ret))))
noncomputable def f102 : EF := ⟨14, [.tmp (.ofNat 4)], f102_c, none⟩
theorem f102_rs : f102.rs = [.tmp (.ofNat 4)] := of_eq_true (eq_self _)
noncomputable def f113_r0 : List EOper := [oG 1 (.box 2 (tG 0)), oG 2 (.as (cG 0))]
noncomputable def f113_r1 : List EOper := [oG 3 (.fadr 1 (tG 1)), oG 4 (.ld (tG 3)), oG 5 (.fadr 0 (tG 1)), oG 6 (.ld (tG 5)), oG 7 (.bin .sub (tG 4) (tG 6)), oG 2 (.as (tG 7))]
noncomputable def f113_c : EC := (.seq (.reg f113_r0) (.seq (.reg f113_r1) .ret))
noncomputable def f113 : EF := ⟨8, [.tmp (.ofNat 2)], f113_c, none⟩
theorem f113_rs : f113.rs = [.tmp (.ofNat 2)] := of_eq_true (eq_self _)
section
variable {fs : T EF} {h : H} {v w : V} {C : List (Int × Int)} {a b : Int}
theorem ng6 : Int.negSucc 999999 = -1000000 := of_eq_true (eq_self _)
theorem of1e6 : Int.ofNat 1000000 = 1000000 := of_eq_true (eq_self _)
theorem of240 : Int.ofNat 240 = 240 := of_eq_true (eq_self _)
def coB (a b : Int) : Bool := decide (-1000000 ≤ a ∧ a ≤ 1000000 ∧ 1 ≤ b ∧ (240 : Int).tmod b = 0 ∧ Int.gcd a b = 1)
theorem coB_iff : coB a b = true ↔ -1000000 ≤ a ∧ a ≤ 1000000 ∧ 1 ≤ b ∧ (240 : Int).tmod b = 0 ∧ Int.gcd a b = 1 := by unfold coB; rw [decide_eq_true_eq]
theorem dv240 {b : Int} (_ : 1 ≤ b) (h2 : (240 : Int).tmod b = 0) : b ≤ 240 ∧ b ∣ 240 := by
  have hd : b ∣ 240 := Int.dvd_of_tmod_eq_zero h2
  exact ⟨Int.le_of_dvd (by decide) hd, hd⟩
theorem f101_ret (k104 : fs.get (.ofNat 104) = some f104) : Ret fs f101 [.agg [.i .i64 a, .i .i64 b]] h fun r h' => r = .b (coB a b) ∧ Grow h.nx.nat h h' := by
  apply ret_of rfl
  show W fs none f101_c _ _ _
  unfold f101_c
  have gA := Grow.new (Nat.le_refl h.nx.nat) (.cells 2 [.i .i64 a, .i .i64 b])
  have b1 : (h.new (.cells 2 [.i .i64 a, .i .i64 b])).get h.nx = .cells 2 [.i .i64 a, .i .i64 b] := get_new_same
  simp (disch := omega) only [f101_r0, ↓reduceIte, bz]
  generalize h.new (.cells 2 [.i .i64 a, .i .i64 b]) = hA at *
  have l1 : loadV hA (.p h.nx 0) one? = .ok (.i .i64 a) hA := load_p b1 rfl
  have l2 : loadV hA (.p h.nx 1) one? = .ok (.i .i64 b) hA := load_p b1 rfl
  have no : (¬ (-1000000 ≤ a ∧ a ≤ 1000000 ∧ 1 ≤ b ∧ (240 : Int).tmod b = 0 ∧ Int.gcd a b = 1)) → coB a b = false := fun hn => Bool.eq_false_iff.2 fun e => hn (coB_iff.1 e)
  by_cases c1 : a < -1000000
  · have d1 : decide (a < -1000000) = true := decide_eq_true c1
    have e := no (by omega)
    simp (disch := omega) only [f101_r1, f101_r2, f101_r3, f101_rs, Option.some.injEq, exists_eq_left', Nat.reduceEqDiff, ↓reduceIte, Bool.false_eq_true, Bool.not_true, l1, l2, ng6, d1, e, bz]
    exact gA
  have d1 : decide (a < -1000000) = false := decide_eq_false c1
  by_cases c2 : a > 1000000
  · have d2 : decide (a > 1000000) = true := decide_eq_true c2
    have e := no (by omega)
    simp (disch := omega) only [f101_r1, f101_r2, f101_r3, f101_rs, Option.some.injEq, exists_eq_left', Nat.reduceEqDiff, ↓reduceIte, Bool.false_eq_true, Bool.not_true, Bool.not_false, l1, l2, ng6, of1e6, d1, d2, e, bz]
    exact gA
  have d2 : decide (a > 1000000) = false := decide_eq_false c2
  by_cases c3 : b < 1
  · have d3 : decide (b < 1) = true := decide_eq_true c3
    have e := no (by omega)
    simp (disch := omega) only [f101_r1, f101_r2, f101_r3, f101_rs, Option.some.injEq, exists_eq_left', Nat.reduceEqDiff, ↓reduceIte, Bool.false_eq_true, Bool.not_true, Bool.not_false, l1, l2, ng6, of1e6, d1, d2, d3, e, bz]
    exact gA
  have d3 : decide (b < 1) = false := decide_eq_false c3
  have d0 : decide (b = 0) = false := decide_eq_false (by omega)
  have hw : fw .i64 ((240 : Int).tmod b) = (240 : Int).tmod b := by
    have := Int.emod_nonneg 240 (show b ≠ 0 by omega)
    have h2 := Int.emod_lt_of_pos 240 (show 0 < b by omega)
    have h3 : (240 : Int) % b ≤ 240 := by
      have := Int.emod_add_mul_ediv 240 b
      have h4 : 0 ≤ b * (240 / b) := Int.mul_nonneg (by omega) (Int.ediv_nonneg (by decide) (by omega))
      omega
    rw [Int.tmod_eq_emod_of_nonneg (by decide)]
    exact fw64 (by omega) (by omega)
  by_cases c4 : (240 : Int).tmod b = 0
  · have d4 : decide ((240 : Int).tmod b ≠ 0) = false := decide_eq_false (fun e => e c4)
    have hb := (dv240 (by omega) c4).1
    have eg := fun P => f104_eq (h := hA) (P := P) k104 (a := a) (b := b) (by unfold M63; omega) (by unfold M63; omega)
    have e : coB a b = decide (((Int.gcd a b : Nat) : Int) = 1) := by
      rw [Bool.eq_iff_iff, coB_iff, decide_eq_true_eq]
      constructor
      · rintro ⟨_, _, _, _, e⟩; omega
      · intro e; exact ⟨by omega, by omega, by omega, c4, by omega⟩
    simp (disch := omega) only [f101_r1, f101_r2, f101_r4, f101_rs, Option.some.injEq, exists_eq_left', Nat.reduceEqDiff, ↓reduceIte, Bool.false_eq_true, Bool.not_false, l1, l2, ng6, of1e6, of240, d1, d2, d3, d4, eg, e, bz]
    exact gA
  · have d4 : decide ((240 : Int).tmod b ≠ 0) = true := decide_eq_true c4
    have e := no (fun h => c4 h.2.2.2.1)
    simp (disch := omega) only [f101_r1, f101_r2, f101_r3, f101_rs, Option.some.injEq, exists_eq_left', Nat.reduceEqDiff, ↓reduceIte, Bool.false_eq_true, Bool.not_false, l1, l2, ng6, of1e6, of240, d1, d2, d3, d4, e, bz]
    exact gA
def f102_I (h0 : H) (u n i : Nat) (fr : Fr) (h1 : H) : Prop := i ≤ n ∧ h1 = h0 ∧ fr.get (K.ofNat 0) = some (.i .i64 (u : Int)) ∧ fr.get (K.ofNat 5) = some (.i .i64 ((u ^ i : Nat) : Int)) ∧ fr.get (K.ofNat 6) = some (.i .i64 (n : Int)) ∧ fr.get (K.ofNat 7) = some (.i .i64 (i : Int))
theorem f102_ret {u n : Nat} (hu : u ≤ 16) (hn : n ≤ 7) : Ret fs f102 [.i .i64 (u : Int), .i .i64 (n : Int)] h fun r h' => r = .i .i64 ((u ^ n : Nat) : Int) ∧ h' = h := by
  apply ret_of rfl
  show W fs none f102_c _ _ _
  unfold f102_c
  have e0 : ((u ^ 0 : Nat) : Int) = 1 := rfl
  simp (disch := omega) only [f102_r0, f102_r1, f102_r2, Nat.reduceEqDiff, ↓reduceIte, bz]
  refine W_loop (f102_I h u n) (fun i => n - i) ?_ 0 ⟨by omega, rfl, by simp (disch := omega) only [getK_set, Nat.reduceEqDiff, ↓reduceIte, and_self, Int.natCast_zero, e0]⟩
  rintro i fr h1 ⟨hi, rfl, g0, g5, g6, g7⟩
  unfold f102_l0
  by_cases hlt : i < n
  · have d1 : decide ((i : Int) < (n : Int)) = true := decide_eq_true (by omega)
    have e4 : fw .i64 ((i : Int) + 1) = ((i + 1 : Nat) : Int) := by rw [fw64 (by omega) (by omega)]; rfl
    have P := pow_le7 (u := u) (by omega) (j := i + 1) (by omega)
    have ew : fw .i64 (((u ^ i : Nat) : Int) * (u : Int)) = ((u ^ (i + 1) : Nat) : Int) := by rw [← Int.natCast_mul, show u ^ i * u = u ^ (i + 1) from (Nat.pow_succ ..).symm]; exact fw64 (by omega) (by omega)
    simp (disch := omega) only [f102_r3, f102_r4, f102_r5, Nat.reduceEqDiff, ↓reduceIte, g0, g5, g6, g7, d1, e4, ew, bz]
    exact ⟨i + 1, by omega, by omega, rfl, by simp (disch := omega) only [getK_set, Nat.reduceEqDiff, ↓reduceIte, g0, g6, and_self]⟩
  · have d1 : decide ((i : Int) < (n : Int)) = false := decide_eq_false (by omega)
    obtain rfl : i = n := by omega
    simp (disch := omega) only [f102_r3, f102_r6, f102_rs, Option.some.injEq, exists_eq_left', Nat.reduceEqDiff, ↓reduceIte, Bool.false_eq_true, g5, g6, g7, d1, and_self, bz]
theorem f102_eq {u n : Nat} (k102 : fs.get (.ofNat 102) = some f102) (hu : u ≤ 16) (hn : n ≤ 7) {P : V → H → Prop} : CallP fs (.fn (.ofNat 102) []) [.i .i64 (u : Int), .i .i64 (n : Int)] h P = P (.i .i64 ((u ^ n : Nat) : Int)) h := callP_eq2 (callP_0 k102 rfl (f102_ret hu hn))
theorem f113_ret {o u : Nat} (ho : o ≤ u) (hu : u ≤ 64) : Ret fs f113 [.agg [.i .i64 (o : Int), .i .i64 (u : Int)]] h fun r h' => r = .i .i64 ((u : Int) - (o : Int)) ∧ Grow h.nx.nat h h' := by
  apply ret_of rfl
  show W fs none f113_c _ _ _
  unfold f113_c
  have gA := Grow.new (Nat.le_refl h.nx.nat) (.cells 2 [.i .i64 (o : Int), .i .i64 (u : Int)])
  have b1 : (h.new (.cells 2 [.i .i64 (o : Int), .i .i64 (u : Int)])).get h.nx = .cells 2 [.i .i64 (o : Int), .i .i64 (u : Int)] := get_new_same
  have l1 : loadV (h.new (.cells 2 [.i .i64 (o : Int), .i .i64 (u : Int)])) (.p h.nx 0) one? = .ok (.i .i64 (o : Int)) _ := load_p b1 rfl
  have l2 : loadV (h.new (.cells 2 [.i .i64 (o : Int), .i .i64 (u : Int)])) (.p h.nx 1) one? = .ok (.i .i64 (u : Int)) _ := load_p b1 rfl
  have e : fw .i64 ((u : Int) - (o : Int)) = (u : Int) - (o : Int) := fw64 (by omega) (by omega)
  simp (disch := omega) only [f113_r0, f113_r1, f113_rs, Option.some.injEq, exists_eq_left', Nat.reduceEqDiff, ↓reduceIte, l1, l2, e, bz]
  exact gA
def gvL (C : List (Int × Int)) : List Int := C.map fun x => x.1 * (240 : Int).tdiv x.2
def gvB (C : List (Int × Int)) : Bool := decide (1 ≤ C.length) && (decide (C.length ≤ 7) && C.all fun x => coB x.1 x.2)
theorem gv_le {C : List (Int × Int)} (hC : ∀ x ∈ C, coB x.1 x.2 = true) (i : Nat) : ((gvL C).getD i 0).natAbs ≤ 240000000 := by
  rw [List.getD_eq_getElem?_getD]
  by_cases hi : i < (gvL C).length
  · rw [List.getElem?_eq_getElem hi]
    have hi' : i < C.length := by simpa [gvL] using hi
    show ((gvL C)[i]).natAbs ≤ _
    have e : (gvL C)[i] = C[i].1 * (240 : Int).tdiv C[i].2 := by simp [gvL]
    rw [e]
    obtain ⟨c1, c2, c3, c4, _⟩ := coB_iff.1 (hC _ (List.getElem_mem hi'))
    have hd := dv240 c3 c4
    have q : ((240 : Int).tdiv C[i].2).natAbs ≤ 240 := by rw [Int.natAbs_tdiv]; exact Nat.div_le_self _ _
    exact nm (M := 1000000) (by omega) q
  · rw [List.getElem?_eq_none (by omega)]; decide
def gvP (C : List (Int × Int)) (i : Nat) : List Int := (gvL C).take i ++ List.replicate (C.length - i) 0
theorem gvL_len : (gvL C).length = C.length := by simp [gvL]
theorem gvP_len {i : Nat} (hi : i ≤ C.length) : (gvP C i).length = C.length := by unfold gvP; rw [List.length_append, List.length_take, List.length_replicate, gvL_len]; omega
theorem gvP_set {i : Nat} (hi : i < C.length) : (gvP C i).set i (C[i].1 * (240 : Int).tdiv C[i].2) = gvP C (i + 1) := by
  have hl : i < (gvL C).length := by rw [gvL_len]; exact hi
  have e : (gvL C)[i] = C[i].1 * (240 : Int).tdiv C[i].2 := by simp [gvL]
  unfold gvP
  rw [List.set_append_right _ _ (by rw [List.length_take]; omega), List.take_succ_eq_append_getElem hl, e, List.append_assoc]
  congr 1
  rw [show i - ((gvL C).take i).length = 0 by rw [List.length_take]; omega, show C.length - i = (C.length - (i + 1)) + 1 by omega, List.replicate_succ]
  rfl
theorem gvP_all : gvP C C.length = gvL C := by unfold gvP; rw [Nat.sub_self, List.take_of_length_le (by rw [gvL_len]; omega)]; simp
theorem gvP_0 : gvP C 0 = List.replicate C.length 0 := by simp [gvP]
def f78_I (h0 : H) (v u : V) (i2 i4 : K) (C : List (Int × Int)) (i : Nat) (fr : Fr) (h1 : H) : Prop := i ≤ C.length ∧ Grow h0.nx.nat h0 h1 ∧ h1.get i2 = .cells 2 [.sn, .i .i64 0] ∧ h1.get i4 = .cells 2 [u, .i .i64 240] ∧ Sl iE h1 u (gvP C i) ∧ (∀ j (hj : j < C.length), j < i → coB C[j].1 C[j].2 = true) ∧ fr.get (K.ofNat 2) = some (.p i2 0) ∧ fr.get (K.ofNat 4) = some (.p i4 0) ∧ fr.get (K.ofNat 20) = some (v) ∧ fr.get (K.ofNat 21) = some (.i .i64 (C.length : Int)) ∧ fr.get (K.ofNat 22) = some (.i .i64 (i : Int))
theorem f78_ret (k104 : fs.get (.ofNat 104) = some f104) (k101 : fs.get (.ofNat 101) = some f101) (hl : C.length ≤ 1000000) (hv : Srp h v C) (hc : HC h) : Ret fs f78 [v] h fun r h' => ((gvB C = true ∧ ∃ u, r = .tup [.agg [u, .i .i64 240], .b true] ∧ Sl iE h' u (gvL C) ∧ Own h.nx.nat u) ∨ (gvB C = false ∧ r = .tup [.agg [.sn, .i .i64 0], .b false])) ∧ Grow h.nx.nat h h' := by
  apply ret_of rfl
  show W fs none f78_c _ _ _
  unfold f78_c
  have gA := Grow.new (Nat.le_refl h.nx.nat) (.cells 2 [.sn, .i .i64 0])
  have n1 := nx_new h (.cells 2 [.sn, .i .i64 0])
  have b1 : (h.new (.cells 2 [.sn, .i .i64 0])).get h.nx = .cells 2 [.sn, .i .i64 0] := get_new_same
  have e1 := hv.len
  simp (disch := omega) only [f78_r0, bz]
  generalize h.new (.cells 2 [.sn, .i .i64 0]) = hA at *
  have zst : ∀ {h1 : H}, h1.get h.nx = .cells 2 [.sn, .i .i64 0] → storeV h1 2 (.p h.nx 0) (.agg [.sn, .i .i64 0]) = .ok undefV (h1.put h.nx (.cells 2 [.sn, .i .i64 0])) := fun hb => store2 hb
  have zrd : ∀ {h1 : H}, readP (h1.put h.nx (.cells 2 [.sn, .i .i64 0])) (.p h.nx 0) (many? 2) = some (.agg [.sn, .i .i64 0]) := fun {h1} => read2 get_put_same
  by_cases c1 : C.length < 1
  · have d1 : decide ((C.length : Int) < 1) = true := decide_eq_true (by omega)
    have hb : gvB C = false := by unfold gvB; rw [decide_eq_false (show ¬ 1 ≤ C.length by omega)]; rfl
    simp (disch := omega) only [f78_r1, f78_r2, f78_rs, Option.some.injEq, exists_eq_left', Nat.reduceEqDiff, ↓reduceIte, Bool.false_eq_true, Bool.not_true, e1, d1, zst b1, zrd, hb, Bool.false_eq_true, false_and, false_or, bz]
    exact gA.trans (Grow.put (Nat.le_refl _) (by omega) _)
  have d1 : decide ((C.length : Int) < 1) = false := decide_eq_false (by omega)
  by_cases c2 : C.length > 7
  · have d2 : decide ((C.length : Int) > 7) = true := decide_eq_true (by omega)
    have hb : gvB C = false := by unfold gvB; rw [decide_eq_true (show 1 ≤ C.length by omega), decide_eq_false (show ¬ C.length ≤ 7 by omega)]; rfl
    simp (disch := omega) only [f78_r1, f78_r2, f78_rs, Option.some.injEq, exists_eq_left', Nat.reduceEqDiff, ↓reduceIte, Bool.false_eq_true, Bool.not_false, e1, d1, d2, zst b1, zrd, hb, Bool.false_eq_true, false_and, false_or, bz]
    exact gA.trans (Grow.put (Nat.le_refl _) (by omega) _)
  have d2 : decide ((C.length : Int) > 7) = false := decide_eq_false (by omega)
  have hgv : gvB C = C.all fun x => coB x.1 x.2 := by unfold gvB; rw [decide_eq_true (show 1 ≤ C.length by omega), decide_eq_true (show C.length ≤ 7 by omega)]; rfl
  have mk := mks_ints (h := hA) (k := .i64) (n := C.length) (by omega)
  have sl0 := mks_sl (h := hA) (n := C.length)
  have gB := Grow.new (Nat.le_refl hA.nx.nat) (.cells (C.length * 1) (rep [V.i .i64 0] C.length))
  have n2 := nx_new hA (.cells (C.length * 1) (rep [V.i .i64 0] C.length))
  have b2 := (gB.old h.nx (by omega)).trans b1
  have GB := gA.trans (gB.low gA.nx)
  have ub : ∀ id off n sz, V.sl hA.nx 0 C.length 1 = .sl id off n sz → id = hA.nx := fun id off n sz e => by cases e; rfl
  have uo : cellsN 1 (V.sl hA.nx 0 C.length 1) = some [V.sl hA.nx 0 C.length 1] := rfl
  have own : Own h.nx.nat (V.sl hA.nx 0 C.length 1) := fun id off n sz e => by cases e; exact gA.nx
  generalize hB0 : hA.new (.cells (C.length * 1) (rep [V.i .i64 0] C.length)) = hB at *
  generalize hu : V.sl hA.nx 0 C.length 1 = u at *
  have st4 : storeV (hB.new (.cells 2 [.sn, .i .i64 0])) 2 (.p hB.nx 0) (.agg [u, .i .i64 240]) = .ok undefV ((hB.new (.cells 2 [.sn, .i .i64 0])).put hB.nx (.cells 2 [u, .i .i64 240])) := store2 get_new_same
  have gC := (Grow.new (Nat.le_refl hB.nx.nat) (.cells 2 [.sn, .i .i64 0])).trans (Grow.put (b := hB.nx.nat) (h := hB.new (.cells 2 [.sn, .i .i64 0])) (k := hB.nx) (Nat.le_refl _) (by rw [nx_new]; omega) (.cells 2 [u, .i .i64 240]))
  have n3 : ((hB.new (.cells 2 [.sn, .i .i64 0])).put hB.nx (.cells 2 [u, .i .i64 240])).nx.nat = hB.nx.nat + 1 := by rw [nx_put, nx_new]
  simp (disch := omega) only [f78_r1, f78_r3, f78_r4, x_mks, Nat.reduceEqDiff, ↓reduceIte, Bool.false_eq_true, Bool.not_false, e1, d1, d2, mk, of240, uo, st4, bz]
  have G3 := GB.trans (gC.low GB.nx)
  have c2' := (gC.old h.nx (by omega)).trans b2
  have c4 : ((hB.new (.cells 2 [.sn, .i .i64 0])).put hB.nx (.cells 2 [u, .i .i64 240])).get hB.nx = .cells 2 [u, .i .i64 240] := get_put_same
  have hcB := GB.hc hc
  have su := sl0.grow hcB gC
  rw [← gvP_0] at su
  have ua : ∀ id off n sz, u = .sl id off n sz → id ≠ h.nx ∧ id ≠ hB.nx := fun id off n sz e => by
    have := ub id off n sz e
    subst this
    exact ⟨fun e => by have := congrArg K.nat e; omega, fun e => by have := congrArg K.nat e; omega⟩
  have hi4 : h.nx.nat < hB.nx.nat := by omega
  generalize (hB.new (.cells 2 [.sn, .i .i64 0])).put hB.nx (.cells 2 [u, .i .i64 240]) = hC at *
  generalize hB.nx = i4 at *
  clear st4 gC n3 sl0 mk ub hu hB0 gB b2
  refine W_loop (f78_I h v u h.nx i4 C) (fun i => C.length - i) ?_ 0 ⟨by omega, G3, c2', c4, su, fun j _ hj => by omega, by simp (disch := omega) only [getK_set, Nat.reduceEqDiff, ↓reduceIte, and_self, Int.natCast_zero]⟩
  clear su c2' c4 G3
  rintro i fr h1 ⟨hi, G, b2, b4, su, hco, g2, g4, g20, g21, g22⟩
  have hc1 := G.hc hc
  have sv := hv.grow hc G
  have l2 := hc1.cells b2
  have l4 := hc1.cells b4
  have gn := G.nx
  unfold f78_l0
  by_cases hlt : i < C.length
  · have d3 : decide ((i : Int) < (C.length : Int)) = true := decide_eq_true (by omega)
    have e4 : fw .i64 ((i : Int) + 1) = ((i + 1 : Nat) : Int) := by rw [fw64 (by omega) (by omega)]; rfl
    obtain ⟨id, q, q1, q2, _, _⟩ := sv.at2 hlt
    have st6 : storeV (h1.new (.cells 2 [.i .i64 0, .i .i64 0])) 2 (.p h1.nx 0) (.agg [.i .i64 C[i].1, .i .i64 C[i].2]) = .ok undefV ((h1.new (.cells 2 [.i .i64 0, .i .i64 0])).put h1.nx (.cells 2 [.i .i64 C[i].1, .i .i64 C[i].2])) := store2 get_new_same
    have gN := (Grow.new (Nat.le_refl h1.nx.nat) (.cells 2 [.i .i64 0, .i .i64 0])).trans (Grow.put (b := h1.nx.nat) (h := h1.new (.cells 2 [.i .i64 0, .i .i64 0])) (k := h1.nx) (Nat.le_refl _) (by rw [nx_new]; omega) (.cells 2 [.i .i64 C[i].1, .i .i64 C[i].2]))
    have nN : ((h1.new (.cells 2 [.i .i64 0, .i .i64 0])).put h1.nx (.cells 2 [.i .i64 C[i].1, .i .i64 C[i].2])).nx.nat = h1.nx.nat + 1 := by rw [nx_put, nx_new]
    have m6 := load2 (h := (h1.new (.cells 2 [.i .i64 0, .i .i64 0])).put h1.nx (.cells 2 [.i .i64 C[i].1, .i .i64 C[i].2])) (id := h1.nx) get_put_same
    have y6 : ((h1.new (.cells 2 [.i .i64 0, .i .i64 0])).put h1.nx (.cells 2 [.i .i64 C[i].1, .i .i64 C[i].2])).get h1.nx = .cells 2 [.i .i64 C[i].1, .i .i64 C[i].2] := get_put_same
    simp (disch := omega) only [f78_r5, f78_r6, f78_r7, Nat.reduceEqDiff, ↓reduceIte, g20, g21, g22, d3, q1, q2, st6, m6, bz]
    generalize (h1.new (.cells 2 [.i .i64 0, .i .i64 0])).put h1.nx (.cells 2 [.i .i64 C[i].1, .i .i64 C[i].2]) = h2 at *
    refine (callP_0 (ef := f101) k101 rfl (f101_ret k104)).mono ?_
    rintro r h3 ⟨rfl, g3⟩
    have G3 := gN.trans (g3.low gN.nx)
    have hc3 := G3.hc hc1
    have b2 := (G3.old h.nx l2).trans b2
    have n3 := g3.nx
    cases hb : coB C[i].1 C[i].2 with
    | false =>
      have hbf : gvB C = false := by
        rw [hgv, List.all_eq_false]
        exact ⟨C[i], List.getElem_mem hlt, by rw [hb]; simp⟩
      simp (disch := omega) only [f78_r8, f78_rs, Option.some.injEq, exists_eq_left', Nat.reduceEqDiff, ↓reduceIte, Bool.false_eq_true, Bool.not_false, g2, zst b2, zrd, hbf, Bool.false_eq_true, false_and, false_or, bz]
      exact (G.trans (G3.low G.nx)).trans (Grow.put (Nat.le_refl _) (by omega) _)
    | true =>
      obtain ⟨k1, k2, k3, k4, _⟩ := coB_iff.1 hb
      have hd := dv240 k3 k4
      have b4 := (G3.old i4 l4).trans b4
      have y6 := (g3.old h1.nx (by omega)).trans y6
      have f4 : loadV h3 (.p i4 0) one? = .ok u h3 := load_p b4 rfl
      have f60' : loadV h3 (.p h1.nx 0) one? = .ok (.i .i64 C[i].1) h3 := load_p y6 rfl
      have f61' : loadV h3 (.p h1.nx 1) one? = .ok (.i .i64 C[i].2) h3 := load_p y6 rfl
      have d0 : decide (C[i].2 = 0) = false := decide_eq_false (by omega)
      have qb : ((240 : Int).tdiv C[i].2).natAbs ≤ 240 := by rw [Int.natAbs_tdiv]; exact Nat.div_le_self _ _
      have w1 : fw .i64 ((240 : Int).tdiv C[i].2) = (240 : Int).tdiv C[i].2 := fw64 (by omega) (by omega)
      have mb := nm (show C[i].1.natAbs ≤ 1000000 by omega) qb
      have w2 : fw .i64 (C[i].1 * (240 : Int).tdiv C[i].2) = C[i].1 * (240 : Int).tdiv C[i].2 := fw64 (by omega) (by omega)
      have su3 := su.grow hc1 G3
      obtain ⟨p', idu, m, cs', a1, a2, a3, ⟨off, n', sz, a4⟩, a5⟩ := su3.st (i := i) (by rw [gvP_len (by omega)]; exact hlt) (x := C[i].1 * (240 : Int).tdiv C[i].2) (c := .i .i64 (C[i].1 * (240 : Int).tdiv C[i].2)) rfl rfl hc3
      rw [gvP_set hlt] at a3
      have un := ua _ _ _ _ a4
      simp (disch := omega) only [f78_r9, f78_r10, bin_quo, Nat.reduceEqDiff, ↓reduceIte, Bool.false_eq_true, Bool.not_true, g4, g22, f4, f60', f61', of240, w1, w2, a1, a2, e4, bz]
      exact ⟨i + 1, by omega, by omega, (G.trans (G3.low G.nx)).trans (Grow.put (own _ _ _ _ a4) a5 _), (get_put_other (Ne.symm un.1)).trans b2, (get_put_other (Ne.symm un.2)).trans b4, a3, fun j hj hji => by
        by_cases e : j = i
        · subst e; exact hb
        · exact hco j hj (by omega), by simp (disch := omega) only [getK_set, Nat.reduceEqDiff, ↓reduceIte, g2, g4, g20, g21, and_self]⟩
  · have d3 : decide ((i : Int) < (C.length : Int)) = false := decide_eq_false (by omega)
    obtain rfl : i = C.length := by omega
    have hbt : gvB C = true := by
      rw [hgv, List.all_eq_true]
      intro x hx
      obtain ⟨j, hj, rfl⟩ := List.getElem_of_mem hx
      exact hco j hj hj
    rw [gvP_all] at su
    have m4 := load2 b4
    have st2' := store2 (x := u) (y := .i .i64 240) b2
    have rd2 := read2 (h := h1.put h.nx (.cells 2 [u, .i .i64 240])) (id := h.nx) get_put_same
    simp (disch := omega) only [f78_r5, f78_r11, f78_rs, Option.some.injEq, exists_eq_left', Nat.reduceEqDiff, ↓reduceIte, Bool.false_eq_true, g2, g4, g21, g22, d3, m4, st2', rd2, bz]
    exact ⟨.inl ⟨hbt, u, rfl, su.put (fun off n sz e => (ua _ _ _ _ e).1 rfl) _, own⟩, G.trans (Grow.put (Nat.le_refl _) (by omega) _)⟩
end
end Go.Ev
namespace Go.Ev
open Go Go.RowKit
noncomputable def f65_r0 : List EOper := [oG 1 (.box 2 (tG 0)), oG 2 (.as (.c .sn))]
noncomputable def f65_r1 : List EOper := [oG 6 (.fadr 0 (tG 1)), oG 7 (.ld (tG 6)), oG 8 (.len (tG 7)), oG 9 (.mkslice 2 [(.i .i64 (.ofNat 0)), (.i .i64 (.ofNat 0))] (tG 8)), oG 3 (.as (tG 9))]
noncomputable def f65_r2 : List EOper := [oG 10 (.fadr 0 (tG 1)), oG 11 (.ld (tG 10)), oG 12 (.len (tG 11)), oG 13 (.mv (cG 0))]
noncomputable def f65_r3 : List EOper := [oG 14 (.bin .lss (tG 13) (tG 12))]
noncomputable def f65_r4 : List EOper := [oG 15 (.mv (tG 13)), oG 16 (.iads 1 (tG 11) (tG 13)), oG 17 (.ld (tG 16)), oG 4 (.as (tG 15)), oG 5 (.as (tG 17))]
noncomputable def f65_r5 : List EOper := [oG 18 (.mv (tG 3)), oG 19 (.mv (tG 4)), oG 20 (.mv (tG 5)), oG 21 (.fadr 1 (tG 1)), oG 22 (.ld (tG 21)), oG 23 (.call (fG 89) [(tG 20), (tG 22)]), oG 24 (.call (fG 62) [(tG 23)]), oG 25 (.iads 2 (tG 18) (tG 19)), ⟨none, none, .st 2 (tG 25) (tG 24)⟩]
noncomputable def f65_r6 : List EOper := [oG 26 (.bin .add (tG 13) (cG 1)), oG 13 (.mv (tG 26))]
noncomputable def f65_l0 : EC := (.seq (.reg f65_r3) (.seq (.cond (tG 14) .skip (.exit 0)) (.seq (.block 1 (.seq (.reg f65_r4) (.reg f65_r5))) (.reg f65_r6))))
noncomputable def f65_r7 : List EOper := [oG 27 (.mv (tG 3)), oG 2 (.as (tG 27))]
noncomputable def f65_c : EC := (.seq (.reg f65_r0) (.seq (.reg f65_r1) (.seq (.seq (.reg f65_r2) (.block 0 (.loop f65_l0))) (.seq (.reg f65_r7) .ret))))
noncomputable def f65 : EF := ⟨28, [.tmp (.ofNat 2)], f65_c, none⟩
theorem f65_rs : f65.rs = [.tmp (.ofNat 2)] := of_eq_true (eq_self _)
noncomputable def f79_r0 : List EOper := [oG 1 (.box 2 (tG 0)), oG 2 (.alloc 2 [.sn, (.i .i64 (.ofNat 0))])]
noncomputable def f79_r1 : List EOper := [oG 7 (.fadr 0 (tG 1)), oG 8 (.ld (tG 7)), oG 9 (.len (tG 8)), oG 3 (.as (tG 9))]
noncomputable def f79_r2 : List Stage := [⟨[oG 10 (.mv (tG 3)), oG 11 (.bin .add (tG 10) (cG 1)), oG 13 (.fadr 1 (tG 1)), oG 14 (.ld (tG 13)), oG 15 (.mv (tG 3)), oG 16 (.bin .mul (tG 14) (tG 15)), oG 4 (.alloc 2 [.sn, (.i .i64 (.ofNat 0))])], [], (some (oG 12 (.mkslice 1 [(.i .i64 (.ofNat 0))] (tG 11)))), [(.ofNat 4)]⟩, ⟨[oG 17 (.build [.sn, (.i .i64 (.ofNat 0))] [(0, 1, (tG 12)), (1, 1, (tG 16))])], [oG 13 (.fadr 1 (tG 1)), oG 14 (.ld (tG 13)), oG 15 (.mv (tG 3)), oG 16 (.bin .mul (tG 14) (tG 15)), oG 4 (.alloc 2 [.sn, (.i .i64 (.ofNat 0))])], (some ⟨none, none, .st 2 (tG 4) (tG 17)⟩), []⟩, ⟨[], [], none, []⟩]
noncomputable def f79_r3 : List EOper := [oG 18 (.fadr 0 (tG 1)), oG 19 (.ld (tG 18)), oG 20 (.len (tG 19)), oG 21 (.mv (cG 0))]
noncomputable def f79_r4 : List EOper := [oG 22 (.bin .lss (tG 21) (tG 20))]
noncomputable def f79_r5 : List EOper := [oG 23 (.mv (tG 21)), oG 24 (.iads 1 (tG 19) (tG 21)), oG 25 (.ld (tG 24)), oG 5 (.as (tG 23)), oG 6 (.as (tG 25))]
noncomputable def f79_r6 : List EOper := [oG 26 (.fadr 0 (tG 4)), oG 27 (.ld (tG 26)), oG 28 (.mv (tG 5)), oG 29 (.iads 1 (tG 27) (tG 28)), oG 30 (.ld (tG 29)), oG 31 (.mv (tG 6)), oG 32 (.mv (tG 3)), oG 33 (.mv (tG 5)), oG 34 (.bin .sub (tG 32) (tG 33)), oG 35 (.bin .mul (tG 31) (tG 34)), oG 36 (.bin .add (tG 30) (tG 35)), oG 37 (.iads 1 (tG 27) (tG 28)), ⟨none, none, .st 1 (tG 37) (tG 36)⟩]
noncomputable def f79_r7 : List EOper := [oG 38 (.fadr 0 (tG 4)), oG 39 (.ld (tG 38)), oG 40 (.mv (tG 5)), oG 41 (.bin .add (tG 40) (cG 1)), oG 42 (.iads 1 (tG 39) (tG 41)), oG 43 (.ld (tG 42)), oG 44 (.mv (tG 6)), oG 45 (.mv (tG 5)), oG 46 (.bin .add (tG 45) (cG 1)), oG 47 (.bin .mul (tG 44) (tG 46)), oG 48 (.bin .add (tG 43) (tG 47)), oG 49 (.iads 1 (tG 39) (tG 41)), ⟨none, none, .st 1 (tG 49) (tG 48)⟩]
noncomputable def f79_r8 : List EOper := [oG 50 (.bin .add (tG 21) (cG 1)), oG 21 (.mv (tG 50))]
noncomputable def f79_l0 : EC := (.seq (.reg f79_r4) (.seq (.cond (tG 22) .skip (.exit 0)) (.seq (.block 1 (.seq (.reg f79_r5) (.seq (.reg f79_r6) (.reg f79_r7)))) (.reg f79_r8))))
noncomputable def f79_r9 : List EOper := [oG 51 (.ldn 2 (tG 4)), ⟨none, none, .st 2 (tG 2) (tG 51)⟩]
noncomputable def f79_c : EC := (.seq (.reg f79_r0) (.seq (.reg f79_r1) (.seq (.draw f79_r2) (.seq (.seq (.reg f79_r3) (.block 0 (.loop f79_l0))) (.seq (.reg f79_r9) .ret)))))
noncomputable def f79 : EF := ⟨52, [.celln (.ofNat 2) 2], f79_c, none⟩
theorem f79_rs : f79.rs = [.celln (.ofNat 2) 2] := of_eq_true (eq_self _)
noncomputable def f38_r0 : List EOper := [oG 2 (.as (.c .sn)), oG 3 (.as (cG 0))]
noncomputable def f38_r1 : List EOper := [oG 7 (.mv (tG 0)), oG 8 (.call (fG 78) [(tG 7)]), oG 6 (.mv (tG 8)), oG 9 (.ext (tG 6) 0), oG 10 (.ext (tG 6) 1), oG 4 (.alloc 2 [.sn, (.i .i64 (.ofNat 0))]), ⟨none, none, .st 2 (tG 4) (tG 9)⟩, oG 5 (.as (tG 10))]
noncomputable def f38_r2 : List EOper := [oG 11 (.mv (tG 5)), oG 12 (.not (tG 11)), oG 13 (.mv (tG 12)), gG 14 13 false (.mv (tG 0)), gG 15 13 false (.len (tG 14)), gG 16 13 false (.bin .eql (tG 15) (cG 7)), oG 17 (.pick (tG 13) (.c (.b true)) (tG 16))]
noncomputable def f38_r3 : List EOper := [oG 2 (.as (.c .sn)), oG 3 (.as (cG 1))]
noncomputable def f38_r4 : List EOper := [oG 18 (.ldn 2 (tG 4)), oG 19 (.call (fG 79) [(tG 18)]), oG 20 (.call (fG 65) [(tG 19)]), oG 2 (.as (tG 20)), oG 3 (.as (cG 0))]
noncomputable def f38_c : EC := (.seq (.reg f38_r0) (.seq (.reg f38_r1) (.seq (.seq (.reg f38_r2) (.cond (tG 17) (.seq (.reg f38_r3) .ret) .skip)) (.seq (.reg f38_r4) .ret))))
noncomputable def f38 : EF := ⟨21, [.tmp (.ofNat 2), .tmp (.ofNat 3)], f38_c, none⟩
theorem f38_rs : f38.rs = [.tmp (.ofNat 2), .tmp (.ofNat 3)] := of_eq_true (eq_self _)
def frP (q : Rat) : Int × Int := (q.num, (q.den : Int))
def rwL (R : Nat → Rat) (n : Nat) : List (Int × Int) := (List.range n).map fun j => frP (R j)
theorem rwL_len {R : Nat → Rat} {n : Nat} : (rwL R n).length = n := by simp [rwL]
def rwP (R : Nat → Rat) (n i : Nat) : List (Int × Int) := (List.range n).map fun j => if j < i then frP (R j) else (0, 0)
theorem rwP_len {R : Nat → Rat} {n i : Nat} : (rwP R n i).length = n := by simp [rwP]
theorem rwP_0 {R : Nat → Rat} {n : Nat} : rwP R n 0 = List.replicate n (0, 0) := by
  apply List.ext_getElem
  · simp [rwP]
  · intro i h1 h2; simp [rwP]
theorem rwP_end {R : Nat → Rat} {n : Nat} : rwP R n n = rwL R n := by
  apply List.ext_getElem
  · simp [rwP, rwL]
  · intro i h1 h2
    have : i < n := by rw [rwP_len] at h1; exact h1
    simp [rwP, rwL, this]
theorem rwP_set {R : Nat → Rat} {n j : Nat} : (rwP R n j).set j (frP (R j)) = rwP R n (j + 1) := by
  apply List.ext_getElem
  · simp [rwP]
  · intro i h1 h2
    rw [List.getElem_set]
    by_cases e : j = i
    · subst e
      rw [if_pos rfl]
      simp [rwP]
    · rw [if_neg e]
      simp only [rwP, List.getElem_map, List.getElem_range]
      by_cases e2 : i < j
      · rw [if_pos e2, if_pos (by omega)]
      · rw [if_neg e2, if_neg (by omega)]
section
variable {fs : T EF} {h : H} {v w u : V} {C : List (Int × Int)} {l : List Int} {D : Nat}
def paR (l : List Int) (D : Nat) (j : Nat) : Rat := Rat.divInt (l.getD j 0) (D : Int)
def f65_I (h0 : H) (u o : V) (i1 : K) (l : List Int) (D i : Nat) (fr : Fr) (h1 : H) : Prop := i ≤ l.length ∧ Grow h0.nx.nat h0 h1 ∧ h1.get i1 = .cells 2 [u, .i .i64 (D : Int)] ∧ Sk 2 qE h1 o (rwP (paR l D) l.length i) ∧ fr.get (K.ofNat 1) = some (.p i1 0) ∧ fr.get (K.ofNat 3) = some (o) ∧ fr.get (K.ofNat 11) = some (u) ∧ fr.get (K.ofNat 12) = some (.i .i64 (l.length : Int)) ∧ fr.get (K.ofNat 13) = some (.i .i64 (i : Int))
theorem f65_ret (k89 : fs.get (.ofNat 89) = some f89) (k104 : fs.get (.ofNat 104) = some f104) (k62 : fs.get (.ofNat 62) = some f62) (hD : 0 < D) (hD2 : D ≤ M63) (hl : l.length ≤ 1000) (hb : ∀ i, (l.getD i 0).natAbs ≤ M63) (hu : Sr iE h u l) (hc : HC h) : Ret fs f65 [.agg [u, .i .i64 (D : Int)]] h fun r h' => Sk 2 qE h' r (rwL (paR l D) l.length) ∧ Own h.nx.nat r ∧ Grow h.nx.nat h h' := by
  apply ret_of rfl
  show W fs none f65_c _ _ _
  unfold f65_c
  have hone := hu.one
  have hcl : cellsN 2 (V.agg [u, .i .i64 (D : Int)]) = some [u, .i .i64 (D : Int)] := cell2_agg
  have gA := Grow.new (Nat.le_refl h.nx.nat) (.cells 2 [u, .i .i64 (D : Int)])
  have n1 := nx_new h (.cells 2 [u, .i .i64 (D : Int)])
  have b1 : (h.new (.cells 2 [u, .i .i64 (D : Int)])).get h.nx = .cells 2 [u, .i .i64 (D : Int)] := get_new_same
  simp (disch := omega) only [f65_r0, ↓reduceIte, hcl, bz]
  generalize h.new (.cells 2 [u, .i .i64 (D : Int)]) = hA at *
  have l1 : loadV hA (.p h.nx 0) one? = .ok u hA := load_p b1 rfl
  have e1 := hu.len
  have hmk := mks_p (h := hA) (k := .i64) (n := l.length) (by omega)
  have hsl := mksp_sl (h := hA) (n := l.length)
  have gB := Grow.new (Nat.le_refl hA.nx.nat) (.cells (l.length * 2) (rep (qE (0, 0)) l.length))
  have b2 := (gB.old h.nx (by omega)).trans b1
  rw [← rwP_0 (R := paR l D)] at hsl
  have G2 := gA.trans (gB.low gA.nx)
  have oo : Own h.nx.nat (.sl hA.nx 0 l.length 2) := fun id off n sz e => by cases e; exact gA.nx
  have ni : ∀ id off m sz, (V.sl hA.nx 0 l.length 2) = .sl id off m sz → id ≠ h.nx := fun id off m sz e e2 => by
    have h1 := congrArg K.nat (V.sl.inj e).1
    rw [e2] at h1; omega
  have l2 : loadV (hA.new (.cells (l.length * 2) (rep (qE (0, 0)) l.length))) (.p h.nx 0) one? = .ok u _ := load_p b2 rfl
  simp (disch := omega) only [f65_r1, f65_r2, x_mks, Nat.reduceEqDiff, ↓reduceIte, l1, e1, hmk, l2, bz]
  generalize V.sl hA.nx 0 l.length 2 = o at *
  generalize hA.new (.cells (l.length * 2) (rep (qE (0, 0)) l.length)) = h2 at *
  refine W_loop (f65_I h u o h.nx l D) (fun i => l.length - i) ?_ 0 ⟨by omega, G2, b2, hsl, by simp (disch := omega) only [getK_set, Nat.reduceEqDiff, ↓reduceIte, and_self, Int.natCast_zero]⟩
  clear hsl b2 G2 gB hmk b1 gA l1 l2
  rintro i fr h1 ⟨hi, hG, q, sk, g1, g3, g11, g12, g13⟩
  have hc1 := hG.hc hc
  have su := hu.grow hc hG
  unfold f65_l0
  by_cases hlt : i < l.length
  · have d1 : decide ((i : Int) < (l.length : Int)) = true := decide_eq_true (by omega)
    have e4 : fw .i64 ((i : Int) + 1) = ((i + 1 : Nat) : Int) := by rw [fw64 (by omega) (by omega)]; rfl
    obtain ⟨p, p1, p2⟩ := su.at i hlt
    have eg : l[i] = l.getD i 0 := by rw [List.getD_eq_getElem?_getD, List.getElem?_eq_getElem (by omega)]; rfl
    have p2 : loadV h1 p one? = .ok (.i .i64 (l.getD i 0)) h1 := by rw [← eg]; exact p2
    have m1 : loadV h1 (.p h.nx 1) one? = .ok (.i .i64 (D : Int)) h1 := load_p q rfl
    simp (disch := omega) only [f65_r3, f65_r4, f65_r5, Nat.reduceEqDiff, ↓reduceIte, g1, g3, g11, g12, g13, d1, p1, p2, m1, bz]
    refine (callP_0 (ef := f89) k89 rfl (f89_ret k104 (hb i) (by rw [Int.natAbs_natCast]; exact hD2) (by omega))).mono ?_
    rintro r h3 ⟨rfl, g3'⟩
    unfold frL
    simp (disch := omega) only [↓reduceIte, bz]
    refine (callP_0 (ef := f62) k62 rfl f62_ret).mono ?_
    rintro r h4 ⟨rfl, g4'⟩
    have G3 := g3'.trans (g4'.low g3'.nx)
    have hc3 := G3.hc hc1
    have sk3 := sk.grow hc1 G3
    obtain ⟨z, id, m, cs', z1, z2, z3, ⟨off, n', sz, z4⟩, z5⟩ := sk3.st2 (i := i) (by rw [rwP_len]; exact hlt) (x := frP (paR l D i)) hc3
    rw [rwP_set] at z3
    have z2 : storeV h4 2 z (.agg [.i .i64 (Rat.divInt (l.getD i 0) (D : Int)).num, .i .i64 ((Rat.divInt (l.getD i 0) (D : Int)).den : Int)]) = .ok undefV (h4.put id (.cells m cs')) := z2
    have qq : (h4.put id (.cells m cs')).get h.nx = .cells 2 [u, .i .i64 (D : Int)] := (get_put_other (Ne.symm (ni _ _ _ _ z4))).trans ((G3.old h.nx (hc1.cells q)).trans q)
    simp (disch := omega) only [f65_r6, Nat.reduceEqDiff, ↓reduceIte, g13, z1, z2, e4, bz]
    exact ⟨i + 1, by omega, by omega, (hG.trans (G3.low hG.nx)).trans (Grow.put (oo _ _ _ _ z4) z5 _), qq, z3, by simp (disch := omega) only [getK_set, Nat.reduceEqDiff, ↓reduceIte, g1, g3, g11, g12, and_self]⟩
  · have d1 : decide ((i : Int) < (l.length : Int)) = false := decide_eq_false (by omega)
    obtain rfl : i = l.length := by omega
    rw [rwP_end] at sk
    simp (disch := omega) only [f65_r3, f65_r7, f65_rs, Option.some.injEq, exists_eq_left', Nat.reduceEqDiff, ↓reduceIte, Bool.false_eq_true, g3, g12, g13, d1, bz]
    exact ⟨sk, oo, hG⟩
theorem map_set {m k : Nat} {f g : Nat → Int} {x : Int} (hx : g k = x) (hg : ∀ j, j < m → j ≠ k → g j = f j) : ((List.range m).map f).set k x = (List.range m).map g := by
  apply List.ext_getElem
  · simp
  · intro j h1 h2
    rw [List.getElem_set]
    by_cases e : k = j
    · subst e; rw [if_pos rfl, ← hx]; simp
    · rw [if_neg e]
      simp only [List.getElem_map, List.getElem_range]
      exact (hg j (by simpa using h2) (fun e' => e e'.symm)).symm
def raF (l : List Int) (i k j : Nat) : Int := (if j < i then l.getD j 0 * ((l.length : Int) - (j : Int)) else 0) + (if 1 ≤ j ∧ j ≤ k then l.getD (j - 1) 0 * (j : Int) else 0)
def raP (l : List Int) (i k : Nat) : List Int := (List.range (l.length + 1)).map (raF l i k)
theorem raP_len {i k : Nat} : (raP l i k).length = l.length + 1 := by simp [raP]
theorem raP_at {i k j : Nat} (hj : j < (raP l i k).length) : (raP l i k)[j] = raF l i k j := by simp [raP]
theorem raP_0 : raP l 0 0 = List.replicate (l.length + 1) 0 := by
  apply List.ext_getElem
  · simp [raP]
  · intro j h1 h2
    rw [raP_at, List.getElem_replicate]
    unfold raF
    rw [if_neg (by omega), if_neg (by omega)]; rfl
theorem raP_s1 {i : Nat} : (raP l i i).set i (raF l i i i + l.getD i 0 * ((l.length : Int) - (i : Int))) = raP l (i + 1) i := by
  refine map_set ?_ fun j _ hj => ?_
  · have h1 : ¬ i < i := by omega
    have h2 : i < i + 1 := by omega
    unfold raF
    simp only [if_neg h1, if_pos h2]
    omega
  · unfold raF
    by_cases h : j < i
    · have h2 : j < i + 1 := by omega
      simp only [if_pos h, if_pos h2]
    · have h2 : ¬ j < i + 1 := by omega
      simp only [if_neg h, if_neg h2]
theorem raP_s2 {i : Nat} : (raP l (i + 1) i).set (i + 1) (raF l (i + 1) i (i + 1) + l.getD i 0 * ((i : Int) + 1)) = raP l (i + 1) (i + 1) := by
  refine map_set ?_ fun j _ hj => ?_
  · have h1 : ¬ i + 1 < i + 1 := by omega
    have h2 : ¬ (1 ≤ i + 1 ∧ i + 1 ≤ i) := by omega
    have h3 : 1 ≤ i + 1 ∧ i + 1 ≤ i + 1 := by omega
    unfold raF
    simp only [if_neg h1, if_neg h2, if_pos h3, Nat.add_sub_cancel, Int.natCast_add, Int.natCast_one]
    omega
  · unfold raF
    by_cases h : 1 ≤ j ∧ j ≤ i
    · have h2 : 1 ≤ j ∧ j ≤ i + 1 := by omega
      simp only [if_pos h, if_pos h2]
    · have h2 : ¬ (1 ≤ j ∧ j ≤ i + 1) := by omega
      simp only [if_neg h, if_neg h2]
theorem raF_le (h7 : l.length ≤ 7) (hb : ∀ i, (l.getD i 0).natAbs ≤ 240000000) (i k j : Nat) (hj : j ≤ l.length) : (raF l i k j).natAbs ≤ 3360000000 := by
  have a := nm (hb j) (show ((l.length : Int) - (j : Int)).natAbs ≤ 7 by omega)
  have b := nm (hb (j - 1)) (show (j : Int).natAbs ≤ 7 by omega)
  unfold raF
  split <;> split <;> omega
theorem stay_alloc {fr : Fr} {k : K} {n : Nat} {zs : List V} : (stays fs goNo fr h ⟨some k, none, .alloc n zs⟩ = true) = (newOk h n zs (getV (fr.get k)) = true) := of_eq_true (eq_self _)
theorem nws {X : H} {i : K} (q : X.get i = .cells 2 [.sn, .i .i64 0]) : newOk X 2 [.sn, .i .i64 0] (.p i 0) = true := by
  show (Nat.beq 0 0 && (X.get i).onW false fun m cs => Nat.beq m 2 && beqL cs [.sn, .i .i64 0]) = true
  rw [q]; rfl
def f79_I (h0 : H) (u w : V) (i1 i2 i4 : K) (l : List Int) (D i : Nat) (fr : Fr) (h1 : H) : Prop := i ≤ l.length ∧ Grow h0.nx.nat h0 h1 ∧ h1.get i1 = .cells 2 [u, .i .i64 (D : Int)] ∧ h1.get i2 = .cells 2 [.sn, .i .i64 0] ∧ h1.get i4 = .cells 2 [w, .i .i64 ((D * l.length : Nat) : Int)] ∧ Sl iE h1 w (raP l i i) ∧ fr.get (K.ofNat 1) = some (.p i1 0) ∧ fr.get (K.ofNat 2) = some (.p i2 0) ∧ fr.get (K.ofNat 3) = some (.i .i64 (l.length : Int)) ∧ fr.get (K.ofNat 4) = some (.p i4 0) ∧ fr.get (K.ofNat 19) = some (u) ∧ fr.get (K.ofNat 20) = some (.i .i64 (l.length : Int)) ∧ fr.get (K.ofNat 21) = some (.i .i64 (i : Int))
theorem f79_ret (hD : D ≤ 240) (h7 : l.length ≤ 7) (hb : ∀ i, (l.getD i 0).natAbs ≤ 240000000) (hu : Sr iE h u l) (hc : HC h) : Ret fs f79 [.agg [u, .i .i64 (D : Int)]] h fun r h' => (∃ w, r = .agg [w, .i .i64 ((D * l.length : Nat) : Int)] ∧ Sl iE h' w (raP l l.length l.length) ∧ Own h.nx.nat w) ∧ Grow h.nx.nat h h' := by
  apply ret_of rfl
  show W fs none f79_c _ _ _
  unfold f79_c
  have hcl : cellsN 2 (V.agg [u, .i .i64 (D : Int)]) = some [u, .i .i64 (D : Int)] := cell2_agg
  have gA := Grow.new (Nat.le_refl h.nx.nat) (.cells 2 [u, .i .i64 (D : Int)])
  have n1 := nx_new h (.cells 2 [u, .i .i64 (D : Int)])
  have b1 : (h.new (.cells 2 [u, .i .i64 (D : Int)])).get h.nx = .cells 2 [u, .i .i64 (D : Int)] := get_new_same
  simp (disch := omega) only [f79_r0, ↓reduceIte, hcl, bz]
  generalize h.new (.cells 2 [u, .i .i64 (D : Int)]) = hA at *
  have gB := Grow.new (Nat.le_refl hA.nx.nat) (.cells 2 [.sn, .i .i64 0])
  have n2 := nx_new hA (.cells 2 [.sn, .i .i64 0])
  have b2 : (hA.new (.cells 2 [.sn, .i .i64 0])).get hA.nx = .cells 2 [.sn, .i .i64 0] := get_new_same
  have b1 := (gB.old h.nx (by omega)).trans b1
  have GB := gA.trans (gB.low gA.nx)
  have hi2 : h.nx.nat < hA.nx.nat := by omega
  generalize hA.nx = i2 at *
  generalize hA.new (.cells 2 [.sn, .i .i64 0]) = hB at *
  have l1 : loadV hB (.p h.nx 0) one? = .ok u hB := load_p b1 rfl
  have l2 : loadV hB (.p h.nx 1) one? = .ok (.i .i64 (D : Int)) hB := load_p b1 rfl
  have e1 := hu.len
  have ea : fw .i64 ((l.length : Int) + 1) = ((l.length + 1 : Nat) : Int) := by rw [fw64 (by omega) (by omega)]; rfl
  have hDl : D * l.length ≤ 240 * 7 := Nat.mul_le_mul hD h7
  have em : fw .i64 ((D : Int) * (l.length : Int)) = ((D * l.length : Nat) : Int) := by rw [← Int.natCast_mul]; exact fw64 (by omega) (by omega)
  simp (disch := omega) only [f79_r1, f79_r2, x_mks, Nat.reduceEqDiff, ↓reduceIte, xg_alloc, l1, l2, e1, ea, em, bz]
  have hcB := GB.hc hc
  refine ⟨hcB.dead, fresh_p (by simp (disch := omega) only [getK_set, ↓reduceIte]), ?_⟩
  have gC := Grow.new (Nat.le_refl hB.nx.nat) (.cells 2 [.sn, .i .i64 0])
  have n3 := nx_new hB (.cells 2 [.sn, .i .i64 0])
  have c4 : (hB.new (.cells 2 [.sn, .i .i64 0])).get hB.nx = .cells 2 [.sn, .i .i64 0] := get_new_same
  have b1 := (gC.old h.nx (by omega)).trans b1
  have b2 := (gC.old i2 (by omega)).trans b2
  have GC := GB.trans (gC.low GB.nx)
  have hi4 : i2.nat < hB.nx.nat := by omega
  generalize hB.nx = i4 at *
  generalize hB.new (.cells 2 [.sn, .i .i64 0]) = hC at *
  have mk := mks_ints (h := hC) (k := .i64) (n := l.length + 1) (by omega)
  have sl0 := mks_sl (h := hC) (n := l.length + 1)
  have gD := Grow.new (Nat.le_refl hC.nx.nat) (.cells ((l.length + 1) * 1) (rep [V.i .i64 0] (l.length + 1)))
  have n4 := nx_new hC (.cells ((l.length + 1) * 1) (rep [V.i .i64 0] (l.length + 1)))
  have b1 := (gD.old h.nx (by omega)).trans b1
  have b2 := (gD.old i2 (by omega)).trans b2
  have c4 := (gD.old i4 (by omega)).trans c4
  have GD := GC.trans (gD.low GC.nx)
  have own : Own h.nx.nat (V.sl hC.nx 0 (l.length + 1) 1) := fun id off n sz e => by cases e; exact GC.nx
  have ua : ∀ id off n sz, V.sl hC.nx 0 (l.length + 1) 1 = .sl id off n sz → id ≠ h.nx ∧ id ≠ i2 ∧ id ≠ i4 := fun id off n sz e => by
    cases e
    exact ⟨fun e => by have := congrArg K.nat e; omega, fun e => by have := congrArg K.nat e; omega, fun e => by have := congrArg K.nat e; omega⟩
  have uo : cellsN 1 (V.sl hC.nx 0 (l.length + 1) 1) = some [V.sl hC.nx 0 (l.length + 1) 1] := rfl
  generalize V.sl hC.nx 0 (l.length + 1) 1 = w at *
  generalize hC.new (.cells ((l.length + 1) * 1) (rep [V.i .i64 0] (l.length + 1))) = hD at *
  rw [← raP_0] at sl0
  have l2 : loadV hD (.p h.nx 1) one? = .ok (.i .i64 (D : Int)) hD := load_p b1 rfl
  have st4 := store2 (x := w) (y := .i .i64 ((D * l.length : Nat) : Int)) c4
  have gE := Grow.put (b := h.nx.nat) (h := hD) (k := i4) (by omega) (by omega) (.cells 2 [w, .i .i64 ((D * l.length : Nat) : Int)])
  have nw := nws c4
  have b1' : (hD.put i4 (.cells 2 [w, .i .i64 ((D * l.length : Nat) : Int)])).get h.nx = .cells 2 [u, .i .i64 (D : Int)] := (get_put_other (fun e => by have := congrArg K.nat e; omega)).trans b1
  have l1' : loadV (hD.put i4 (.cells 2 [w, .i .i64 ((D * l.length : Nat) : Int)])) (.p h.nx 0) one? = .ok u _ := load_p b1' rfl
  simp (disch := omega) only [f79_r3, stay_bin, Nat.reduceEqDiff, ↓reduceIte, stay_fadr, mk, l2, em, uo, st4, stay_alloc, nw, l1', e1, bz]
  have b2' : (hD.put i4 (.cells 2 [w, .i .i64 ((D * l.length : Nat) : Int)])).get i2 = .cells 2 [.sn, .i .i64 0] := (get_put_other (fun e => by have := congrArg K.nat e; omega)).trans b2
  have b4' : (hD.put i4 (.cells 2 [w, .i .i64 ((D * l.length : Nat) : Int)])).get i4 = .cells 2 [w, .i .i64 ((D * l.length : Nat) : Int)] := get_put_same
  have su0 : Sl iE (hD.put i4 (.cells 2 [w, .i .i64 ((D * l.length : Nat) : Int)])) w (raP l 0 0) := sl0.put (fun off n sz e => (ua _ _ _ _ e).2.2 rfl) _
  have GE := GD.trans gE
  have n5 : (hD.put i4 (.cells 2 [w, .i .i64 ((D * l.length : Nat) : Int)])).nx = hD.nx := rfl
  generalize hD.put i4 (.cells 2 [w, .i .i64 ((D * l.length : Nat) : Int)]) = hE at *
  refine W_loop (f79_I h u w h.nx i2 i4 l D) (fun i => l.length - i) ?_ 0 ⟨by omega, GE, b1', b2', b4', su0, by simp (disch := omega) only [getK_set, Nat.reduceEqDiff, ↓reduceIte, and_self, Int.natCast_zero, Nat.add_zero]⟩
  clear su0 b1' b2' b4' GE l1' nw gE st4 sl0 mk b1 b2 c4 l1 l2
  rintro i fr h1 ⟨hi, G, b1, b2, b4, sw, g1, g2, g3, g4, g19, g20, g21⟩
  have hc1 := G.hc hc
  have su := hu.grow hc G
  unfold f79_l0
  by_cases hlt : i < l.length
  · have d1 : decide ((i : Int) < (l.length : Int)) = true := decide_eq_true (by omega)
    have e4 : fw .i64 ((i : Int) + 1) = (i : Int) + 1 := fw64 (by omega) (by omega)
    obtain ⟨p, p1, p2⟩ := su.at i hlt
    have eg : l[i] = l.getD i 0 := by rw [List.getD_eq_getElem?_getD, List.getElem?_eq_getElem (by omega)]; rfl
    have p2 : loadV h1 p one? = .ok (.i .i64 (l.getD i 0)) h1 := by rw [← eg]; exact p2
    have m4 : loadV h1 (.p i4 0) one? = .ok w h1 := load_p b4 rfl
    have hw1 : i < (raP l i i).length := by rw [raP_len]; omega
    obtain ⟨q, q1, q2⟩ := sw.at i hw1
    rw [raP_at] at q2
    have q2 : loadV h1 q one? = .ok (.i .i64 (raF l i i i)) h1 := q2
    have ba := raF_le h7 hb i i i (by omega)
    have bm := nm (hb i) (show ((l.length : Int) - (i : Int)).natAbs ≤ 7 by omega)
    have w1 : fw .i64 ((l.length : Int) - (i : Int)) = (l.length : Int) - (i : Int) := fw64 (by omega) (by omega)
    have w2 : fw .i64 (l.getD i 0 * ((l.length : Int) - (i : Int))) = l.getD i 0 * ((l.length : Int) - (i : Int)) := fw64 (by omega) (by omega)
    have w3 : fw .i64 (raF l i i i + l.getD i 0 * ((l.length : Int) - (i : Int))) = raF l i i i + l.getD i 0 * ((l.length : Int) - (i : Int)) := fw64 (by omega) (by omega)
    obtain ⟨p', idu, m, cs', a1, a2, a3, ⟨off, n', sz, a4⟩, a5⟩ := sw.st (i := i) hw1 (x := raF l i i i + l.getD i 0 * ((l.length : Int) - (i : Int))) (c := .i .i64 (raF l i i i + l.getD i 0 * ((l.length : Int) - (i : Int)))) rfl rfl hc1
    obtain rfl : q = p' := by have := q1 .i64 h1; rw [a1] at this; cases this; rfl
    rw [raP_s1] at a3
    have un := ua _ _ _ _ a4
    have G2 := G.trans (Grow.put (own _ _ _ _ a4) a5 (.cells m cs'))
    have c1 := (get_put_other (x := .cells m cs') (Ne.symm un.1)).trans b1
    have c2 := (get_put_other (x := .cells m cs') (Ne.symm un.2.1)).trans b2
    have c4 := (get_put_other (x := .cells m cs') (Ne.symm un.2.2)).trans b4
    simp (disch := omega) only [f79_r4, f79_r5, f79_r6, Nat.reduceEqDiff, ↓reduceIte, g3, g4, g19, g20, g21, d1, p1, p2, m4, q1, q2, w1, w2, w3, a2, bz]
    clear q1 q2 p1 p2 m4 a1 a2
    generalize h1.put idu (.cells m cs') = h2 at *
    have hc2 := G2.hc hc
    have m4 : loadV h2 (.p i4 0) one? = .ok w h2 := load_p c4 rfl
    have hw2 : i + 1 < (raP l (i + 1) i).length := by rw [raP_len]; omega
    obtain ⟨q, q1, q2⟩ := a3.at (i + 1) hw2
    have q1 : ∀ k h1, iadsV 1 w (.i k ((i : Int) + 1)) h1 = .ok q h1 := q1
    rw [raP_at] at q2
    have q2 : loadV h2 q one? = .ok (.i .i64 (raF l (i + 1) i (i + 1))) h2 := q2
    have ba := raF_le h7 hb (i + 1) i (i + 1) (by omega)
    have bm := nm (hb i) (show ((i : Int) + 1).natAbs ≤ 7 by omega)
    have w2 : fw .i64 (l.getD i 0 * ((i : Int) + 1)) = l.getD i 0 * ((i : Int) + 1) := fw64 (by omega) (by omega)
    have w3 : fw .i64 (raF l (i + 1) i (i + 1) + l.getD i 0 * ((i : Int) + 1)) = raF l (i + 1) i (i + 1) + l.getD i 0 * ((i : Int) + 1) := fw64 (by omega) (by omega)
    obtain ⟨p', idu, m, cs', a1, a2, a3, ⟨off, n', sz, a4⟩, a5⟩ := a3.st (i := i + 1) hw2 (x := raF l (i + 1) i (i + 1) + l.getD i 0 * ((i : Int) + 1)) (c := .i .i64 (raF l (i + 1) i (i + 1) + l.getD i 0 * ((i : Int) + 1))) rfl rfl hc2
    have a1 : ∀ k h1, iadsV 1 w (.i k ((i : Int) + 1)) h1 = .ok p' h1 := a1
    obtain rfl : q = p' := by have := q1 .i64 h2; rw [a1] at this; cases this; rfl
    rw [raP_s2] at a3
    have un := ua _ _ _ _ a4
    simp (disch := omega) only [f79_r7, f79_r8, Nat.reduceEqDiff, ↓reduceIte, g4, g21, e4, m4, q1, q2, w2, w3, a2, bz]
    exact ⟨i + 1, by omega, by omega, G2.trans (Grow.put (own _ _ _ _ a4) a5 _), (get_put_other (Ne.symm un.1)).trans c1, (get_put_other (Ne.symm un.2.1)).trans c2, (get_put_other (Ne.symm un.2.2)).trans c4, a3, by simp (disch := omega) only [getK_set, Nat.reduceEqDiff, ↓reduceIte, g1, g2, g3, g4, g19, g20, and_self, Int.natCast_add, Int.natCast_one]⟩
  · have d1 : decide ((i : Int) < (l.length : Int)) = false := decide_eq_false (by omega)
    obtain rfl : i = l.length := by omega
    have m4 := load2 b4
    have st := store2 (x := w) (y := .i .i64 ((D * l.length : Nat) : Int)) b2
    have rd := read2 (h := h1.put i2 (.cells 2 [w, .i .i64 ((D * l.length : Nat) : Int)])) (id := i2) get_put_same
    have l2 := hc1.cells b2
    simp (disch := omega) only [f79_r4, f79_r9, f79_rs, Option.some.injEq, exists_eq_left', Nat.reduceEqDiff, ↓reduceIte, Bool.false_eq_true, g2, g4, g20, g21, d1, m4, st, rd, bz]
    exact ⟨⟨w, rfl, sw.put (fun off n sz e => (ua _ _ _ _ e).2.1 rfl) _, own⟩, G.trans (Grow.put (by omega) l2 _)⟩
structure CallsRa (fs : T EF) : Prop extends CallsV fs where
  c101 : fs.get (K.ofNat 101) = some f101
  c78 : fs.get (K.ofNat 78) = some f78
  c79 : fs.get (K.ofNat 79) = some f79
  c62 : fs.get (K.ofNat 62) = some f62
  c65 : fs.get (K.ofNat 65) = some f65
theorem gvB_iff : gvB C = true ↔ 1 ≤ C.length ∧ C.length ≤ 7 ∧ ∀ x ∈ C, coB x.1 x.2 = true := by
  unfold gvB
  rw [Bool.and_eq_true, Bool.and_eq_true, decide_eq_true_eq, decide_eq_true_eq, List.all_eq_true]
theorem raP_le (h7 : l.length ≤ 7) (hb : ∀ i, (l.getD i 0).natAbs ≤ 240000000) (i k j : Nat) : ((raP l i k).getD j 0).natAbs ≤ M63 := by
  rw [List.getD_eq_getElem?_getD]
  by_cases hj : j < (raP l i k).length
  · rw [List.getElem?_eq_getElem hj, raP_at]
    rw [raP_len] at hj
    have := raF_le h7 hb i k j (by omega)
    show (raF l i k j).natAbs ≤ M63
    unfold M63; omega
  · rw [List.getElem?_eq_none (by omega)]; decide
theorem f38_ret (k : CallsRa fs) (hl : C.length ≤ 1000000) (hv : Srp h v C) (hc : HC h) : Ret fs f38 [v] h fun r h' => ((gvB C = true ∧ C.length ≠ 7 ∧ ∃ o, r = .tup [o, .i .i64 0] ∧ Sk 2 qE h' o (rwL (paR (raP (gvL C) C.length C.length) (240 * C.length)) (C.length + 1)) ∧ Own h.nx.nat o) ∨ (¬ (gvB C = true ∧ C.length ≠ 7) ∧ r = .tup [.sn, .i .i64 1])) ∧ Grow h.nx.nat h h' := by
  apply ret_of rfl
  show W fs none f38_c _ _ _
  unfold f38_c
  simp (disch := omega) only [f38_r0, f38_r1, Nat.reduceEqDiff, ↓reduceIte, bz]
  refine (callP_0 (ef := f78) k.c78 rfl (f78_ret k.c104 k.c101 hl hv hc)).mono ?_
  rintro r h1 ⟨hr, g1⟩
  have hc1 := g1.hc hc
  rcases hr with ⟨hb, u, rfl, su, ou⟩ | ⟨hb, rfl⟩
  · obtain ⟨b1, b7, bC⟩ := gvB_iff.1 hb
    have uo : cellsN 1 u = some [u] := su.sr.one
    have st : storeV (h1.new (.cells 2 [.sn, .i .i64 0])) 2 (.p h1.nx 0) (.agg [u, .i .i64 240]) = .ok undefV ((h1.new (.cells 2 [.sn, .i .i64 0])).put h1.nx (.cells 2 [u, .i .i64 240])) := store2 get_new_same
    have gN := (Grow.new (Nat.le_refl h1.nx.nat) (.cells 2 [.sn, .i .i64 0])).trans (Grow.put (b := h1.nx.nat) (h := h1.new (.cells 2 [.sn, .i .i64 0])) (k := h1.nx) (Nat.le_refl _) (by rw [nx_new]; omega) (.cells 2 [u, .i .i64 240]))
    have m4 := load2 (h := (h1.new (.cells 2 [.sn, .i .i64 0])).put h1.nx (.cells 2 [u, .i .i64 240])) (id := h1.nx) get_put_same
    have su2 := su.sr.grow hc1 gN
    have e1 := hv.len
    have G2 := g1.trans (gN.low g1.nx)
    have hc2 := G2.hc hc
    by_cases h7 : C.length = 7
    · have d7 : decide ((C.length : Int) = 7) = true := decide_eq_true (by omega)
      simp (disch := omega) only [f38_r2, f38_r3, f38_rs, Option.some.injEq, exists_eq_left', Nat.reduceEqDiff, ↓reduceIte, Bool.false_eq_true, Bool.not_true, Bool.not_false, st, e1, d7, bz]
      exact ⟨.inr ⟨fun e => e.2 h7, trivial⟩, G2⟩
    · have d7 : decide ((C.length : Int) = 7) = false := decide_eq_false (by omega)
      simp (disch := omega) only [f38_r2, f38_r4, Nat.reduceEqDiff, ↓reduceIte, Bool.false_eq_true, Bool.not_true, Bool.not_false, st, e1, d7, m4, bz]
      have gl := gvL_len (C := C)
      refine (callP_0 (ef := f79) k.c79 rfl (f79_ret (D := 240) (by decide) (by omega) (gv_le bC) su2 hc2)).mono ?_
      rintro r h3 ⟨⟨w, rfl, sw, _⟩, g3⟩
      have hc3 := g3.hc hc2
      have G3 := G2.trans (g3.low G2.nx)
      rw [gl] at sw
      have rl := raP_len (l := gvL C) (i := C.length) (k := C.length)
      simp (disch := omega) only [↓reduceIte, bz]
      refine (callP_0 (ef := f65) k.c65 rfl (f65_ret k.c89 k.c104 k.c62 (D := 240 * (gvL C).length) (by omega) (by rw [gl]; unfold M63; omega) (by rw [rl]; omega) (raP_le (by omega) (gv_le bC) _ _) sw.sr hc3)).mono ?_
      rintro o h4 ⟨so, oo, g4⟩
      rw [rl, gl] at so
      have oo' : cellsN 1 o = some [o] := so.one
      simp (disch := omega) only [f38_rs, Option.some.injEq, exists_eq_left', Nat.reduceEqDiff, ↓reduceIte, bz]
      exact ⟨.inl ⟨hb, h7, o, rfl, so, fun id off n sz e => by have := oo _ _ _ _ e; have := G3.nx; omega⟩, G3.trans (g4.low G3.nx)⟩
  · have st : storeV (h1.new (.cells 2 [.sn, .i .i64 0])) 2 (.p h1.nx 0) (.agg [.sn, .i .i64 0]) = .ok undefV ((h1.new (.cells 2 [.sn, .i .i64 0])).put h1.nx (.cells 2 [.sn, .i .i64 0])) := store2 get_new_same
    have gN := (Grow.new (Nat.le_refl h1.nx.nat) (.cells 2 [.sn, .i .i64 0])).trans (Grow.put (b := h1.nx.nat) (h := h1.new (.cells 2 [.sn, .i .i64 0])) (k := h1.nx) (Nat.le_refl _) (by rw [nx_new]; omega) (.cells 2 [.sn, .i .i64 0]))
    simp (disch := omega) only [f38_r2, f38_r3, f38_rs, Option.some.injEq, exists_eq_left', Nat.reduceEqDiff, ↓reduceIte, Bool.false_eq_true, Bool.not_true, Bool.not_false, st, bz]
    exact ⟨.inr ⟨fun e => (by rw [hb] at e; exact Bool.noConfusion e.1), trivial⟩, g1.trans (gN.low g1.nx)⟩
end
end Go.Ev
namespace Go.Ev
open Go Go.RowKit
noncomputable def f103_r0 : List EOper := [oG 3 (.box 2 (tG 1)), oG 4 (.as (.c .sn))]
noncomputable def f103_r1 : List EOper := [oG 7 (.mv (tG 0)), oG 8 (.len (tG 7)), oG 9 (.bin .sub (tG 8) (cG 1)), oG 5 (.as (tG 9))]
noncomputable def f103_r2 : List EOper := [oG 10 (.mv (tG 5)), oG 11 (.mv (cG 0))]
noncomputable def f103_r3 : List EOper := [oG 12 (.bin .lss (tG 11) (tG 10))]
noncomputable def f103_r4 : List EOper := [oG 13 (.mv (tG 11)), oG 6 (.as (tG 13))]
noncomputable def f103_r5 : List Stage := [⟨[oG 14 (.mv (tG 0)), oG 15 (.mv (tG 6)), oG 16 (.ldn 2 (tG 3)), oG 18 (.mv (tG 0)), oG 19 (.mv (tG 6)), oG 20 (.iads 1 (tG 18) (tG 19)), oG 21 (.ld (tG 20)), oG 23 (.fadr 0 (tG 3)), oG 24 (.ld (tG 23)), oG 25 (.mv (tG 0)), oG 26 (.mv (tG 6)), oG 27 (.bin .add (tG 26) (cG 1)), oG 28 (.iads 1 (tG 25) (tG 27)), oG 29 (.ld (tG 28)), oG 30 (.bin .mul (tG 24) (tG 29))], [], (some (oG 17 (.call (fG 113) [(tG 16)]))), []⟩, ⟨[oG 22 (.bin .mul (tG 17) (tG 21)), oG 31 (.bslice 2 1 [(.i .i64 (.ofNat 0)), (.i .i64 (.ofNat 0))] [(0, 1, (tG 22)), (1, 1, (tG 30))])], [oG 14 (.mv (tG 0)), oG 15 (.mv (tG 6)), oG 18 (.mv (tG 0)), oG 19 (.mv (tG 6)), oG 20 (.iads 1 (tG 18) (tG 19)), oG 21 (.ld (tG 20)), oG 23 (.fadr 0 (tG 3)), oG 24 (.ld (tG 23)), oG 25 (.mv (tG 0)), oG 26 (.mv (tG 6)), oG 27 (.bin .add (tG 26) (cG 1)), oG 28 (.iads 1 (tG 25) (tG 27)), oG 29 (.ld (tG 28)), oG 30 (.bin .mul (tG 24) (tG 29))], (some (oG 32 (.call (fG 95) [(tG 31)]))), [(.ofNat 31)]⟩, ⟨[oG 33 (.iads 1 (tG 14) (tG 15))], [oG 14 (.mv (tG 0)), oG 15 (.mv (tG 6))], (some ⟨none, none, .st 1 (tG 33) (tG 32)⟩), []⟩, ⟨[], [], none, []⟩]
noncomputable def f103_r6 : List EOper := [oG 34 (.bin .add (tG 11) (cG 1)), oG 11 (.mv (tG 34))]
noncomputable def f103_l0 : EC := (.seq (.reg f103_r3) (.seq (.cond (tG 12) .skip (.exit 0)) (.seq (.block 1 (.seq (.reg f103_r4) (.draw f103_r5))) (.reg f103_r6))))
noncomputable def f103_r7 : List EOper := [oG 35 (.mv (tG 0)), oG 36 (.mv (tG 5)), oG 37 (.mv (tG 5)), oG 38 (.slice 1 (tG 35) none (some (tG 36)) (some (tG 37))), oG 4 (.as (tG 38))]
noncomputable def f103_c : EC := (.seq (.reg f103_r0) (.seq (.reg f103_r1) (.seq (.seq (.reg f103_r2) (.block 0 (.loop f103_l0))) (.seq (.reg f103_r7) .ret))))
noncomputable def f103 : EF := ⟨39, [.tmp (.ofNat 4)], f103_c, none⟩
theorem f103_rs : f103.rs = [.tmp (.ofNat 4)] := of_eq_true (eq_self _)
def ro7 (F : Nat → Int) : List V := [.i .i64 (F 0), .i .i64 (F 1), .i .i64 (F 2), .i .i64 (F 3), .i .i64 (F 4), .i .i64 (F 5), .i .i64 (F 6)]
def upF (F : Nat → Int) (i : Nat) (x : Int) : Nat → Int := fun j => if j = i then x else F j
theorem Ks.putS {S : K → Prop} {h h1 : H} {id' : K} (k : Ks S h h1) (hi : id'.nat < h1.nx.nat) (hl : S id') (x : Blk) : Ks S h (h1.put id' x) :=
  ⟨k.nx, fun id h2 hn => by rw [get_put_other (fun e => hn (by rw [e]; exact hl))]; exact k.old id h2 hn, (Grow.put (b := 0) (Nat.zero_le _) hi x).hc k.hc⟩
theorem Ks.trans {S : K → Prop} {h h1 h2 : H} (k : Ks S h h1) (l : Ks S h1 h2) : Ks S h h2 := ⟨Nat.le_trans k.nx l.nx, fun id hi hn => (l.old id (Nat.lt_of_lt_of_le hi k.nx) hn).trans (k.old id hi hn), l.hc⟩
section
variable {fs : T EF} {h : H} {v w u : V} {id : K}
theorem ro7_ld {F : Nat → Int} {i : Nat} (hb : h.get id = .cells 7 (ro7 F)) (hi : i < 7) : loadV h (.p id (0 + i * 1)) one? = .ok (.i .i64 (F i)) h := by
  match i, hi with
  | 0, _ => exact load_p hb rfl
  | 1, _ => exact load_p hb rfl
  | 2, _ => exact load_p hb rfl
  | 3, _ => exact load_p hb rfl
  | 4, _ => exact load_p hb rfl
  | 5, _ => exact load_p hb rfl
  | 6, _ => exact load_p hb rfl
  | i + 7, hi => omega
theorem ro7_st {F : Nat → Int} {i : Nat} {x : Int} (hb : h.get id = .cells 7 (ro7 F)) (hi : i < 7) : storeV h 1 (.p id (0 + i * 1)) (.i .i64 x) = .ok undefV (h.put id (.cells 7 (ro7 (upF F i x)))) := by
  match i, hi with
  | 0, _ => rw [store_p (m := 7) hb (xs := [.i .i64 x]) rfl (by omega)]; rfl
  | 1, _ => rw [store_p (m := 7) hb (xs := [.i .i64 x]) rfl (by omega)]; rfl
  | 2, _ => rw [store_p (m := 7) hb (xs := [.i .i64 x]) rfl (by omega)]; rfl
  | 3, _ => rw [store_p (m := 7) hb (xs := [.i .i64 x]) rfl (by omega)]; rfl
  | 4, _ => rw [store_p (m := 7) hb (xs := [.i .i64 x]) rfl (by omega)]; rfl
  | 5, _ => rw [store_p (m := 7) hb (xs := [.i .i64 x]) rfl (by omega)]; rfl
  | 6, _ => rw [store_p (m := 7) hb (xs := [.i .i64 x]) rfl (by omega)]; rfl
  | i + 7, hi => omega
theorem iads_slt {n i : Nat} {kk : IntKind} (hi : i < n) (h1 : H) : iadsV 1 (.slt id 0 n 1) (.i kk (i : Int)) h1 = .ok (.p id (0 + i * 1)) h1 := by
  show (bif Nat.beq 1 1 then idxV (.i kk (i : Int)) n (fun m => RV.ok (.p id (0 + m * 1)) h1) else .no) = _
  show idxV (.i kk (i : Int)) n (fun m => RV.ok (.p id (0 + m * 1)) h1) = _
  show (bif Nat.blt i n then RV.ok (.p id (0 + i * 1)) h1 else .no) = _
  rw [show Nat.blt i n = true from Nat.ble_eq_true_of_le hi]; rfl
theorem len_slt {n : Nat} : lenV (.slt id 0 n 1) h = .ok (.i .i64 (n : Int)) h := rfl
theorem cut_slt {m n : Nat} {kk kl : IntKind} (hm : m ≤ n) : sliceB 1 (.slt id 0 n 1) none (some (.i kk (m : Int))) (some (.i kl (m : Int))) h = .ok (.slt id 0 m 1) h := by
  show cutV id 0 n 1 h 0 m (some m) = _
  unfold cutV
  rw [Nat.ble_eq_true_of_le (Nat.zero_le m), Nat.ble_eq_true_of_le hm]
  show (bif true && true && (Nat.ble m m && Nat.ble m n) then _ else _) = _
  rw [Nat.ble_eq_true_of_le (Nat.le_refl m), Nat.ble_eq_true_of_le hm]
  show RV.ok (bif Nat.beq m m then V.slt id (0 + 0 * 1) (m - 0) 1 else V.sl id (0 + 0 * 1) (m - 0) 1) h = _
  rw [Nat.beq_refl]; rfl
theorem beq_slt {n : Nat} : beqV (.slt id 0 n 1) (.slt id 0 n 1) = true := by
  show (id.beq id && Nat.beq 0 0 && Nat.beq n n && Nat.beq 1 1) = true
  rw [K.beq_refl, Nat.beq_refl, Nat.beq_refl]; rfl
def f103_I (h0 : H) (id i3 : K) (F : Nat → Int) (o u m i : Nat) (fr : Fr) (h1 : H) : Prop := i ≤ m ∧ Ks (fun x => x = id) h0 h1 ∧ h1.get i3 = .cells 2 [.i .i64 (o : Int), .i .i64 (u : Int)] ∧ (∃ F', h1.get id = .cells 7 (ro7 F') ∧ (∀ j, j < i → F' j = ((u : Int) - o) * F j + o * F (j + 1)) ∧ ∀ j, i ≤ j → F' j = F j) ∧ fr.get (K.ofNat 0) = some (.slt id 0 (m + 1) 1) ∧ fr.get (K.ofNat 3) = some (.p i3 0) ∧ fr.get (K.ofNat 5) = some (.i .i64 (m : Int)) ∧ fr.get (K.ofNat 10) = some (.i .i64 (m : Int)) ∧ fr.get (K.ofNat 11) = some (.i .i64 (i : Int))
theorem f103_ret {F : Nat → Int} {m o u M : Nat} (k113 : fs.get (.ofNat 113) = some f113) (k95 : fs.get (.ofNat 95) = some f95) (ho : o ≤ u) (hu : u ≤ 16) (hm : m ≤ 6) (hF : ∀ j, j ≤ m → (F j).natAbs ≤ M) (hM : M ≤ 9223372036854775807 / 16) (hb : h.get id = .cells 7 (ro7 F)) (hc : HC h) : Ret fs f103 [.slt id 0 (m + 1) 1, .agg [.i .i64 (o : Int), .i .i64 (u : Int)]] h fun r h' => r = .slt id 0 m 1 ∧ (∃ F', h'.get id = .cells 7 (ro7 F') ∧ ∀ j, j < m → F' j = ((u : Int) - o) * F j + o * F (j + 1)) ∧ Ks (fun x => x = id) h h' := by
  apply ret_of rfl
  show W fs none f103_c _ _ _
  unfold f103_c
  have lb := hc.cells hb
  have gA := Grow.new (Nat.le_refl h.nx.nat) (.cells 2 [.i .i64 (o : Int), .i .i64 (u : Int)])
  have n1 := nx_new h (.cells 2 [.i .i64 (o : Int), .i .i64 (u : Int)])
  have b3 : (h.new (.cells 2 [.i .i64 (o : Int), .i .i64 (u : Int)])).get h.nx = .cells 2 [.i .i64 (o : Int), .i .i64 (u : Int)] := get_new_same
  have e1 : fw .i64 (((m + 1 : Nat) : Int) - 1) = (m : Int) := by rw [fw64 (by omega) (by omega)]; omega
  have len := fun X : H => len_slt (h := X) (id := id) (n := m + 1)
  simp (disch := omega) only [f103_r0, f103_r1, f103_r2, Nat.reduceEqDiff, ↓reduceIte, len, e1, bz]
  have ks := Ks.of (S := fun x => x = id) hc gA (Nat.le_refl _)
  have b4 := (gA.old id (by omega)).trans hb
  generalize h.new (.cells 2 [.i .i64 (o : Int), .i .i64 (u : Int)]) = hA at *
  refine W_loop (f103_I h id h.nx F o u m) (fun i => m - i) ?_ 0 ⟨Nat.zero_le _, ks, b3, ⟨F, b4, fun j hj => by omega, fun _ _ => rfl⟩, by simp (disch := omega) only [getK_set, Nat.reduceEqDiff, ↓reduceIte, and_self, Int.natCast_zero]⟩
  rintro i fr h1 ⟨hi, K1, d3, ⟨F', d4, q1, q2⟩, g0, g3, g5, g10, g11⟩
  have hc1 := K1.hc
  unfold f103_l0
  by_cases hlt : i < m
  · have d1 : decide ((i : Int) < (m : Int)) = true := decide_eq_true (by omega)
    have m3 := load2 d3
    have m3a : loadV h1 (.p h.nx 0) one? = .ok (.i .i64 (o : Int)) h1 := load_p d3 rfl
    have ld1 := ro7_ld (i := i) d4 (by omega)
    have ld2 := ro7_ld (i := i + 1) d4 (by omega)
    rw [q2 i (Nat.le_refl _)] at ld1
    rw [q2 (i + 1) (by omega)] at ld2
    have ia1 := fun kk (X : H) => iads_slt (id := id) (n := m + 1) (i := i) (kk := kk) (by omega) X
    have ia2 : ∀ kk (X : H), iadsV 1 (.slt id 0 (m + 1) 1) (.i kk ((i : Int) + 1)) X = .ok (.p id (0 + (i + 1) * 1)) X := fun kk X => iads_slt (id := id) (n := m + 1) (i := i + 1) (kk := kk) (by omega) X
    have e4 : fw .i64 ((i : Int) + 1) = (i : Int) + 1 := fw64 (by omega) (by omega)
    have B1 := nm (show ((u : Int) - (o : Int)).natAbs ≤ u - o by omega) (hF i (by omega))
    have B2 := nm (show (o : Int).natAbs ≤ o by omega) (hF (i + 1) (by omega))
    have B3 : (u - o) * M + o * M ≤ 16 * M := by rw [← Nat.add_mul, Nat.sub_add_cancel ho]; exact Nat.mul_le_mul_right M hu
    have w2 : fw .i64 ((o : Int) * F (i + 1)) = (o : Int) * F (i + 1) := fw64 (by omega) (by omega)
    have w1 : fw .i64 (((u : Int) - (o : Int)) * F i) = ((u : Int) - (o : Int)) * F i := fw64 (by omega) (by omega)
    simp (disch := omega) only [f103_r3, f103_r4, f103_r5, Nat.reduceEqDiff, ↓reduceIte, g0, g3, g10, g11, d1, m3, m3a, ld1, ld2, ia1, ia2, e4, w2, bz]
    refine (callP_0 (ef := f113) k113 rfl (f113_ret ho (by omega))).mono ?_
    rintro r h2 ⟨rfl, gF⟩
    have gF := gF
    have hc2 := gF.hc hc1
    have l3 := hc1.cells d3
    have l4 := hc1.cells d4
    have f3 := (gF.old _ l3).trans d3
    have f4 := (gF.old _ l4).trans d4
    have K2 := K1.grow gF K1.nx
    have m3 := load2 f3
    have m3a : loadV h2 (.p h.nx 0) one? = .ok (.i .i64 (o : Int)) h2 := load_p f3 rfl
    have ld1' := ro7_ld (i := i) f4 (by omega)
    have ld2' := ro7_ld (i := i + 1) f4 (by omega)
    rw [q2 i (Nat.le_refl _)] at ld1'
    rw [q2 (i + 1) (by omega)] at ld2'
    have hsum : sumF [((u : Int) - (o : Int)) * F i, (o : Int) * F (i + 1)] = ((u : Int) - (o : Int)) * F i + (o : Int) * F (i + 1) := by
      show fw .i64 (fw .i64 (0 + ((u : Int) - (o : Int)) * F i) + (o : Int) * F (i + 1)) = _
      rw [Int.zero_add, w1]
      exact fw64 (by omega) (by omega)
    have sl := (lit2 (h := h2) (x := ((u : Int) - (o : Int)) * F i) (y := (o : Int) * F (i + 1))).sr
    have e95 := fun P => f95_eq k95 sl (by simp) (P := P)
    rw [hsum] at e95
    have gN := Grow.new (Nat.le_refl h2.nx.nat) (.cells (2 * 1) [V.i .i64 (((u : Int) - (o : Int)) * F i), .i .i64 ((o : Int) * F (i + 1))])
    have K3 := K2.grow gN K2.nx
    have f3' := (gN.old _ (hc2.cells f3)).trans f3
    have f4' := (gN.old _ (hc2.cells f4)).trans f4
    have m3' := load2 f3'
    have m3a' : loadV _ (.p h.nx 0) one? = .ok (.i .i64 (o : Int)) _ := load_p f3' rfl
    have ld1'' := ro7_ld (i := i) f4' (by omega)
    have ld2'' := ro7_ld (i := i + 1) f4' (by omega)
    rw [q2 i (Nat.le_refl _)] at ld1''
    rw [q2 (i + 1) (by omega)] at ld2''
    have st := ro7_st (i := i) (x := ((u : Int) - (o : Int)) * F i + (o : Int) * F (i + 1)) f4' (by omega)
    simp (disch := omega) only [xg_bslice, stay_iads, stay_bin, Option.some.injEq, exists_eq_left', Nat.reduceEqDiff, ↓reduceIte, stay_fadr, g0, g3, ia1, ia2, e4, w1, w2, beq_slt, bz]
    refine ⟨hc2.dead, ?_⟩
    refine ⟨fresh_one (n := 2) (sz := 1) (by simp (disch := omega) only [getK_set, ↓reduceIte]), ?_⟩
    simp (disch := omega) only [f103_r6, Nat.reduceEqDiff, ↓reduceIte, g0, g11, m3a', ld1'', ld2'', ia1, e4, beq_slt, e95, st, bz]
    refine ⟨i + 1, by omega, by omega, K3.putS (K3.hc.cells f4') rfl _, (get_put_other (fun e => by rw [← e] at lb; omega)).trans f3', ⟨_, get_put_same, fun j hj => ?_, fun j hj => ?_⟩, by simp (disch := omega) only [getK_set, Nat.reduceEqDiff, ↓reduceIte, g0, g3, g5, g10, and_self, Int.natCast_add, Int.natCast_one]⟩
    · unfold upF
      by_cases e : j = i
      · rw [if_pos e, e]
      · rw [if_neg e]; exact q1 j (by omega)
    · unfold upF
      rw [if_neg (by omega)]; exact q2 j (by omega)
  · have d1 : decide ((i : Int) < (m : Int)) = false := decide_eq_false (by omega)
    obtain rfl : i = m := by omega
    have ct := fun X : H => fun kk kl => cut_slt (h := X) (id := id) (m := i) (n := i + 1) (kk := kk) (kl := kl) (by omega)
    simp (disch := omega) only [f103_r3, f103_r7, f103_rs, x_slice, sliceV_eq, Option.map_none, Option.map_some, Option.some.injEq, exists_eq_left', Nat.reduceEqDiff, ↓reduceIte, Bool.false_eq_true, g0, g5, g10, g11, d1, ct, bz]
    exact ⟨⟨F', d4, q1⟩, K1⟩
end
end Go.Ev
namespace Go.Ev
open Go Go.RowKit
noncomputable def f80_r0 : List EOper := [oG 2 (.box 2 (tG 0)), oG 3 (.box 2 (tG 1)), oG 4 (.alloc 4 [.sn, (.i .i64 (.ofNat 0)), .sn, (.i .i64 (.ofNat 0))])]
noncomputable def f80_r1 : List EOper := [oG 13 (.fadr 0 (tG 2)), oG 14 (.ld (tG 13)), oG 15 (.len (tG 14)), oG 5 (.as (tG 15))]
noncomputable def f80_r2 : List EOper := [oG 6 (.alloc 7 [(.i .i64 (.ofNat 0)), (.i .i64 (.ofNat 0)), (.i .i64 (.ofNat 0)), (.i .i64 (.ofNat 0)), (.i .i64 (.ofNat 0)), (.i .i64 (.ofNat 0)), (.i .i64 (.ofNat 0))])]
noncomputable def f80_r3 : List Stage := [⟨[oG 16 (.slcA 7 1 (tG 6) none none), oG 17 (.fadr 0 (tG 2)), oG 18 (.ld (tG 17))], [], (some (oG 19 (.cpy 1 (tG 16) (tG 18)))), []⟩, ⟨[], [], none, []⟩]
noncomputable def f80_r4 : List Stage := [⟨[oG 20 (.fadr 1 (tG 2)), oG 21 (.ld (tG 20)), oG 22 (.fadr 1 (tG 3)), oG 23 (.ld (tG 22)), oG 24 (.mv (tG 5)), oG 25 (.bin .sub (tG 24) (cG 1))], [], (some (oG 26 (.call (fG 102) [(tG 23), (tG 25)]))), []⟩, ⟨[oG 27 (.bin .mul (tG 21) (tG 26))], [oG 20 (.fadr 1 (tG 2)), oG 21 (.ld (tG 20))], (some (oG 7 (.as (tG 27)))), []⟩, ⟨[], [], none, []⟩]
noncomputable def f80_r5 : List Stage := [⟨[oG 28 (.mv (tG 5)), oG 29 (.mkslD 1 [(.i .i64 (.ofNat 0))] (tG 28)), oG 30 (.mv (tG 7)), oG 31 (.build [.sn, (.i .i64 (.ofNat 0))] [(0, 1, (tG 29)), (1, 1, (tG 30))]), oG 32 (.mv (tG 5)), oG 33 (.mkslD 1 [(.i .i64 (.ofNat 0))] (tG 32)), oG 34 (.mv (tG 7)), oG 35 (.build [.sn, (.i .i64 (.ofNat 0))] [(0, 1, (tG 33)), (1, 1, (tG 34))]), oG 8 (.alloc 2 [.sn, (.i .i64 (.ofNat 0))]), oG 9 (.alloc 2 [.sn, (.i .i64 (.ofNat 0))])], [], (some ⟨none, none, .st 2 (tG 8) (tG 31)⟩), [(.ofNat 29), (.ofNat 33), (.ofNat 8), (.ofNat 9)]⟩, ⟨[], [oG 32 (.mv (tG 5)), oG 33 (.mkslD 1 [(.i .i64 (.ofNat 0))] (tG 32)), oG 34 (.mv (tG 7)), oG 35 (.build [.sn, (.i .i64 (.ofNat 0))] [(0, 1, (tG 33)), (1, 1, (tG 34))])], (some ⟨none, none, .st 2 (tG 9) (tG 35)⟩), []⟩, ⟨[], [], none, []⟩]
noncomputable def f80_r6 : List EOper := [oG 36 (.mv (tG 5)), oG 37 (.mv (tG 5)), oG 38 (.slcX 7 1 (tG 6) none (some (tG 36)) (some (tG 37))), oG 10 (.as (tG 38))]
noncomputable def f80_r7 : List EOper := [oG 39 (.mv (tG 10)), oG 40 (.len (tG 39)), oG 41 (.bin .gtr (tG 40) (cG 0))]
noncomputable def f80_r8 : List EOper := [oG 45 (.mv (tG 10)), oG 46 (.len (tG 45)), oG 47 (.bin .sub (tG 46) (cG 1)), oG 11 (.as (tG 47))]
noncomputable def f80_r9 : List EOper := [oG 48 (.fadr 1 (tG 3)), oG 49 (.ld (tG 48)), oG 50 (.mv (tG 11)), oG 51 (.call (fG 102) [(tG 49), (tG 50)]), oG 12 (.as (tG 51))]
noncomputable def f80_r10 : List Stage := [⟨[oG 52 (.fadr 0 (tG 8)), oG 53 (.ld (tG 52)), oG 54 (.mv (tG 5)), oG 55 (.mv (tG 10)), oG 56 (.len (tG 55)), oG 57 (.bin .sub (tG 54) (tG 56)), oG 58 (.mv (tG 10)), oG 59 (.iads 1 (tG 58) (cG 0)), oG 60 (.ld (tG 59)), oG 61 (.mv (tG 12)), oG 62 (.bin .mul (tG 60) (tG 61)), oG 63 (.iads 1 (tG 53) (tG 57))], [], (some ⟨none, none, .st 1 (tG 63) (tG 62)⟩), []⟩, ⟨[], [], none, []⟩]
noncomputable def f80_r11 : List Stage := [⟨[oG 64 (.fadr 0 (tG 9)), oG 65 (.ld (tG 64)), oG 66 (.mv (tG 11)), oG 67 (.mv (tG 10)), oG 68 (.mv (tG 11)), oG 69 (.iads 1 (tG 67) (tG 68)), oG 70 (.ld (tG 69)), oG 71 (.mv (tG 12)), oG 72 (.bin .mul (tG 70) (tG 71)), oG 73 (.iads 1 (tG 65) (tG 66))], [], (some ⟨none, none, .st 1 (tG 73) (tG 72)⟩), []⟩, ⟨[], [], none, []⟩]
noncomputable def f80_r12 : List EOper := [oG 42 (.mv (tG 10)), oG 43 (.ldn 2 (tG 3)), oG 44 (.call (fG 103) [(tG 42), (tG 43)]), oG 10 (.as (tG 44))]
noncomputable def f80_l0 : EC := (.seq (.seq (.reg f80_r7) (.cond (tG 41) .skip (.exit 0))) (.seq (.block 1 (.seq (.reg f80_r8) (.seq (.reg f80_r9) (.seq (.draw f80_r10) (.draw f80_r11))))) (.reg f80_r12)))
noncomputable def f80_r13 : List EOper := [oG 74 (.ldn 2 (tG 8)), oG 75 (.ldn 2 (tG 9)), oG 76 (.build [.sn, (.i .i64 (.ofNat 0)), .sn, (.i .i64 (.ofNat 0))] [(0, 2, (tG 74)), (2, 2, (tG 75))]), ⟨none, none, .st 4 (tG 4) (tG 76)⟩]
noncomputable def f80_c : EC := (.seq (.reg f80_r0) (.seq (.reg f80_r1) (.seq (.reg f80_r2) (.seq (.draw f80_r3) (.seq (.draw f80_r4) (.seq (.draw f80_r5) (.seq (.seq (.reg f80_r6) (.block 0 (.loop f80_l0))) (.seq (.reg f80_r13) .ret))))))))
noncomputable def f80 : EF := ⟨77, [.celln (.ofNat 4) 4], f80_c, none⟩
theorem f80_rs : f80.rs = [.celln (.ofNat 4) 4] := of_eq_true (eq_self _)
section
variable {fs : T EF} {h : H} {v w u : V} {id : K} {l : List Int}
def cLf (L : Nat → Int) (o u n j : Nat) : Int := ri L (o : Int) (u : Int) j 0 * ((u ^ (n - 1 - j) : Nat) : Int)
def cRf (L : Nat → Int) (o u n j : Nat) : Int := ri L (o : Int) (u : Int) (n - 1 - j) j * ((u ^ j : Nat) : Int)
def cLp (L : Nat → Int) (o u n r : Nat) : List Int := (List.range n).map fun j => if j < r then cLf L o u n j else 0
def cRp (L : Nat → Int) (o u n r : Nat) : List Int := (List.range n).map fun j => if n - r ≤ j then cRf L o u n j else 0
theorem cLp_len {L : Nat → Int} {o u n r : Nat} : (cLp L o u n r).length = n := by simp [cLp]
theorem cRp_len {L : Nat → Int} {o u n r : Nat} : (cRp L o u n r).length = n := by simp [cRp]
theorem cLp_0 {L : Nat → Int} {o u n : Nat} : cLp L o u n 0 = List.replicate n 0 := by
  apply List.ext_getElem
  · simp [cLp]
  · intro i h1 h2; simp [cLp]
theorem cRp_0 {L : Nat → Int} {o u n : Nat} : cRp L o u n 0 = List.replicate n 0 := by
  apply List.ext_getElem
  · simp [cRp]
  · intro i h1 h2
    have : i < n := by rw [cRp_len] at h1; exact h1
    simp only [cRp, List.getElem_map, List.getElem_range, List.getElem_replicate]
    rw [if_neg (by omega)]
theorem cLp_set {L : Nat → Int} {o u n r : Nat} : (cLp L o u n r).set r (cLf L o u n r) = cLp L o u n (r + 1) := by
  unfold cLp
  refine map_set (by rw [if_pos (by omega)]) fun j _ hj => ?_
  by_cases e : j < r
  · rw [if_pos e, if_pos (by omega)]
  · rw [if_neg e, if_neg (by omega)]
theorem cRp_set {L : Nat → Int} {o u n r m : Nat} (hm : n - r = m + 1) : (cRp L o u n r).set m (cRf L o u n m) = cRp L o u n (r + 1) := by
  unfold cRp
  refine map_set (by rw [if_pos (by omega)]) fun j _ hj => ?_
  by_cases e : n - r ≤ j
  · rw [if_pos e, if_pos (by omega)]
  · rw [if_neg e, if_neg (by omega)]
theorem rb_le {L : Nat → Int} {o u r k : Nat} (ho : o ≤ u) (hu : u ≤ 16) (hk : r + k ≤ 6) (hl : ∀ i, (L i).natAbs ≤ 240000000) (i : Nat) : (ri L (o : Int) (u : Int) r i * ((u ^ k : Nat) : Int)).natAbs ≤ 4026531840000000 := by
  have a := ri_le ho hl r i
  have b := nm a (show ((u ^ k : Nat) : Int).natAbs ≤ u ^ k by omega)
  have c : 240000000 * u ^ r * u ^ k = 240000000 * u ^ (r + k) := by rw [Nat.mul_assoc, Nat.pow_add]
  have d : u ^ (r + k) ≤ 16 ^ (r + k) := Nat.pow_le_pow_left hu _
  have e : 16 ^ (r + k) ≤ 16 ^ 6 := Nat.pow_le_pow_right (by omega) hk
  have f : 240000000 * u ^ (r + k) ≤ 240000000 * 16 ^ 6 := Nat.mul_le_mul_left _ (Nat.le_trans d e)
  have : (240000000 * 16 ^ 6 : Nat) = 4026531840000000 := rfl
  omega
theorem ri_le' {L : Nat → Int} {o u r : Nat} (ho : o ≤ u) (hu : u ≤ 16) (hk : r ≤ 6) (hl : ∀ i, (L i).natAbs ≤ 240000000) (i : Nat) : (ri L (o : Int) (u : Int) r i).natAbs ≤ 4026531840000000 := by
  have := rb_le (k := 0) ho hu (by omega) hl i (r := r)
  rw [Nat.pow_zero] at this
  simpa using this
noncomputable def slcXB (nn sz : Nat) (x : V) (lo hi mx : Option V) (h : H) : RV := x.onP fun id off => (h.get id).onC .no fun len _ => bif Nat.ble (off + nn * sz) len then (oGet (bnd lo 0) .no fun l => oGet (bnd hi nn) .no fun u => oGet (bnd mx nn) .no fun m => bif Nat.ble l u && Nat.ble u m && Nat.ble m nn then .ok (bif Nat.beq m u then .slt id (off + l * sz) (u - l) sz else .sl id (off + l * sz) (u - l) sz) h else .no) else .no
theorem slcXV_eq {fr : Fr} {nn sz : Nat} {lo hi mx : Option EO} : slcXV fr nn sz v lo hi mx h = slcXB nn sz v (lo.map (ev fr)) (hi.map (ev fr)) (mx.map (ev fr)) h := by
  unfold slcXV slcXB
  simp only [bound_eq]
theorem slcX7 {cs : List V} {n : Nat} {kk kl : IntKind} (hb : h.get id = .cells 7 cs) (hn : n ≤ 7) : slcXB 7 1 (.p id 0) none (some (.i kk (n : Int))) (some (.i kl (n : Int))) h = .ok (.slt id 0 n 1) h := by
  show (h.get id).onC .no (fun len _ => bif Nat.ble (0 + 7 * 1) len then (bif Nat.ble 0 n && Nat.ble n n && Nat.ble n 7 then RV.ok (bif Nat.beq n n then V.slt id (0 + 0 * 1) (n - 0) 1 else V.sl id (0 + 0 * 1) (n - 0) 1) h else .no) else .no) = _
  rw [hb, Nat.ble_eq_true_of_le (Nat.zero_le n), Nat.ble_eq_true_of_le (Nat.le_refl n), Nat.ble_eq_true_of_le hn, Nat.beq_refl]
  rfl
theorem slcA7 {fr : Fr} {cs : List V} (hb : h.get id = .cells 7 cs) : slcAV fr 7 1 (.p id 0) none none h = .ok (.sl id (0 + 0 * 1) (7 - 0) 1) h := by
  show (h.get id).onC .no (fun len _ => bif Nat.ble (0 + 7 * 1) len then (oGet (bound fr none 0) .no fun l => oGet (bound fr none 7) .no fun u => bif Nat.ble l u && Nat.ble u 7 then RV.ok (.sl id (0 + l * 1) (u - l) 1) h else .no) else .no) = _
  rw [hb]; rfl
def zr7 : List V := [.i .i64 0, .i .i64 0, .i .i64 0, .i .i64 0, .i .i64 0, .i .i64 0, .i .i64 0]
theorem cpy7 (h1 : 1 ≤ l.length) (h7 : l.length ≤ 7) (hb : h.get id = .cells 7 zr7) (hv : Sr iE h v l) : ∃ n, cpyV 1 h (.sl id (0 + 0 * 1) (7 - 0) 1) v = .ok (.i .i64 n) (h.put id (.cells 7 (ro7 fun j => l.getD j 0))) := by
  have e0 : cpyV 1 h (.sl id (0 + 0 * 1) (7 - 0) 1) v = (bif Nat.beq (Nat.min l.length 7) 0 then RV.ok (.i .i64 (.ofNat 0)) h else RV.ok (.i .i64 (.ofNat (Nat.min l.length 7))) (h.put id (.cells 7 (setMany zr7 0 (takeN (Nat.min l.length 7 * 1) (l.map iE)))))) := by
    show oGet (addOf 1 h v) RV.no (fun p => bif Nat.beq (Nat.min p.1 7) 0 then RV.ok (.i .i64 (.ofNat 0)) h else (h.get id).onW .no fun len cs => bif Nat.beq 1 1 && Nat.ble (0 + 7 * 1) len then RV.ok (.i .i64 (.ofNat (Nat.min p.1 7))) (h.put id (.cells len (setMany cs 0 (takeN (Nat.min p.1 7 * 1) p.2)))) else .no) = _
    rw [hv.addOf, hb]; rfl
  rw [e0]
  match l, h1, h7 with
  | [a], _, _ => exact ⟨_, rfl⟩
  | [a, b], _, _ => exact ⟨_, rfl⟩
  | [a, b, c], _, _ => exact ⟨_, rfl⟩
  | [a, b, c, d], _, _ => exact ⟨_, rfl⟩
  | [a, b, c, d, e], _, _ => exact ⟨_, rfl⟩
  | [a, b, c, d, e, f], _, _ => exact ⟨_, rfl⟩
  | [a, b, c, d, e, f, g], _, _ => exact ⟨_, rfl⟩
theorem bne {a b : K} (h : a.nat < b.nat) : a.beq b = false := by
  cases e : a.beq b
  · rfl
  · exact absurd (K.beq_eq e) (fun e => by rw [e] at h; omega)
theorem fresh_4 {h0 : H} {fr : Fr} {k1 k2 k3 k4 a1 a2 a3 a4 : K} {n1 n2 : Nat} (g1 : fr.get k1 = some (.sl a1 0 n1 1)) (g2 : fr.get k2 = some (.sl a2 0 n2 1)) (g3 : fr.get k3 = some (.p a3 0)) (g4 : fr.get k4 = some (.p a4 0)) (c1 : h0.nx.nat ≤ a1.nat) (c2 : a1.nat < a2.nat) (c3 : a2.nat < a3.nat) (c4 : a3.nat < a4.nat) (c5 : a4.nat < h.nx.nat) : isFresh h0 h fr [k1, k2, k3, k4] = true := by
  show freshL h0.nx.nat h.nx.nat (idsOf fr [k1, k2, k3, k4]) = true
  have e : idsOf fr [k1, k2, k3, k4] = [a1, a2, a3, a4] := by
    show oGet (slId (getV (fr.get k1))) (idsOf fr [k2, k3, k4]) (fun id => id :: idsOf fr [k2, k3, k4]) = _
    rw [g1]
    show a1 :: oGet (slId (getV (fr.get k2))) (idsOf fr [k3, k4]) (fun id => id :: idsOf fr [k3, k4]) = _
    rw [g2]
    show a1 :: a2 :: oGet (slId (getV (fr.get k3))) (idsOf fr [k4]) (fun id => id :: idsOf fr [k4]) = _
    rw [g3]
    show a1 :: a2 :: a3 :: oGet (slId (getV (fr.get k4))) (idsOf fr []) (fun id => id :: idsOf fr []) = _
    rw [g4]; rfl
  rw [e]
  show (Nat.ble h0.nx.nat a1.nat && Nat.blt a1.nat h.nx.nat && (!(a1.beq a2) && (!(a1.beq a3) && (!(a1.beq a4) && true))) && (Nat.ble h0.nx.nat a2.nat && Nat.blt a2.nat h.nx.nat && (!(a2.beq a3) && (!(a2.beq a4) && true)) && (Nat.ble h0.nx.nat a3.nat && Nat.blt a3.nat h.nx.nat && (!(a3.beq a4) && true) && (Nat.ble h0.nx.nat a4.nat && Nat.blt a4.nat h.nx.nat && true && true)))) = true
  have lt : ∀ {x : Nat}, x < h.nx.nat → Nat.blt x h.nx.nat = true := fun hx => Nat.ble_eq_true_of_le hx
  rw [bne c2, bne (Nat.lt_trans c2 c3), bne (show a1.nat < a4.nat by omega), bne c3, bne (show a2.nat < a4.nat by omega), bne c4, lt c5, lt (show a1.nat < _ by omega), lt (show a2.nat < _ by omega), lt (show a3.nat < _ by omega), Nat.ble_eq_true_of_le c1, Nat.ble_eq_true_of_le (show h0.nx.nat ≤ a2.nat by omega), Nat.ble_eq_true_of_le (show h0.nx.nat ≤ a3.nat by omega), Nat.ble_eq_true_of_le (show h0.nx.nat ≤ a4.nat by omega)]
  rfl
theorem beqL_same : ∀ n, beqL (rep [V.i .i64 0] n) (rep [V.i .i64 0] n) = true
  | 0 => rfl
  | n + 1 => beqL_same n
theorem stay_mksD {fr : Fr} {k : K} {sz : Nat} {zs : List V} {x : EO} : (stays fs goNo fr h ⟨some k, none, .mkslD sz zs x⟩ = true) = (mkOk h sz zs (ev fr x) (getV (fr.get k)) = true) := of_eq_true (eq_self _)
theorem mk_ok {n : Nat} {kk : IntKind} (hn : n ≤ 1000000) (hb : h.get id = .cells (n * 1) (rep [V.i .i64 0] n)) : mkOk h 1 [.i .i64 0] (.i kk (n : Int)) (.sl id 0 n 1) = true := by
  show (Nat.beq 0 0 && Nat.beq 1 1 && (Nat.beq n n && Nat.ble n 1000000) && (h.get id).onW false fun m cs => Nat.beq m (n * 1) && beqL cs (rep [V.i .i64 0] n)) = true
  rw [hb]
  show (true && true && (Nat.beq n n && Nat.ble n 1000000) && (Nat.beq (n * 1) (n * 1) && beqL (rep [V.i .i64 0] n) (rep [V.i .i64 0] n))) = true
  rw [Nat.beq_refl, Nat.beq_refl, beqL_same, Nat.ble_eq_true_of_le hn]; rfl
theorem beq_pg {n : Nat} {x : Int} : beqV (.agg [.sl id 0 n 1, .i .i64 x]) (.agg [.sl id 0 n 1, .i .i64 x]) = true := by
  show (beq1 (.sl id 0 n 1) (.sl id 0 n 1) && (beq1 (.i .i64 x) (.i .i64 x) && true)) = true
  have a : beq1 (.sl id 0 n 1) (.sl id 0 n 1) = true := by
    show (id.beq id && Nat.beq 0 0 && Nat.beq n n && Nat.beq 1 1) = true
    rw [K.beq_refl, Nat.beq_refl, Nat.beq_refl]; rfl
  have b : beq1 (.i .i64 x) (.i .i64 x) = true := by
    show (IntKind.i64 == IntKind.i64 && ieq x x) = true
    rw [ieq_eq]; simp
  rw [a, b]; rfl
theorem fill_22 {fr : Fr} {x y : EO} {a b c d : V} : fillE fr [a, b, c, d] [(0, 2, x), (2, 2, y)] = oGet (cellsN 2 (ev fr x)) none fun cs => oGet (cellsN 2 (ev fr y)) none fun ds => some (setMany (setMany [a, b, c, d] 0 cs) 2 ds) := of_eq_true (eq_self _)
theorem set_22 {a b c d x y z w : V} : setMany (setMany [a, b, c, d] 0 [x, y]) 2 [z, w] = [x, y, z, w] := of_eq_true (eq_self _)
theorem store4 {c1 c2 c3 c4 x y z w : V} (hb : h.get id = .cells 4 [c1, c2, c3, c4]) : storeV h 4 (.p id 0) (.agg [x, y, z, w]) = .ok undefV (h.put id (.cells 4 [x, y, z, w])) := by
  rw [store_p (m := 4) hb (xs := [x, y, z, w]) rfl (by omega)]; rfl
theorem read4 {x y z w : V} (hb : h.get id = .cells 4 [x, y, z, w]) : readP h (.p id 0) (many? 4) = some (.agg [x, y, z, w]) := by
  show (h.get id).onC none (fun n cs => many? 4 cs n 0) = _
  rw [hb]; rfl
def f80_I (h0 : H) (L : Nat → Int) (i3 i4 b6 a1 a2 b8 b9 : K) (o u D n r : Nat) (fr : Fr) (h1 : H) : Prop := r ≤ n ∧ Grow h0.nx.nat h0 h1 ∧ h1.get i3 = .cells 2 [.i .i64 (o : Int), .i .i64 (u : Int)] ∧ h1.get i4 = .cells 4 [.sn, .i .i64 0, .sn, .i .i64 0] ∧ h1.get b8 = .cells 2 [.sl a1 0 n 1, .i .i64 ((D * u ^ (n - 1) : Nat) : Int)] ∧ h1.get b9 = .cells 2 [.sl a2 0 n 1, .i .i64 ((D * u ^ (n - 1) : Nat) : Int)] ∧ (∃ F, h1.get b6 = .cells 7 (ro7 F) ∧ ∀ j, j < n - r → F j = ri L (o : Int) (u : Int) r j) ∧ Sl iE h1 (.sl a1 0 n 1) (cLp L o u n r) ∧ Sl iE h1 (.sl a2 0 n 1) (cRp L o u n r) ∧ fr.get (K.ofNat 3) = some (.p i3 0) ∧ fr.get (K.ofNat 4) = some (.p i4 0) ∧ fr.get (K.ofNat 5) = some (.i .i64 (n : Int)) ∧ fr.get (K.ofNat 8) = some (.p b8 0) ∧ fr.get (K.ofNat 9) = some (.p b9 0) ∧ fr.get (K.ofNat 10) = some (.slt b6 0 (n - r) 1)
theorem f80_ret {o u D : Nat} (k102 : fs.get (.ofNat 102) = some f102) (k103 : fs.get (.ofNat 103) = some f103) (k113 : fs.get (.ofNat 113) = some f113) (k95 : fs.get (.ofNat 95) = some f95) (hD : D ≤ 240) (ho : o ≤ u) (hu : u ≤ 16) (hl1 : 1 ≤ l.length) (h7 : l.length ≤ 7) (hb : ∀ i, (l.getD i 0).natAbs ≤ 240000000) (hv : Sr iE h v l) (hc : HC h) : Ret fs f80 [.agg [v, .i .i64 (D : Int)], .agg [.i .i64 (o : Int), .i .i64 (u : Int)]] h fun r h' => (∃ a1 a2 : K, r = .agg [.sl a1 0 l.length 1, .i .i64 ((D * u ^ (l.length - 1) : Nat) : Int), .sl a2 0 l.length 1, .i .i64 ((D * u ^ (l.length - 1) : Nat) : Int)] ∧ Sl iE h' (.sl a1 0 l.length 1) (cLp (fun j => l.getD j 0) o u l.length l.length) ∧ Sl iE h' (.sl a2 0 l.length 1) (cRp (fun j => l.getD j 0) o u l.length l.length) ∧ h.nx.nat ≤ a1.nat ∧ h.nx.nat ≤ a2.nat) ∧ Grow h.nx.nat h h' := by
  apply ret_of rfl
  show W fs none f80_c _ _ _
  unfold f80_c
  have e1 := hv.len
  generalize hn : l.length = n at *
  have gA := Grow.new (Nat.le_refl h.nx.nat) (.cells 2 [v, .i .i64 (D : Int)])
  have n1 := nx_new h (.cells 2 [v, .i .i64 (D : Int)])
  have b2 : (h.new (.cells 2 [v, .i .i64 (D : Int)])).get h.nx = .cells 2 [v, .i .i64 (D : Int)] := get_new_same
  have hcl : cellsN 2 (V.agg [v, .i .i64 (D : Int)]) = some [v, .i .i64 (D : Int)] := cell2_agg
  have hcx : cellsN 2 (V.agg [.i .i64 (o : Int), .i .i64 (u : Int)]) = some [.i .i64 (o : Int), .i .i64 (u : Int)] := cell2_agg
  simp (disch := omega) only [f80_r0, Nat.reduceEqDiff, ↓reduceIte, hcl, hcx, bz]
  generalize h.new (.cells 2 [v, .i .i64 (D : Int)]) = hA at *
  have gB := Grow.new (Nat.le_refl hA.nx.nat) (.cells 2 [.i .i64 (o : Int), .i .i64 (u : Int)])
  have n2 := nx_new hA (.cells 2 [.i .i64 (o : Int), .i .i64 (u : Int)])
  have b3 : (hA.new (.cells 2 [.i .i64 (o : Int), .i .i64 (u : Int)])).get hA.nx = .cells 2 [.i .i64 (o : Int), .i .i64 (u : Int)] := get_new_same
  have b2 := (gB.old h.nx (by omega)).trans b2
  have GB := gA.trans (gB.low gA.nx)
  have hi3 : h.nx.nat < hA.nx.nat := by omega
  generalize hA.nx = i3 at *
  generalize hA.new (.cells 2 [.i .i64 (o : Int), .i .i64 (u : Int)]) = hB at *
  clear gA gB n1
  have gC := Grow.new (Nat.le_refl hB.nx.nat) (.cells 4 [.sn, .i .i64 0, .sn, .i .i64 0])
  have n3 := nx_new hB (.cells 4 [.sn, .i .i64 0, .sn, .i .i64 0])
  have b4 : (hB.new (.cells 4 [.sn, .i .i64 0, .sn, .i .i64 0])).get hB.nx = .cells 4 [.sn, .i .i64 0, .sn, .i .i64 0] := get_new_same
  have b2 := (gC.old h.nx (by omega)).trans b2
  have b3 := (gC.old i3 (by omega)).trans b3
  have GC := GB.trans (gC.low GB.nx)
  have hi4 : i3.nat < hB.nx.nat := by omega
  generalize hB.nx = i4 at *
  generalize hB.new (.cells 4 [.sn, .i .i64 0, .sn, .i .i64 0]) = hC at *
  clear gC n2
  have l2 : loadV hC (.p h.nx 0) one? = .ok v hC := load_p b2 rfl
  simp (disch := omega) only [f80_r1, Nat.reduceEqDiff, ↓reduceIte, l2, e1, bz]
  have gD := Grow.new (Nat.le_refl hC.nx.nat) (.cells 7 zr7)
  have n4 := nx_new hC (.cells 7 zr7)
  have b6 : (hC.new (.cells 7 zr7)).get hC.nx = .cells 7 zr7 := get_new_same
  have b2 := (gD.old h.nx (by omega)).trans b2
  have b3 := (gD.old i3 (by omega)).trans b3
  have b4 := (gD.old i4 (by omega)).trans b4
  have GD := GC.trans (gD.low GC.nx)
  have hi6 : i4.nat < hC.nx.nat := by omega
  have ez : [V.i .i64 0, .i .i64 0, .i .i64 0, .i .i64 0, .i .i64 0, .i .i64 0, .i .i64 0] = zr7 := rfl
  simp (disch := omega) only [f80_r2, ez, bz]
  generalize hC.nx = i6 at *
  generalize hC.new (.cells 7 zr7) = hD' at *
  clear gD n3
  have hcD := GD.hc hc
  have l2 : loadV hD' (.p h.nx 0) one? = .ok v hD' := load_p b2 rfl
  have sA := fun fr => slcA7 (fr := fr) b6
  have hvD := hv.grow hc GD
  obtain ⟨nn, cp⟩ := cpy7 (by omega) (by omega) b6 hvD
  have l6 := hcD.cells b6
  have GE := GD.trans (Grow.put (b := h.nx.nat) (k := i6) (by omega) l6 (.cells 7 (ro7 fun j => l.getD j 0)))
  have b6 : (hD'.put i6 (.cells 7 (ro7 fun j => l.getD j 0))).get i6 = .cells 7 (ro7 fun j => l.getD j 0) := get_put_same
  have b2 : (hD'.put i6 (.cells 7 (ro7 fun j => l.getD j 0))).get h.nx = _ := (get_put_other (fun e => by have := congrArg K.nat e; omega)).trans b2
  have b3 : (hD'.put i6 (.cells 7 (ro7 fun j => l.getD j 0))).get i3 = _ := (get_put_other (fun e => by have := congrArg K.nat e; omega)).trans b3
  have b4 : (hD'.put i6 (.cells 7 (ro7 fun j => l.getD j 0))).get i4 = _ := (get_put_other (fun e => by have := congrArg K.nat e; omega)).trans b4
  have n5 : (hD'.put i6 (.cells 7 (ro7 fun j => l.getD j 0))).nx.nat = hD'.nx.nat := rfl
  simp (disch := omega) only [f80_r3, xg_slcA, Nat.reduceEqDiff, ↓reduceIte, x_cpy, l2, sA, cp, bz]
  generalize hD'.put i6 (.cells 7 (ro7 fun j => l.getD j 0)) = hE at *
  have hcE := GE.hc hc
  have l2 : loadV hE (.p h.nx 1) one? = .ok (.i .i64 (D : Int)) hE := load_p b2 rfl
  have l3 : loadV hE (.p i3 1) one? = .ok (.i .i64 (u : Int)) hE := load_p b3 rfl
  have en : fw .i64 ((n : Int) - 1) = ((n - 1 : Nat) : Int) := by rw [fw64 (by omega) (by omega)]; omega
  have e102 := fun P => f102_eq (h := hE) k102 hu (show n - 1 ≤ 7 by omega) (P := P)
  have pw : u ^ (n - 1) ≤ 16777216 := Nat.le_trans (Nat.pow_le_pow_left hu _) (show 16 ^ (n - 1) ≤ 16 ^ 6 from Nat.pow_le_pow_right (by omega) (by omega))
  have pD : D * u ^ (n - 1) ≤ 240 * 16777216 := Nat.mul_le_mul hD pw
  have eD : fw .i64 ((D : Int) * ((u ^ (n - 1) : Nat) : Int)) = ((D * u ^ (n - 1) : Nat) : Int) := by rw [← Int.natCast_mul]; exact fw64 (by omega) (by omega)
  simp (disch := omega) only [f80_r4, Nat.reduceEqDiff, ↓reduceIte, stay_fadr, l2, l3, en, e102, eD, bz]
  simp (disch := omega) only [f80_r5, Nat.reduceEqDiff, ↓reduceIte, bz]
  refine Eq.mpr (xg_mksD (ki := .i64) (n := n) (by simp (disch := omega) only [ev_t, getV_some, getK_set, ↓reduceIte]) (by omega)) ⟨hcE.dead, ?_⟩
  have gF := Grow.new (Nat.le_refl hE.nx.nat) (.cells (n * 1) (rep [V.i .i64 0] n))
  have n6 := nx_new hE (.cells (n * 1) (rep [V.i .i64 0] n))
  have b2 := (gF.old h.nx (by omega)).trans b2
  have b3 := (gF.old i3 (by omega)).trans b3
  have b4 := (gF.old i4 (by omega)).trans b4
  have b6 := (gF.old i6 (by omega)).trans b6
  have c1 := mks_sl (h := hE) (n := n)
  have GF := GE.trans (gF.low GE.nx)
  have ha1 : i6.nat < hE.nx.nat := by omega
  generalize hae1 : hE.nx = a1 at *
  generalize hE.new (.cells (n * 1) (rep [V.i .i64 0] n)) = hF at *
  clear n4
  simp (disch := omega) only [cells1_sl, Nat.reduceEqDiff, ↓reduceIte, bz]
  refine Eq.mpr (xg_mksD (ki := .i64) (n := n) (by simp (disch := omega) only [ev_t, getV_some, getK_set, ↓reduceIte]) (by omega)) ⟨(GF.hc hc).dead, ?_⟩
  have gG := Grow.new (Nat.le_refl hF.nx.nat) (.cells (n * 1) (rep [V.i .i64 0] n))
  have n7 := nx_new hF (.cells (n * 1) (rep [V.i .i64 0] n))
  have b2 := (gG.old h.nx (by omega)).trans b2
  have b3 := (gG.old i3 (by omega)).trans b3
  have b4 := (gG.old i4 (by omega)).trans b4
  have b6 := (gG.old i6 (by omega)).trans b6
  have c1 := c1.grow (GF.hc hc) gG
  have c2 := mks_sl (h := hF) (n := n)
  have m2 : (hF.new (.cells (n * 1) (rep [V.i .i64 0] n))).get hF.nx = .cells (n * 1) (rep [V.i .i64 0] n) := get_new_same
  have GG := GF.trans (gG.low GF.nx)
  have ha2 : a1.nat < hF.nx.nat := by omega
  generalize hF.nx = a2 at *
  generalize hF.new (.cells (n * 1) (rep [V.i .i64 0] n)) = hG at *
  clear n6
  have hcG := GG.hc hc
  have bZ : Blk.cells 2 [V.sn, V.i .i64 0] = Blk.cells 2 [V.sn, V.i .i64 0] := rfl
  have gH := Grow.new (Nat.le_refl hG.nx.nat) (.cells 2 [V.sn, V.i .i64 0])
  have n8 := nx_new hG (.cells 2 [V.sn, V.i .i64 0])
  have b2 := (gH.old h.nx (by omega)).trans b2
  have b3 := (gH.old i3 (by omega)).trans b3
  have b4 := (gH.old i4 (by omega)).trans b4
  have b6 := (gH.old i6 (by omega)).trans b6
  have m2 := (gH.old a2 (by omega)).trans m2
  have b8 : (hG.new (.cells 2 [V.sn, V.i .i64 0])).get hG.nx = .cells 2 [V.sn, V.i .i64 0] := get_new_same
  have c1 := c1.grow hcG gH
  have c2 := c2.grow hcG gH
  have GH := GG.trans (gH.low GG.nx)
  have hi8 : a2.nat < hG.nx.nat := by omega
  have dG := hcG.dead
  simp (disch := omega) only [cells1_sl, Nat.reduceEqDiff, ↓reduceIte, xg_alloc, bz]
  generalize hG.nx = i8 at *
  generalize hG.new (.cells 2 [V.sn, V.i .i64 0]) = hH at *
  have hcH := GH.hc hc
  have gI := Grow.new (Nat.le_refl hH.nx.nat) (.cells 2 [V.sn, V.i .i64 0])
  have n9 := nx_new hH (.cells 2 [V.sn, V.i .i64 0])
  have b2 := (gI.old h.nx (by omega)).trans b2
  have b3 := (gI.old i3 (by omega)).trans b3
  have b4 := (gI.old i4 (by omega)).trans b4
  have b6 := (gI.old i6 (by omega)).trans b6
  have m2 := (gI.old a2 (by omega)).trans m2
  have b8 := (gI.old i8 (by omega)).trans b8
  have b9 : (hH.new (.cells 2 [V.sn, V.i .i64 0])).get hH.nx = .cells 2 [V.sn, V.i .i64 0] := get_new_same
  have c1 := c1.grow hcH gI
  have c2 := c2.grow hcH gI
  have GI := GH.trans (gI.low GH.nx)
  have hi9 : i8.nat < hH.nx.nat := by omega
  refine ⟨dG, hcH.dead, fresh_4 (a1 := a1) (a2 := a2) (a3 := i8) (a4 := hH.nx) (n1 := n) (n2 := n) (by simp (disch := omega) only [getK_set, Nat.reduceEqDiff, ↓reduceIte]) (by simp (disch := omega) only [getK_set, Nat.reduceEqDiff, ↓reduceIte]) (by simp (disch := omega) only [getK_set, Nat.reduceEqDiff, ↓reduceIte]) (by simp (disch := omega) only [getK_set, ↓reduceIte]) (by rw [hae1]; exact Nat.le_refl _) ha2 hi8 hi9 (by omega), ?_⟩
  generalize hH.nx = i9 at *
  generalize hH.new (.cells 2 [V.sn, V.i .i64 0]) = hI at *
  have hcI := GI.hc hc
  have st8 := store2 (x := .sl a1 0 n 1) (y := .i .i64 ((D * u ^ (n - 1) : Nat) : Int)) b8
  have l8 := hcI.cells b8
  have GJ := GI.trans (Grow.put (b := h.nx.nat) (k := i8) (by omega) l8 (.cells 2 [.sl a1 0 n 1, .i .i64 ((D * u ^ (n - 1) : Nat) : Int)]))
  have p8 : (hI.put i8 (.cells 2 [.sl a1 0 n 1, .i .i64 ((D * u ^ (n - 1) : Nat) : Int)])).get i8 = _ := get_put_same
  have b9 : (hI.put i8 (.cells 2 [.sl a1 0 n 1, .i .i64 ((D * u ^ (n - 1) : Nat) : Int)])).get i9 = _ := (get_put_other (fun e => by have := congrArg K.nat e; omega)).trans b9
  have b3 : (hI.put i8 (.cells 2 [.sl a1 0 n 1, .i .i64 ((D * u ^ (n - 1) : Nat) : Int)])).get i3 = _ := (get_put_other (fun e => by have := congrArg K.nat e; omega)).trans b3
  have b4 : (hI.put i8 (.cells 2 [.sl a1 0 n 1, .i .i64 ((D * u ^ (n - 1) : Nat) : Int)])).get i4 = _ := (get_put_other (fun e => by have := congrArg K.nat e; omega)).trans b4
  have b6 : (hI.put i8 (.cells 2 [.sl a1 0 n 1, .i .i64 ((D * u ^ (n - 1) : Nat) : Int)])).get i6 = _ := (get_put_other (fun e => by have := congrArg K.nat e; omega)).trans b6
  have m2 : (hI.put i8 (.cells 2 [.sl a1 0 n 1, .i .i64 ((D * u ^ (n - 1) : Nat) : Int)])).get a2 = _ := (get_put_other (fun e => by have := congrArg K.nat e; omega)).trans m2
  have c1 := c1.put (id := i8) (fun off m sz e => by cases e; omega) (.cells 2 [.sl a1 0 n 1, .i .i64 ((D * u ^ (n - 1) : Nat) : Int)])
  have c2 := c2.put (id := i8) (fun off m sz e => by cases e; omega) (.cells 2 [.sl a1 0 n 1, .i .i64 ((D * u ^ (n - 1) : Nat) : Int)])
  have mk := mk_ok (kk := .i64) (n := n) (by omega) m2
  have st9 := store2 (x := .sl a2 0 n 1) (y := .i .i64 ((D * u ^ (n - 1) : Nat) : Int)) b9
  simp (disch := omega) only [cells1_sl, Nat.reduceEqDiff, ↓reduceIte, stay_build, st8, stay_mksD, mk, beq_pg, st9, bz]
  clear st8 st9 mk m2 b2
  generalize hI.put i8 (.cells 2 [.sl a1 0 n 1, .i .i64 ((D * u ^ (n - 1) : Nat) : Int)]) = hJ at *
  have hcJ := GJ.hc hc
  have l9 := hcJ.cells b9
  have GK := GJ.trans (Grow.put (b := h.nx.nat) (k := i9) (by omega) l9 (.cells 2 [.sl a2 0 n 1, .i .i64 ((D * u ^ (n - 1) : Nat) : Int)]))
  have p9 : (hJ.put i9 (.cells 2 [.sl a2 0 n 1, .i .i64 ((D * u ^ (n - 1) : Nat) : Int)])).get i9 = _ := get_put_same
  have p8 : (hJ.put i9 (.cells 2 [.sl a2 0 n 1, .i .i64 ((D * u ^ (n - 1) : Nat) : Int)])).get i8 = _ := (get_put_other (fun e => by have := congrArg K.nat e; omega)).trans p8
  have b3 : (hJ.put i9 (.cells 2 [.sl a2 0 n 1, .i .i64 ((D * u ^ (n - 1) : Nat) : Int)])).get i3 = _ := (get_put_other (fun e => by have := congrArg K.nat e; omega)).trans b3
  have b4 : (hJ.put i9 (.cells 2 [.sl a2 0 n 1, .i .i64 ((D * u ^ (n - 1) : Nat) : Int)])).get i4 = _ := (get_put_other (fun e => by have := congrArg K.nat e; omega)).trans b4
  have b6 : (hJ.put i9 (.cells 2 [.sl a2 0 n 1, .i .i64 ((D * u ^ (n - 1) : Nat) : Int)])).get i6 = _ := (get_put_other (fun e => by have := congrArg K.nat e; omega)).trans b6
  have c1 := c1.put (id := i9) (fun off m sz e => by cases e; omega) (.cells 2 [.sl a2 0 n 1, .i .i64 ((D * u ^ (n - 1) : Nat) : Int)])
  have c2 := c2.put (id := i9) (fun off m sz e => by cases e; omega) (.cells 2 [.sl a2 0 n 1, .i .i64 ((D * u ^ (n - 1) : Nat) : Int)])
  have sx := slcX7 (kk := .i64) (kl := .i64) (n := n) b6 (by omega)
  simp (disch := omega) only [f80_r6, Option.map_none, Option.map_some, Nat.reduceEqDiff, ↓reduceIte, x_slcX, slcXV_eq, sx, bz]
  generalize hJ.put i9 (.cells 2 [.sl a2 0 n 1, .i .i64 ((D * u ^ (n - 1) : Nat) : Int)]) = hK at *
  clear sx
  rw [← cLp_0 (L := fun j => l.getD j 0) (o := o) (u := u)] at c1
  rw [← cRp_0 (L := fun j => l.getD j 0) (o := o) (u := u)] at c2
  refine W_loop (f80_I h (fun j => l.getD j 0) i3 i4 i6 a1 a2 i8 i9 o u D n) (fun r => n - r) ?_ 0 ⟨Nat.zero_le _, GK, b3, b4, p8, p9, ⟨_, b6, fun j _ => rfl⟩, c1, c2, by simp (disch := omega) only [getK_set, Nat.reduceEqDiff, ↓reduceIte, and_self, Nat.sub_zero]⟩
  clear c1 c2 b3 b4 p8 p9 b6 GK GJ GI GH GG GF GE GD GC GB hcD hcE hcG hcH hcI hcJ
  generalize hL : (fun j => l.getD j 0) = L at *
  have hbL : ∀ i, (L i).natAbs ≤ 240000000 := by rw [← hL]; exact hb
  rintro r fr h1 ⟨hr, G1, b3, b4, p8, p9, ⟨F, b6, q6⟩, c1, c2, g3, g4, g5, g8, g9, g10⟩
  have hc1 := G1.hc hc
  have k3 := hc1.cells b3
  have k4 := hc1.cells b4
  have k6 := hc1.cells b6
  have k8 := hc1.cells p8
  have k9 := hc1.cells p9
  unfold f80_l0
  by_cases hlt : r < n
  · obtain ⟨m, hm⟩ : ∃ m, n - r = m + 1 := ⟨n - r - 1, by omega⟩
    rw [hm] at g10 q6
    have len := fun X : H => len_slt (h := X) (id := i6) (n := m + 1)
    have d1 : decide (((m + 1 : Nat) : Int) > 0) = true := decide_eq_true (by omega)
    have em : fw .i64 (((m + 1 : Nat) : Int) - 1) = (m : Int) := by rw [fw64 (by omega) (by omega)]; omega
    have l3 : loadV h1 (.p i3 1) one? = .ok (.i .i64 (u : Int)) h1 := load_p b3 rfl
    have e102 := fun P => f102_eq (h := h1) k102 hu (show m ≤ 7 by omega) (P := P)
    have er : fw .i64 ((n : Int) - ((m + 1 : Nat) : Int)) = (r : Int) := by rw [fw64 (by omega) (by omega)]; omega
    have l8 : loadV h1 (.p i8 0) one? = .ok (.sl a1 0 n 1) h1 := load_p p8 rfl
    have ia0 : ∀ X : H, iadsV 1 (.slt i6 0 (m + 1) 1) (.i .i64 0) X = .ok (.p i6 (0 + 0 * 1)) X := fun X => iads_slt (i := 0) (kk := .i64) (by omega) X
    have ld0 := ro7_ld (i := 0) b6 (by omega)
    rw [q6 0 (by omega)] at ld0
    have rb := rb_le (r := r) (k := m) ho hu (by omega) hbL 0
    have w1 : fw .i64 (ri L (o : Int) (u : Int) r 0 * ((u ^ m : Nat) : Int)) = cLf L o u n r := by
      unfold cLf
      rw [show n - 1 - r = m by omega]
      exact fw64 (by omega) (by omega)
    have hrl : r < (cLp L o u n r).length := by rw [cLp_len]; exact hlt
    obtain ⟨p', idu, mm, cs', x1, x2, x3, ⟨off, n', sz, x4⟩, x5⟩ := c1.st (i := r) hrl (x := cLf L o u n r) (c := .i .i64 (cLf L o u n r)) rfl rfl hc1
    cases x4
    rw [cLp_set] at x3
    simp (disch := omega) only [f80_r7, f80_r8, f80_r9, f80_r10, xg_len, Nat.reduceEqDiff, ↓reduceIte, g3, g5, g8, g10, len, d1, em, l3, e102, l8, er, ia0, ld0, w1, x1, x2, bz]
    have G2 := G1.trans (Grow.put (b := h.nx.nat) (k := a1) (by omega) x5 (.cells mm cs'))
    have b3 : (h1.put a1 (.cells mm cs')).get i3 = _ := (get_put_other (fun e => by have := congrArg K.nat e; omega)).trans b3
    have b4 : (h1.put a1 (.cells mm cs')).get i4 = _ := (get_put_other (fun e => by have := congrArg K.nat e; omega)).trans b4
    have p8 : (h1.put a1 (.cells mm cs')).get i8 = _ := (get_put_other (fun e => by have := congrArg K.nat e; omega)).trans p8
    have p9 : (h1.put a1 (.cells mm cs')).get i9 = _ := (get_put_other (fun e => by have := congrArg K.nat e; omega)).trans p9
    have b6 : (h1.put a1 (.cells mm cs')).get i6 = _ := (get_put_other (fun e => by have := congrArg K.nat e; omega)).trans b6
    have c2 := c2.put (id := a1) (fun off m sz e => by cases e; omega) (.cells mm cs')
    clear x1 x2 ld0 l8 l3 c1
    generalize h1.put a1 (.cells mm cs') = h2 at *
    have hc2 := G2.hc hc
    have l9 : loadV h2 (.p i9 0) one? = .ok (.sl a2 0 n 1) h2 := load_p p9 rfl
    have iam := fun kk (X : H) => iads_slt (id := i6) (n := m + 1) (i := m) (kk := kk) (by omega) X
    have ldm := ro7_ld (i := m) b6 (by omega)
    rw [q6 m (by omega)] at ldm
    have rb := rb_le (r := r) (k := m) ho hu (by omega) hbL m
    have w2 : fw .i64 (ri L (o : Int) (u : Int) r m * ((u ^ m : Nat) : Int)) = cRf L o u n m := by
      unfold cRf
      rw [show n - 1 - m = r by omega]
      exact fw64 (by omega) (by omega)
    have hml : m < (cRp L o u n r).length := by rw [cRp_len]; omega
    obtain ⟨p2, idu, m2, cs2, x1, x2, x6, ⟨off, n', sz, x4⟩, x7⟩ := c2.st (i := m) hml (x := cRf L o u n m) (c := .i .i64 (cRf L o u n m)) rfl rfl hc2
    cases x4
    rw [cRp_set hm] at x6
    have c1 := x3.put (id := a2) (fun off m sz e => by cases e; omega) (.cells m2 cs2)
    have G3 := G2.trans (Grow.put (b := h.nx.nat) (k := a2) (by omega) x7 (.cells m2 cs2))
    have b3 : (h2.put a2 (.cells m2 cs2)).get i3 = _ := (get_put_other (fun e => by have := congrArg K.nat e; omega)).trans b3
    have b4 : (h2.put a2 (.cells m2 cs2)).get i4 = _ := (get_put_other (fun e => by have := congrArg K.nat e; omega)).trans b4
    have p8 : (h2.put a2 (.cells m2 cs2)).get i8 = _ := (get_put_other (fun e => by have := congrArg K.nat e; omega)).trans p8
    have p9 : (h2.put a2 (.cells m2 cs2)).get i9 = _ := (get_put_other (fun e => by have := congrArg K.nat e; omega)).trans p9
    have b6 : (h2.put a2 (.cells m2 cs2)).get i6 = _ := (get_put_other (fun e => by have := congrArg K.nat e; omega)).trans b6
    simp (disch := omega) only [f80_r11, Nat.reduceEqDiff, ↓reduceIte, g9, g10, l9, iam, ldm, w2, x1, x2, bz]
    clear x1 x2 ldm l9 x3 c2
    generalize h2.put a2 (.cells m2 cs2) = h3 at *
    have hc3 := G3.hc hc
    have m3 := load2 b3
    simp (disch := omega) only [f80_r12, Nat.reduceEqDiff, ↓reduceIte, g3, g10, m3, bz]
    refine (callP_0 (ef := f103) k103 rfl (f103_ret (F := F) (m := m) (M := 4026531840000000) k113 k95 ho hu (by omega) (fun j hj => by rw [q6 j (by omega)]; exact ri_le' ho hu (by omega) hbL j) (by omega) b6 hc3)).mono ?_
    rintro rr h4 ⟨rfl, ⟨F', y1, y2⟩, ks⟩
    have G4 := G3.trans (ks.toGrow (b := h.nx.nat) (fun id e => by rw [e]; omega) G3.nx)
    have k3 := hc3.cells b3
    have k4 := hc3.cells b4
    have k8 := hc3.cells p8
    have k9 := hc3.cells p9
    have o3 := (ks.old i3 k3 (fun e => by have := congrArg K.nat e; omega)).trans b3
    have o4 := (ks.old i4 k4 (fun e => by have := congrArg K.nat e; omega)).trans b4
    have o8 := (ks.old i8 k8 (fun e => by have := congrArg K.nat e; omega)).trans p8
    have o9 := (ks.old i9 k9 (fun e => by have := congrArg K.nat e; omega)).trans p9
    have v1 := c1.same fun id off m sz e => ks.old id (c1.lt hc3 id off m sz e) (fun e' => by cases e; have := congrArg K.nat e'; omega)
    have v2 := x6.same fun id off m sz e => ks.old id (x6.lt hc3 id off m sz e) (fun e' => by cases e; have := congrArg K.nat e'; omega)
    simp (disch := omega) only [↓reduceIte, bz]
    have hm' : n - (r + 1) = m := by omega
    refine ⟨r + 1, by omega, by omega, G4, o3, o4, o8, o9, ⟨F', y1, fun j hj => ?_⟩, v1, v2, by simp (disch := omega) only [getK_set, Nat.reduceEqDiff, ↓reduceIte, g3, g4, g5, g8, g9, and_self, hm']⟩
    rw [hm'] at hj
    rw [y2 j hj, q6 j (by omega), q6 (j + 1) (by omega)]
    rfl
  · have d1 : decide (((n - r : Nat) : Int) > 0) = false := decide_eq_false (by omega)
    obtain rfl : r = n := by omega
    have len := fun X : H => len_slt (h := X) (id := i6) (n := r - r)
    have m8 := load2 p8
    have m9 := load2 p9
    have st := store4 (x := .sl a1 0 r 1) (y := .i .i64 ((D * u ^ (r - 1) : Nat) : Int)) (z := .sl a2 0 r 1) (w := .i .i64 ((D * u ^ (r - 1) : Nat) : Int)) b4
    have rd := read4 (h := h1.put i4 (.cells 4 [.sl a1 0 r 1, .i .i64 ((D * u ^ (r - 1) : Nat) : Int), .sl a2 0 r 1, .i .i64 ((D * u ^ (r - 1) : Nat) : Int)])) (id := i4) get_put_same
    simp (disch := omega) only [f80_r7, f80_r13, f80_rs, Option.some.injEq, exists_eq_left', Nat.reduceEqDiff, ↓reduceIte, Bool.false_eq_true, g4, g8, g9, g10, len, d1, m8, m9, fill_22, set_22, st, rd, bz]
    exact ⟨⟨_, _, rfl, c1.put (fun off m sz e => by cases e; omega) _, c2.put (fun off m sz e => by cases e; omega) _, by omega, by omega⟩, G1.trans (Grow.put (by omega) k4 _)⟩
end
end Go.Ev
namespace Go.Ev
open Go Go.RowKit
noncomputable def f39_r0 : List EOper := [oG 2 (.alloc 2 [.sn, .sn]), oG 3 (.as (cG 0))]
noncomputable def f39_r1 : List EOper := [oG 8 (.mv (tG 0)), oG 9 (.call (fG 78) [(tG 8)]), oG 7 (.mv (tG 9)), oG 10 (.ext (tG 7) 0), oG 11 (.ext (tG 7) 1), oG 4 (.alloc 2 [.sn, (.i .i64 (.ofNat 0))]), ⟨none, none, .st 2 (tG 4) (tG 10)⟩, oG 5 (.as (tG 11))]
noncomputable def f39_r2 : List EOper := [oG 12 (.mv (tG 5)), oG 13 (.not (tG 12))]
noncomputable def f39_r3 : List EOper := [oG 14 (.build [.sn, .sn] []), ⟨none, none, .st 2 (tG 2) (tG 14)⟩, oG 3 (.as (cG 1))]
noncomputable def f39_r4 : List EOper := [oG 15 (.ldn 2 (tG 4)), oG 16 (.mv (.c (.agg [(.i .i64 (.ofNat 1)), (.i .i64 (.ofNat 2))]))), oG 17 (.call (fG 80) [(tG 15), (tG 16)]), oG 6 (.alloc 4 [.sn, (.i .i64 (.ofNat 0)), .sn, (.i .i64 (.ofNat 0))]), ⟨none, none, .st 4 (tG 6) (tG 17)⟩]
noncomputable def f39_r5 : List Stage := [⟨[oG 18 (.iadr 2 2 (tG 6) (cG 0)), oG 19 (.ldn 2 (tG 18)), oG 21 (.iadr 2 2 (tG 6) (cG 1)), oG 22 (.ldn 2 (tG 21))], [], (some (oG 20 (.call (fG 65) [(tG 19)]))), []⟩, ⟨[], [oG 21 (.iadr 2 2 (tG 6) (cG 1)), oG 22 (.ldn 2 (tG 21))], (some (oG 23 (.call (fG 65) [(tG 22)]))), []⟩, ⟨[oG 24 (.build [.sn, .sn] [(0, 1, (tG 20)), (1, 1, (tG 23))])], [], (some ⟨none, none, .st 2 (tG 2) (tG 24)⟩), []⟩, ⟨[], [], (some (oG 3 (.as (cG 0)))), []⟩, ⟨[], [], none, []⟩]
noncomputable def f39_c : EC := (.seq (.reg f39_r0) (.seq (.reg f39_r1) (.seq (.seq (.reg f39_r2) (.cond (tG 13) (.seq (.reg f39_r3) .ret) .skip)) (.seq (.reg f39_r4) (.seq (.draw f39_r5) .ret)))))
noncomputable def f39 : EF := ⟨25, [.celln (.ofNat 2) 2, .tmp (.ofNat 3)], f39_c, none⟩
theorem f39_rs : f39.rs = [.celln (.ofNat 2) 2, .tmp (.ofNat 3)] := of_eq_true (eq_self _)
section
variable {fs : T EF} {h : H} {v w u : V} {id : K} {l : List Int} {C : List (Int × Int)}
theorem cLp_le {L : Nat → Int} {o u n : Nat} (ho : o ≤ u) (hu : u ≤ 16) (hn : n ≤ 7) (hl : ∀ i, (L i).natAbs ≤ 240000000) (i : Nat) : ((cLp L o u n n).getD i 0).natAbs ≤ M63 := by
  rw [List.getD_eq_getElem?_getD]
  by_cases hi : i < n
  · rw [List.getElem?_eq_getElem (by rw [cLp_len]; exact hi)]
    simp only [cLp, List.getElem_map, List.getElem_range, if_pos hi, Option.getD_some]
    have := rb_le (r := i) (k := n - 1 - i) ho hu (by omega) hl 0
    unfold cLf M63; omega
  · rw [List.getElem?_eq_none (by rw [cLp_len]; omega)]; decide
theorem cRp_le {L : Nat → Int} {o u n : Nat} (ho : o ≤ u) (hu : u ≤ 16) (hn : n ≤ 7) (hl : ∀ i, (L i).natAbs ≤ 240000000) (i : Nat) : ((cRp L o u n n).getD i 0).natAbs ≤ M63 := by
  rw [List.getD_eq_getElem?_getD]
  by_cases hi : i < n
  · rw [List.getElem?_eq_getElem (by rw [cRp_len]; exact hi)]
    simp only [cRp, List.getElem_map, List.getElem_range, Option.getD_some]
    rw [if_pos (by omega)]
    have := rb_le (r := n - 1 - i) (k := i) ho hu (by omega) hl i
    unfold cRf M63; omega
  · rw [List.getElem?_eq_none (by rw [cRp_len]; omega)]; decide
def lfP (C : List (Int × Int)) (o u : Nat) : List (Int × Int) := rwL (paR (cLp (fun j => (gvL C).getD j 0) o u C.length C.length) (240 * u ^ (C.length - 1))) C.length
def rtP (C : List (Int × Int)) (o u : Nat) : List (Int × Int) := rwL (paR (cRp (fun j => (gvL C).getD j 0) o u C.length C.length) (240 * u ^ (C.length - 1))) C.length
structure CallsHa (fs : T EF) : Prop extends CallsRa fs where
  c80 : fs.get (K.ofNat 80) = some f80
  c102 : fs.get (K.ofNat 102) = some f102
  c103 : fs.get (K.ofNat 103) = some f103
  c113 : fs.get (K.ofNat 113) = some f113
theorem pw_le {u n : Nat} (hu : u ≤ 16) (hn : n ≤ 7) : 240 * u ^ (n - 1) ≤ 240 * 16777216 := Nat.mul_le_mul_left _ (Nat.le_trans (Nat.pow_le_pow_left hu _) (show 16 ^ (n - 1) ≤ 16 ^ 6 from Nat.pow_le_pow_right (by omega) (by omega)))
theorem st4 {c1 c2 c3 c4 x y z w : V} (hb : h.get id = .cells 4 [c1, c2, c3, c4]) : storeV h 4 (.p id 0) (.agg [x, y, z, w]) = .ok undefV (h.put id (.cells 4 [x, y, z, w])) := store4 hb
theorem ld42 {x y z w : V} (hb : h.get id = .cells 4 [x, y, z, w]) : loadV h (.p id (0 + 0 * 2)) (many? 2) = .ok (.agg [x, y]) h ∧ loadV h (.p id (0 + 1 * 2)) (many? 2) = .ok (.agg [z, w]) h := by
  constructor
  · rw [loadn_p hb (by omega)]; rfl
  · rw [loadn_p hb (by omega)]; rfl
theorem f39_ret (k : CallsHa fs) (hl : C.length ≤ 1000000) (hv : Srp h v C) (hc : HC h) : Ret fs f39 [v] h fun r h' => ((gvB C = true ∧ ∃ o1 o2, r = .tup [.agg [o1, o2], .i .i64 0] ∧ Sk 2 qE h' o1 (lfP C 1 2) ∧ Sk 2 qE h' o2 (rtP C 1 2) ∧ Own h.nx.nat o1 ∧ Own h.nx.nat o2) ∨ (gvB C = false ∧ r = .tup [.agg [.sn, .sn], .i .i64 1])) ∧ Grow h.nx.nat h h' := by
  apply ret_of rfl
  show W fs none f39_c _ _ _
  unfold f39_c
  have gA := Grow.new (Nat.le_refl h.nx.nat) (.cells 2 [.sn, .sn])
  have n1 := nx_new h (.cells 2 [.sn, .sn])
  have b2 : (h.new (.cells 2 [.sn, .sn])).get h.nx = .cells 2 [.sn, .sn] := get_new_same
  simp (disch := omega) only [f39_r0, f39_r1, Nat.reduceEqDiff, ↓reduceIte, bz]
  generalize h.new (.cells 2 [.sn, .sn]) = hA at *
  have hcA := gA.hc hc
  refine (callP_0 (ef := f78) k.c78 rfl (f78_ret k.c104 k.c101 hl (hv.grow hc gA) hcA)).mono ?_
  rintro r h1 ⟨hr, g1⟩
  have b2 := (g1.old _ (by omega)).trans b2
  have G1 := gA.trans (g1.low gA.nx)
  have hc1 := G1.hc hc
  have g1n := g1.nx
  rcases hr with ⟨hb, uu, rfl, su, ou⟩ | ⟨hb, rfl⟩
  · obtain ⟨q1, q7, bC⟩ := gvB_iff.1 hb
    have st : storeV (h1.new (.cells 2 [.sn, .i .i64 0])) 2 (.p h1.nx 0) (.agg [uu, .i .i64 240]) = .ok undefV ((h1.new (.cells 2 [.sn, .i .i64 0])).put h1.nx (.cells 2 [uu, .i .i64 240])) := store2 get_new_same
    have gN := (Grow.new (Nat.le_refl h1.nx.nat) (.cells 2 [.sn, .i .i64 0])).trans (Grow.put (b := h1.nx.nat) (h := h1.new (.cells 2 [.sn, .i .i64 0])) (k := h1.nx) (Nat.le_refl _) (by rw [nx_new]; omega) (.cells 2 [uu, .i .i64 240]))
    have m4 := load2 (h := (h1.new (.cells 2 [.sn, .i .i64 0])).put h1.nx (.cells 2 [uu, .i .i64 240])) (id := h1.nx) get_put_same
    have su2 := su.sr.grow hc1 gN
    have b2 := (gN.old h.nx (by omega)).trans b2
    have G2 := G1.trans (gN.low G1.nx)
    have hc2 := G2.hc hc
    simp (disch := omega) only [f39_r2, f39_r4, Nat.reduceEqDiff, ↓reduceIte, Bool.false_eq_true, Bool.not_true, st, m4, bz]
    generalize (h1.new (.cells 2 [.sn, .i .i64 0])).put h1.nx (.cells 2 [uu, .i .i64 240]) = h2 at *
    have gl := gvL_len (C := C)
    refine (callP_0 (ef := f80) k.c80 rfl (f80_ret (o := 1) (u := 2) (D := 240) k.c102 k.c103 k.c113 k.c95 (by omega) (by omega) (by omega) (by omega) (by omega) (gv_le bC) su2 hc2)).mono ?_
    rintro r h3 ⟨⟨a1, a2, rfl, s1, s2, oa1, oa2⟩, g3⟩
    rw [gl] at s1 s2
    have G3 := G2.trans (g3.low G2.nx)
    have hc3 := G3.hc hc
    have b2 := (g3.old h.nx (by have := gN.nx; omega)).trans b2
    rw [gl]
    have hpw := pw_le (u := 2) (n := C.length) (by omega) q7
    have hpp : 0 < 2 ^ (C.length - 1) := Nat.pow_pos (by decide)
    have uL := cLp_le (L := fun j => (gvL C).getD j 0) (o := 1) (u := 2) (n := C.length) (by omega) (by omega) q7 (gv_le bC)
    have uR := cRp_le (L := fun j => (gvL C).getD j 0) (o := 1) (u := 2) (n := C.length) (by omega) (by omega) q7 (gv_le bC)
    have el := cLp_len (L := fun j => (gvL C).getD j 0) (o := 1) (u := 2) (n := C.length) (r := C.length)
    have er := cRp_len (L := fun j => (gvL C).getD j 0) (o := 1) (u := 2) (n := C.length) (r := C.length)
    have eL : rwL (paR (cLp (fun j => (gvL C).getD j 0) 1 2 C.length C.length) (240 * 2 ^ (C.length - 1))) (cLp (fun j => (gvL C).getD j 0) 1 2 C.length C.length).length = lfP C 1 2 := by rw [el]; rfl
    have eR : rwL (paR (cRp (fun j => (gvL C).getD j 0) 1 2 C.length C.length) (240 * 2 ^ (C.length - 1))) (cRp (fun j => (gvL C).getD j 0) 1 2 C.length C.length).length = rtP C 1 2 := by rw [er]; rfl
    generalize hdd : 240 * 2 ^ (C.length - 1) = dd at *
    generalize cLp (fun j => (gvL C).getD j 0) 1 2 C.length C.length = lL at *
    generalize cRp (fun j => (gvL C).getD j 0) 1 2 C.length C.length = lR at *
    have gX := Grow.new (Nat.le_refl h3.nx.nat) (.cells 4 [.sn, .i .i64 0, .sn, .i .i64 0])
    have n6 := nx_new h3 (.cells 4 [.sn, .i .i64 0, .sn, .i .i64 0])
    have b6 : (h3.new (.cells 4 [.sn, .i .i64 0, .sn, .i .i64 0])).get h3.nx = .cells 4 [.sn, .i .i64 0, .sn, .i .i64 0] := get_new_same
    have b2 := (gX.old h.nx (by have := g3.nx; have := gN.nx; omega)).trans b2
    have l1 := s1.lt hc3 _ _ _ _ rfl
    have l2 := s2.lt hc3 _ _ _ _ rfl
    have s1 := s1.grow hc3 gX
    have s2 := s2.grow hc3 gX
    have GX := G3.trans (gX.low G3.nx)
    have hi6 : h.nx.nat < h3.nx.nat := by have := g3.nx; have := gN.nx; omega
    have st6 := store4 (x := .sl a1 0 C.length 1) (y := .i .i64 (dd : Int)) (z := .sl a2 0 C.length 1) (w := .i .i64 (dd : Int)) b6
    have s1 := s1.put (id := h3.nx) (fun off m sz e => by cases e; omega) (.cells 4 [.sl a1 0 C.length 1, .i .i64 (dd : Int), .sl a2 0 C.length 1, .i .i64 (dd : Int)])
    have s2 := s2.put (id := h3.nx) (fun off m sz e => by cases e; omega) (.cells 4 [.sl a1 0 C.length 1, .i .i64 (dd : Int), .sl a2 0 C.length 1, .i .i64 (dd : Int)])
    have GY := GX.trans (Grow.put (b := h.nx.nat) (k := h3.nx) (by omega) (by omega) (.cells 4 [.sl a1 0 C.length 1, .i .i64 (dd : Int), .sl a2 0 C.length 1, .i .i64 (dd : Int)]))
    have b6' : ((h3.new (.cells 4 [.sn, .i .i64 0, .sn, .i .i64 0])).put h3.nx (.cells 4 [.sl a1 0 C.length 1, .i .i64 (dd : Int), .sl a2 0 C.length 1, .i .i64 (dd : Int)])).get h3.nx = _ := get_put_same
    have b2 : ((h3.new (.cells 4 [.sn, .i .i64 0, .sn, .i .i64 0])).put h3.nx (.cells 4 [.sl a1 0 C.length 1, .i .i64 (dd : Int), .sl a2 0 C.length 1, .i .i64 (dd : Int)])).get h.nx = _ := (get_put_other (fun e => by have := congrArg K.nat e; omega)).trans b2
    obtain ⟨ld1, ld2⟩ := ld42 b6'
    simp (disch := omega) only [f39_r5, Nat.reduceEqDiff, ↓reduceIte, st6, ld1, ld2, bz]
    clear ld1 ld2 st6 b6
    generalize h3.nx = i6 at *
    generalize (h3.new (.cells 4 [.sn, .i .i64 0, .sn, .i .i64 0])).put i6 (.cells 4 [.sl a1 0 C.length 1, .i .i64 (dd : Int), .sl a2 0 C.length 1, .i .i64 (dd : Int)]) = h4 at *
    have hc4 := GY.hc hc
    have j6 := hc4.cells b6'
    refine (callP_0 (ef := f65) k.c65 rfl (f65_ret k.c89 k.c104 k.c62 (D := dd) (by omega) (by unfold M63; omega) (by omega) uL s1.sr hc4)).mono ?_
    rintro o1 h5 ⟨so1, oo1, g5⟩
    have b6 := (g5.old i6 j6).trans b6'
    have b2 := (g5.old h.nx (by omega)).trans b2
    have s2 := s2.grow hc4 g5
    have G5 := GY.trans (g5.low GY.nx)
    have hc5 := G5.hc hc
    obtain ⟨_, ld2⟩ := ld42 b6
    simp (disch := omega) only [Nat.reduceEqDiff, ↓reduceIte, ld2, beq_pg, bz]
    refine (callP_0 (ef := f65) k.c65 rfl (f65_ret k.c89 k.c104 k.c62 (D := dd) (by omega) (by unfold M63; omega) (by omega) uR s2.sr hc5)).mono ?_
    rintro o2 h6 ⟨so2, oo2, g6⟩
    have so1 := so1.grow hc5 g6
    have g5n := g5.nx
    have b2 := (g6.old h.nx (by omega)).trans b2
    have G6 := G5.trans (g6.low G5.nx)
    have hc6 := G6.hc hc
    rw [eL] at so1
    rw [eR] at so2
    have e1 := so1.one
    have e2 := so2.one
    have st2 := store2 (x := o1) (y := o2) b2
    have rd := read2 (h := h6.put h.nx (.cells 2 [o1, o2])) (id := h.nx) get_put_same
    have l2 := hc6.cells b2
    simp (disch := omega) only [f39_rs, Option.some.injEq, exists_eq_left', Nat.reduceEqDiff, ↓reduceIte, e1, e2, st2, rd, bz]
    exact ⟨.inl ⟨hb, o1, o2, rfl, so1.put (fun off m sz e => by have := oo1 _ _ _ _ e; omega) _, so2.put (fun off m sz e => by have := oo2 _ _ _ _ e; have := g5.nx; omega) _, fun id off m sz e => by have := oo1 _ _ _ _ e; have := GY.nx; omega, fun id off m sz e => by have := oo2 _ _ _ _ e; have := G5.nx; omega⟩, G6.trans (Grow.put (Nat.le_refl _) l2 _)⟩
  · have gN := Grow.new (Nat.le_refl h1.nx.nat) (.cells 2 [.sn, .i .i64 0])
    have st : storeV (h1.new (.cells 2 [.sn, .i .i64 0])) 2 (.p h1.nx 0) (.agg [.sn, .i .i64 0]) = .ok undefV ((h1.new (.cells 2 [.sn, .i .i64 0])).put h1.nx (.cells 2 [.sn, .i .i64 0])) := store2 get_new_same
    have gN := (Grow.new (Nat.le_refl h1.nx.nat) (.cells 2 [.sn, .i .i64 0])).trans (Grow.put (b := h1.nx.nat) (h := h1.new (.cells 2 [.sn, .i .i64 0])) (k := h1.nx) (Nat.le_refl _) (by rw [nx_new]; omega) (.cells 2 [.sn, .i .i64 0]))
    have b2 := (gN.old h.nx (by omega)).trans b2
    have st2 := store2 (x := .sn) (y := .sn) b2
    have G2 := G1.trans (gN.low G1.nx)
    have l2 := (G2.hc hc).cells b2
    have fl : ∀ fr : Fr, fillE fr [V.sn, .sn] [] = some [.sn, .sn] := fun fr => rfl
    have rd := read2 (h := ((h1.new (.cells 2 [.sn, .i .i64 0])).put h1.nx (.cells 2 [.sn, .i .i64 0])).put h.nx (.cells 2 [.sn, .sn])) (id := h.nx) get_put_same
    simp (disch := omega) only [f39_r2, f39_r3, f39_rs, Option.some.injEq, exists_eq_left', Nat.reduceEqDiff, ↓reduceIte, Bool.not_false, st, fl, st2, rd, bz]
    exact ⟨.inr ⟨hb, trivial⟩, G2.trans (Grow.put (Nat.le_refl _) l2 _)⟩
end
end Go.Ev
namespace Go.Ev
open Go Go.RowKit
noncomputable def f35_r0 : List EOper := [oG 4 (.as (.c (.b false)))]
noncomputable def f35_r1 : List EOper := [oG 6 (.mv (tG 0)), oG 7 (.len (tG 6)), oG 8 (.mv (tG 1)), oG 9 (.len (tG 8)), oG 10 (.bin .neq (tG 7) (tG 9))]
noncomputable def f35_r2 : List EOper := [oG 4 (.as (.c (.b false)))]
noncomputable def f35_r3 : List EOper := [oG 5 (.as (cG 0))]
noncomputable def f35_r4 : List EOper := [oG 11 (.mv (tG 5)), oG 12 (.mv (tG 0)), oG 13 (.len (tG 12)), oG 14 (.bin .lss (tG 11) (tG 13))]
noncomputable def f35_r5 : List Stage := [⟨[oG 17 (.mv (tG 0)), oG 18 (.mv (tG 5)), oG 19 (.iads 2 (tG 17) (tG 18)), oG 20 (.ldn 2 (tG 19)), oG 21 (.mv (tG 1)), oG 22 (.mv (tG 5)), oG 23 (.iads 2 (tG 21) (tG 22)), oG 24 (.ldn 2 (tG 23)), oG 25 (.eqk (.many [(some .i64), (some .i64)]) true (tG 20) (tG 24))], [], none, []⟩]
noncomputable def f35_r6 : List EOper := [oG 4 (.as (.c (.b false)))]
noncomputable def f35_r7 : List EOper := [oG 15 (.mv (tG 5)), oG 16 (.bin .add (tG 15) (cG 1)), oG 5 (.as (tG 16))]
noncomputable def f35_l0 : EC := (.seq (.seq (.reg f35_r4) (.cond (tG 14) .skip (.exit 0))) (.seq (.block 1 (.seq (.draw f35_r5) (.cond (tG 25) (.seq (.reg f35_r6) .ret) .skip))) (.reg f35_r7)))
noncomputable def f35_r8 : List EOper := [oG 4 (.as (.c (.b true)))]
noncomputable def f35_c : EC := (.seq (.reg f35_r0) (.seq (.seq (.reg f35_r1) (.cond (tG 10) (.seq (.reg f35_r2) .ret) .skip)) (.seq (.seq (.reg f35_r3) (.block 0 (.loop f35_l0))) (.seq (.reg f35_r8) .ret))))
noncomputable def f35 : EF := ⟨26, [.tmp (.ofNat 4)], f35_c, none⟩
theorem f35_rs : f35.rs = [.tmp (.ofNat 4)] := of_eq_true (eq_self _)
noncomputable def f43_r0 : List EOper := [oG 2 (.as (.c .sn))]
noncomputable def f43_r1 : List EOper := [oG 7 (.mv (tG 0)), oG 8 (.len (tG 7)), oG 3 (.as (tG 8))]
noncomputable def f43_r2 : List EOper := [oG 4 (.as (.c .sn))]
noncomputable def f43_r3 : List EOper := [oG 5 (.as (cG 0))]
noncomputable def f43_r4 : List EOper := [oG 9 (.mv (tG 5)), oG 10 (.mv (tG 3)), oG 11 (.bin .leq (tG 9) (tG 10))]
noncomputable def f43_r5 : List EOper := [oG 14 (.build [(.i .i64 (.ofNat 0)), (.i .i64 (.ofNat 0))] [(0, 1, (cG 0)), (1, 1, (cG 1))]), oG 6 (.alloc 2 [(.i .i64 (.ofNat 0)), (.i .i64 (.ofNat 0))]), ⟨none, none, .st 2 (tG 6) (tG 14)⟩]
noncomputable def f43_r6 : List EOper := [oG 15 (.mv (tG 5)), oG 16 (.bin .gtr (tG 15) (cG 0))]
noncomputable def f43_r7 : List Stage := [⟨[oG 17 (.ldn 2 (tG 6)), oG 18 (.mv (tG 0)), oG 19 (.mv (tG 5)), oG 20 (.bin .sub (tG 19) (cG 1)), oG 21 (.iads 2 (tG 18) (tG 20)), oG 22 (.ldn 2 (tG 21)), oG 23 (.mv (tG 5)), oG 24 (.mv (tG 3))], [], (some (oG 25 (.call (fG 54) [(tG 23), (tG 24)]))), []⟩, ⟨[], [oG 17 (.ldn 2 (tG 6)), oG 18 (.mv (tG 0)), oG 19 (.mv (tG 5)), oG 20 (.bin .sub (tG 19) (cG 1)), oG 21 (.iads 2 (tG 18) (tG 20)), oG 22 (.ldn 2 (tG 21))], (some (oG 26 (.call (fG 75) [(tG 22), (tG 25)]))), []⟩, ⟨[], [oG 17 (.ldn 2 (tG 6))], (some (oG 27 (.call (fG 74) [(tG 17), (tG 26)]))), []⟩, ⟨[], [], (some ⟨none, none, .st 2 (tG 6) (tG 27)⟩), []⟩, ⟨[], [], none, []⟩]
noncomputable def f43_r8 : List EOper := [oG 28 (.mv (tG 5)), oG 29 (.mv (tG 3)), oG 30 (.bin .lss (tG 28) (tG 29))]
noncomputable def f43_r9 : List Stage := [⟨[oG 31 (.ldn 2 (tG 6)), oG 32 (.mv (tG 0)), oG 33 (.mv (tG 5)), oG 34 (.iads 2 (tG 32) (tG 33)), oG 35 (.ldn 2 (tG 34)), oG 36 (.mv (tG 3)), oG 37 (.mv (tG 5)), oG 38 (.bin .sub (tG 36) (tG 37)), oG 39 (.mv (tG 3))], [], (some (oG 40 (.call (fG 54) [(tG 38), (tG 39)]))), []⟩, ⟨[], [oG 31 (.ldn 2 (tG 6)), oG 32 (.mv (tG 0)), oG 33 (.mv (tG 5)), oG 34 (.iads 2 (tG 32) (tG 33)), oG 35 (.ldn 2 (tG 34))], (some (oG 41 (.call (fG 75) [(tG 35), (tG 40)]))), []⟩, ⟨[], [oG 31 (.ldn 2 (tG 6))], (some (oG 42 (.call (fG 74) [(tG 31), (tG 41)]))), []⟩, ⟨[], [], (some ⟨none, none, .st 2 (tG 6) (tG 42)⟩), []⟩, ⟨[], [], none, []⟩]
noncomputable def f43_r10 : List EOper := [oG 43 (.mv (tG 4)), oG 44 (.ldn 2 (tG 6)), oG 45 (.bslice 1 2 [(.i .i64 (.ofNat 0)), (.i .i64 (.ofNat 0))] [(0, 2, (tG 44))]), oG 46 (.app 2 (tG 43) (tG 45)), oG 4 (.as (tG 46))]
noncomputable def f43_r11 : List EOper := [oG 12 (.mv (tG 5)), oG 13 (.bin .add (tG 12) (cG 1)), oG 5 (.as (tG 13))]
noncomputable def f43_l0 : EC := (.seq (.seq (.reg f43_r4) (.cond (tG 11) .skip (.exit 0))) (.seq (.block 1 (.seq (.reg f43_r5) (.seq (.seq (.reg f43_r6) (.cond (tG 16) (.draw f43_r7) .skip)) (.seq (.seq (.reg f43_r8) (.cond (tG 30) (.draw f43_r9) .skip)) (.reg f43_r10))))) (.reg f43_r11)))
noncomputable def f43_r12 : List EOper := [oG 47 (.mv (tG 4)), oG 2 (.as (tG 47))]
noncomputable def f43_c : EC := (.seq (.reg f43_r0) (.seq (.reg f43_r1) (.seq (.reg f43_r2) (.seq (.seq (.reg f43_r3) (.block 0 (.loop f43_l0))) (.seq (.reg f43_r12) .ret)))))
noncomputable def f43 : EF := ⟨48, [.tmp (.ofNat 2)], f43_c, none⟩
theorem f43_rs : f43.rs = [.tmp (.ofNat 2)] := of_eq_true (eq_self _)
section
variable {fs : T EF} {h : H} {v w u : V} {L C : List (Int × Int)}
def f35_I (h0 : H) (v w : V) (L : List (Int × Int)) (i : Nat) (fr : Fr) (h1 : H) : Prop := i ≤ L.length ∧ h1 = h0 ∧ fr.get (K.ofNat 0) = some (v) ∧ fr.get (K.ofNat 1) = some (w) ∧ fr.get (K.ofNat 5) = some (.i .i64 (i : Int))
theorem keq_pp {x y : Int} (hx : inR .i64 x = true) (hy : inR .i64 y = true) : keyEq (.many [some .i64, some .i64]) (.agg [.i .i64 x, .i .i64 y]) (.agg [.i .i64 x, .i .i64 y]) = some true := by
  rw [keyEq_2 hx hy hx hy]; simp
def InP (L : List (Int × Int)) : Prop := L.length ≤ 1000 ∧ ∀ x ∈ L, inR .i64 x.1 = true ∧ inR .i64 x.2 = true
theorem f35_ret (hL : InP L) (hv : Srp h v L) (hw : Srp h w L) : Ret fs f35 [v, w] h fun r h' => r = .b true ∧ h' = h := by
  apply ret_of rfl
  show W fs none f35_c _ _ _
  unfold f35_c
  have e1 := hv.len
  have e2 := hw.len
  have d0 : decide ((L.length : Int) ≠ (L.length : Int)) = false := decide_eq_false fun e => e rfl
  simp (disch := omega) only [f35_r0, f35_r1, f35_r3, Nat.reduceEqDiff, ↓reduceIte, Bool.false_eq_true, e1, e2, d0, bz]
  refine W_loop (f35_I h v w L) (fun i => L.length - i) ?_ 0 ⟨by omega, rfl, by simp (disch := omega) only [getK_set, Nat.reduceEqDiff, ↓reduceIte, and_self, Int.natCast_zero]⟩
  rintro i fr h1 ⟨hi, rfl, g0, g1, g5⟩
  unfold f35_l0
  have bv := hv.beq
  have bw := hw.beq
  by_cases hlt : i < L.length
  · have d1 : decide ((i : Int) < (L.length : Int)) = true := decide_eq_true (by omega)
    have e4 : fw .i64 ((i : Int) + 1) = ((i + 1 : Nat) : Int) := by have := hL.1; rw [fw64 (by omega) (by omega)]; rfl
    have hl1 := hL.1
    obtain ⟨z1, z2⟩ := hL.2 _ (List.getElem_mem hlt)
    have kq := keq_pp z1 z2
    obtain ⟨a, p, p1, p2, _⟩ := hv.at2 hlt
    obtain ⟨b, q, q1, q2, _⟩ := hw.at2 hlt
    simp (disch := omega) only [f35_r4, f35_r5, f35_r7, xg_eqk, Nat.reduceEqDiff, ↓reduceIte, Bool.false_eq_true, Bool.not_true, g0, g1, g5, e1, d1, p1, p2, q1, q2, kq, e4, cond_true, bz]
    exact ⟨i + 1, by omega, by omega, rfl, by simp (disch := omega) only [getK_set, Nat.reduceEqDiff, ↓reduceIte, g0, g1, and_self]⟩
  · have d1 : decide ((i : Int) < (L.length : Int)) = false := decide_eq_false (by omega)
    simp (disch := omega) only [f35_r4, f35_r8, f35_rs, Option.some.injEq, exists_eq_left', Nat.reduceEqDiff, ↓reduceIte, Bool.false_eq_true, g0, g5, e1, d1, and_self, bz]
theorem f35_eq (k : fs.get (.ofNat 35) = some f35) (hL : InP L) (hv : Srp h v L) (hw : Srp h w L) {P : V → H → Prop} : CallP fs (.fn (.ofNat 35) []) [v, w] h P = P (.b true) h := callP_eq2 (callP_0 k rfl (f35_ret hL hv hw))
theorem Srp.at2g (hs : Srp h v L) (hc : HC h) {i : Nat} (hi : i < L.length) : ∃ id q, (∀ k h1, iadsV 2 v (.i k (i : Int)) h1 = .ok (.p id q) h1) ∧ ∀ h', Grow h.nx.nat h h' → loadV h' (.p id q) (many? 2) = .ok (.agg [.i .i64 L[i].1, .i .i64 L[i].2]) h' := by
  obtain ⟨a, p, p1, _⟩ := hs.at2 hi
  refine ⟨a, p, p1, fun h' g => ?_⟩
  obtain ⟨b, q, q1, q2, _⟩ := (hs.grow hc g).at2 hi
  have e := (RV.ok.inj ((p1 .i64 h).symm.trans (q1 .i64 h))).1
  cases e
  exact q2
def qv (C : List (Int × Int)) (i : Nat) : Rat := Rat.divInt ((gvL C).getD i 0) 240
theorem qv_fr {i : Nat} (hi : i < C.length) (hb : coB C[i].1 C[i].2 = true) : [V.i .i64 C[i].1, .i .i64 C[i].2] = frL (qv C i) := by
  obtain ⟨_, _, h1, h2, hg⟩ := coB_iff.1 hb
  obtain ⟨_, hd⟩ := dv240 h1 h2
  rw [frL_low (by omega) hg]
  congr 1
  have e : (gvL C).getD i 0 = C[i].1 * (240 : Int).tdiv C[i].2 := by
    rw [List.getD_eq_getElem?_getD, List.getElem?_eq_getElem (by rw [gvL_len]; exact hi)]
    simp [gvL]
  unfold qv
  rw [e, Int.tdiv_eq_ediv_of_dvd hd]
  obtain ⟨k, hk⟩ := hd
  have hb0 : C[i].2 ≠ 0 := by omega
  have ek : (240 : Int) / C[i].2 = k := by rw [hk]; exact Int.mul_ediv_cancel_left k hb0
  rw [ek]
  have hk0 : k ≠ 0 := by intro e; rw [e] at hk; omega
  conv => rhs; rw [hk]
  rw [Rat.divInt_mul_right hk0]
theorem qv_ov (hC : ∀ x ∈ C, coB x.1 x.2 = true) (i : Nat) : Ov (qv C i) 240 240000000 := ⟨by decide, _, gv_le hC i, rfl⟩
def sA (C : List (Int × Int)) (n i : Nat) : Rat := if 0 < i then 0 + qv C (i - 1) * Rat.divInt (i : Int) (n : Int) else 0
def sB (C : List (Int × Int)) (n i : Nat) : Rat := if i < n then sA C n i + qv C i * Rat.divInt ((n : Int) - (i : Int)) (n : Int) else sA C n i
theorem sA_iv (n i : Nat) (_hn : 0 < n) : sA C n i = Rat.divInt (if 0 < i then (gvL C).getD (i - 1) 0 * (i : Int) else 0) ((240 * n : Nat) : Int) := by
  unfold sA
  by_cases hi : 0 < i
  · rw [if_pos hi, if_pos hi, Rat.zero_add, qv, Rat.divInt_mul_divInt]; rfl
  · rw [if_neg hi, if_neg hi, Rat.zero_divInt]
theorem sB_iv {n i : Nat} (hn : 0 < n) (hl : C.length = n) (hi : i ≤ n) : sB C n i = paR (raP (gvL C) n n) (240 * n) i := by
  have e : (raP (gvL C) n n).getD i 0 = raF (gvL C) n n i := by
    have h1 : i < (raP (gvL C) n n).length := by rw [raP_len, gvL_len, hl]; omega
    rw [List.getD_eq_getElem?_getD, List.getElem?_eq_getElem h1, raP_at]; rfl
  unfold sB paR
  rw [e, sA_iv n i hn]
  have e2 : qv C i * Rat.divInt ((n : Int) - (i : Int)) (n : Int) = Rat.divInt ((gvL C).getD i 0 * ((n : Int) - (i : Int))) ((240 * n : Nat) : Int) := by
    rw [qv, Rat.divInt_mul_divInt]; rfl
  unfold raF
  rw [gvL_len, hl]
  by_cases h1 : i < n
  · rw [if_pos h1, e2, dv_add, if_pos h1]
    by_cases h2 : 0 < i
    · rw [if_pos h2, if_pos ⟨h2, hi⟩, Int.add_comm]
    · rw [if_neg h2, if_neg (fun e => h2 e.1), Int.add_comm]
  · rw [if_neg h1, if_neg h1]
    by_cases h2 : 0 < i
    · rw [if_pos h2, if_pos ⟨h2, hi⟩, Int.zero_add]
    · rw [if_neg h2, if_neg (fun e => h2 e.1), Int.zero_add]
theorem rt_ov {a n : Nat} (hn : 0 < n) (ha : a ≤ 7) : Ov (Rat.divInt (a : Int) (n : Int)) n 7 := ⟨hn, (a : Int), by omega, rfl⟩
theorem ov_0 {D : Nat} (hD : 0 < D) : Ov 0 D 0 := ⟨hD, 0, by decide, by rw [Rat.zero_divInt]⟩
theorem pr_ov (hC : ∀ x ∈ C, coB x.1 x.2 = true) (i : Nat) {a n : Nat} (hn : 0 < n) (ha : a ≤ 7) : Ov (qv C i * Rat.divInt (a : Int) (n : Int)) (240 * n) (240000000 * 7) := (qv_ov hC i).mul (rt_ov hn ha)
theorem sA_ov (hC : ∀ x ∈ C, coB x.1 x.2 = true) {n i : Nat} (hn : 0 < n) (hi : i ≤ 7) : Ov (sA C n i) (240 * n) (240000000 * 7) := by
  unfold sA
  by_cases h : 0 < i
  · rw [if_pos h, Rat.zero_add]; exact pr_ov hC _ hn hi
  · rw [if_neg h]; exact (ov_0 (by omega)).le (by omega)
theorem rwL_s {R : Nat → Rat} {n : Nat} : rwL R (n + 1) = rwL R n ++ [frP (R n)] := by unfold rwL; rw [List.range_succ, List.map_append]; rfl
theorem rwL_c {R S : Nat → Rat} {n : Nat} (h : ∀ i, i < n → R i = S i) : rwL R n = rwL S n := by
  unfold rwL
  exact List.map_congr_left fun i hi => by rw [h i (List.mem_range.1 hi)]
end
end Go.Ev
namespace Go.Ev
open Go Go.RowKit
section
variable {fs : T EF} {h : H} {v w u : V} {C : List (Int × Int)}
theorem fill_q {fr : Fr} {x : EO} {z1 z2 : V} : fillE fr [z1, z2] [(0, 2, x)] = oGet (cellsN 2 (ev fr x)) none fun cs => some (setMany [z1, z2] 0 cs) := of_eq_true (eq_self _)
theorem set_q {z1 z2 : V} {q : Rat} : setMany [z1, z2] 0 (frL q) = frL q := of_eq_true (eq_self _)
def f43_I (h0 : H) (v : V) (C : List (Int × Int)) (n i : Nat) (fr : Fr) (h1 : H) : Prop := i ≤ n + 1 ∧ Grow h0.nx.nat h0 h1 ∧ ∃ o, Sk 2 qE h1 o (rwL (sB C n) i) ∧ Own h0.nx.nat o ∧ fr.get (K.ofNat 0) = some (v) ∧ fr.get (K.ofNat 3) = some (.i .i64 (n : Int)) ∧ fr.get (K.ofNat 4) = some (o) ∧ fr.get (K.ofNat 5) = some (.i .i64 (i : Int))
theorem f43_ret {n : Nat} (k : CallsF fs) (hn1 : 1 ≤ n) (hn : n ≤ 7) (hl : C.length = n) (hC : ∀ x ∈ C, coB x.1 x.2 = true) (hv : Srp h v C) (hc : HC h) : Ret fs f43 [v] h fun r h' => Sk 2 qE h' r (rwL (sB C n) (n + 1)) ∧ Own h.nx.nat r ∧ Grow h.nx.nat h h' := by
  apply ret_of rfl
  show W fs none f43_c _ _ _
  unfold f43_c
  have e1 := hv.len
  rw [hl] at e1
  simp (disch := omega) only [f43_r0, f43_r1, f43_r2, f43_r3, Nat.reduceEqDiff, ↓reduceIte, e1, bz]
  refine W_loop (f43_I h v C n) (fun i => n + 1 - i) ?_ 0 ⟨by omega, Grow.refl _ _, .sn, .inl ⟨rfl, rfl⟩, (fun _ _ _ _ e => by cases e), by simp (disch := omega) only [getK_set, Nat.reduceEqDiff, ↓reduceIte, and_self, Int.natCast_zero]⟩
  rintro i fr h1 ⟨hi, G1, o, so, oo, g0, g3, g4, g5⟩
  have hc1 := G1.hc hc
  unfold f43_l0
  by_cases hle : i ≤ n
  · have d1 : decide ((i : Int) ≤ (n : Int)) = true := decide_eq_true (by omega)
    have gN := Grow.new (Nat.le_refl h1.nx.nat) (.cells 2 [.i .i64 0, .i .i64 0])
    have nN := nx_new h1 (.cells 2 [.i .i64 0, .i .i64 0])
    have bN : (h1.new (.cells 2 [.i .i64 0, .i .i64 0])).get h1.nx = .cells 2 [.i .i64 0, .i .i64 0] := get_new_same
    have st0 := store2 (x := .i .i64 0) (y := .i .i64 1) bN
    have Bq : ((h1.new (.cells 2 [.i .i64 0, .i .i64 0])).put h1.nx (.cells 2 [.i .i64 0, .i .i64 1])).get h1.nx = .cells 2 (frL 0) := get_put_same
    have gq := gN.trans (Grow.put (b := h1.nx.nat) (h := h1.new (.cells 2 [.i .i64 0, .i .i64 0])) (k := h1.nx) (Nat.le_refl _) (by omega) (.cells 2 [.i .i64 0, .i .i64 1]))
    have Gq := G1.trans (gq.low G1.nx)
    have Sq := so.grow hc1 gq
    have lo := so.lt hc1
    have G1n := G1.nx
    have ee : fw .i64 ((i : Int) + 1) = ((i + 1 : Nat) : Int) := by rw [fw64 (by omega) (by omega)]; rfl
    have hcq := Gq.hc hc
    have Jq := hcq.cells Bq
    have ni : NotIn h1.nx o := fun off m sz e => by have := lo _ _ _ _ e; omega
    have eC : fw .i64 ((n : Int) - (i : Int)) = ((n : Int) - (i : Int)) := fw64 (by omega) (by omega)
    have mq := fr_load Bq
    have MB : ∀ j, MlB (qv C j) (Rat.divInt (i : Int) (n : Int)) := fun j => mlb_ov (qv_ov hC j) (rt_ov (a := i) (n := n) hn1 (by omega)) (by unfold M63; omega) (by unfold M63; omega) (by unfold M63; omega) (by unfold M63; omega) (by unfold M63; omega) (by unfold M63; omega)
    have AB : ∀ j, AdB 0 (qv C j * Rat.divInt (i : Int) (n : Int)) := fun j => adb_ov (ov_0 (D := 240 * n) (by omega)) (pr_ov hC j (a := i) (n := n) hn1 (by omega)) (by unfold M63; omega) (by unfold M63; omega)
    have en : ((n - i : Nat) : Int) = (n : Int) - (i : Int) := by omega
    have MB2 : ∀ j, MlB (qv C j) (Rat.divInt ((n : Int) - (i : Int)) (n : Int)) := fun j => by
      rw [← en]
      exact mlb_ov (qv_ov hC j) (rt_ov (a := n - i) (n := n) hn1 (by omega)) (by unfold M63; omega) (by unfold M63; omega) (by unfold M63; omega) (by unfold M63; omega) (by unfold M63; omega) (by unfold M63; omega)
    have AB2 : ∀ j, AdB (sA C n i) (qv C j * Rat.divInt ((n : Int) - (i : Int)) (n : Int)) := fun j => by
      rw [← en]
      exact adb_ov (sA_ov hC hn1 (by omega)) (pr_ov hC j (a := n - i) (n := n) hn1 (by omega)) (by unfold M63; omega) (by unfold M63; omega)
    by_cases h0 : 0 < i
    · have dA : decide ((i : Int) > 0) = true := decide_eq_true (by omega)
      have em : fw .i64 ((i : Int) - 1) = ((i - 1 : Nat) : Int) := by rw [fw64 (by omega) (by omega)]; omega
      obtain ⟨ia, iq, p1, p2⟩ := hv.at2g hc (i := i - 1) (by omega)
      rw [qv_fr (by omega) (hC _ (List.getElem_mem _))] at p2
      have ldq := p2 _ Gq
      have eA : sA C n i = 0 + qv C (i - 1) * Rat.divInt (i : Int) (n : Int) := if_pos h0
      simp (disch := omega) only [f43_r4, f43_r5, f43_r6, f43_r7, Nat.reduceEqDiff, ↓reduceIte, g0, g3, g5, d1, dA, st0, em, p1, ldq, mq, bz]
      generalize h1.nx = i6 at *
      generalize (h1.new (.cells 2 [.i .i64 0, .i .i64 0])).put i6 (.cells 2 [.i .i64 0, .i .i64 1]) = q at *
      clear mq ldq
      refine (callP_0 (ef := f54) k.c54 rfl (f54_ret (a := (i : Int)) (b := (n : Int)) k.c73 (by unfold M63; omega) (by unfold M63; omega) (by omega))).mono ?_
      rintro _ a1 ⟨rfl, ga1⟩
      have Ga1 := Gq.trans (ga1.low Gq.nx)
      have hca1 := Ga1.hc hc
      have Ba1 := (ga1.old i6 Jq).trans Bq
      have Ja1 := hca1.cells Ba1
      have Sa1 := Sq.grow hcq ga1
      have lda1 := p2 _ Ga1
      have ma1 := fr_load Ba1
      simp (disch := omega) only [stay_iads, stay_bin, Nat.reduceEqDiff, ↓reduceIte, g0, g5, em, p1, lda1, ma1, hv.beq, fr_beq, bz]
      refine (callP_0 (ef := f75) k.c75 rfl (mul_ret k (MB (i - 1)))).mono ?_
      rintro _ a2 ⟨rfl, ga2⟩
      have Ga2 := Ga1.trans (ga2.low Ga1.nx)
      have hca2 := Ga2.hc hc
      have Ba2 := (ga2.old i6 Ja1).trans Ba1
      have Ja2 := hca2.cells Ba2
      have Sa2 := Sa1.grow hca1 ga2
      have ma2 := fr_load Ba2
      simp (disch := omega) only [Nat.reduceEqDiff, ↓reduceIte, ma2, fr_beq, bz]
      refine (callP_0 (ef := f74) k.c74 rfl (add_ret k (AB (i - 1)))).mono ?_
      rintro _ a3 ⟨rfl, ga3⟩
      have Ga3 := Ga2.trans (ga3.low Ga2.nx)
      have hca3 := Ga3.hc hc
      have Ba3 := (ga3.old i6 Ja2).trans Ba2
      have Ja3 := hca3.cells Ba3
      have Sa3 := Sa2.grow hca2 ga3
      rw [← eA]
      have sta3 := fr_store (q := sA C n i) Ba3 rfl
      have Ga4 := Ga3.trans (Grow.put (b := h.nx.nat) (k := i6) (by omega) Ja3 (.cells 2 (frL (sA C n i))))
      have Ba4 : (a3.put i6 (.cells 2 (frL (sA C n i)))).get i6 = .cells 2 (frL (sA C n i)) := get_put_same
      have Sa4 := Sa3.put (id := i6) ni (.cells 2 (frL (sA C n i)))
      simp (disch := omega) only [Nat.reduceEqDiff, ↓reduceIte, sta3, bz]
      generalize a3.put i6 (.cells 2 (frL (sA C n i))) = a4 at *
      have hca4 := Ga4.hc hc
      have Ja4 := hca4.cells Ba4
      by_cases hlt : i < n
      · have dB : decide ((i : Int) < (n : Int)) = true := decide_eq_true (by omega)
        obtain ⟨ja, jq, r1, r2⟩ := hv.at2g hc (i := i) (by omega)
        rw [qv_fr (by omega) (hC _ (List.getElem_mem _))] at r2
        have lda4 := r2 _ Ga4
        have ma4 := fr_load Ba4
        have eB : sB C n i = sA C n i + qv C i * Rat.divInt ((n : Int) - (i : Int)) (n : Int) := if_pos hlt
        simp (disch := omega) only [f43_r8, f43_r9, Nat.reduceEqDiff, ↓reduceIte, g0, g3, g5, dB, eC, r1, lda4, ma4, bz]
        clear lda4 ma4
        refine (callP_0 (ef := f54) k.c54 rfl (f54_ret (a := ((n : Int) - (i : Int))) (b := (n : Int)) k.c73 (by unfold M63; omega) (by unfold M63; omega) (by omega))).mono ?_
        rintro _ b1 ⟨rfl, gb1⟩
        have Gb1 := Ga4.trans (gb1.low Ga4.nx)
        have hcb1 := Gb1.hc hc
        have Bb1 := (gb1.old i6 Ja4).trans Ba4
        have Jb1 := hcb1.cells Bb1
        have Sb1 := Sa4.grow hca4 gb1
        have ldb1 := r2 _ Gb1
        have mb1 := fr_load Bb1
        simp (disch := omega) only [stay_iads, Nat.reduceEqDiff, ↓reduceIte, g0, g5, r1, ldb1, mb1, hv.beq, fr_beq, bz]
        refine (callP_0 (ef := f75) k.c75 rfl (mul_ret k (MB2 i))).mono ?_
        rintro _ b2 ⟨rfl, gb2⟩
        have Gb2 := Gb1.trans (gb2.low Gb1.nx)
        have hcb2 := Gb2.hc hc
        have Bb2 := (gb2.old i6 Jb1).trans Bb1
        have Jb2 := hcb2.cells Bb2
        have Sb2 := Sb1.grow hcb1 gb2
        have mb2 := fr_load Bb2
        simp (disch := omega) only [Nat.reduceEqDiff, ↓reduceIte, mb2, fr_beq, bz]
        refine (callP_0 (ef := f74) k.c74 rfl (add_ret k (AB2 i))).mono ?_
        rintro _ b3 ⟨rfl, gb3⟩
        have Gb3 := Gb2.trans (gb3.low Gb2.nx)
        have hcb3 := Gb3.hc hc
        have Bb3 := (gb3.old i6 Jb2).trans Bb2
        have Jb3 := hcb3.cells Bb3
        have Sb3 := Sb2.grow hcb2 gb3
        rw [← eB]
        have stb3 := fr_store (q := sB C n i) Bb3 rfl
        have Gb4 := Gb3.trans (Grow.put (b := h.nx.nat) (k := i6) (by omega) Jb3 (.cells 2 (frL (sB C n i))))
        have Bb4 : (b3.put i6 (.cells 2 (frL (sB C n i)))).get i6 = .cells 2 (frL (sB C n i)) := get_put_same
        have Sb4 := Sb3.put (id := i6) ni (.cells 2 (frL (sB C n i)))
        simp (disch := omega) only [Nat.reduceEqDiff, ↓reduceIte, stb3, bz]
        generalize b3.put i6 (.cells 2 (frL (sB C n i))) = b4 at *
        have hcb4 := Gb4.hc hc
        have Jb4 := hcb4.cells Bb4
        have m9 := fr_load Bb4
        obtain ⟨w9, h9, y1, y2, y3, y4, _⟩ := Sk.push qE_len (by omega) (x := frP (sB C n i)) Sb4 oo Gb4.nx hcb4 (by rw [rwL_len]; omega)
        have y1' : appV 2 (b4.new (.cells (1 * 2) (frL (sB C n i)))) o (.sl b4.nx 0 1 2) = .ok w9 h9 := y1
        rw [← rwL_s] at y2
        simp (disch := omega) only [f43_r10, f43_r11, Nat.reduceEqDiff, ↓reduceIte, g4, g5, m9, fill_q, fr_cells, set_q, y1', ee, bz]
        exact ⟨i + 1, by omega, by omega, Gb4.trans y4, w9, y2, y3, by simp (disch := omega) only [getK_set, Nat.reduceEqDiff, ↓reduceIte, g0, g3, and_self]⟩
      · have dB : decide ((i : Int) < (n : Int)) = false := decide_eq_false (by omega)
        have eB : sB C n i = sA C n i := if_neg hlt
        simp (disch := omega) only [f43_r8, Nat.reduceEqDiff, ↓reduceIte, Bool.false_eq_true, g3, g5, dB, bz]
        rw [← eB] at Ba4
        have m9 := fr_load Ba4
        obtain ⟨w9, h9, y1, y2, y3, y4, _⟩ := Sk.push qE_len (by omega) (x := frP (sB C n i)) Sa4 oo Ga4.nx hca4 (by rw [rwL_len]; omega)
        have y1' : appV 2 (a4.new (.cells (1 * 2) (frL (sB C n i)))) o (.sl a4.nx 0 1 2) = .ok w9 h9 := y1
        rw [← rwL_s] at y2
        simp (disch := omega) only [f43_r10, f43_r11, Nat.reduceEqDiff, ↓reduceIte, g4, g5, m9, fill_q, fr_cells, set_q, y1', ee, bz]
        exact ⟨i + 1, by omega, by omega, Ga4.trans y4, w9, y2, y3, by simp (disch := omega) only [getK_set, Nat.reduceEqDiff, ↓reduceIte, g0, g3, and_self]⟩
    · have dA : decide ((i : Int) > 0) = false := decide_eq_false (by omega)
      have dB : decide ((i : Int) < (n : Int)) = true := decide_eq_true (by omega)
      obtain ⟨ja, jq, r1, r2⟩ := hv.at2g hc (i := i) (by omega)
      rw [qv_fr (by omega) (hC _ (List.getElem_mem _))] at r2
      have ldq := r2 _ Gq
      have e0 : sA C n i = 0 := if_neg h0
      have eB : sB C n i = 0 + qv C i * Rat.divInt ((n : Int) - (i : Int)) (n : Int) := by rw [← e0]; exact if_pos (by omega)
      rw [e0] at AB2
      simp (disch := omega) only [f43_r4, f43_r5, f43_r6, f43_r8, f43_r9, Nat.reduceEqDiff, ↓reduceIte, Bool.false_eq_true, g0, g3, g5, d1, dA, dB, st0, eC, r1, ldq, mq, bz]
      generalize h1.nx = i6 at *
      generalize (h1.new (.cells 2 [.i .i64 0, .i .i64 0])).put i6 (.cells 2 [.i .i64 0, .i .i64 1]) = q at *
      clear mq ldq
      refine (callP_0 (ef := f54) k.c54 rfl (f54_ret (a := ((n : Int) - (i : Int))) (b := (n : Int)) k.c73 (by unfold M63; omega) (by unfold M63; omega) (by omega))).mono ?_
      rintro _ b1 ⟨rfl, gb1⟩
      have Gb1 := Gq.trans (gb1.low Gq.nx)
      have hcb1 := Gb1.hc hc
      have Bb1 := (gb1.old i6 Jq).trans Bq
      have Jb1 := hcb1.cells Bb1
      have Sb1 := Sq.grow hcq gb1
      have ldb1 := r2 _ Gb1
      have mb1 := fr_load Bb1
      simp (disch := omega) only [stay_iads, Nat.reduceEqDiff, ↓reduceIte, g0, g5, r1, ldb1, mb1, hv.beq, fr_beq, bz]
      refine (callP_0 (ef := f75) k.c75 rfl (mul_ret k (MB2 i))).mono ?_
      rintro _ b2 ⟨rfl, gb2⟩
      have Gb2 := Gb1.trans (gb2.low Gb1.nx)
      have hcb2 := Gb2.hc hc
      have Bb2 := (gb2.old i6 Jb1).trans Bb1
      have Jb2 := hcb2.cells Bb2
      have Sb2 := Sb1.grow hcb1 gb2
      have mb2 := fr_load Bb2
      simp (disch := omega) only [Nat.reduceEqDiff, ↓reduceIte, mb2, fr_beq, bz]
      refine (callP_0 (ef := f74) k.c74 rfl (add_ret k (AB2 i))).mono ?_
      rintro _ b3 ⟨rfl, gb3⟩
      have Gb3 := Gb2.trans (gb3.low Gb2.nx)
      have hcb3 := Gb3.hc hc
      have Bb3 := (gb3.old i6 Jb2).trans Bb2
      have Jb3 := hcb3.cells Bb3
      have Sb3 := Sb2.grow hcb2 gb3
      rw [← eB]
      have stb3 := fr_store (q := sB C n i) Bb3 rfl
      have Gb4 := Gb3.trans (Grow.put (b := h.nx.nat) (k := i6) (by omega) Jb3 (.cells 2 (frL (sB C n i))))
      have Bb4 : (b3.put i6 (.cells 2 (frL (sB C n i)))).get i6 = .cells 2 (frL (sB C n i)) := get_put_same
      have Sb4 := Sb3.put (id := i6) ni (.cells 2 (frL (sB C n i)))
      simp (disch := omega) only [Nat.reduceEqDiff, ↓reduceIte, stb3, bz]
      generalize b3.put i6 (.cells 2 (frL (sB C n i))) = b4 at *
      have hcb4 := Gb4.hc hc
      have Jb4 := hcb4.cells Bb4
      have m9 := fr_load Bb4
      obtain ⟨w9, h9, y1, y2, y3, y4, _⟩ := Sk.push qE_len (by omega) (x := frP (sB C n i)) Sb4 oo Gb4.nx hcb4 (by rw [rwL_len]; omega)
      have y1' : appV 2 (b4.new (.cells (1 * 2) (frL (sB C n i)))) o (.sl b4.nx 0 1 2) = .ok w9 h9 := y1
      rw [← rwL_s] at y2
      simp (disch := omega) only [f43_r10, f43_r11, Nat.reduceEqDiff, ↓reduceIte, g4, g5, m9, fill_q, fr_cells, set_q, y1', ee, bz]
      exact ⟨i + 1, by omega, by omega, Gb4.trans y4, w9, y2, y3, by simp (disch := omega) only [getK_set, Nat.reduceEqDiff, ↓reduceIte, g0, g3, and_self]⟩
  · have d1 : decide ((i : Int) ≤ (n : Int)) = false := decide_eq_false (by omega)
    obtain rfl : i = n + 1 := by omega
    simp (disch := omega) only [f43_r4, f43_r12, f43_rs, Option.some.injEq, exists_eq_left', Nat.reduceEqDiff, ↓reduceIte, Bool.false_eq_true, g3, g4, g5, d1, bz]
    exact ⟨so, oo, G1⟩
end
end Go.Ev
