/-
  Orders: is one pair less than another; are pairs rising; Check., and what follows.
-/
import Derived.Test.YtdmnejhjlmeodaaGreatPd
import Derived.Test.YtdmnejhjlmeodaaGreatPe
namespace Go.Ev
open Go Go.RowKit
noncomputable def f110_r0 : List EOper := [oG 2 (.as (.c (.b false)))]
noncomputable def f110_r1 : List EOper := [oG 3 (.mv (tG 0)), oG 4 (.mv (tG 0)), oG 5 (.bin .neq (tG 3) (tG 4)), oG 2 (.as (tG 5))]
noncomputable def f110_c : EC := (.seq (.reg f110_r0) (.seq (.reg f110_r1) .ret))
noncomputable def f110 : EF := ⟨6, [.tmp (.ofNat 2)], f110_c, none⟩
theorem f110_rs : f110.rs = [.tmp (.ofNat 2)] := of_eq_true (eq_self _)
noncomputable def f96_r0 : List EOper := [oG 4 (.as (cG 0))]
noncomputable def f96_r1 : List EOper := [oG 7 (.mv (tG 0)), oG 8 (.call (fG 110) [(tG 7)]), oG 5 (.as (tG 8))]
noncomputable def f96_r2 : List EOper := [oG 9 (.mv (tG 1)), oG 10 (.call (fG 110) [(tG 9)]), oG 6 (.as (tG 10))]
noncomputable def f96_r3 : List EOper := [oG 11 (.mv (tG 5))]
noncomputable def f96_r4 : List EOper := [oG 12 (.mv (tG 6))]
noncomputable def f96_r5 : List EOper := [oG 4 (.as (cG 0))]
noncomputable def f96_r6 : List EOper := [oG 4 (.as (.c (.i .i64 (.negSucc 0))))]
noncomputable def f96_r7 : List EOper := [oG 13 (.mv (tG 6))]
noncomputable def f96_r8 : List EOper := [oG 4 (.as (cG 1))]
noncomputable def f96_r9 : List EOper := [oG 14 (.mv (tG 0)), oG 15 (.mv (tG 1)), oG 16 (.bin .lss (tG 14) (tG 15))]
noncomputable def f96_r10 : List EOper := [oG 4 (.as (.c (.i .i64 (.negSucc 0))))]
noncomputable def f96_r11 : List EOper := [oG 17 (.mv (tG 0)), oG 18 (.mv (tG 1)), oG 19 (.bin .gtr (tG 17) (tG 18))]
noncomputable def f96_r12 : List EOper := [oG 4 (.as (cG 1))]
noncomputable def f96_r13 : List EOper := [oG 4 (.as (cG 0))]
noncomputable def f96_c : EC := (.seq (.reg f96_r0) (.seq (.reg f96_r1) (.seq (.reg f96_r2) (.seq (.seq (.reg f96_r3) (.cond (tG 11) (.seq (.seq (.reg f96_r4) (.cond (tG 12) (.seq (.reg f96_r5) .ret) .skip)) (.seq (.reg f96_r6) .ret)) .skip)) (.seq (.seq (.reg f96_r7) (.cond (tG 13) (.seq (.reg f96_r8) .ret) .skip)) (.seq (.seq (.reg f96_r9) (.cond (tG 16) (.seq (.reg f96_r10) .ret) .skip)) (.seq (.seq (.reg f96_r11) (.cond (tG 19) (.seq (.reg f96_r12) .ret) .skip)) (.seq (.reg f96_r13) .ret))))))))
noncomputable def f96 : EF := ⟨20, [.tmp (.ofNat 4)], f96_c, none⟩
theorem f96_rs : f96.rs = [.tmp (.ofNat 4)] := of_eq_true (eq_self _)
noncomputable def f84_r0 : List EOper := [oG 4 (.as (cG 0))]
noncomputable def f84_r1 : List EOper := [oG 9 (.mv (tG 0)), oG 10 (.len (tG 9)), oG 11 (.mv (cG 0))]
noncomputable def f84_r2 : List EOper := [oG 12 (.bin .lss (tG 11) (tG 10))]
noncomputable def f84_r3 : List EOper := [oG 13 (.mv (tG 11)), oG 14 (.iads 1 (tG 9) (tG 11)), oG 15 (.ld (tG 14)), oG 5 (.as (tG 13)), oG 6 (.as (tG 15))]
noncomputable def f84_r4 : List EOper := [oG 16 (.mv (tG 5)), oG 17 (.mv (tG 1)), oG 18 (.len (tG 17)), oG 19 (.bin .geq (tG 16) (tG 18))]
noncomputable def f84_r5 : List EOper := [oG 4 (.as (cG 1))]
noncomputable def f84_r6 : List EOper := [oG 20 (.mv (tG 1)), oG 21 (.mv (tG 5)), oG 22 (.iads 1 (tG 20) (tG 21)), oG 23 (.ld (tG 22)), oG 7 (.as (tG 23))]
noncomputable def f84_r7 : List EOper := [oG 24 (.mv (tG 6)), oG 25 (.mv (tG 7)), oG 26 (.call (fG 96) [(tG 24), (tG 25)]), oG 8 (.as (tG 26))]
noncomputable def f84_r8 : List EOper := [oG 27 (.mv (tG 8)), oG 28 (.bin .neq (tG 27) (cG 0))]
noncomputable def f84_r9 : List EOper := [oG 29 (.mv (tG 8)), oG 4 (.as (tG 29))]
noncomputable def f84_r10 : List EOper := [oG 30 (.bin .add (tG 11) (cG 1)), oG 11 (.mv (tG 30))]
noncomputable def f84_l0 : EC := (.seq (.reg f84_r2) (.seq (.cond (tG 12) .skip (.exit 0)) (.seq (.block 1 (.seq (.reg f84_r3) (.seq (.seq (.reg f84_r4) (.cond (tG 19) (.seq (.reg f84_r5) .ret) .skip)) (.seq (.reg f84_r6) (.seq (.reg f84_r7) (.seq (.reg f84_r8) (.cond (tG 28) (.seq (.reg f84_r9) .ret) .skip))))))) (.reg f84_r10))))
noncomputable def f84_r11 : List EOper := [oG 31 (.mv (tG 0)), oG 32 (.len (tG 31)), oG 33 (.mv (tG 1)), oG 34 (.len (tG 33)), oG 35 (.bin .lss (tG 32) (tG 34))]
noncomputable def f84_r12 : List EOper := [oG 4 (.as (.c (.i .i64 (.negSucc 0))))]
noncomputable def f84_r13 : List EOper := [oG 4 (.as (cG 0))]
noncomputable def f84_c : EC := (.seq (.reg f84_r0) (.seq (.seq (.reg f84_r1) (.block 0 (.loop f84_l0))) (.seq (.seq (.reg f84_r11) (.cond (tG 35) (.seq (.reg f84_r12) .ret) .skip)) (.seq (.reg f84_r13) .ret))))
noncomputable def f84 : EF := ⟨36, [.tmp (.ofNat 4)], f84_c, none⟩
theorem f84_rs : f84.rs = [.tmp (.ofNat 4)] := of_eq_true (eq_self _)
noncomputable def f57_r0 : List EOper := [oG 2 (.box 2 (tG 0)), oG 3 (.box 2 (tG 1)), oG 4 (.as (.c (.b false)))]
noncomputable def f57_r1 : List Stage := [⟨[oG 5 (.slcA 2 1 (tG 2) none none), oG 6 (.slcA 2 1 (tG 3) none none)], [], (some (oG 7 (.call (fG 84) [(tG 5), (tG 6)]))), []⟩, ⟨[oG 8 (.bin .lss (tG 7) (cG 0))], [], (some (oG 4 (.as (tG 8)))), []⟩, ⟨[], [], none, []⟩]
noncomputable def f57_c : EC := (.seq (.reg f57_r0) (.seq (.draw f57_r1) .ret))
noncomputable def f57 : EF := ⟨9, [.tmp (.ofNat 4)], f57_c, none⟩
theorem f57_rs : f57.rs = [.tmp (.ofNat 4)] := of_eq_true (eq_self _)
noncomputable def f37_r0 : List EOper := [oG 4 (.as (.c (.b false)))]
noncomputable def f37_r1 : List EOper := [oG 7 (.mv (tG 1)), oG 8 (.len (tG 7)), oG 9 (.mv (cG 0))]
noncomputable def f37_r2 : List EOper := [oG 10 (.bin .lss (tG 9) (tG 8))]
noncomputable def f37_r3 : List EOper := [oG 11 (.mv (tG 9)), oG 12 (.iads 2 (tG 7) (tG 9)), oG 13 (.ldn 2 (tG 12)), oG 6 (.alloc 2 [(.i .i64 (.ofNat 0)), (.i .i64 (.ofNat 0))]), oG 5 (.as (tG 11)), ⟨none, none, .st 2 (tG 6) (tG 13)⟩]
noncomputable def f37_r4 : List EOper := [oG 14 (.mv (tG 0)), oG 15 (.iadr 2 1 (tG 6) (cG 0)), oG 16 (.ld (tG 15)), oG 17 (.call (fG 66) [(tG 14), (tG 16)]), oG 18 (.not (tG 17)), oG 19 (.mv (tG 18)), gG 20 19 false (.mv (tG 0)), gG 21 19 false (.iadr 2 1 (tG 6) (cG 1)), gG 22 19 false (.ld (tG 21)), gG 23 19 false (.call (fG 66) [(tG 20), (tG 22)]), gG 24 19 false (.not (tG 23)), oG 25 (.pick (tG 19) (.c (.b true)) (tG 24)), oG 26 (.mv (tG 25)), gG 27 26 false (.iadr 2 1 (tG 6) (cG 0)), gG 28 26 false (.ld (tG 27)), gG 29 26 false (.iadr 2 1 (tG 6) (cG 1)), gG 30 26 false (.ld (tG 29)), gG 31 26 false (.bin .eql (tG 28) (tG 30)), oG 32 (.pick (tG 26) (.c (.b true)) (tG 31))]
noncomputable def f37_r5 : List EOper := [oG 4 (.as (.c (.b false)))]
noncomputable def f37_r6 : List Stage := [⟨[oG 33 (.mv (tG 5)), oG 34 (.bin .gtr (tG 33) (cG 0)), oG 35 (.mv (tG 34)), gG 36 35 true (.mv (tG 1)), gG 37 35 true (.mv (tG 5)), gG 38 35 true (.bin .sub (tG 37) (cG 1)), gG 39 35 true (.iads 2 (tG 36) (tG 38)), gG 40 35 true (.ldn 2 (tG 39)), gG 41 35 true (.ldn 2 (tG 6))], [], (some (gG 42 35 true (.call (fG 57) [(tG 40), (tG 41)]))), []⟩, ⟨[gG 43 35 true (.not (tG 42)), oG 44 (.pick (tG 35) (tG 43) (.c (.b false)))], [], none, []⟩]
noncomputable def f37_r7 : List EOper := [oG 4 (.as (.c (.b false)))]
noncomputable def f37_r8 : List EOper := [oG 45 (.bin .add (tG 9) (cG 1)), oG 9 (.mv (tG 45))]
noncomputable def f37_l0 : EC := (.seq (.reg f37_r2) (.seq (.cond (tG 10) .skip (.exit 0)) (.seq (.block 1 (.seq (.reg f37_r3) (.seq (.seq (.reg f37_r4) (.cond (tG 32) (.seq (.reg f37_r5) .ret) .skip)) (.seq (.draw f37_r6) (.cond (tG 44) (.seq (.reg f37_r7) .ret) .skip))))) (.reg f37_r8))))
noncomputable def f37_r9 : List EOper := [oG 4 (.as (.c (.b true)))]
noncomputable def f37_c : EC := (.seq (.reg f37_r0) (.seq (.seq (.reg f37_r1) (.block 0 (.loop f37_l0))) (.seq (.reg f37_r9) .ret)))
noncomputable def f37 : EF := ⟨46, [.tmp (.ofNat 4)], f37_c, none⟩
theorem f37_rs : f37.rs = [.tmp (.ofNat 4)] := of_eq_true (eq_self _)
noncomputable def f8_r0 : List EOper := [oG 4 (.as (cG 0))]
noncomputable def f8_r1 : List EOper := [oG 7 (.mv (tG 0)), oG 8 (.bin .lss (tG 7) (cG 1)), oG 9 (.mv (tG 8)), gG 10 9 false (.mv (tG 0)), gG 11 9 false (.bin .gtr (tG 10) (cG 7)), oG 12 (.pick (tG 9) (.c (.b true)) (tG 11))]
noncomputable def f8_r2 : List EOper := [oG 4 (.as (cG 1))]
noncomputable def f8_r3 : List EOper := [oG 13 (.mv (tG 0)), oG 14 (.mv (tG 1)), oG 15 (.call (fG 37) [(tG 13), (tG 14)]), oG 16 (.not (tG 15))]
noncomputable def f8_r4 : List EOper := [oG 4 (.as (cG 20))]
noncomputable def f8_r5 : List EOper := [oG 17 (.mv (tG 1)), oG 18 (.len (tG 17)), oG 19 (.mv (cG 0))]
noncomputable def f8_r6 : List EOper := [oG 20 (.bin .lss (tG 19) (tG 18))]
noncomputable def f8_r7 : List EOper := [oG 21 (.iads 2 (tG 17) (tG 19)), oG 22 (.ldn 2 (tG 21)), oG 6 (.alloc 2 [(.i .i64 (.ofNat 0)), (.i .i64 (.ofNat 0))]), ⟨none, none, .st 2 (tG 6) (tG 22)⟩]
noncomputable def f8_r8 : List EOper := [oG 23 (.iadr 2 1 (tG 6) (cG 0)), oG 24 (.ld (tG 23)), oG 25 (.iadr 2 1 (tG 6) (cG 1)), oG 26 (.ld (tG 25)), oG 27 (.bin .gtr (tG 24) (tG 26))]
noncomputable def f8_r9 : List EOper := [oG 4 (.as (cG 20))]
noncomputable def f8_r10 : List EOper := [oG 28 (.bin .add (tG 19) (cG 1)), oG 19 (.mv (tG 28))]
noncomputable def f8_l0 : EC := (.seq (.reg f8_r6) (.seq (.cond (tG 20) .skip (.exit 0)) (.seq (.block 1 (.seq (.reg f8_r7) (.seq (.reg f8_r8) (.cond (tG 27) (.seq (.reg f8_r9) .ret) .skip)))) (.reg f8_r10))))
noncomputable def f8_r11 : List EOper := [oG 4 (.as (cG 0))]
noncomputable def f8_c : EC := (.seq (.reg f8_r0) (.seq (.seq (.reg f8_r1) (.cond (tG 12) (.seq (.reg f8_r2) .ret) .skip)) (.seq (.seq (.reg f8_r3) (.cond (tG 16) (.seq (.reg f8_r4) .ret) .skip)) (.seq (.seq (.reg f8_r5) (.block 0 (.loop f8_l0))) (.seq (.reg f8_r11) .ret)))))
noncomputable def f8 : EF := ⟨29, [.tmp (.ofNat 4)], f8_c, none⟩
theorem f8_rs : f8.rs = [.tmp (.ofNat 4)] := of_eq_true (eq_self _)
section
variable {fs : T EF}
theorem f110_ret {h : H} {a : Int} : Ret fs f110 [.i .i64 a] h fun r h' => r = .b false ∧ h' = h := by
  apply ret_of rfl
  show W fs none f110_c _ _ _
  unfold f110_c
  have d : decide (a ≠ a) = false := by simp
  simp (disch := omega) only [f110_r0, f110_r1, f110_rs, Option.some.injEq, exists_eq_left', Nat.reduceEqDiff, ↓reduceIte, d, and_self, bz]
def cmpI (a b : Int) : Int := if a < b then -1 else if b < a then 1 else 0
theorem f96_ret {h : H} {a b : Int} (h121 : fs.get (.ofNat 110) = some f110) : Ret fs f96 [.i .i64 a, .i .i64 b] h fun r h' => r = .i .i64 (cmpI a b) ∧ h' = h := by
  apply ret_of rfl
  show W fs none f96_c _ _ _
  unfold f96_c
  simp (disch := omega) only [f96_r0, f96_r1, Nat.reduceEqDiff, ↓reduceIte, bz]
  refine (callP_0 (ef := f110) h121 rfl f110_ret).mono ?_
  rintro r h1 ⟨rfl, hq⟩
  subst hq
  simp (disch := omega) only [f96_r2, Nat.reduceEqDiff, ↓reduceIte, bz]
  refine (callP_0 (ef := f110) h121 rfl f110_ret).mono ?_
  rintro r h2 ⟨rfl, hq⟩
  subst hq
  unfold cmpI
  have hm : Int.negSucc 0 = -1 := rfl
  by_cases h1 : a < b
  · have d1 : decide (a < b) = true := by simpa using h1
    simp (disch := omega) only [f96_r3, f96_r7, f96_r9, f96_r10, f96_rs, Option.some.injEq, exists_eq_left', Nat.reduceEqDiff, ↓reduceIte, Bool.false_eq_true, decide_eq_true_eq, h1, hm, and_self, bz]
  · have d1 : decide (a < b) = false := by simpa using h1
    by_cases h2 : b < a
    · have d2 : decide (a > b) = true := by simpa using h2
      simp (disch := omega) only [f96_r3, f96_r7, f96_r9, f96_r11, f96_r12, f96_rs, Option.some.injEq, exists_eq_left', Nat.reduceEqDiff, ↓reduceIte, Bool.false_eq_true, decide_eq_true_eq, h1, h2, and_self, bz]
    · have d2 : decide (a > b) = false := by simpa using h2
      simp (disch := omega) only [f96_r3, f96_r7, f96_r9, f96_r11, f96_r13, f96_rs, Option.some.injEq, exists_eq_left', Nat.reduceEqDiff, ↓reduceIte, Bool.false_eq_true, decide_eq_true_eq, h1, h2, and_self, bz]
def cmpL : List Int → List Int → Int
  | [], [] => 0
  | [], _ :: _ => -1
  | _ :: _, [] => 1
  | a :: L, b :: M => if cmpI a b ≠ 0 then cmpI a b else cmpL L M
def f84_I (h : H) (v w : V) (L M : List Int) (i : Nat) (fr : Fr) (h1 : H) : Prop := h1 = h ∧ i ≤ L.length ∧ cmpL (L.drop i) (M.drop i) = cmpL L M ∧ i ≤ M.length ∧ fr.get (K.ofNat 0) = some (v) ∧ fr.get (K.ofNat 1) = some (w) ∧ fr.get (K.ofNat 9) = some (v) ∧ fr.get (K.ofNat 10) = some (.i .i64 (L.length : Int)) ∧ fr.get (K.ofNat 11) = some (.i .i64 (i : Int))
theorem f84_ret {h : H} {v w : V} {L M : List Int} (h108 : fs.get (.ofNat 96) = some f96) (h121 : fs.get (.ofNat 110) = some f110) (hv : Sr iE h v L) (hw : Sr iE h w M) (hL : L.length ≤ 1000000) : Ret fs f84 [v, w] h fun r h' => r = .i .i64 (cmpL L M) ∧ h' = h := by
  apply ret_of rfl
  show W fs none f84_c _ _ _
  unfold f84_c
  have hm : Int.negSucc 0 = -1 := rfl
  simp (disch := omega) only [f84_r0, f84_r1, Nat.reduceEqDiff, ↓reduceIte, hv.len, bz]
  refine W_loop (f84_I h v w L M) (fun i => L.length - i) ?_ 0 ⟨rfl, by omega, rfl, by omega, by simp (disch := omega) only [getK_set, Nat.reduceEqDiff, ↓reduceIte, and_self, Int.natCast_zero]⟩
  rintro i fr h1 ⟨rfl, hi, hc, hiM, g0, g1, g9, g10, g11⟩
  unfold f84_l0
  by_cases hlt : i < L.length
  · have d0 : decide ((i : Int) < (L.length : Int)) = true := by simpa using hlt
    obtain ⟨p, hp1, hp2⟩ := hv.at i hlt
    rw [List.drop_eq_getElem_cons hlt] at hc
    by_cases hm2 : i < M.length
    · have d1 : decide ((i : Int) ≥ (M.length : Int)) = false := by simp; omega
      obtain ⟨p', hp3, hp4⟩ := hw.at i hm2
      rw [List.drop_eq_getElem_cons hm2] at hc
      simp (disch := omega) only [f84_r2, f84_r3, f84_r4, f84_r6, f84_r7, Nat.reduceEqDiff, ↓reduceIte, Bool.false_eq_true, g1, g9, g10, g11, d0, d1, hp1, hp2, hp3, hp4, hw.len, iE, bz]
      refine (callP_0 (ef := f96) h108 rfl (f96_ret (a := L[i]) (b := M[i]) h121)).mono ?_
      rintro r h2 ⟨rfl, hq⟩
      subst hq
      have hc : (if cmpI L[i] M[i] ≠ 0 then cmpI L[i] M[i] else cmpL (L.drop (i + 1)) (M.drop (i + 1))) = cmpL L M := hc
      by_cases h0 : cmpI L[i] M[i] = 0
      · have d2 : decide (cmpI L[i] M[i] ≠ 0) = false := by simpa using h0
        rw [if_neg (by simpa using h0)] at hc
        simp (disch := omega) only [f84_r8, f84_r10, Nat.reduceEqDiff, ↓reduceIte, Bool.false_eq_true, g11, d2, bz]
        exact ⟨i + 1, by omega, rfl, by omega, hc, by omega, by simp (disch := omega) only [getK_set, Nat.reduceEqDiff, ↓reduceIte, g0, g1, g9, g10, and_self, Int.natCast_add, Int.natCast_one]⟩
      · have d2 : decide (cmpI L[i] M[i] ≠ 0) = true := by simpa using h0
        rw [if_pos h0] at hc
        simp (disch := omega) only [f84_r8, f84_r9, f84_rs, Option.some.injEq, exists_eq_left', Nat.reduceEqDiff, ↓reduceIte, d2, ← hc, and_self, bz]
    · have d1 : decide ((i : Int) ≥ (M.length : Int)) = true := by simp; omega
      rw [show List.drop i M = [] from List.drop_of_length_le (by omega)] at hc
      have hc : (1 : Int) = cmpL L M := hc
      simp (disch := omega) only [f84_r2, f84_r3, f84_r4, f84_r5, f84_rs, Option.some.injEq, exists_eq_left', Nat.reduceEqDiff, ↓reduceIte, g1, g9, g10, g11, d0, d1, hp1, hp2, hw.len, iE, ← hc, and_self, bz]
  · have d0 : decide ((i : Int) < (L.length : Int)) = false := by simpa using hlt
    rw [show List.drop i L = [] from List.drop_of_length_le (by omega)] at hc
    by_cases hm2 : L.length < M.length
    · have d1 : decide ((L.length : Int) < (M.length : Int)) = true := by simpa using hm2
      rw [List.drop_eq_getElem_cons (show i < M.length by omega)] at hc
      have hc : (-1 : Int) = cmpL L M := hc
      simp (disch := omega) only [f84_r2, f84_r11, f84_r12, f84_rs, Option.some.injEq, exists_eq_left', Nat.reduceEqDiff, ↓reduceIte, Bool.false_eq_true, g0, g1, g10, g11, d0, d1, hv.len, hw.len, hm, hc, and_self, bz]
    · have d1 : decide ((L.length : Int) < (M.length : Int)) = false := by simpa using hm2
      rw [show List.drop i M = [] from List.drop_of_length_le (by omega)] at hc
      have hc : (0 : Int) = cmpL L M := hc
      simp (disch := omega) only [f84_r2, f84_r11, f84_r13, f84_rs, Option.some.injEq, exists_eq_left', Nat.reduceEqDiff, ↓reduceIte, Bool.false_eq_true, g0, g1, g10, g11, d0, d1, hv.len, hw.len, ← hc, and_self, bz]
def bfB (a b : Int × Int) : Bool := decide (a.1 < b.1) || (decide (a.1 = b.1) && decide (a.2 < b.2))
theorem cmpL_2 (a b : Int × Int) : decide (cmpL [a.1, a.2] [b.1, b.2] < 0) = bfB a b := by
  unfold bfB cmpL cmpL cmpL cmpI
  by_cases h1 : a.1 < b.1
  · simp [h1]
  · by_cases h2 : b.1 < a.1
    · have : a.1 ≠ b.1 := by omega
      simp [h1, h2, this]
    · have h3 : a.1 = b.1 := by omega
      by_cases h4 : a.2 < b.2
      · simp [h3, h4]
      · by_cases h5 : b.2 < a.2 <;> simp [h3, h4, h5]
theorem slcA_2 {fr : Fr} {h : H} {id : K} {a b : V} (hb : h.get id = .cells 2 [a, b]) : slcAV fr 2 1 (.p id 0) none none h = .ok (.sl id 0 2 1) h := by
  show (h.get id).onC RV.no _ = _
  rw [hb]; rfl
theorem sl_2 {h : H} {id : K} {a b : Int} (hb : h.get id = .cells 2 [.i .i64 a, .i .i64 b]) : Sl iE h (.sl id 0 2 1) [a, b] := by
  refine .inr ⟨id, 0, 2, _, rfl, hb, rfl, by simp, fun i hi => ?_⟩
  have : i = 0 ∨ i = 1 := by simp at hi; omega
  rcases this with rfl | rfl <;> rfl
theorem f57_ret {h : H} {a b : Int × Int} (h99 : fs.get (.ofNat 84) = some f84) (h108 : fs.get (.ofNat 96) = some f96) (h121 : fs.get (.ofNat 110) = some f110) : Ret fs f57 [pV a, pV b] h fun r _ => r = .b (bfB a b) := by
  apply ret_of rfl
  show W fs none f57_c _ _ _
  unfold f57_c
  have n1 := nx_new h (.cells 2 [.i .i64 a.1, .i .i64 a.2])
  have n2 := nx_new (h.new (.cells 2 [.i .i64 a.1, .i .i64 a.2])) (.cells 2 [.i .i64 b.1, .i .i64 b.2])
  have e1 : ((h.new (.cells 2 [.i .i64 a.1, .i .i64 a.2])).new (.cells 2 [.i .i64 b.1, .i .i64 b.2])).get h.nx = .cells 2 [.i .i64 a.1, .i .i64 a.2] := by rw [get_new_old (by omega), get_new_same]
  have e2 : ((h.new (.cells 2 [.i .i64 a.1, .i .i64 a.2])).new (.cells 2 [.i .i64 b.1, .i .i64 b.2])).get (h.new (.cells 2 [.i .i64 a.1, .i .i64 a.2])).nx = .cells 2 [.i .i64 b.1, .i .i64 b.2] := get_new_same
  have c1 : cellsN 2 (pV a) = some [.i .i64 a.1, .i .i64 a.2] := rfl
  have c2 : cellsN 2 (pV b) = some [.i .i64 b.1, .i .i64 b.2] := rfl
  simp (disch := omega) only [f57_r0, f57_r1, xg_slcA, Nat.reduceEqDiff, ↓reduceIte, c1, c2, bz]
  generalize (h.new (.cells 2 [.i .i64 a.1, .i .i64 a.2])).nx = id2 at *
  generalize (h.new (.cells 2 [.i .i64 a.1, .i .i64 a.2])).new (.cells 2 [.i .i64 b.1, .i .i64 b.2]) = h2 at *
  simp (disch := omega) only [xg_slcA, Nat.reduceEqDiff, ↓reduceIte, slcA_2 e1, slcA_2 e2, bz]
  refine (callP_0 (ef := f84) h99 rfl (f84_ret h108 h121 (sl_2 e1).sr (sl_2 e2).sr (by simp))).mono ?_
  rintro r h3 ⟨rfl, hq⟩
  subst hq
  simp (disch := omega) only [f57_rs, Option.some.injEq, exists_eq_left', ↓reduceIte, cmpL_2, bz]

structure Nat4 (fs : T EF) : Prop extends Nat3 fs where
  n46 : ∀ L (x : Nat × Nat) h P, L.length = 49 → (x.1 < 7 ∧ x.2 < 7) → CallP fs (.fn (K.ofNat 46) []) [rV L, aV x] h P = P (rV (clsR L x)) h
  n44 : ∀ L (x y : Nat × Nat) h P, L.length = 49 → (x.1 < 7 ∧ x.2 < 7) → (y.1 < 7 ∧ y.2 < 7) → CallP fs (.fn (K.ofNat 44) []) [rV L, aV x, aV y] h P = P (.b (decide (y ∈ fcY L x.1 x.2))) h
  n39 : ∀ L h P, L.length = 49 → CallP fs (.fn (K.ofNat 39) []) [rV L] h P = P (.b (trB L)) h
  n57 : ∀ a b h P, CallP fs (.fn (K.ofNat 57) []) [pV a, pV b] h P = P (.b (bfB a b)) h
/-! ### Rising pairs -/
def okE (n : Int) (x : Int × Int) : Bool := nodeB n x.1 && (nodeB n x.2 && decide (x.1 ≠ x.2))
def risAt (n : Int) (L : List (Int × Int)) (j : Nat) : Prop := okE n (L.getD j (0, 0)) = true ∧ (0 < j → bfB (L.getD (j - 1) (0, 0)) (L.getD j (0, 0)) = true)
def RisT (n : Int) (L : List (Int × Int)) (i : Nat) : Prop := ∀ j, j < i → risAt n L j
open Classical in
noncomputable def risB (n : Int) (L : List (Int × Int)) : Bool := decide (RisT n L L.length)
section
variable {h : H}
def f37_I (h0 : H) (n : Int) (v : V) (L : List (Int × Int)) (i : Nat) (fr : Fr) (h1 : H) : Prop := i ≤ L.length ∧ Grow h0.nx.nat h0 h1 ∧ RisT n L i ∧ fr.get (K.ofNat 0) = some (.i .i64 n) ∧ fr.get (K.ofNat 1) = some (v) ∧ fr.get (K.ofNat 7) = some (v) ∧ fr.get (K.ofNat 8) = some (.i .i64 (L.length : Int)) ∧ fr.get (K.ofNat 9) = some (.i .i64 (i : Int))
theorem f37_ret {n : Int} {v : V} {L : List (Int × Int)} (k : Nat4 fs) (hv : Srp h v L) (hb : L.length ≤ 9223372036854775807) (hc : HC h) : Ret fs f37 [.i .i64 n, v] h fun r h' => r = .b (risB n L) ∧ Grow h.nx.nat h h' := by
  apply ret_of rfl
  show W fs none f37_c _ _ _
  unfold f37_c
  have hlen := hv.len
  simp (disch := omega) only [f37_r0, f37_r1, Nat.reduceEqDiff, ↓reduceIte, hlen, bz]
  refine W_loop (f37_I h n v L) (fun i => L.length - i) ?_ 0 ⟨by omega, Grow.refl _ _, fun j hj => by omega, by simp (disch := omega) only [getK_set, Nat.reduceEqDiff, ↓reduceIte, and_self, Int.natCast_zero]⟩
  rintro i fr h1 ⟨hi, hG, hR, g0, g1, g7, g8, g9⟩
  have hc1 := hG.hc hc
  unfold f37_l0
  by_cases hlt : i < L.length
  · have d0 : decide ((i : Int) < (L.length : Int)) = true := decide_eq_true (by omega)
    have hv1 := hv.grow hc hG
    obtain ⟨id, q, p1, p2, _⟩ := hv1.at2 hlt
    have hgd : L.getD i (0, 0) = L[i] := by rw [List.getD_eq_getElem?_getD, List.getElem?_eq_getElem hlt]; rfl
    have hno : ¬ risAt n L i → risB n L = false := fun h => by unfold risB; exact @decide_eq_false _ (Classical.propDecidable _) (fun hh => h (hh i hlt))
    have hst : storeV (h1.new (.cells 2 [.i .i64 0, .i .i64 0])) 2 (.p h1.nx 0) (.agg [.i .i64 L[i].1, .i .i64 L[i].2]) = .ok undefV ((h1.new (.cells 2 [.i .i64 0, .i .i64 0])).put h1.nx (.cells 2 [.i .i64 L[i].1, .i .i64 L[i].2])) := st2 (a := .i .i64 0) (b := .i .i64 0) get_new_same
    have n1 := nx_new h1 (.cells 2 [.i .i64 0, .i .i64 0])
    have gB : Grow h1.nx.nat h1 ((h1.new (.cells 2 [.i .i64 0, .i .i64 0])).put h1.nx (.cells 2 [.i .i64 L[i].1, .i .i64 L[i].2])) := (Grow.new (Nat.le_refl _) _).trans (Grow.put (Nat.le_refl _) (by omega) _)
    have c7 : ((h1.new (.cells 2 [.i .i64 0, .i .i64 0])).put h1.nx (.cells 2 [.i .i64 L[i].1, .i .i64 L[i].2])).get h1.nx = .cells 2 [.i .i64 L[i].1, .i .i64 L[i].2] := get_put_same
    simp (disch := omega) only [f37_r2, f37_r3, Nat.reduceEqDiff, ↓reduceIte, g7, g8, g9, d0, p1, p2, hst, bz]
    generalize (h1.new (.cells 2 [.i .i64 0, .i .i64 0])).put h1.nx (.cells 2 [.i .i64 L[i].1, .i .i64 L[i].2]) = h2 at *
    have gC := hG.trans (gB.low hG.nx)
    have l0 := ld20 c7
    have l1 := ld21 c7
    have l2 := ldn2 c7
    have z0 : ∀ ff : Nat → RV, idxV (.i .i64 0) 2 ff = ff 0 := fun _ => rfl
    have z1 : ∀ ff : Nat → RV, idxV (.i .i64 1) 2 ff = ff 1 := fun _ => rfl
    cases k1 : nodeB n L[i].1 with
    | false =>
      have hf := hno (fun h => by have h := h.1; rw [hgd] at h; unfold okE at h; rw [k1] at h; cases h)
      simp (disch := omega) only [f37_r4, f37_r5, f37_rs, Option.some.injEq, exists_eq_left', Nat.reduceEqDiff, ↓reduceIte, Bool.false_eq_true, Bool.not_true, Bool.not_false, g0, z0, l0, k.n66, k1, bz]
      exact ⟨by rw [hf], gC⟩
    | true =>
    cases k2 : nodeB n L[i].2 with
    | false =>
      have hf := hno (fun h => by have h := h.1; rw [hgd] at h; unfold okE at h; rw [k1, k2] at h; cases h)
      simp (disch := omega) only [f37_r4, f37_r5, f37_rs, Option.some.injEq, exists_eq_left', Nat.reduceEqDiff, ↓reduceIte, Bool.false_eq_true, Bool.not_true, Bool.not_false, g0, z0, z1, l0, l1, k.n66, k1, k2, bz]
      exact ⟨by rw [hf], gC⟩
    | true =>
    by_cases k3 : L[i].1 = L[i].2
    · have d3 : decide (L[i].1 = L[i].2) = true := decide_eq_true k3
      have hf := hno (fun h => by have h := h.1; rw [hgd] at h; unfold okE at h; rw [k1, k2] at h; simp [k3] at h)
      simp (disch := omega) only [f37_r4, f37_r5, f37_rs, Option.some.injEq, exists_eq_left', Nat.reduceEqDiff, ↓reduceIte, Bool.false_eq_true, Bool.not_true, Bool.not_false, g0, z0, z1, l0, l1, k.n66, k1, k2, d3, bz]
      exact ⟨by rw [hf], gC⟩
    · have d3 : decide (L[i].1 = L[i].2) = false := decide_eq_false k3
      have hok : okE n (L.getD i (0, 0)) = true := by rw [hgd]; unfold okE; rw [k1, k2, decide_eq_true k3]; rfl
      simp (disch := omega) only [f37_r4, Nat.reduceEqDiff, ↓reduceIte, Bool.false_eq_true, Bool.not_true, Bool.not_false, g0, z0, z1, l0, l1, k.n66, k1, k2, d3, bz]
      by_cases h0 : i = 0
      · have d4 : decide ((i : Int) > 0) = false := decide_eq_false (by omega)
        simp (disch := omega) only [f37_r6, f37_r8, Nat.reduceEqDiff, ↓reduceIte, Bool.false_eq_true, g9, d4, bz]
        exact ⟨i + 1, by omega, hlt, gC, fun j hj => by
          by_cases e : j < i
          · exact hR j e
          · rw [show j = i by omega]; exact ⟨hok, fun h => by omega⟩, by simp (disch := omega) only [getK_set, Nat.reduceEqDiff, ↓reduceIte, g0, g1, g7, g8, and_self, Int.natCast_add, Int.natCast_one]⟩
      · have d4 : decide ((i : Int) > 0) = true := decide_eq_true (by omega)
        have e1 : (i : Int) - 1 = ((i - 1 : Nat) : Int) := by omega
        have hlt1 : i - 1 < L.length := by omega
        obtain ⟨id', q', p1', p2', _⟩ := (hv.grow hc gC).at2 hlt1
        have hgd1 : L.getD (i - 1) (0, 0) = L[i - 1] := by rw [List.getD_eq_getElem?_getD, List.getElem?_eq_getElem hlt1]; rfl
        have hq := k.n57 L[i - 1] L[i]
        have hav1 : V.agg [.i .i64 L[i - 1].1, .i .i64 L[i - 1].2] = pV L[i - 1] := rfl
        have hav2 : V.agg [.i .i64 L[i].1, .i .i64 L[i].2] = pV L[i] := rfl
        cases hb : bfB L[i - 1] L[i] with
        | false =>
          have hf := hno (fun h => by have h := h.2 (by omega); rw [hgd, hgd1, hb] at h; cases h)
          simp (disch := omega) only [f37_r6, f37_r7, f37_rs, bin_sub, Option.some.injEq, exists_eq_left', Nat.reduceEqDiff, ↓reduceIte, Bool.not_false, g1, d4, e1, p1', p2', l2, hav1, hav2, hq, hb, bz]
          exact ⟨by rw [hf], gC⟩
        | true =>
          simp (disch := omega) only [f37_r6, f37_r8, bin_sub, Nat.reduceEqDiff, ↓reduceIte, Bool.false_eq_true, Bool.not_true, g1, g9, d4, e1, p1', p2', l2, hav1, hav2, hq, hb, bz]
          exact ⟨i + 1, by omega, hlt, gC, fun j hj => by
            by_cases e : j < i
            · exact hR j e
            · rw [show j = i by omega]; exact ⟨hok, fun _ => by rw [hgd, hgd1]; exact hb⟩, by simp (disch := omega) only [getK_set, Nat.reduceEqDiff, ↓reduceIte, g0, g1, g7, g8, and_self, Int.natCast_add, Int.natCast_one]⟩
  · have d0 : decide ((i : Int) < (L.length : Int)) = false := decide_eq_false (by omega)
    have ei : i = L.length := by omega
    subst ei
    have hf : risB n L = true := by unfold risB; exact @decide_eq_true _ (Classical.propDecidable _) hR
    simp (disch := omega) only [f37_r2, f37_r9, f37_rs, Option.some.injEq, exists_eq_left', ↓reduceIte, Bool.false_eq_true, g8, g9, d0, bz]
    exact ⟨by rw [hf], hG⟩
def UpT (L : List (Int × Int)) (i : Nat) : Prop := ∀ j, j < i → (L.getD j (0, 0)).1 ≤ (L.getD j (0, 0)).2
open Classical in
noncomputable def chkG (n : Int) (L : List (Int × Int)) : Int := if n < 1 ∨ 7 < n then 1 else if risB n L = true ∧ UpT L L.length then 0 else 20
def f8_I (h0 : H) (n : Int) (v : V) (L : List (Int × Int)) (i : Nat) (fr : Fr) (h1 : H) : Prop := i ≤ L.length ∧ Grow h0.nx.nat h0 h1 ∧ UpT L i ∧ fr.get (K.ofNat 0) = some (.i .i64 n) ∧ fr.get (K.ofNat 1) = some (v) ∧ fr.get (K.ofNat 17) = some (v) ∧ fr.get (K.ofNat 18) = some (.i .i64 (L.length : Int)) ∧ fr.get (K.ofNat 19) = some (.i .i64 (i : Int))
structure CallsCk (fs : T EF) : Prop extends Nat4 fs where
  c37 : fs.get (K.ofNat 37) = some f37
theorem f8_ret {n : Int} {v : V} {L : List (Int × Int)} (k : CallsCk fs) (hv : Srp h v L) (hb : L.length ≤ 9223372036854775807) (hc : HC h) : Ret fs f8 [.i .i64 n, v] h fun r h' => r = .i .i64 (chkG n L) ∧ Grow h.nx.nat h h' := by
  apply ret_of rfl
  show W fs none f8_c _ _ _
  unfold f8_c
  by_cases hn : n < 1 ∨ 7 < n
  · have hg : chkG n L = 1 := by unfold chkG; rw [if_pos hn]
    by_cases h1 : n < 1
    · have d1 : decide (n < 1) = true := decide_eq_true h1
      simp (disch := omega) only [f8_r0, f8_r1, f8_r2, f8_rs, Option.some.injEq, exists_eq_left', Nat.reduceEqDiff, ↓reduceIte, Bool.false_eq_true, Bool.not_true, d1, bz]
      exact ⟨by rw [hg], Grow.refl _ _⟩
    · have d1 : decide (n < 1) = false := decide_eq_false h1
      have d2 : decide (n > 7) = true := decide_eq_true (by omega)
      simp (disch := omega) only [f8_r0, f8_r1, f8_r2, f8_rs, Option.some.injEq, exists_eq_left', Nat.reduceEqDiff, ↓reduceIte, Bool.false_eq_true, Bool.not_false, d1, d2, bz]
      exact ⟨by rw [hg], Grow.refl _ _⟩
  · have d1 : decide (n < 1) = false := decide_eq_false (by omega)
    have d2 : decide (n > 7) = false := decide_eq_false (by omega)
    simp (disch := omega) only [f8_r0, f8_r1, f8_r3, Nat.reduceEqDiff, ↓reduceIte, Bool.false_eq_true, Bool.not_false, d1, d2, bz]
    refine (callP_0 (ef := f37) k.c37 rfl (f37_ret k.toNat4 hv hb hc)).mono ?_
    rintro r h1 ⟨rfl, hG⟩
    cases hr : risB n L with
    | false =>
      have hg : chkG n L = 20 := by unfold chkG; rw [if_neg hn, if_neg (by rw [hr]; simp)]
      simp (disch := omega) only [f8_r4, f8_rs, Option.some.injEq, exists_eq_left', ↓reduceIte, Bool.not_false, bz]
      exact ⟨by rw [hg], hG⟩
    | true =>
      have hv1 := hv.grow hc hG
      have hlen := hv1.len
      simp (disch := omega) only [f8_r5, Nat.reduceEqDiff, ↓reduceIte, Bool.false_eq_true, Bool.not_true, hlen, bz]
      refine W_loop (f8_I h n v L) (fun i => L.length - i) ?_ 0 ⟨by omega, hG, fun j hj => by omega, by simp (disch := omega) only [getK_set, Nat.reduceEqDiff, ↓reduceIte, and_self, Int.natCast_zero]⟩
      clear hG hv1 hlen
      rintro i fr h1 ⟨hi, hG, hR, g0, g1, g17, g18, g19⟩
      have hc1 := hG.hc hc
      unfold f8_l0
      by_cases hlt : i < L.length
      · have d0 : decide ((i : Int) < (L.length : Int)) = true := decide_eq_true (by omega)
        obtain ⟨id, q, p1, p2, _⟩ := (hv.grow hc hG).at2 hlt
        have hgd : L.getD i (0, 0) = L[i] := by rw [List.getD_eq_getElem?_getD, List.getElem?_eq_getElem hlt]; rfl
        have hst : storeV (h1.new (.cells 2 [.i .i64 0, .i .i64 0])) 2 (.p h1.nx 0) (.agg [.i .i64 L[i].1, .i .i64 L[i].2]) = .ok undefV ((h1.new (.cells 2 [.i .i64 0, .i .i64 0])).put h1.nx (.cells 2 [.i .i64 L[i].1, .i .i64 L[i].2])) := st2 (a := .i .i64 0) (b := .i .i64 0) get_new_same
        have n1 := nx_new h1 (.cells 2 [.i .i64 0, .i .i64 0])
        have gB : Grow h1.nx.nat h1 ((h1.new (.cells 2 [.i .i64 0, .i .i64 0])).put h1.nx (.cells 2 [.i .i64 L[i].1, .i .i64 L[i].2])) := (Grow.new (Nat.le_refl _) _).trans (Grow.put (Nat.le_refl _) (by omega) _)
        have c7 : ((h1.new (.cells 2 [.i .i64 0, .i .i64 0])).put h1.nx (.cells 2 [.i .i64 L[i].1, .i .i64 L[i].2])).get h1.nx = .cells 2 [.i .i64 L[i].1, .i .i64 L[i].2] := get_put_same
        simp (disch := omega) only [f8_r6, f8_r7, Nat.reduceEqDiff, ↓reduceIte, g17, g18, g19, d0, p1, p2, hst, bz]
        generalize (h1.new (.cells 2 [.i .i64 0, .i .i64 0])).put h1.nx (.cells 2 [.i .i64 L[i].1, .i .i64 L[i].2]) = h2 at *
        have gC := hG.trans (gB.low hG.nx)
        have l0 := ld20 c7
        have l1 := ld21 c7
        have z0 : ∀ ff : Nat → RV, idxV (.i .i64 0) 2 ff = ff 0 := fun _ => rfl
        have z1 : ∀ ff : Nat → RV, idxV (.i .i64 1) 2 ff = ff 1 := fun _ => rfl
        by_cases h3 : L[i].1 ≤ L[i].2
        · have d3 : decide (L[i].1 > L[i].2) = false := decide_eq_false (by omega)
          simp (disch := omega) only [f8_r8, f8_r10, Nat.reduceEqDiff, ↓reduceIte, Bool.false_eq_true, g19, z0, z1, l0, l1, d3, bz]
          exact ⟨i + 1, by omega, hlt, gC, fun j hj => by
            by_cases e : j < i
            · exact hR j e
            · rw [show j = i by omega, hgd]; exact h3, by simp (disch := omega) only [getK_set, Nat.reduceEqDiff, ↓reduceIte, g0, g1, g17, g18, and_self, Int.natCast_add, Int.natCast_one]⟩
        · have d3 : decide (L[i].1 > L[i].2) = true := decide_eq_true (by omega)
          have hg : chkG n L = 20 := by unfold chkG; rw [if_neg hn, if_neg (fun h => h3 (by have := h.2 i hlt; rw [hgd] at this; exact this))]
          simp (disch := omega) only [f8_r8, f8_r9, f8_rs, Option.some.injEq, exists_eq_left', Nat.reduceEqDiff, ↓reduceIte, z0, z1, l0, l1, d3, bz]
          exact ⟨by rw [hg], gC⟩
      · have d0 : decide ((i : Int) < (L.length : Int)) = false := decide_eq_false (by omega)
        have ei : i = L.length := by omega
        subst ei
        have hg : chkG n L = 0 := by unfold chkG; rw [if_neg hn, if_pos ⟨hr, hR⟩]
        simp (disch := omega) only [f8_r6, f8_r11, f8_rs, Option.some.injEq, exists_eq_left', ↓reduceIte, Bool.false_eq_true, g18, g19, d0, bz]
        exact ⟨by rw [hg], hG⟩
end
end
end Go.Ev
namespace Go.Ev
open Go Go.RowKit
end Go.Ev
namespace Go.Ev
open Go Go.RowKit
noncomputable def f10_r0 : List EOper := [oG 4 (.as (.c .sn)), oG 5 (.as (cG 0))]
noncomputable def f10_r1 : List EOper := [oG 7 (.mv (tG 0)), oG 8 (.mv (tG 1)), oG 9 (.call (fG 8) [(tG 7), (tG 8)]), oG 6 (.as (tG 9))]
noncomputable def f10_r2 : List EOper := [oG 10 (.mv (tG 6)), oG 11 (.bin .neq (tG 10) (cG 0))]
noncomputable def f10_r3 : List EOper := [oG 12 (.mv (tG 6)), oG 4 (.as (.c .sn)), oG 5 (.as (tG 12))]
noncomputable def f10_r4 : List EOper := [oG 13 (.mv (tG 1)), oG 14 (.call (fG 40) [(tG 13)]), oG 15 (.mv (tG 0)), oG 16 (.call (fG 41) [(tG 14), (tG 15)]), oG 17 (.call (fG 42) [(tG 16)]), oG 4 (.as (tG 17)), oG 5 (.as (cG 0))]
noncomputable def f10_c : EC := (.seq (.reg f10_r0) (.seq (.seq (.reg f10_r1) (.seq (.reg f10_r2) (.cond (tG 11) (.seq (.reg f10_r3) .ret) .skip))) (.seq (.reg f10_r4) .ret)))
noncomputable def f10 : EF := ⟨18, [.tmp (.ofNat 4), .tmp (.ofNat 5)], f10_c, none⟩
theorem f10_rs : f10.rs = [.tmp (.ofNat 4), .tmp (.ofNat 5)] := of_eq_true (eq_self _)
section
variable {fs : T EF} {h : H}
end
end Go.Ev
namespace Go.Ev
open Go Go.RowKit
end Go.Ev
namespace Go.Ev
open Go Go.RowKit
section
variable {fs : T EF} {h h' : H}
end
end Go.Ev
namespace Go.Ev
open Go Go.RowKit
theorem relR_iff {L : List (Int × Int)} {a b : Nat} (hn : Nd L) : rat (relR L) a b = true ↔ ((a : Int), (b : Int)) ∈ L := by
  unfold relR
  rw [rat_rl]
  simp only [Bool.and_eq_true, decide_eq_true_eq]
  exact ⟨fun h => h.2, fun h => ⟨by have := hn _ h; simp only at this; omega, h⟩⟩
open Classical in
noncomputable def ckO (n : Int) (L : List (Int × Int)) : Int := if n < 1 ∨ 7 < n then 1 else if risB n L = true ∧ trB (relR L) = true then 0 else 30
theorem trB_iff {L : List Bool} (hL : L.length = 49) : trB L = true ↔ ∀ a b c, rat L a b = true → rat L b c = true → rat L a c = true := by
  unfold trB
  rw [cvB_iff hL]
  exact ⟨fun h a b c h1 h2 => h a c (spR_iff.2 ⟨b, h1, h2⟩), fun h a c h1 => by obtain ⟨b, h2, h3⟩ := spR_iff.1 h1; exact h a b c h2 h3⟩
theorem ris_nd {n : Int} {L : List (Int × Int)} (hn : n ≤ 7) (h : risB n L = true) : Nd L := fun x hx => by
  unfold risB at h
  have h := @of_decide_eq_true _ (Classical.propDecidable _) h
  obtain ⟨i, hi, rfl⟩ := List.getElem_of_mem hx
  have := (h i hi).1
  rw [List.getD_eq_getElem?_getD, List.getElem?_eq_getElem hi] at this
  have this : okE n L[i] = true := this
  unfold okE nodeB at this
  simp only [Bool.and_eq_true, decide_eq_true_eq] at this
  omega
end Go.Ev
namespace Go.Ev
open Go Go.RowKit
noncomputable def f36_r0 : List EOper := [oG 3 (.box 2 (tG 1)), oG 4 (.as (.c (.b false)))]
noncomputable def f36_r1 : List EOper := [oG 5 (.as (cG 0))]
noncomputable def f36_r2 : List EOper := [oG 6 (.mv (tG 5)), oG 7 (.mv (tG 0)), oG 8 (.len (tG 7)), oG 9 (.bin .lss (tG 6) (tG 8))]
noncomputable def f36_r3 : List Stage := [⟨[oG 12 (.mv (tG 0)), oG 13 (.mv (tG 5)), oG 14 (.iads 2 (tG 12) (tG 13)), oG 15 (.ldn 2 (tG 14)), oG 16 (.ldn 2 (tG 3)), oG 17 (.eqk (.many [(some .i64), (some .i64)]) false (tG 15) (tG 16))], [], none, []⟩]
noncomputable def f36_r4 : List EOper := [oG 4 (.as (.c (.b true)))]
noncomputable def f36_r5 : List EOper := [oG 10 (.mv (tG 5)), oG 11 (.bin .add (tG 10) (cG 1)), oG 5 (.as (tG 11))]
noncomputable def f36_l0 : EC := (.seq (.seq (.reg f36_r2) (.cond (tG 9) .skip (.exit 0))) (.seq (.block 1 (.seq (.draw f36_r3) (.cond (tG 17) (.seq (.reg f36_r4) .ret) .skip))) (.reg f36_r5)))
noncomputable def f36_r6 : List EOper := [oG 4 (.as (.c (.b false)))]
noncomputable def f36_c : EC := (.seq (.reg f36_r0) (.seq (.seq (.reg f36_r1) (.block 0 (.loop f36_l0))) (.seq (.reg f36_r6) .ret)))
noncomputable def f36 : EF := ⟨18, [.tmp (.ofNat 4)], f36_c, none⟩
theorem f36_rs : f36.rs = [.tmp (.ofNat 4)] := of_eq_true (eq_self _)
noncomputable def f14_r0 : List EOper := [oG 4 (.as (.c .sn)), oG 5 (.as (.c (.b false))), oG 6 (.as (cG 0))]
noncomputable def f14_r1 : List EOper := [oG 10 (.mv (tG 0)), oG 11 (.mv (tG 1)), oG 12 (.call (fG 8) [(tG 10), (tG 11)]), oG 7 (.as (tG 12))]
noncomputable def f14_r2 : List EOper := [oG 13 (.mv (tG 7)), oG 14 (.bin .neq (tG 13) (cG 0))]
noncomputable def f14_r3 : List EOper := [oG 15 (.mv (tG 7)), oG 4 (.as (.c .sn)), oG 5 (.as (.c (.b false))), oG 6 (.as (tG 15))]
noncomputable def f14_r4 : List EOper := [oG 17 (.mv (tG 1)), oG 18 (.call (fG 40) [(tG 17)]), oG 19 (.call (fG 49) [(tG 18)]), oG 16 (.mv (tG 19)), oG 20 (.ext (tG 16) 0), oG 21 (.ext (tG 16) 1), oG 8 (.alloc 49 (List.replicate 49 (.b false))), ⟨none, none, .st 49 (tG 8) (tG 20)⟩, oG 9 (.as (tG 21))]
noncomputable def f14_r5 : List EOper := [oG 22 (.ldn 49 (tG 8)), oG 23 (.call (fG 47) [(tG 22)]), oG 24 (.mv (tG 9)), oG 4 (.as (tG 23)), oG 5 (.as (tG 24)), oG 6 (.as (cG 0))]
noncomputable def f14_c : EC := (.seq (.reg f14_r0) (.seq (.seq (.reg f14_r1) (.seq (.reg f14_r2) (.cond (tG 14) (.seq (.reg f14_r3) .ret) .skip))) (.seq (.reg f14_r4) (.seq (.reg f14_r5) .ret))))
noncomputable def f14 : EF := ⟨25, [.tmp (.ofNat 4), .tmp (.ofNat 5), .tmp (.ofNat 6)], f14_c, none⟩
theorem f14_rs : f14.rs = [.tmp (.ofNat 4), .tmp (.ofNat 5), .tmp (.ofNat 6)] := of_eq_true (eq_self _)
noncomputable def f9_r0 : List EOper := [oG 4 (.as (cG 0))]
noncomputable def f9_r1 : List EOper := [oG 5 (.mv (tG 0)), oG 6 (.bin .lss (tG 5) (cG 1)), oG 7 (.mv (tG 6)), gG 8 7 false (.mv (tG 0)), gG 9 7 false (.bin .gtr (tG 8) (cG 7)), oG 10 (.pick (tG 7) (.c (.b true)) (tG 9))]
noncomputable def f9_r2 : List EOper := [oG 4 (.as (cG 1))]
noncomputable def f9_r3 : List EOper := [oG 11 (.mv (tG 0)), oG 12 (.mv (tG 1)), oG 13 (.call (fG 37) [(tG 11), (tG 12)]), oG 14 (.not (tG 13)), oG 15 (.mv (tG 14)), gG 16 15 false (.mv (tG 1)), gG 17 15 false (.call (fG 38) [(tG 16)]), gG 18 15 false (.call (fG 39) [(tG 17)]), gG 19 15 false (.not (tG 18)), oG 20 (.pick (tG 15) (.c (.b true)) (tG 19))]
noncomputable def f9_r4 : List EOper := [oG 4 (.as (cG 30))]
noncomputable def f9_r5 : List EOper := [oG 4 (.as (cG 0))]
noncomputable def f9_c : EC := (.seq (.reg f9_r0) (.seq (.seq (.reg f9_r1) (.cond (tG 10) (.seq (.reg f9_r2) .ret) .skip)) (.seq (.seq (.reg f9_r3) (.cond (tG 20) (.seq (.reg f9_r4) .ret) .skip)) (.seq (.reg f9_r5) .ret))))
noncomputable def f9 : EF := ⟨21, [.tmp (.ofNat 4)], f9_c, none⟩
theorem f9_rs : f9.rs = [.tmp (.ofNat 4)] := of_eq_true (eq_self _)
section
variable {fs : T EF} {h h' : H}
def inI (x : Int × Int) : Prop := inR .i64 x.1 = true ∧ inR .i64 x.2 = true
theorem keyEq_pVO {x y : Int × Int} (hx : inI x) (hy : inI y) : keyEq (.many [some .i64, some .i64]) (pV x) (pV y) = some (decide (x = y)) := by
  have := keyEq_2 hx.1 hx.2 hy.1 hy.2
  rw [show keyEq (.many [some .i64, some .i64]) (pV x) (pV y) = _ from this]
  congr 1
  rw [← Bool.decide_and]
  exact decide_eq_decide.2 ⟨fun h => Prod.ext h.1 h.2, fun h => by rw [h]; exact ⟨rfl, rfl⟩⟩
def f36_I (h0 : H) (id3 : K) (v : V) (L : List (Int × Int)) (x : Int × Int) (i : Nat) (fr : Fr) (h1 : H) : Prop := i ≤ L.length ∧ h1 = h0 ∧ x ∉ L.take i ∧ fr.get (K.ofNat 0) = some (v) ∧ fr.get (K.ofNat 3) = some (.p id3 0) ∧ fr.get (K.ofNat 5) = some (.i .i64 (i : Int))
theorem f36_ret {v : V} {L : List (Int × Int)} {x : Int × Int} (hv : Srp h v L) (hL : ∀ y ∈ L, inI y) (hx : inI x) (hb : L.length ≤ 1000000) (hc : HC h) : Ret fs f36 [v, pV x] h fun r h' => r = .b (decide (x ∈ L)) ∧ Grow h.nx.nat h h' := by
  apply ret_of rfl
  show W fs none f36_c _ _ _
  unfold f36_c
  have c1 : cellsN 2 (pV x) = some [.i .i64 x.1, .i .i64 x.2] := rfl
  have gr1 : Grow h.nx.nat h (h.new (.cells 2 [.i .i64 x.1, .i .i64 x.2])) := Grow.new (Nat.le_refl _) _
  have e1 : (h.new (.cells 2 [.i .i64 x.1, .i .i64 x.2])).get h.nx = .cells 2 [.i .i64 x.1, .i .i64 x.2] := get_new_same
  simp (disch := omega) only [f36_r0, f36_r1, ↓reduceIte, c1, bz]
  generalize h.new (.cells 2 [.i .i64 x.1, .i .i64 x.2]) = h1 at *
  have hv1 := hv.grow hc gr1
  have hlen := hv1.len
  have l1 := ldn2 e1
  have hvb := hv.beq
  refine W_loop (f36_I h1 h.nx v L x) (fun i => L.length - i) ?_ 0 ⟨by omega, rfl, by simp, by simp (disch := omega) only [getK_set, Nat.reduceEqDiff, ↓reduceIte, and_self, Int.natCast_zero]⟩
  rintro i fr h2 ⟨hi, rfl, hn, g0, g3, g5⟩
  unfold f36_l0
  by_cases hlt : i < L.length
  · have d0 : decide ((i : Int) < (L.length : Int)) = true := decide_eq_true (by omega)
    obtain ⟨id, q, p1, p2, _⟩ := hv1.at2 hlt
    have hq := keyEq_pVO (hL _ (List.getElem_mem hlt)) hx
    have hav1 : V.agg [.i .i64 L[i].1, .i .i64 L[i].2] = pV L[i] := rfl
    have hav2 : V.agg [.i .i64 x.1, .i .i64 x.2] = pV x := rfl
    by_cases e : L[i] = x
    · have d1 : decide (L[i] = x) = true := decide_eq_true e
      rw [d1] at hq
      simp (disch := omega) only [f36_r2, f36_r3, f36_r4, f36_rs, xg_eqk, Option.some.injEq, exists_eq_left', Nat.reduceEqDiff, ↓reduceIte, g0, g3, g5, hlen, d0, p1, p2, l1, hav1, hav2, hq, cond_false, bz]
      exact ⟨by rw [decide_eq_true (show x ∈ L by rw [← e]; exact List.getElem_mem hlt)], gr1⟩
    · have d1 : decide (L[i] = x) = false := decide_eq_false e
      rw [d1] at hq
      simp (disch := omega) only [f36_r2, f36_r3, f36_r5, xg_eqk, Nat.reduceEqDiff, ↓reduceIte, Bool.false_eq_true, g0, g3, g5, hlen, d0, p1, p2, l1, hav1, hav2, hq, cond_false, bz]
      refine ⟨i + 1, by omega, hlt, rfl, ?_, by simp (disch := omega) only [getK_set, Nat.reduceEqDiff, ↓reduceIte, g0, g3, and_self, Int.natCast_add, Int.natCast_one]⟩
      rw [List.take_succ_eq_append_getElem hlt, List.mem_append, List.mem_singleton]
      exact fun h => h.elim hn (fun h => e h.symm)
  · have d0 : decide ((i : Int) < (L.length : Int)) = false := decide_eq_false (by omega)
    have ei : i = L.length := by omega
    subst ei
    rw [List.take_length] at hn
    simp (disch := omega) only [f36_r2, f36_r6, f36_rs, Option.some.injEq, exists_eq_left', Nat.reduceEqDiff, ↓reduceIte, Bool.false_eq_true, g0, g5, hlen, d0, bz]
    exact ⟨by rw [decide_eq_false hn], gr1⟩
theorem f9_ret {n : Int} {v : V} {L : List (Int × Int)} (k : CallsCk fs) (hv : Srp h v L) (hb : L.length ≤ 1000000) (hc : HC h) : Ret fs f9 [.i .i64 n, v] h fun r h' => r = .i .i64 (ckO n L) ∧ Grow h.nx.nat h h' := by
  apply ret_of rfl
  show W fs none f9_c _ _ _
  unfold f9_c
  by_cases hn : n < 1 ∨ 7 < n
  · have hg : ckO n L = 1 := by unfold ckO; rw [if_pos hn]
    by_cases h1 : n < 1
    · have d1 : decide (n < 1) = true := decide_eq_true h1
      simp (disch := omega) only [f9_r0, f9_r1, f9_r2, f9_rs, Option.some.injEq, exists_eq_left', Nat.reduceEqDiff, ↓reduceIte, Bool.false_eq_true, Bool.not_true, d1, bz]
      exact ⟨by rw [hg], Grow.refl _ _⟩
    · have d1 : decide (n < 1) = false := decide_eq_false h1
      have d2 : decide (n > 7) = true := decide_eq_true (by omega)
      simp (disch := omega) only [f9_r0, f9_r1, f9_r2, f9_rs, Option.some.injEq, exists_eq_left', Nat.reduceEqDiff, ↓reduceIte, Bool.false_eq_true, Bool.not_false, d1, d2, bz]
      exact ⟨by rw [hg], Grow.refl _ _⟩
  · have d1 : decide (n < 1) = false := decide_eq_false (by omega)
    have d2 : decide (n > 7) = false := decide_eq_false (by omega)
    simp (disch := omega) only [f9_r0, f9_r1, f9_r3, Nat.reduceEqDiff, ↓reduceIte, Bool.false_eq_true, Bool.not_false, d1, d2, bz]
    refine (callP_0 (ef := f37) k.c37 rfl (f37_ret k.toNat4 hv (by omega) hc)).mono ?_
    rintro r h1 ⟨rfl, hG⟩
    cases hr : risB n L with
    | false =>
      have hg : ckO n L = 30 := by unfold ckO; rw [if_neg hn, if_neg (by rw [hr]; simp)]
      simp (disch := omega) only [f9_r4, f9_rs, Option.some.injEq, exists_eq_left', Nat.reduceEqDiff, ↓reduceIte, Bool.false_eq_true, Bool.not_true, Bool.not_false, of30, bz]
      exact ⟨by rw [hg], hG⟩
    | true =>
      have hnd := ris_nd (by omega) hr
      have hR : (relR L).length = 49 := rl_len
      simp (disch := omega) only [Nat.reduceEqDiff, ↓reduceIte, Bool.not_true, Bool.not_false, bz]
      refine (callP_0 (ef := f38) k.c38 rfl (f38_ret (hv.grow hc hG) hnd hb (hG.hc hc))).mono ?_
      rintro r h2 ⟨rfl, hG2⟩
      have gA := hG.trans (hG2.low hG.nx)
      cases ht : trB (relR L) with
      | false =>
        have hg : ckO n L = 30 := by unfold ckO; rw [if_neg hn, if_neg (by rw [ht]; simp)]
        simp (disch := omega) only [f9_r4, f9_rs, Option.some.injEq, exists_eq_left', Nat.reduceEqDiff, ↓reduceIte, Bool.false_eq_true, Bool.not_false, of30, k.n39 _ _ _ hR, ht, bz]
        exact ⟨by rw [hg], gA⟩
      | true =>
        have hg : ckO n L = 0 := by unfold ckO; rw [if_neg hn, if_pos ⟨hr, ht⟩]
        simp (disch := omega) only [f9_r5, f9_rs, Option.some.injEq, exists_eq_left', Nat.reduceEqDiff, ↓reduceIte, Bool.false_eq_true, Bool.not_true, Bool.not_false, k.n39 _ _ _ hR, ht, bz]
        exact ⟨by rw [hg], gA⟩
end
end Go.Ev
namespace Go.Ev
open Go Go.RowKit
theorem HC.empty : HC ⟨.e, .nil⟩ := fun _ _ => by show getB (T.get _ .nil) = _; rw [T.get_nil]; rfl
theorem pV_inj {x y : Int × Int} (h : pV x = pV y) : x = y := by
  unfold pV at h
  injection h with h
  injection h with h1 h
  injection h with h2 _
  injection h1 with _ h1
  injection h2 with _ h2
  exact Prod.ext h1 h2
theorem aV_inj {x y : Nat × Nat} (h : aV x = aV y) : x = y := by
  rw [aV_pV, aV_pV] at h
  have := pV_inj h
  injection this with h1 h2
  exact Prod.ext (by omega) (by omega)
theorem iV_inj {k : IntKind} {a b : Int} (h : V.i k a = V.i k b) : a = b := by injection h
section
variable {Y : Rig} {fs : T EF}
theorem frV_plain {L : List Bool} : (frV L).plainT = true := by unfold frV; split <;> rfl
theorem rV_plainT {L : List Bool} : (rV L).plainT = true := rV_plain (L := L)
def D66 : Type := {_x : Int × Int // True}
noncomputable def A66 : D66 → List V := fun ⟨x, _⟩ => [V.i .i64 x.1, V.i .i64 x.2]
noncomputable def F66 : D66 → V := fun ⟨x, _⟩ => V.b (nodeB x.1 x.2)
theorem I66 : ∀ x y, A66 x = A66 y → F66 x = F66 y := by
  rintro ⟨x, p⟩ ⟨y, q⟩ h
  have h : [V.i .i64 x.1, V.i .i64 x.2] = [V.i .i64 y.1, V.i .i64 y.2] := h
  injection h with h0 h
  have e0 := iV_inj h0
  injection h with h1 h
  have e1 := iV_inj h1
  have e : x = y := by
    exact Prod.ext e0 e1
  subst e
  rfl
theorem P66 : ∀ x, (A66 x).all V.plain = true := by
  rintro ⟨x, p⟩
  show ([V.i .i64 x.1, V.i .i64 x.2].all V.plain) = true
  first | rfl | (simp only [List.all_cons, List.all_nil, rV_plain, Bool.true_and, Bool.and_true]; done) | (simp only [List.all_cons, List.all_nil, rV_plain, Bool.true_and, Bool.and_true]; rfl)
theorem Q66 : ∀ x, (F66 x).plainT = true := fun ⟨_, _⟩ => rfl
theorem G66 (hfs : Fns Y fs) (hf : f66.nv = none ∧ ∃ fn c, FnOk Y (K.ofNat 66) f66 fn c) : ∀ args v, dataG A66 F66 args = some v → Gives Y (K.ofNat 66) args v := dataG_gives hfs hf P66 Q66 fun ⟨_, p⟩ => by have _ := p; exact f66_ret
theorem E66 {ef : EF} (hf : fs.get (K.ofNat 66) = some ef) (hn : ef.nv = some (flatG (dataG A66 F66))) (x : Int × Int) (p : True) (h : H) (P : V → H → Prop) : CallP fs (.fn (K.ofNat 66) []) (A66 ⟨x, p⟩) h P = P (F66 ⟨x, p⟩) h := callP_data hf hn I66 _ h P
def D54 : Type := {_x : Int × Int // True}
noncomputable def A54 : D54 → List V := fun ⟨x, _⟩ => [pV x]
noncomputable def F54 : D54 → V := fun ⟨x, _⟩ => pV (x.2, x.1)
theorem I54 : ∀ x y, A54 x = A54 y → F54 x = F54 y := by
  rintro ⟨x, p⟩ ⟨y, q⟩ h
  have h : [pV x] = [pV y] := h
  injection h with h0 h
  have e0 := pV_inj h0
  have e : x = y := by
    exact e0
  subst e
  rfl
theorem P54 : ∀ x, (A54 x).all V.plain = true := by
  rintro ⟨x, p⟩
  show ([pV x].all V.plain) = true
  first | rfl | (simp only [List.all_cons, List.all_nil, rV_plain, Bool.true_and, Bool.and_true]; done) | (simp only [List.all_cons, List.all_nil, rV_plain, Bool.true_and, Bool.and_true]; rfl)
theorem Q54 : ∀ x, (F54 x).plainT = true := fun ⟨_, _⟩ => rfl
theorem G54 (hfs : Fns Y fs) (hf : f54.nv = none ∧ ∃ fn c, FnOk Y (K.ofNat 54) f54 fn c) : ∀ args v, dataG A54 F54 args = some v → Gives Y (K.ofNat 54) args v := dataG_gives hfs hf P54 Q54 fun ⟨_, p⟩ => by have _ := p; exact f54_ret
theorem E54 {ef : EF} (hf : fs.get (K.ofNat 54) = some ef) (hn : ef.nv = some (flatG (dataG A54 F54))) (x : Int × Int) (p : True) (h : H) (P : V → H → Prop) : CallP fs (.fn (K.ofNat 54) []) (A54 ⟨x, p⟩) h P = P (F54 ⟨x, p⟩) h := callP_data hf hn I54 _ h P
def D55 : Type := {_x : Int × Int // True}
noncomputable def A55 : D55 → List V := fun ⟨x, _⟩ => [pV x]
noncomputable def F55 : D55 → V := fun ⟨x, _⟩ => pV x
theorem I55 : ∀ x y, A55 x = A55 y → F55 x = F55 y := by
  rintro ⟨x, p⟩ ⟨y, q⟩ h
  have h : [pV x] = [pV y] := h
  injection h with h0 h
theorem P55 : ∀ x, (A55 x).all V.plain = true := by
  rintro ⟨x, p⟩
  show ([pV x].all V.plain) = true
  first | rfl | (simp only [List.all_cons, List.all_nil, rV_plain, Bool.true_and, Bool.and_true]; done) | (simp only [List.all_cons, List.all_nil, rV_plain, Bool.true_and, Bool.and_true]; rfl)
theorem Q55 : ∀ x, (F55 x).plainT = true := fun ⟨_, _⟩ => rfl
theorem G55 (hfs : Fns Y fs) (hf : f55.nv = none ∧ ∃ fn c, FnOk Y (K.ofNat 55) f55 fn c) : ∀ args v, dataG A55 F55 args = some v → Gives Y (K.ofNat 55) args v := dataG_gives hfs hf P55 Q55 fun ⟨_, p⟩ => by have _ := p; exact f55_ret
theorem E55 {ef : EF} (hf : fs.get (K.ofNat 55) = some ef) (hn : ef.nv = some (flatG (dataG A55 F55))) (x : Int × Int) (p : True) (h : H) (P : V → H → Prop) : CallP fs (.fn (K.ofNat 55) []) (A55 ⟨x, p⟩) h P = P (F55 ⟨x, p⟩) h := callP_data hf hn I55 _ h P
def D45 : Type := {_x : Int × Int // True}
noncomputable def A45 : D45 → List V := fun ⟨x, _⟩ => [pV x]
noncomputable def F45 : D45 → V := fun ⟨x, _⟩ => pV x
theorem I45 : ∀ x y, A45 x = A45 y → F45 x = F45 y := by
  rintro ⟨x, p⟩ ⟨y, q⟩ h
  have h : [pV x] = [pV y] := h
  injection h with h0 h
theorem P45 : ∀ x, (A45 x).all V.plain = true := by
  rintro ⟨x, p⟩
  show ([pV x].all V.plain) = true
  first | rfl | (simp only [List.all_cons, List.all_nil, rV_plain, Bool.true_and, Bool.and_true]; done) | (simp only [List.all_cons, List.all_nil, rV_plain, Bool.true_and, Bool.and_true]; rfl)
theorem Q45 : ∀ x, (F45 x).plainT = true := fun ⟨_, _⟩ => rfl
theorem G45 (hfs : Fns Y fs) (hf : f45.nv = none ∧ ∃ fn c, FnOk Y (K.ofNat 45) f45 fn c) : ∀ args v, dataG A45 F45 args = some v → Gives Y (K.ofNat 45) args v := dataG_gives hfs hf P45 Q45 fun ⟨_, p⟩ => by have _ := p; exact f45_ret
theorem E45 {ef : EF} (hf : fs.get (K.ofNat 45) = some ef) (hn : ef.nv = some (flatG (dataG A45 F45))) (x : Int × Int) (p : True) (h : H) (P : V → H → Prop) : CallP fs (.fn (K.ofNat 45) []) (A45 ⟨x, p⟩) h P = P (F45 ⟨x, p⟩) h := callP_data hf hn I45 _ h P
def D70 : Type := {x : List Bool // x.length = 49}
noncomputable def A70 : D70 → List V := fun ⟨x, _⟩ => [rV x]
noncomputable def F70 : D70 → V := fun ⟨x, _⟩ => rV (turnR x)
theorem I70 : ∀ x y, A70 x = A70 y → F70 x = F70 y := by
  rintro ⟨x, p⟩ ⟨y, q⟩ h
  have h : [rV x] = [rV y] := h
  injection h with h0 h
  have e0 := rV_inj h0
  have e : x = y := by
    exact e0
  subst e
  rfl
theorem P70 : ∀ x, (A70 x).all V.plain = true := by
  rintro ⟨x, p⟩
  show ([rV x].all V.plain) = true
  first | rfl | (simp only [List.all_cons, List.all_nil, rV_plain, Bool.and_true]; done) | (simp only [List.all_cons, List.all_nil, rV_plain, Bool.true_and, Bool.and_true]; rfl)
theorem Q70 : ∀ x, (F70 x).plainT = true := fun ⟨_, _⟩ => rV_plainT
theorem G70 (h84 : fs.get (K.ofNat 76) = some f76) (h101 : fs.get (K.ofNat 90) = some f90) (hfs : Fns Y fs) (hf : f70.nv = none ∧ ∃ fn c, FnOk Y (K.ofNat 70) f70 fn c) : ∀ args v, dataG A70 F70 args = some v → Gives Y (K.ofNat 70) args v := dataG_gives hfs hf P70 Q70 fun ⟨_, p⟩ => by have _ := p; exact (f70_ret p h84 h101 HC.empty).mono fun _ _ h => h.1
theorem E70 {ef : EF} (hf : fs.get (K.ofNat 70) = some ef) (hn : ef.nv = some (flatG (dataG A70 F70))) (x : List Bool) (p : x.length = 49) (h : H) (P : V → H → Prop) : CallP fs (.fn (K.ofNat 70) []) (A70 ⟨x, p⟩) h P = P (F70 ⟨x, p⟩) h := callP_data hf hn I70 _ h P
def D71 : Type := {x : List Bool × List Bool // x.1.length = 49 ∧ x.2.length = 49}
noncomputable def A71 : D71 → List V := fun ⟨x, _⟩ => [rV x.1, rV x.2]
noncomputable def F71 : D71 → V := fun ⟨x, _⟩ => rV (woR x.1 x.2)
theorem I71 : ∀ x y, A71 x = A71 y → F71 x = F71 y := by
  rintro ⟨x, p⟩ ⟨y, q⟩ h
  have h : [rV x.1, rV x.2] = [rV y.1, rV y.2] := h
  injection h with h0 h
  have e0 := rV_inj h0
  injection h with h1 h
  have e1 := rV_inj h1
  have e : x = y := by
    exact Prod.ext e0 e1
  subst e
  rfl
theorem P71 : ∀ x, (A71 x).all V.plain = true := by
  rintro ⟨x, p⟩
  show ([rV x.1, rV x.2].all V.plain) = true
  first | rfl | (simp only [List.all_cons, List.all_nil, rV_plain, Bool.and_true]; done) | (simp only [List.all_cons, List.all_nil, rV_plain, Bool.true_and, Bool.and_true]; rfl)
theorem Q71 : ∀ x, (F71 x).plainT = true := fun ⟨_, _⟩ => rV_plainT
theorem G71 (h84 : fs.get (K.ofNat 76) = some f76) (h101 : fs.get (K.ofNat 90) = some f90) (hfs : Fns Y fs) (hf : f71.nv = none ∧ ∃ fn c, FnOk Y (K.ofNat 71) f71 fn c) : ∀ args v, dataG A71 F71 args = some v → Gives Y (K.ofNat 71) args v := dataG_gives hfs hf P71 Q71 fun ⟨_, p⟩ => by have _ := p; exact f71_ret p.1 p.2 h84 h101 HC.empty
theorem E71 {ef : EF} (hf : fs.get (K.ofNat 71) = some ef) (hn : ef.nv = some (flatG (dataG A71 F71))) (x : List Bool × List Bool) (p : x.1.length = 49 ∧ x.2.length = 49) (h : H) (P : V → H → Prop) : CallP fs (.fn (K.ofNat 71) []) (A71 ⟨x, p⟩) h P = P (F71 ⟨x, p⟩) h := callP_data hf hn I71 _ h P
def D74 : Type := {x : List Bool × (Int × Int) // x.1.length = 49}
noncomputable def A74 : D74 → List V := fun ⟨x, _⟩ => [rV x.1, pV x.2]
noncomputable def F74 : D74 → V := fun ⟨x, _⟩ => V.b (hasR x.1 x.2)
theorem I74 : ∀ x y, A74 x = A74 y → F74 x = F74 y := by
  rintro ⟨x, p⟩ ⟨y, q⟩ h
  have h : [rV x.1, pV x.2] = [rV y.1, pV y.2] := h
  injection h with h0 h
  have e0 := rV_inj h0
  injection h with h1 h
  have e1 := pV_inj h1
  have e : x = y := by
    exact Prod.ext e0 e1
  subst e
  rfl
theorem P74 : ∀ x, (A74 x).all V.plain = true := by
  rintro ⟨x, p⟩
  show ([rV x.1, pV x.2].all V.plain) = true
  first | rfl | (simp only [List.all_cons, List.all_nil, rV_plain, Bool.true_and, Bool.and_true]; done) | (simp only [List.all_cons, List.all_nil, rV_plain, Bool.true_and, Bool.and_true]; rfl)
theorem Q74 : ∀ x, (F74 x).plainT = true := fun ⟨_, _⟩ => rfl
theorem G74 (k : Nat1 fs) (hfs : Fns Y fs) (hf : f74.nv = none ∧ ∃ fn c, FnOk Y (K.ofNat 74) f74 fn c) : ∀ args v, dataG A74 F74 args = some v → Gives Y (K.ofNat 74) args v := dataG_gives hfs hf P74 Q74 fun ⟨_, p⟩ => by have _ := p; exact f74_ret k p
theorem E74 {ef : EF} (hf : fs.get (K.ofNat 74) = some ef) (hn : ef.nv = some (flatG (dataG A74 F74))) (x : List Bool × (Int × Int)) (p : x.1.length = 49) (h : H) (P : V → H → Prop) : CallP fs (.fn (K.ofNat 74) []) (A74 ⟨x, p⟩) h P = P (F74 ⟨x, p⟩) h := callP_data hf hn I74 _ h P
def D77 : Type := {x : List Bool // x.length = 49}
noncomputable def A77 : D77 → List V := fun ⟨x, _⟩ => [rV x]
noncomputable def F77 : D77 → V := fun ⟨x, _⟩ => frV x
theorem I77 : ∀ x y, A77 x = A77 y → F77 x = F77 y := by
  rintro ⟨x, p⟩ ⟨y, q⟩ h
  have h : [rV x] = [rV y] := h
  injection h with h0 h
  have e0 := rV_inj h0
  have e : x = y := by
    exact e0
  subst e
  rfl
theorem P77 : ∀ x, (A77 x).all V.plain = true := by
  rintro ⟨x, p⟩
  show ([rV x].all V.plain) = true
  first | rfl | (simp only [List.all_cons, List.all_nil, rV_plain, Bool.and_true]; done) | (simp only [List.all_cons, List.all_nil, rV_plain, Bool.true_and, Bool.and_true]; rfl)
theorem Q77 : ∀ x, (F77 x).plainT = true := fun ⟨_, _⟩ => frV_plain
theorem G77 (k : Nat2 fs) (hfs : Fns Y fs) (hf : f77.nv = none ∧ ∃ fn c, FnOk Y (K.ofNat 77) f77 fn c) : ∀ args v, dataG A77 F77 args = some v → Gives Y (K.ofNat 77) args v := dataG_gives hfs hf P77 Q77 fun ⟨_, p⟩ => by have _ := p; exact f77_ret k p HC.empty
theorem E77 {ef : EF} (hf : fs.get (K.ofNat 77) = some ef) (hn : ef.nv = some (flatG (dataG A77 F77))) (x : List Bool) (p : x.length = 49) (h : H) (P : V → H → Prop) : CallP fs (.fn (K.ofNat 77) []) (A77 ⟨x, p⟩) h P = P (F77 ⟨x, p⟩) h := callP_data hf hn I77 _ h P
def D68 : Type := {x : List Bool // x.length = 49}
noncomputable def A68 : D68 → List V := fun ⟨x, _⟩ => [rV x]
noncomputable def F68 : D68 → V := fun ⟨x, _⟩ => rV (spR x)
theorem I68 : ∀ x y, A68 x = A68 y → F68 x = F68 y := by
  rintro ⟨x, p⟩ ⟨y, q⟩ h
  have h : [rV x] = [rV y] := h
  injection h with h0 h
  have e0 := rV_inj h0
  have e : x = y := by
    exact e0
  subst e
  rfl
theorem P68 : ∀ x, (A68 x).all V.plain = true := by
  rintro ⟨x, p⟩
  show ([rV x].all V.plain) = true
  first | rfl | (simp only [List.all_cons, List.all_nil, rV_plain, Bool.and_true]; done) | (simp only [List.all_cons, List.all_nil, rV_plain, Bool.true_and, Bool.and_true]; rfl)
theorem Q68 : ∀ x, (F68 x).plainT = true := fun ⟨_, _⟩ => rV_plainT
theorem G68 (k : Nat2 fs) (hfs : Fns Y fs) (hf : f68.nv = none ∧ ∃ fn c, FnOk Y (K.ofNat 68) f68 fn c) : ∀ args v, dataG A68 F68 args = some v → Gives Y (K.ofNat 68) args v := dataG_gives hfs hf P68 Q68 fun ⟨_, p⟩ => by have _ := p; exact f68_ret k p HC.empty
theorem E68 {ef : EF} (hf : fs.get (K.ofNat 68) = some ef) (hn : ef.nv = some (flatG (dataG A68 F68))) (x : List Bool) (p : x.length = 49) (h : H) (P : V → H → Prop) : CallP fs (.fn (K.ofNat 68) []) (A68 ⟨x, p⟩) h P = P (F68 ⟨x, p⟩) h := callP_data hf hn I68 _ h P
def D67 : Type := {x : List Bool × List Bool // x.1.length = 49 ∧ x.2.length = 49}
noncomputable def A67 : D67 → List V := fun ⟨x, _⟩ => [rV x.1, rV x.2]
noncomputable def F67 : D67 → V := fun ⟨x, _⟩ => V.b (cvB x.1 x.2)
theorem I67 : ∀ x y, A67 x = A67 y → F67 x = F67 y := by
  rintro ⟨x, p⟩ ⟨y, q⟩ h
  have h : [rV x.1, rV x.2] = [rV y.1, rV y.2] := h
  injection h with h0 h
  have e0 := rV_inj h0
  injection h with h1 h
  have e1 := rV_inj h1
  have e : x = y := by
    exact Prod.ext e0 e1
  subst e
  rfl
theorem P67 : ∀ x, (A67 x).all V.plain = true := by
  rintro ⟨x, p⟩
  show ([rV x.1, rV x.2].all V.plain) = true
  first | rfl | (simp only [List.all_cons, List.all_nil, rV_plain, Bool.and_true]; done) | (simp only [List.all_cons, List.all_nil, rV_plain, Bool.true_and, Bool.and_true]; rfl)
theorem Q67 : ∀ x, (F67 x).plainT = true := fun ⟨_, _⟩ => rfl
theorem G67 (k : Nat2 fs) (hfs : Fns Y fs) (hf : f67.nv = none ∧ ∃ fn c, FnOk Y (K.ofNat 67) f67 fn c) : ∀ args v, dataG A67 F67 args = some v → Gives Y (K.ofNat 67) args v := dataG_gives hfs hf P67 Q67 fun ⟨_, p⟩ => by have _ := p; exact f67_ret k p.1 p.2 HC.empty
theorem E67 {ef : EF} (hf : fs.get (K.ofNat 67) = some ef) (hn : ef.nv = some (flatG (dataG A67 F67))) (x : List Bool × List Bool) (p : x.1.length = 49 ∧ x.2.length = 49) (h : H) (P : V → H → Prop) : CallP fs (.fn (K.ofNat 67) []) (A67 ⟨x, p⟩) h P = P (F67 ⟨x, p⟩) h := callP_data hf hn I67 _ h P
def D41 : Type := {x : List Bool × Nat // x.1.length = 49 ∧ x.2 ≤ 7}
noncomputable def A41 : D41 → List V := fun ⟨x, _⟩ => [rV x.1, V.i .i64 (x.2 : Int)]
noncomputable def F41 : D41 → V := fun ⟨x, _⟩ => rV (otR x.2 x.1)
theorem I41 : ∀ x y, A41 x = A41 y → F41 x = F41 y := by
  rintro ⟨x, p⟩ ⟨y, q⟩ h
  have h : [rV x.1, V.i .i64 (x.2 : Int)] = [rV y.1, V.i .i64 (y.2 : Int)] := h
  injection h with h0 h
  have e0 := rV_inj h0
  injection h with h1 h
  have e1 := iV_inj h1
  have e : x = y := by
    exact Prod.ext e0 (by omega)
  subst e
  rfl
theorem P41 : ∀ x, (A41 x).all V.plain = true := by
  rintro ⟨x, p⟩
  show ([rV x.1, V.i .i64 (x.2 : Int)].all V.plain) = true
  first | rfl | (simp only [List.all_cons, List.all_nil, rV_plain, Bool.true_and, Bool.and_true]; done) | (simp only [List.all_cons, List.all_nil, rV_plain, Bool.true_and, Bool.and_true]; rfl)
theorem Q41 : ∀ x, (F41 x).plainT = true := fun ⟨_, _⟩ => rV_plainT
theorem G41 (k : Nat2 fs) (hfs : Fns Y fs) (hf : f41.nv = none ∧ ∃ fn c, FnOk Y (K.ofNat 41) f41 fn c) : ∀ args v, dataG A41 F41 args = some v → Gives Y (K.ofNat 41) args v := dataG_gives hfs hf P41 Q41 fun ⟨_, p⟩ => by have _ := p; exact f41_ret k p.1 p.2 HC.empty
theorem E41 {ef : EF} (hf : fs.get (K.ofNat 41) = some ef) (hn : ef.nv = some (flatG (dataG A41 F41))) (x : List Bool × Nat) (p : x.1.length = 49 ∧ x.2 ≤ 7) (h : H) (P : V → H → Prop) : CallP fs (.fn (K.ofNat 41) []) (A41 ⟨x, p⟩) h P = P (F41 ⟨x, p⟩) h := callP_data hf hn I41 _ h P
def D46 : Type := {x : List Bool × (Nat × Nat) // x.1.length = 49 ∧ (x.2.1 < 7 ∧ x.2.2 < 7)}
noncomputable def A46 : D46 → List V := fun ⟨x, _⟩ => [rV x.1, aV x.2]
noncomputable def F46 : D46 → V := fun ⟨x, _⟩ => rV (clsR x.1 x.2)
theorem I46 : ∀ x y, A46 x = A46 y → F46 x = F46 y := by
  rintro ⟨x, p⟩ ⟨y, q⟩ h
  have h : [rV x.1, aV x.2] = [rV y.1, aV y.2] := h
  injection h with h0 h
  have e0 := rV_inj h0
  injection h with h1 h
  have e1 := aV_inj h1
  have e : x = y := by
    exact Prod.ext e0 e1
  subst e
  rfl
theorem P46 : ∀ x, (A46 x).all V.plain = true := by
  rintro ⟨x, p⟩
  show ([rV x.1, aV x.2].all V.plain) = true
  first | rfl | (simp only [List.all_cons, List.all_nil, rV_plain, Bool.true_and, Bool.and_true]; done) | (simp only [List.all_cons, List.all_nil, rV_plain, Bool.true_and, Bool.and_true]; rfl)
theorem Q46 : ∀ x, (F46 x).plainT = true := fun ⟨_, _⟩ => rV_plainT
theorem G46 (k : Nat3 fs) (h86 : fs.get (K.ofNat 75) = some f75) (h102 : fs.get (K.ofNat 89) = some f89) (hfs : Fns Y fs) (hf : f46.nv = none ∧ ∃ fn c, FnOk Y (K.ofNat 46) f46 fn c) : ∀ args v, dataG A46 F46 args = some v → Gives Y (K.ofNat 46) args v := dataG_gives hfs hf P46 Q46 fun ⟨_, p⟩ => by have _ := p; exact f46_ret k h86 h102 p.1 p.2 HC.empty
theorem E46 {ef : EF} (hf : fs.get (K.ofNat 46) = some ef) (hn : ef.nv = some (flatG (dataG A46 F46))) (x : List Bool × (Nat × Nat)) (p : x.1.length = 49 ∧ (x.2.1 < 7 ∧ x.2.2 < 7)) (h : H) (P : V → H → Prop) : CallP fs (.fn (K.ofNat 46) []) (A46 ⟨x, p⟩) h P = P (F46 ⟨x, p⟩) h := callP_data hf hn I46 _ h P
def D44 : Type := {x : List Bool × ((Nat × Nat) × (Nat × Nat)) // x.1.length = 49 ∧ ((x.2.1.1 < 7 ∧ x.2.1.2 < 7) ∧ (x.2.2.1 < 7 ∧ x.2.2.2 < 7))}
noncomputable def A44 : D44 → List V := fun ⟨x, _⟩ => [rV x.1, aV x.2.1, aV x.2.2]
noncomputable def F44 : D44 → V := fun ⟨x, _⟩ => V.b (decide (x.2.2 ∈ fcY x.1 x.2.1.1 x.2.1.2))
theorem I44 : ∀ x y, A44 x = A44 y → F44 x = F44 y := by
  rintro ⟨x, p⟩ ⟨y, q⟩ h
  have h : [rV x.1, aV x.2.1, aV x.2.2] = [rV y.1, aV y.2.1, aV y.2.2] := h
  injection h with h0 h
  have e0 := rV_inj h0
  injection h with h1 h
  have e1 := aV_inj h1
  injection h with h2 h
  have e2 := aV_inj h2
  have e : x = y := by
    exact Prod.ext e0 (Prod.ext e1 e2)
  subst e
  rfl
theorem P44 : ∀ x, (A44 x).all V.plain = true := by
  rintro ⟨x, p⟩
  show ([rV x.1, aV x.2.1, aV x.2.2].all V.plain) = true
  first | rfl | (simp only [List.all_cons, List.all_nil, rV_plain, Bool.true_and, Bool.and_true]; done) | (simp only [List.all_cons, List.all_nil, rV_plain, Bool.true_and, Bool.and_true]; rfl)
theorem Q44 : ∀ x, (F44 x).plainT = true := fun ⟨_, _⟩ => rfl
theorem G44 (h86 : fs.get (K.ofNat 75) = some f75) (h102 : fs.get (K.ofNat 89) = some f89) (hfs : Fns Y fs) (hf : f44.nv = none ∧ ∃ fn c, FnOk Y (K.ofNat 44) f44 fn c) : ∀ args v, dataG A44 F44 args = some v → Gives Y (K.ofNat 44) args v := dataG_gives hfs hf P44 Q44 fun ⟨_, p⟩ => by have _ := p; exact f44_ret h86 h102 p.1 p.2.1 p.2.2 HC.empty
theorem E44 {ef : EF} (hf : fs.get (K.ofNat 44) = some ef) (hn : ef.nv = some (flatG (dataG A44 F44))) (x : List Bool × ((Nat × Nat) × (Nat × Nat))) (p : x.1.length = 49 ∧ ((x.2.1.1 < 7 ∧ x.2.1.2 < 7) ∧ (x.2.2.1 < 7 ∧ x.2.2.2 < 7))) (h : H) (P : V → H → Prop) : CallP fs (.fn (K.ofNat 44) []) (A44 ⟨x, p⟩) h P = P (F44 ⟨x, p⟩) h := callP_data hf hn I44 _ h P
def D39 : Type := {x : List Bool // x.length = 49}
noncomputable def A39 : D39 → List V := fun ⟨x, _⟩ => [rV x]
noncomputable def F39 : D39 → V := fun ⟨x, _⟩ => V.b (trB x)
theorem I39 : ∀ x y, A39 x = A39 y → F39 x = F39 y := by
  rintro ⟨x, p⟩ ⟨y, q⟩ h
  have h : [rV x] = [rV y] := h
  injection h with h0 h
  have e0 := rV_inj h0
  have e : x = y := by
    exact e0
  subst e
  rfl
theorem P39 : ∀ x, (A39 x).all V.plain = true := by
  rintro ⟨x, p⟩
  show ([rV x].all V.plain) = true
  first | rfl | (simp only [List.all_cons, List.all_nil, rV_plain, Bool.and_true]; done) | (simp only [List.all_cons, List.all_nil, rV_plain, Bool.true_and, Bool.and_true]; rfl)
theorem Q39 : ∀ x, (F39 x).plainT = true := fun ⟨_, _⟩ => rfl
theorem G39 (k : Nat3 fs) (hfs : Fns Y fs) (hf : f39.nv = none ∧ ∃ fn c, FnOk Y (K.ofNat 39) f39 fn c) : ∀ args v, dataG A39 F39 args = some v → Gives Y (K.ofNat 39) args v := dataG_gives hfs hf P39 Q39 fun ⟨_, p⟩ => by have _ := p; exact f39_ret k p
theorem E39 {ef : EF} (hf : fs.get (K.ofNat 39) = some ef) (hn : ef.nv = some (flatG (dataG A39 F39))) (x : List Bool) (p : x.length = 49) (h : H) (P : V → H → Prop) : CallP fs (.fn (K.ofNat 39) []) (A39 ⟨x, p⟩) h P = P (F39 ⟨x, p⟩) h := callP_data hf hn I39 _ h P
def D57 : Type := {_x : (Int × Int) × (Int × Int) // True}
noncomputable def A57 : D57 → List V := fun ⟨x, _⟩ => [pV x.1, pV x.2]
noncomputable def F57 : D57 → V := fun ⟨x, _⟩ => V.b (bfB x.1 x.2)
theorem I57 : ∀ x y, A57 x = A57 y → F57 x = F57 y := by
  rintro ⟨x, p⟩ ⟨y, q⟩ h
  have h : [pV x.1, pV x.2] = [pV y.1, pV y.2] := h
  injection h with h0 h
  have e0 := pV_inj h0
  injection h with h1 h
  have e1 := pV_inj h1
  have e : x = y := by
    exact Prod.ext e0 e1
  subst e
  rfl
theorem P57 : ∀ x, (A57 x).all V.plain = true := by
  rintro ⟨x, p⟩
  show ([pV x.1, pV x.2].all V.plain) = true
  first | rfl | (simp only [List.all_cons, List.all_nil, rV_plain, Bool.true_and, Bool.and_true]; done) | (simp only [List.all_cons, List.all_nil, rV_plain, Bool.true_and, Bool.and_true]; rfl)
theorem Q57 : ∀ x, (F57 x).plainT = true := fun ⟨_, _⟩ => rfl
theorem G57 (h99 : fs.get (K.ofNat 84) = some f84) (h108 : fs.get (K.ofNat 96) = some f96) (h121 : fs.get (K.ofNat 110) = some f110) (hfs : Fns Y fs) (hf : f57.nv = none ∧ ∃ fn c, FnOk Y (K.ofNat 57) f57 fn c) : ∀ args v, dataG A57 F57 args = some v → Gives Y (K.ofNat 57) args v := dataG_gives hfs hf P57 Q57 fun ⟨_, p⟩ => by have _ := p; exact f57_ret h99 h108 h121
theorem E57 {ef : EF} (hf : fs.get (K.ofNat 57) = some ef) (hn : ef.nv = some (flatG (dataG A57 F57))) (x : (Int × Int) × (Int × Int)) (p : True) (h : H) (P : V → H → Prop) : CallP fs (.fn (K.ofNat 57) []) (A57 ⟨x, p⟩) h P = P (F57 ⟨x, p⟩) h := callP_data hf hn I57 _ h P
end
end Go.Ev
namespace Go.Ev
open Go Go.RowKit
noncomputable def f5_r0 : List EOper := [oG 4 (.as (.c .sn))]
noncomputable def f5_r1 : List EOper := [oG 5 (.as (.c .sn))]
noncomputable def f5_r2 : List EOper := [oG 6 (.mv (tG 5)), oG 7 (.mv (tG 0)), oG 8 (.mv (tG 0)), oG 9 (.len (tG 8)), oG 10 (.mv (tG 1)), oG 11 (.min (tG 9) (tG 10)), oG 12 (.slice 2 (tG 7) none (some (tG 11)) none), oG 13 (.app 2 (tG 6) (tG 12)), oG 4 (.as (tG 13))]
noncomputable def f5_c : EC := (.seq (.reg f5_r0) (.seq (.reg f5_r1) (.seq (.reg f5_r2) .ret)))
noncomputable def f5 : EF := ⟨14, [.tmp (.ofNat 4)], f5_c, none⟩
theorem f5_rs : f5.rs = [.tmp (.ofNat 4)] := of_eq_true (eq_self _)
noncomputable def f6_r0 : List EOper := [oG 4 (.as (cG 0))]
noncomputable def f6_r1 : List EOper := [oG 8 (.mv (tG 0)), oG 9 (.bin .lss (tG 8) (cG 1)), oG 10 (.mv (tG 9)), gG 11 10 false (.mv (tG 0)), gG 12 10 false (.bin .gtr (tG 11) (cG 7)), oG 13 (.pick (tG 10) (.c (.b true)) (tG 12))]
noncomputable def f6_r2 : List EOper := [oG 4 (.as (cG 1))]
noncomputable def f6_r3 : List EOper := [oG 5 (.as (cG 0))]
noncomputable def f6_r4 : List EOper := [oG 14 (.mv (tG 5)), oG 15 (.mv (tG 1)), oG 16 (.len (tG 15)), oG 17 (.bin .lss (tG 14) (tG 16))]
noncomputable def f6_r5 : List Stage := [⟨[oG 20 (.mv (tG 1)), oG 21 (.mv (tG 5)), oG 22 (.iads 2 (tG 20) (tG 21)), oG 23 (.iadr 2 1 (tG 22) (cG 0)), oG 24 (.ld (tG 23)), oG 25 (.mv (tG 1)), oG 26 (.mv (tG 5)), oG 27 (.iads 2 (tG 25) (tG 26)), oG 28 (.iadr 2 1 (tG 27) (cG 1)), oG 29 (.ld (tG 28))], [], (some (oG 6 (.as (tG 24)))), []⟩, ⟨[], [oG 25 (.mv (tG 1)), oG 26 (.mv (tG 5)), oG 27 (.iads 2 (tG 25) (tG 26)), oG 28 (.iadr 2 1 (tG 27) (cG 1)), oG 29 (.ld (tG 28))], (some (oG 7 (.as (tG 29)))), []⟩, ⟨[], [], none, []⟩]
noncomputable def f6_r6 : List Stage := [⟨[oG 30 (.mv (tG 6)), oG 31 (.bin .lss (tG 30) (cG 0)), oG 32 (.mv (tG 31)), gG 33 32 false (.mv (tG 6)), gG 34 32 false (.mv (tG 7)), gG 35 32 false (.bin .geq (tG 33) (tG 34)), oG 36 (.pick (tG 32) (.c (.b true)) (tG 35)), oG 37 (.mv (tG 36)), gG 38 37 false (.mv (tG 7)), gG 39 37 false (.mv (tG 0)), gG 40 37 false (.bin .geq (tG 38) (tG 39)), oG 41 (.pick (tG 37) (.c (.b true)) (tG 40)), oG 42 (.mv (tG 41)), gG 43 42 false (.mv (tG 5)), gG 44 42 false (.bin .gtr (tG 43) (cG 0)), gG 45 42 false (.mv (tG 44)), gG 46 45 true (.mv (tG 1)), gG 47 45 true (.mv (tG 5)), gG 48 45 true (.bin .sub (tG 47) (cG 1)), gG 49 45 true (.iads 2 (tG 46) (tG 48)), gG 50 45 true (.ldn 2 (tG 49)), gG 51 45 true (.mv (tG 1)), gG 52 45 true (.mv (tG 5)), gG 53 45 true (.iads 2 (tG 51) (tG 52)), gG 54 45 true (.ldn 2 (tG 53))], [], (some (gG 55 45 true (.call (fG 35) [(tG 50), (tG 54)]))), []⟩, ⟨[gG 56 45 true (.not (tG 55)), gG 57 42 false (.pick (tG 45) (tG 56) (.c (.b false))), oG 58 (.pick (tG 42) (.c (.b true)) (tG 57))], [], none, []⟩]
noncomputable def f6_r7 : List EOper := [oG 4 (.as (cG 20))]
noncomputable def f6_r8 : List EOper := [oG 18 (.mv (tG 5)), oG 19 (.bin .add (tG 18) (cG 1)), oG 5 (.as (tG 19))]
noncomputable def f6_l0 : EC := (.seq (.seq (.reg f6_r4) (.cond (tG 17) .skip (.exit 0))) (.seq (.block 1 (.seq (.draw f6_r5) (.seq (.draw f6_r6) (.cond (tG 58) (.seq (.reg f6_r7) .ret) .skip)))) (.reg f6_r8)))
noncomputable def f6_r9 : List EOper := [oG 4 (.as (cG 0))]
noncomputable def f6_c : EC := (.seq (.reg f6_r0) (.seq (.seq (.reg f6_r1) (.cond (tG 13) (.seq (.reg f6_r2) .ret) .skip)) (.seq (.seq (.reg f6_r3) (.block 0 (.loop f6_l0))) (.seq (.reg f6_r9) .ret))))
noncomputable def f6 : EF := ⟨59, [.tmp (.ofNat 4)], f6_c, none⟩
theorem f6_rs : f6.rs = [.tmp (.ofNat 4)] := of_eq_true (eq_self _)
noncomputable def f35_r0 : List EOper := [oG 2 (.box 2 (tG 0)), oG 3 (.box 2 (tG 1)), oG 4 (.as (.c (.b false)))]
noncomputable def f35_r1 : List EOper := [oG 5 (.iadr 2 1 (tG 2) (cG 0)), oG 6 (.ld (tG 5)), oG 7 (.iadr 2 1 (tG 3) (cG 0)), oG 8 (.ld (tG 7)), oG 9 (.bin .lss (tG 6) (tG 8)), oG 10 (.mv (tG 9)), gG 11 10 false (.iadr 2 1 (tG 2) (cG 0)), gG 12 10 false (.ld (tG 11)), gG 13 10 false (.iadr 2 1 (tG 3) (cG 0)), gG 14 10 false (.ld (tG 13)), gG 15 10 false (.bin .eql (tG 12) (tG 14)), gG 16 10 false (.mv (tG 15)), gG 17 16 true (.iadr 2 1 (tG 2) (cG 1)), gG 18 16 true (.ld (tG 17)), gG 19 16 true (.iadr 2 1 (tG 3) (cG 1)), gG 20 16 true (.ld (tG 19)), gG 21 16 true (.bin .lss (tG 18) (tG 20)), gG 22 10 false (.pick (tG 16) (tG 21) (.c (.b false))), oG 23 (.pick (tG 10) (.c (.b true)) (tG 22)), oG 4 (.as (tG 23))]
noncomputable def f35_c : EC := (.seq (.reg f35_r0) (.seq (.reg f35_r1) .ret))
noncomputable def f35 : EF := ⟨24, [.tmp (.ofNat 4)], f35_c, none⟩
theorem f35_rs : f35.rs = [.tmp (.ofNat 4)] := of_eq_true (eq_self _)
noncomputable def f7_r0 : List EOper := [oG 4 (.as (.c (.b false)))]
noncomputable def f7_r1 : List EOper := [oG 5 (.as (cG 0))]
noncomputable def f7_r2 : List EOper := [oG 9 (.mv (tG 5)), oG 10 (.mv (tG 1)), oG 11 (.len (tG 10)), oG 12 (.bin .lss (tG 9) (tG 11))]
noncomputable def f7_r3 : List Stage := [⟨[oG 15 (.mv (tG 1)), oG 16 (.mv (tG 5)), oG 17 (.iads 2 (tG 15) (tG 16)), oG 18 (.iadr 2 1 (tG 17) (cG 0)), oG 19 (.ld (tG 18)), oG 20 (.mv (tG 1)), oG 21 (.mv (tG 5)), oG 22 (.iads 2 (tG 20) (tG 21)), oG 23 (.iadr 2 1 (tG 22) (cG 1)), oG 24 (.ld (tG 23))], [], (some (oG 6 (.as (tG 19)))), []⟩, ⟨[], [oG 20 (.mv (tG 1)), oG 21 (.mv (tG 5)), oG 22 (.iads 2 (tG 20) (tG 21)), oG 23 (.iadr 2 1 (tG 22) (cG 1)), oG 24 (.ld (tG 23))], (some (oG 7 (.as (tG 24)))), []⟩, ⟨[], [], none, []⟩]
noncomputable def f7_r4 : List Stage := [⟨[oG 25 (.mv (tG 6)), oG 26 (.bin .lss (tG 25) (cG 0)), oG 27 (.mv (tG 26)), gG 28 27 false (.mv (tG 7)), gG 29 27 false (.bin .lss (tG 28) (cG 0)), oG 30 (.pick (tG 27) (.c (.b true)) (tG 29)), oG 31 (.mv (tG 30)), gG 32 31 false (.mv (tG 6)), gG 33 31 false (.mv (tG 0)), gG 34 31 false (.bin .geq (tG 32) (tG 33)), oG 35 (.pick (tG 31) (.c (.b true)) (tG 34)), oG 36 (.mv (tG 35)), gG 37 36 false (.mv (tG 7)), gG 38 36 false (.mv (tG 0)), gG 39 36 false (.bin .geq (tG 37) (tG 38)), oG 40 (.pick (tG 36) (.c (.b true)) (tG 39)), oG 41 (.mv (tG 40)), gG 42 41 false (.mv (tG 6)), gG 43 41 false (.mv (tG 7)), gG 44 41 false (.bin .eql (tG 42) (tG 43)), oG 45 (.pick (tG 41) (.c (.b true)) (tG 44)), oG 46 (.mv (tG 45)), gG 47 46 false (.mv (tG 1)), gG 48 46 false (.mv (tG 7)), gG 49 46 false (.mv (tG 6)), gG 50 46 false (.build [(.i .i64 (.ofNat 0)), (.i .i64 (.ofNat 0))] [(0, 1, (tG 48)), (1, 1, (tG 49))])], [], (some (gG 51 46 false (.call (fG 36) [(tG 47), (tG 50)]))), []⟩, ⟨[oG 52 (.pick (tG 46) (.c (.b true)) (tG 51)), oG 53 (.mv (tG 52)), gG 54 53 false (.mv (tG 5)), gG 55 53 false (.bin .gtr (tG 54) (cG 0)), gG 56 53 false (.mv (tG 55)), gG 57 56 true (.mv (tG 1)), gG 58 56 true (.mv (tG 5)), gG 59 56 true (.bin .sub (tG 58) (cG 1)), gG 60 56 true (.iads 2 (tG 57) (tG 59)), gG 61 56 true (.ldn 2 (tG 60)), gG 62 56 true (.mv (tG 1)), gG 63 56 true (.mv (tG 5)), gG 64 56 true (.iads 2 (tG 62) (tG 63)), gG 65 56 true (.ldn 2 (tG 64))], [], (some (gG 66 56 true (.call (fG 35) [(tG 61), (tG 65)]))), []⟩, ⟨[gG 67 56 true (.not (tG 66)), gG 68 53 false (.pick (tG 56) (tG 67) (.c (.b false))), oG 69 (.pick (tG 53) (.c (.b true)) (tG 68))], [], none, []⟩]
noncomputable def f7_r5 : List EOper := [oG 4 (.as (.c (.b false)))]
noncomputable def f7_r6 : List EOper := [oG 8 (.as (cG 0))]
noncomputable def f7_r7 : List EOper := [oG 70 (.mv (tG 8)), oG 71 (.mv (tG 1)), oG 72 (.len (tG 71)), oG 73 (.bin .lss (tG 70) (tG 72))]
noncomputable def f7_r8 : List EOper := [oG 76 (.mv (tG 1)), oG 77 (.mv (tG 8)), oG 78 (.iads 2 (tG 76) (tG 77)), oG 79 (.iadr 2 1 (tG 78) (cG 0)), oG 80 (.ld (tG 79)), oG 81 (.mv (tG 7)), oG 82 (.bin .eql (tG 80) (tG 81)), oG 83 (.mv (tG 82)), gG 84 83 true (.mv (tG 1)), gG 85 83 true (.mv (tG 6)), gG 86 83 true (.mv (tG 1)), gG 87 83 true (.mv (tG 8)), gG 88 83 true (.iads 2 (tG 86) (tG 87)), gG 89 83 true (.iadr 2 1 (tG 88) (cG 1)), gG 90 83 true (.ld (tG 89)), gG 91 83 true (.build [(.i .i64 (.ofNat 0)), (.i .i64 (.ofNat 0))] [(0, 1, (tG 85)), (1, 1, (tG 90))]), gG 92 83 true (.call (fG 36) [(tG 84), (tG 91)]), gG 93 83 true (.not (tG 92)), oG 94 (.pick (tG 83) (tG 93) (.c (.b false)))]
noncomputable def f7_r9 : List EOper := [oG 4 (.as (.c (.b false)))]
noncomputable def f7_r10 : List EOper := [oG 74 (.mv (tG 8)), oG 75 (.bin .add (tG 74) (cG 1)), oG 8 (.as (tG 75))]
noncomputable def f7_l0 : EC := (.seq (.seq (.reg f7_r7) (.cond (tG 73) .skip (.exit 2))) (.seq (.block 3 (.seq (.reg f7_r8) (.cond (tG 94) (.seq (.reg f7_r9) .ret) .skip))) (.reg f7_r10)))
noncomputable def f7_r11 : List EOper := [oG 13 (.mv (tG 5)), oG 14 (.bin .add (tG 13) (cG 1)), oG 5 (.as (tG 14))]
noncomputable def f7_l1 : EC := (.seq (.seq (.reg f7_r2) (.cond (tG 12) .skip (.exit 0))) (.seq (.block 1 (.seq (.draw f7_r3) (.seq (.seq (.draw f7_r4) (.cond (tG 69) (.seq (.reg f7_r5) .ret) .skip)) (.seq (.reg f7_r6) (.block 2 (.loop f7_l0)))))) (.reg f7_r11)))
noncomputable def f7_r12 : List EOper := [oG 4 (.as (.c (.b true)))]
noncomputable def f7_c : EC := (.seq (.reg f7_r0) (.seq (.seq (.reg f7_r1) (.block 0 (.loop f7_l1))) (.seq (.reg f7_r12) .ret)))
noncomputable def f7 : EF := ⟨95, [.tmp (.ofNat 4)], f7_c, none⟩
theorem f7_rs : f7.rs = [.tmp (.ofNat 4)] := of_eq_true (eq_self _)
noncomputable def f43_r0 : List EOper := [oG 6 (.as (cG 0))]
noncomputable def f43_r1 : List EOper := [oG 11 (.mv (tG 0)), oG 12 (.mv (tG 1)), oG 13 (.call (fG 8) [(tG 11), (tG 12)]), oG 7 (.as (tG 13))]
noncomputable def f43_r2 : List EOper := [oG 14 (.mv (tG 7)), oG 15 (.bin .neq (tG 14) (cG 0))]
noncomputable def f43_r3 : List EOper := [oG 16 (.mv (tG 7)), oG 6 (.as (tG 16))]
noncomputable def f43_r4 : List EOper := [oG 17 (.mv (tG 1)), oG 18 (.call (fG 40) [(tG 17)]), oG 8 (.alloc 49 (List.replicate 49 (.b false))), ⟨none, none, .st 49 (tG 8) (tG 18)⟩]
noncomputable def f43_r5 : List EOper := [oG 19 (.mv (tG 2)), oG 20 (.len (tG 19)), oG 21 (.mv (cG 0))]
noncomputable def f43_r6 : List EOper := [oG 22 (.bin .lss (tG 21) (tG 20))]
noncomputable def f43_r7 : List EOper := [oG 23 (.iads 2 (tG 19) (tG 21)), oG 24 (.ldn 2 (tG 23)), oG 10 (.alloc 2 [(.i .i64 (.ofNat 0)), (.i .i64 (.ofNat 0))]), ⟨none, none, .st 2 (tG 10) (tG 24)⟩]
noncomputable def f43_r8 : List Stage := [⟨[oG 25 (.ldn 49 (tG 8)), oG 26 (.ldn 2 (tG 10))], [], (some (oG 27 (.call (fG 45) [(tG 26)]))), []⟩, ⟨[], [oG 25 (.ldn 49 (tG 8))], (some (oG 28 (.call (fG 74) [(tG 25), (tG 27)]))), []⟩, ⟨[oG 29 (.not (tG 28))], [], none, []⟩]
noncomputable def f43_r9 : List EOper := [oG 6 (.as (cG 1))]
noncomputable def f43_r10 : List EOper := [oG 30 (.bin .add (tG 21) (cG 1)), oG 21 (.mv (tG 30))]
noncomputable def f43_l0 : EC := (.seq (.reg f43_r6) (.seq (.cond (tG 22) .skip (.exit 0)) (.seq (.block 1 (.seq (.reg f43_r7) (.seq (.draw f43_r8) (.cond (tG 29) (.seq (.reg f43_r9) .ret) .skip)))) (.reg f43_r10))))
noncomputable def f43_r11 : List EOper := [oG 6 (.as (cG 0))]
noncomputable def f43_c : EC := (.seq (.reg f43_r0) (.seq (.seq (.reg f43_r1) (.seq (.reg f43_r2) (.cond (tG 15) (.seq (.reg f43_r3) .ret) .skip))) (.seq (.reg f43_r4) (.seq (.seq (.reg f43_r5) (.block 0 (.loop f43_l0))) (.seq (.reg f43_r11) .ret)))))
noncomputable def f43 : EF := ⟨31, [.tmp (.ofNat 6)], f43_c, none⟩
theorem f43_rs : f43.rs = [.tmp (.ofNat 6)] := of_eq_true (eq_self _)
noncomputable def f11_r0 : List EOper := [oG 6 (.box 2 (tG 2)), oG 7 (.box 2 (tG 3)), oG 8 (.as (.c (.b false))), oG 9 (.as (cG 0))]
noncomputable def f11_r1 : List EOper := [oG 11 (.mv (tG 0)), oG 12 (.mv (tG 1)), oG 13 (.ldn 2 (tG 6)), oG 14 (.ldn 2 (tG 7)), oG 15 (.bslice 2 2 [(.i .i64 (.ofNat 0)), (.i .i64 (.ofNat 0)), (.i .i64 (.ofNat 0)), (.i .i64 (.ofNat 0))] [(0, 2, (tG 13)), (2, 2, (tG 14))]), oG 16 (.call (fG 43) [(tG 11), (tG 12), (tG 15)]), oG 10 (.as (tG 16))]
noncomputable def f11_r2 : List EOper := [oG 17 (.mv (tG 10)), oG 18 (.bin .neq (tG 17) (cG 0))]
noncomputable def f11_r3 : List EOper := [oG 19 (.mv (tG 10)), oG 8 (.as (.c (.b false))), oG 9 (.as (tG 19))]
noncomputable def f11_r4 : List Stage := [⟨[oG 20 (.mv (tG 1)), oG 22 (.ldn 2 (tG 6)), oG 24 (.ldn 2 (tG 7))], [], (some (oG 21 (.call (fG 40) [(tG 20)]))), []⟩, ⟨[], [oG 22 (.ldn 2 (tG 6)), oG 24 (.ldn 2 (tG 7))], (some (oG 23 (.call (fG 45) [(tG 22)]))), []⟩, ⟨[], [oG 24 (.ldn 2 (tG 7))], (some (oG 25 (.call (fG 45) [(tG 24)]))), []⟩, ⟨[], [], (some (oG 26 (.call (fG 44) [(tG 21), (tG 23), (tG 25)]))), []⟩, ⟨[], [], (some (oG 8 (.as (tG 26)))), []⟩, ⟨[], [], (some (oG 9 (.as (cG 0)))), []⟩, ⟨[], [], none, []⟩]
noncomputable def f11_c : EC := (.seq (.reg f11_r0) (.seq (.seq (.reg f11_r1) (.seq (.reg f11_r2) (.cond (tG 18) (.seq (.reg f11_r3) .ret) .skip))) (.seq (.draw f11_r4) .ret)))
noncomputable def f11 : EF := ⟨27, [.tmp (.ofNat 8), .tmp (.ofNat 9)], f11_c, none⟩
theorem f11_rs : f11.rs = [.tmp (.ofNat 8), .tmp (.ofNat 9)] := of_eq_true (eq_self _)
noncomputable def f12_r0 : List EOper := [oG 5 (.box 2 (tG 2)), oG 6 (.as (.c .sn)), oG 7 (.as (cG 0))]
noncomputable def f12_r1 : List EOper := [oG 9 (.mv (tG 0)), oG 10 (.mv (tG 1)), oG 11 (.ldn 2 (tG 5)), oG 12 (.bslice 1 2 [(.i .i64 (.ofNat 0)), (.i .i64 (.ofNat 0))] [(0, 2, (tG 11))]), oG 13 (.call (fG 43) [(tG 9), (tG 10), (tG 12)]), oG 8 (.as (tG 13))]
noncomputable def f12_r2 : List EOper := [oG 14 (.mv (tG 8)), oG 15 (.bin .neq (tG 14) (cG 0))]
noncomputable def f12_r3 : List EOper := [oG 16 (.mv (tG 8)), oG 6 (.as (.c .sn)), oG 7 (.as (tG 16))]
noncomputable def f12_r4 : List Stage := [⟨[oG 17 (.mv (tG 1)), oG 19 (.ldn 2 (tG 5))], [], (some (oG 18 (.call (fG 40) [(tG 17)]))), []⟩, ⟨[], [oG 19 (.ldn 2 (tG 5))], (some (oG 20 (.call (fG 45) [(tG 19)]))), []⟩, ⟨[], [], (some (oG 21 (.call (fG 46) [(tG 18), (tG 20)]))), []⟩, ⟨[], [], (some (oG 22 (.call (fG 47) [(tG 21)]))), []⟩, ⟨[], [], (some (oG 6 (.as (tG 22)))), []⟩, ⟨[], [], (some (oG 7 (.as (cG 0)))), []⟩, ⟨[], [], none, []⟩]
noncomputable def f12_c : EC := (.seq (.reg f12_r0) (.seq (.seq (.reg f12_r1) (.seq (.reg f12_r2) (.cond (tG 15) (.seq (.reg f12_r3) .ret) .skip))) (.seq (.draw f12_r4) .ret)))
noncomputable def f12 : EF := ⟨23, [.tmp (.ofNat 6), .tmp (.ofNat 7)], f12_c, none⟩
theorem f12_rs : f12.rs = [.tmp (.ofNat 6), .tmp (.ofNat 7)] := of_eq_true (eq_self _)
noncomputable def f13_r0 : List EOper := [oG 4 (.as (cG 0)), oG 5 (.as (cG 0))]
noncomputable def f13_r1 : List EOper := [oG 7 (.mv (tG 0)), oG 8 (.mv (tG 1)), oG 9 (.call (fG 8) [(tG 7), (tG 8)]), oG 6 (.as (tG 9))]
noncomputable def f13_r2 : List EOper := [oG 10 (.mv (tG 6)), oG 11 (.bin .neq (tG 10) (cG 0))]
noncomputable def f13_r3 : List EOper := [oG 12 (.mv (tG 6)), oG 4 (.as (cG 0)), oG 5 (.as (tG 12))]
noncomputable def f13_r4 : List EOper := [oG 13 (.mv (tG 1)), oG 14 (.call (fG 40) [(tG 13)]), oG 15 (.call (fG 48) [(tG 14)]), oG 4 (.as (tG 15)), oG 5 (.as (cG 0))]
noncomputable def f13_c : EC := (.seq (.reg f13_r0) (.seq (.seq (.reg f13_r1) (.seq (.reg f13_r2) (.cond (tG 11) (.seq (.reg f13_r3) .ret) .skip))) (.seq (.reg f13_r4) .ret)))
noncomputable def f13 : EF := ⟨16, [.tmp (.ofNat 4), .tmp (.ofNat 5)], f13_c, none⟩
theorem f13_rs : f13.rs = [.tmp (.ofNat 4), .tmp (.ofNat 5)] := of_eq_true (eq_self _)
noncomputable def f15_r0 : List EOper := [oG 4 (.as (.c .sn)), oG 5 (.as (.c (.b false))), oG 6 (.as (cG 0))]
noncomputable def f15_r1 : List EOper := [oG 10 (.mv (tG 0)), oG 11 (.mv (tG 1)), oG 12 (.call (fG 8) [(tG 10), (tG 11)]), oG 7 (.as (tG 12))]
noncomputable def f15_r2 : List EOper := [oG 13 (.mv (tG 7)), oG 14 (.bin .neq (tG 13) (cG 0))]
noncomputable def f15_r3 : List EOper := [oG 15 (.mv (tG 7)), oG 4 (.as (.c .sn)), oG 5 (.as (.c (.b false))), oG 6 (.as (tG 15))]
noncomputable def f15_r4 : List EOper := [oG 17 (.mv (tG 1)), oG 18 (.call (fG 40) [(tG 17)]), oG 19 (.call (fG 50) [(tG 18)]), oG 16 (.mv (tG 19)), oG 20 (.ext (tG 16) 0), oG 21 (.ext (tG 16) 1), oG 8 (.as (tG 20)), oG 9 (.as (tG 21))]
noncomputable def f15_r5 : List EOper := [oG 22 (.mv (tG 8)), oG 23 (.mv (tG 9)), oG 4 (.as (tG 22)), oG 5 (.as (tG 23)), oG 6 (.as (cG 0))]
noncomputable def f15_c : EC := (.seq (.reg f15_r0) (.seq (.seq (.reg f15_r1) (.seq (.reg f15_r2) (.cond (tG 14) (.seq (.reg f15_r3) .ret) .skip))) (.seq (.reg f15_r4) (.seq (.reg f15_r5) .ret))))
noncomputable def f15 : EF := ⟨24, [.tmp (.ofNat 4), .tmp (.ofNat 5), .tmp (.ofNat 6)], f15_c, none⟩
theorem f15_rs : f15.rs = [.tmp (.ofNat 4), .tmp (.ofNat 5), .tmp (.ofNat 6)] := of_eq_true (eq_self _)
noncomputable def f16_r0 : List EOper := [oG 6 (.as (.c (.b false))), oG 7 (.as (cG 0))]
noncomputable def f16_r1 : List EOper := [oG 9 (.mv (tG 0)), oG 10 (.mv (tG 1)), oG 11 (.call (fG 8) [(tG 9), (tG 10)]), oG 8 (.as (tG 11))]
noncomputable def f16_r2 : List EOper := [oG 12 (.mv (tG 8)), oG 13 (.bin .neq (tG 12) (cG 0))]
noncomputable def f16_r3 : List EOper := [oG 14 (.mv (tG 8)), oG 6 (.as (.c (.b false))), oG 7 (.as (tG 14))]
noncomputable def f16_r4 : List EOper := [oG 15 (.mv (tG 1)), oG 16 (.call (fG 40) [(tG 15)]), oG 17 (.mv (tG 2)), oG 18 (.call (fG 51) [(tG 16), (tG 17)]), oG 6 (.as (tG 18)), oG 7 (.as (cG 0))]
noncomputable def f16_c : EC := (.seq (.reg f16_r0) (.seq (.seq (.reg f16_r1) (.seq (.reg f16_r2) (.cond (tG 13) (.seq (.reg f16_r3) .ret) .skip))) (.seq (.reg f16_r4) .ret)))
noncomputable def f16 : EF := ⟨19, [.tmp (.ofNat 6), .tmp (.ofNat 7)], f16_c, none⟩
theorem f16_rs : f16.rs = [.tmp (.ofNat 6), .tmp (.ofNat 7)] := of_eq_true (eq_self _)
noncomputable def f17_r0 : List EOper := [oG 4 (.as (cG 0)), oG 5 (.as (cG 0))]
noncomputable def f17_r1 : List EOper := [oG 7 (.mv (tG 0)), oG 8 (.mv (tG 1)), oG 9 (.call (fG 8) [(tG 7), (tG 8)]), oG 6 (.as (tG 9))]
noncomputable def f17_r2 : List EOper := [oG 10 (.mv (tG 6)), oG 11 (.bin .neq (tG 10) (cG 0))]
noncomputable def f17_r3 : List EOper := [oG 12 (.mv (tG 6)), oG 4 (.as (cG 0)), oG 5 (.as (tG 12))]
noncomputable def f17_r4 : List EOper := [oG 13 (.mv (tG 0)), oG 14 (.bin .gtr (tG 13) (cG 6))]
noncomputable def f17_r5 : List EOper := [oG 4 (.as (cG 0)), oG 5 (.as (cG 1))]
noncomputable def f17_r6 : List EOper := [oG 15 (.mv (tG 1)), oG 16 (.call (fG 40) [(tG 15)]), oG 17 (.call (fG 52) [(tG 16)]), oG 4 (.as (tG 17)), oG 5 (.as (cG 0))]
noncomputable def f17_c : EC := (.seq (.reg f17_r0) (.seq (.seq (.reg f17_r1) (.seq (.reg f17_r2) (.cond (tG 11) (.seq (.reg f17_r3) .ret) .skip))) (.seq (.seq (.reg f17_r4) (.cond (tG 14) (.seq (.reg f17_r5) .ret) .skip)) (.seq (.reg f17_r6) .ret))))
noncomputable def f17 : EF := ⟨18, [.tmp (.ofNat 4), .tmp (.ofNat 5)], f17_c, none⟩
theorem f17_rs : f17.rs = [.tmp (.ofNat 4), .tmp (.ofNat 5)] := of_eq_true (eq_self _)
noncomputable def f18_r0 : List EOper := [oG 4 (.alloc 2 [.sn, .sn]), oG 5 (.as (.c (.b false))), oG 6 (.as (cG 0))]
noncomputable def f18_r1 : List EOper := [oG 13 (.mv (tG 0)), oG 14 (.mv (tG 1)), oG 15 (.call (fG 8) [(tG 13), (tG 14)]), oG 7 (.as (tG 15))]
noncomputable def f18_r2 : List EOper := [oG 16 (.mv (tG 7)), oG 17 (.bin .neq (tG 16) (cG 0))]
noncomputable def f18_r3 : List EOper := [oG 18 (.build [.sn, .sn] []), oG 19 (.mv (tG 7)), ⟨none, none, .st 2 (tG 4) (tG 18)⟩, oG 5 (.as (.c (.b false))), oG 6 (.as (tG 19))]
noncomputable def f18_r4 : List EOper := [oG 20 (.mv (tG 1)), oG 21 (.call (fG 40) [(tG 20)]), oG 8 (.alloc 49 (List.replicate 49 (.b false))), ⟨none, none, .st 49 (tG 8) (tG 21)⟩]
noncomputable def f18_r5 : List EOper := [oG 23 (.ldn 49 (tG 8)), oG 24 (.call (fG 49) [(tG 23)]), oG 22 (.mv (tG 24)), oG 25 (.ext (tG 22) 0), oG 26 (.ext (tG 22) 1), oG 9 (.alloc 49 (List.replicate 49 (.b false))), ⟨none, none, .st 49 (tG 9) (tG 25)⟩, oG 10 (.as (tG 26))]
noncomputable def f18_r6 : List EOper := [oG 28 (.ldn 49 (tG 8)), oG 29 (.mv (tG 0)), oG 30 (.call (fG 41) [(tG 28), (tG 29)]), oG 31 (.call (fG 49) [(tG 30)]), oG 27 (.mv (tG 31)), oG 32 (.ext (tG 27) 0), oG 33 (.ext (tG 27) 1), oG 11 (.alloc 49 (List.replicate 49 (.b false))), ⟨none, none, .st 49 (tG 11) (tG 32)⟩, oG 12 (.as (tG 33))]
noncomputable def f18_r7 : List EOper := [oG 34 (.mv (tG 10)), oG 35 (.not (tG 34)), oG 36 (.mv (tG 35)), gG 37 36 false (.mv (tG 12)), gG 38 36 false (.not (tG 37)), oG 39 (.pick (tG 36) (.c (.b true)) (tG 38))]
noncomputable def f18_r8 : List EOper := [oG 40 (.build [.sn, .sn] []), ⟨none, none, .st 2 (tG 4) (tG 40)⟩, oG 5 (.as (.c (.b false))), oG 6 (.as (cG 0))]
noncomputable def f18_r9 : List EOper := [oG 41 (.mv (tG 0)), oG 42 (.ldn 49 (tG 11)), oG 43 (.ldn 49 (tG 9)), oG 44 (.call (fG 53) [(tG 41), (tG 42), (tG 43)]), ⟨none, none, .st 2 (tG 4) (tG 44)⟩, oG 5 (.as (.c (.b true))), oG 6 (.as (cG 0))]
noncomputable def f18_c : EC := (.seq (.reg f18_r0) (.seq (.seq (.reg f18_r1) (.seq (.reg f18_r2) (.cond (tG 17) (.seq (.reg f18_r3) .ret) .skip))) (.seq (.reg f18_r4) (.seq (.reg f18_r5) (.seq (.reg f18_r6) (.seq (.seq (.reg f18_r7) (.cond (tG 39) (.seq (.reg f18_r8) .ret) .skip)) (.seq (.reg f18_r9) .ret)))))))
noncomputable def f18 : EF := ⟨45, [.celln (.ofNat 4) 2, .tmp (.ofNat 5), .tmp (.ofNat 6)], f18_c, none⟩
theorem f18_rs : f18.rs = [.celln (.ofNat 4) 2, .tmp (.ofNat 5), .tmp (.ofNat 6)] := of_eq_true (eq_self _)
noncomputable def f19_r0 : List EOper := [oG 4 (.as (.c .sn)), oG 5 (.as (cG 0))]
noncomputable def f19_r1 : List EOper := [oG 10 (.mv (tG 0)), oG 11 (.mv (tG 1)), oG 12 (.call (fG 9) [(tG 10), (tG 11)]), oG 6 (.as (tG 12))]
noncomputable def f19_r2 : List EOper := [oG 13 (.mv (tG 6)), oG 14 (.bin .neq (tG 13) (cG 0))]
noncomputable def f19_r3 : List EOper := [oG 15 (.mv (tG 6)), oG 4 (.as (.c .sn)), oG 5 (.as (tG 15))]
noncomputable def f19_r4 : List EOper := [oG 16 (.mv (tG 1)), oG 17 (.len (tG 16)), oG 18 (.mkslice 2 [(.i .i64 (.ofNat 0)), (.i .i64 (.ofNat 0))] (tG 17)), oG 7 (.as (tG 18))]
noncomputable def f19_r5 : List EOper := [oG 19 (.mv (tG 1)), oG 20 (.len (tG 19)), oG 21 (.mv (cG 0))]
noncomputable def f19_r6 : List EOper := [oG 22 (.bin .lss (tG 21) (tG 20))]
noncomputable def f19_r7 : List EOper := [oG 23 (.mv (tG 21)), oG 24 (.iads 2 (tG 19) (tG 21)), oG 25 (.ldn 2 (tG 24)), oG 9 (.alloc 2 [(.i .i64 (.ofNat 0)), (.i .i64 (.ofNat 0))]), oG 8 (.as (tG 23)), ⟨none, none, .st 2 (tG 9) (tG 25)⟩]
noncomputable def f19_r8 : List EOper := [oG 26 (.mv (tG 7)), oG 27 (.mv (tG 8)), oG 28 (.ldn 2 (tG 9)), oG 29 (.call (fG 45) [(tG 28)]), oG 30 (.call (fG 54) [(tG 29)]), oG 31 (.call (fG 55) [(tG 30)]), oG 32 (.iads 2 (tG 26) (tG 27)), ⟨none, none, .st 2 (tG 32) (tG 31)⟩]
noncomputable def f19_r9 : List EOper := [oG 33 (.bin .add (tG 21) (cG 1)), oG 21 (.mv (tG 33))]
noncomputable def f19_l0 : EC := (.seq (.reg f19_r6) (.seq (.cond (tG 22) .skip (.exit 0)) (.seq (.block 1 (.seq (.reg f19_r7) (.reg f19_r8))) (.reg f19_r9))))
noncomputable def f19_r10 : List EOper := [oG 34 (.mv (tG 7)), oG 35 (.call (fG 56) [(tG 34), (fG 57)])]
noncomputable def f19_r11 : List EOper := [oG 36 (.mv (tG 7)), oG 4 (.as (tG 36)), oG 5 (.as (cG 0))]
noncomputable def f19_c : EC := (.seq (.reg f19_r0) (.seq (.seq (.reg f19_r1) (.seq (.reg f19_r2) (.cond (tG 14) (.seq (.reg f19_r3) .ret) .skip))) (.seq (.reg f19_r4) (.seq (.seq (.reg f19_r5) (.block 0 (.loop f19_l0))) (.seq (.reg f19_r10) (.seq (.reg f19_r11) .ret))))))
noncomputable def f19 : EF := ⟨37, [.tmp (.ofNat 4), .tmp (.ofNat 5)], f19_c, none⟩
theorem f19_rs : f19.rs = [.tmp (.ofNat 4), .tmp (.ofNat 5)] := of_eq_true (eq_self _)
noncomputable def f20_r0 : List EOper := [oG 4 (.as (.c .sn)), oG 5 (.as (cG 0))]
noncomputable def f20_r1 : List EOper := [oG 7 (.mv (tG 0)), oG 8 (.mv (tG 1)), oG 9 (.call (fG 9) [(tG 7), (tG 8)]), oG 6 (.as (tG 9))]
noncomputable def f20_r2 : List EOper := [oG 10 (.mv (tG 6)), oG 11 (.bin .neq (tG 10) (cG 0))]
noncomputable def f20_r3 : List EOper := [oG 12 (.mv (tG 6)), oG 4 (.as (.c .sn)), oG 5 (.as (tG 12))]
noncomputable def f20_r4 : List EOper := [oG 13 (.mv (tG 1)), oG 14 (.call (fG 38) [(tG 13)]), oG 15 (.mv (tG 0)), oG 16 (.call (fG 58) [(tG 14), (tG 15)]), oG 4 (.as (tG 16)), oG 5 (.as (cG 0))]
noncomputable def f20_c : EC := (.seq (.reg f20_r0) (.seq (.seq (.reg f20_r1) (.seq (.reg f20_r2) (.cond (tG 11) (.seq (.reg f20_r3) .ret) .skip))) (.seq (.reg f20_r4) .ret)))
noncomputable def f20 : EF := ⟨17, [.tmp (.ofNat 4), .tmp (.ofNat 5)], f20_c, none⟩
theorem f20_rs : f20.rs = [.tmp (.ofNat 4), .tmp (.ofNat 5)] := of_eq_true (eq_self _)
noncomputable def f21_r0 : List EOper := [oG 4 (.as (.c .sn)), oG 5 (.as (cG 0))]
noncomputable def f21_r1 : List EOper := [oG 7 (.mv (tG 0)), oG 8 (.mv (tG 1)), oG 9 (.call (fG 9) [(tG 7), (tG 8)]), oG 6 (.as (tG 9))]
noncomputable def f21_r2 : List EOper := [oG 10 (.mv (tG 6)), oG 11 (.bin .neq (tG 10) (cG 0))]
noncomputable def f21_r3 : List EOper := [oG 12 (.mv (tG 6)), oG 4 (.as (.c .sn)), oG 5 (.as (tG 12))]
noncomputable def f21_r4 : List EOper := [oG 13 (.mv (tG 1)), oG 14 (.call (fG 38) [(tG 13)]), oG 15 (.mv (tG 0)), oG 16 (.call (fG 59) [(tG 14), (tG 15)]), oG 4 (.as (tG 16)), oG 5 (.as (cG 0))]
noncomputable def f21_c : EC := (.seq (.reg f21_r0) (.seq (.seq (.reg f21_r1) (.seq (.reg f21_r2) (.cond (tG 11) (.seq (.reg f21_r3) .ret) .skip))) (.seq (.reg f21_r4) .ret)))
noncomputable def f21 : EF := ⟨17, [.tmp (.ofNat 4), .tmp (.ofNat 5)], f21_c, none⟩
theorem f21_rs : f21.rs = [.tmp (.ofNat 4), .tmp (.ofNat 5)] := of_eq_true (eq_self _)
noncomputable def f22_r0 : List EOper := [oG 4 (.alloc 2 [.sn, .sn]), oG 5 (.as (.c (.b false))), oG 6 (.as (cG 0))]
noncomputable def f22_r1 : List EOper := [oG 10 (.mv (tG 0)), oG 11 (.mv (tG 1)), oG 12 (.call (fG 9) [(tG 10), (tG 11)]), oG 7 (.as (tG 12))]
noncomputable def f22_r2 : List EOper := [oG 13 (.mv (tG 7)), oG 14 (.bin .neq (tG 13) (cG 0))]
noncomputable def f22_r3 : List EOper := [oG 15 (.build [.sn, .sn] []), oG 16 (.mv (tG 7)), ⟨none, none, .st 2 (tG 4) (tG 15)⟩, oG 5 (.as (.c (.b false))), oG 6 (.as (tG 16))]
noncomputable def f22_r4 : List EOper := [oG 18 (.mv (tG 1)), oG 19 (.call (fG 40) [(tG 18)]), oG 20 (.mv (tG 0)), oG 21 (.call (fG 41) [(tG 19), (tG 20)]), oG 22 (.call (fG 49) [(tG 21)]), oG 17 (.mv (tG 22)), oG 23 (.ext (tG 17) 0), oG 24 (.ext (tG 17) 1), oG 8 (.alloc 49 (List.replicate 49 (.b false))), ⟨none, none, .st 49 (tG 8) (tG 23)⟩, oG 9 (.as (tG 24))]
noncomputable def f22_r5 : List EOper := [oG 25 (.mv (tG 9)), oG 26 (.not (tG 25))]
noncomputable def f22_r6 : List EOper := [oG 27 (.build [.sn, .sn] []), ⟨none, none, .st 2 (tG 4) (tG 27)⟩, oG 5 (.as (.c (.b false))), oG 6 (.as (cG 0))]
noncomputable def f22_r7 : List Stage := [⟨[oG 28 (.mv (tG 0)), oG 29 (.mv (tG 1)), oG 31 (.ldn 49 (tG 8))], [], (some (oG 30 (.call (fG 38) [(tG 29)]))), []⟩, ⟨[], [oG 28 (.mv (tG 0)), oG 31 (.ldn 49 (tG 8))], (some (oG 32 (.call (fG 53) [(tG 28), (tG 30), (tG 31)]))), []⟩, ⟨[], [], (some ⟨none, none, .st 2 (tG 4) (tG 32)⟩), []⟩, ⟨[], [], (some (oG 5 (.as (.c (.b true))))), []⟩, ⟨[], [], (some (oG 6 (.as (cG 0)))), []⟩, ⟨[], [], none, []⟩]
noncomputable def f22_c : EC := (.seq (.reg f22_r0) (.seq (.seq (.reg f22_r1) (.seq (.reg f22_r2) (.cond (tG 14) (.seq (.reg f22_r3) .ret) .skip))) (.seq (.reg f22_r4) (.seq (.seq (.reg f22_r5) (.cond (tG 26) (.seq (.reg f22_r6) .ret) .skip)) (.seq (.draw f22_r7) .ret)))))
noncomputable def f22 : EF := ⟨33, [.celln (.ofNat 4) 2, .tmp (.ofNat 5), .tmp (.ofNat 6)], f22_c, none⟩
theorem f22_rs : f22.rs = [.celln (.ofNat 4) 2, .tmp (.ofNat 5), .tmp (.ofNat 6)] := of_eq_true (eq_self _)
section
variable {fs : T EF} {h h' : H}
theorem f5_ret {v : V} {P : List (Int × Int)} {m : Nat} (hm : m ≤ 100) (hv : Srp h v P) (hc : HC h) : Ret fs f5 [v, .i .i64 (m : Int)] h fun r h' => Sk 2 qE h' r (P.take (min P.length m)) ∧ Own h.nx.nat r ∧ Grow h.nx.nat h h' := by
  apply ret_of rfl
  show W fs none f5_c _ _ _
  unfold f5_c
  have hl := hv.len
  have hmin : min (P.length : Int) (m : Int) = ((min P.length m : Nat) : Int) := by omega
  obtain ⟨u, hu, hsu, _⟩ := hv.cut (u := min P.length m) (kk := .i64) (Nat.min_le_left _ _)
  obtain ⟨w, h2, ha, hs2, ho2, g2⟩ := hsu.appN hc (by rw [List.length_take]; omega)
  simp (disch := omega) only [f5_r0, f5_r1, f5_r2, f5_rs, x_slice, sliceV_eq, Option.map_none, Option.map_some, x_app, x_min, min_ii, Option.some.injEq, exists_eq_left', Nat.reduceEqDiff, ↓reduceIte, hl, hmin, hu, ha, bz]
  exact ⟨hs2, ho2, g2⟩
theorem f35_ret {x y : Int × Int} (hc : HC h) : Ret fs f35 [pV x, pV y] h fun r h' => r = .b (bfB x y) ∧ Grow h.nx.nat h h' := by
  have _ := hc
  apply ret_of rfl
  show W fs none f35_c _ _ _
  unfold f35_c
  have cx : cellsN 2 (pV x) = some [.i .i64 x.1, .i .i64 x.2] := rfl
  have cy : cellsN 2 (pV y) = some [.i .i64 y.1, .i .i64 y.2] := rfl
  have n1 := nx_new h (.cells 2 [.i .i64 x.1, .i .i64 x.2])
  have g1 : Grow h.nx.nat h (h.new (.cells 2 [.i .i64 x.1, .i .i64 x.2])) := Grow.new (Nat.le_refl _) _
  have e1 : (h.new (.cells 2 [.i .i64 x.1, .i .i64 x.2])).get h.nx = .cells 2 [.i .i64 x.1, .i .i64 x.2] := get_new_same
  simp (disch := omega) only [f35_r0, Nat.reduceEqDiff, ↓reduceIte, cx, cy, bz]
  generalize h.new (.cells 2 [.i .i64 x.1, .i .i64 x.2]) = h1 at *
  have n2 := nx_new h1 (.cells 2 [.i .i64 y.1, .i .i64 y.2])
  have g2 : Grow h1.nx.nat h1 (h1.new (.cells 2 [.i .i64 y.1, .i .i64 y.2])) := Grow.new (Nat.le_refl _) _
  have e2 : (h1.new (.cells 2 [.i .i64 y.1, .i .i64 y.2])).get h1.nx = .cells 2 [.i .i64 y.1, .i .i64 y.2] := get_new_same
  generalize h1.new (.cells 2 [.i .i64 y.1, .i .i64 y.2]) = h2 at *
  have a1 := (g2.old h.nx (by omega)).trans e1
  have l10 := ld20 a1
  have l11 := ld21 a1
  have l20 := ld20 e2
  have l21 := ld21 e2
  have gA : Grow h.nx.nat h h2 := g1.trans (g2.low (by omega))
  unfold bfB
  cases d0 : decide (x.1 < y.1) with
  | true =>
    simp (disch := omega) only [f35_r1, f35_rs, Option.some.injEq, exists_eq_left', Nat.reduceEqDiff, ↓reduceIte, Bool.false_eq_true, Bool.not_true, l10, l20, d0, bz]
    exact ⟨rfl, gA⟩
  | false =>
    cases d1 : decide (x.1 = y.1) with
    | false =>
      simp (disch := omega) only [f35_r1, f35_rs, Option.some.injEq, exists_eq_left', Nat.reduceEqDiff, ↓reduceIte, Bool.false_eq_true, Bool.not_false, l10, l20, d0, d1, bz]
      exact ⟨rfl, gA⟩
    | true =>
      cases d2 : decide (x.2 < y.2) with
      | false =>
        simp (disch := omega) only [f35_r1, f35_rs, Option.some.injEq, exists_eq_left', Nat.reduceEqDiff, ↓reduceIte, Bool.false_eq_true, Bool.not_false, l10, l20, l11, l21, d0, d1, d2, bz]
        exact ⟨rfl, gA⟩
      | true =>
        simp (disch := omega) only [f35_r1, f35_rs, Option.some.injEq, exists_eq_left', Nat.reduceEqDiff, ↓reduceIte, Bool.false_eq_true, Bool.not_false, l10, l20, l11, l21, d0, d1, d2, bz]
        exact ⟨rfl, gA⟩
theorem gd_at {P : List (Int × Int)} {i : Nat} (hi : i < P.length) : P.getD i (0, 0) = P[i] := by rw [List.getD_eq_getElem?_getD, List.getElem?_eq_getElem hi]; rfl
theorem risB_iff {n : Int} {P : List (Int × Int)} : risB n P = true ↔ RisT n P P.length := by
  unfold risB
  exact ⟨fun h => @of_decide_eq_true _ (Classical.propDecidable _) h, fun h => @decide_eq_true _ (Classical.propDecidable _) h⟩
structure CallsRk (fs : T EF) : Prop where
  c35 : fs.get (K.ofNat 35) = some f35
  c36 : fs.get (K.ofNat 36) = some f36
/-! ### The reference's Check -/
def chAt (n : Int) (P : List (Int × Int)) (j : Nat) : Prop := 0 ≤ (P.getD j (0, 0)).1 ∧ (P.getD j (0, 0)).1 < (P.getD j (0, 0)).2 ∧ (P.getD j (0, 0)).2 < n ∧ (0 < j → bfB (P.getD (j - 1) (0, 0)) (P.getD j (0, 0)) = true)
theorem chAt_iff {n : Int} {P : List (Int × Int)} : (∀ j, j < P.length → chAt n P j) ↔ (risB n P = true ∧ UpT P P.length) := by
  rw [risB_iff]
  unfold RisT UpT risAt chAt okE nodeB
  simp only [Bool.and_eq_true, decide_eq_true_eq]
  constructor
  · intro h
    exact ⟨fun j hj => by obtain ⟨h1, h2, h3, h4⟩ := h j hj; exact ⟨⟨⟨h1, by omega⟩, ⟨by omega, h3⟩, by omega⟩, h4⟩, fun j hj => by have := h j hj; omega⟩
  · rintro ⟨h1, h2⟩ j hj
    obtain ⟨⟨⟨a, b⟩, ⟨c, d⟩, e⟩, f⟩ := h1 j hj
    have := h2 j hj
    exact ⟨a, by omega, d, f⟩
def f6_I (h0 : H) (n : Int) (v : V) (P : List (Int × Int)) (i : Nat) (fr : Fr) (h1 : H) : Prop := i ≤ P.length ∧ (∀ j, j < i → chAt n P j) ∧ Grow h0.nx.nat h0 h1 ∧ fr.get (K.ofNat 0) = some (.i .i64 n) ∧ fr.get (K.ofNat 1) = some (v) ∧ fr.get (K.ofNat 5) = some (.i .i64 (i : Int))
theorem f6_ret {n : Int} {v : V} {P : List (Int × Int)} (k : CallsRk fs) (hv : Srp h v P) (hl : P.length ≤ 1000) (hc : HC h) : Ret fs f6 [.i .i64 n, v] h fun r h' => r = .i .i64 (chkG n P) ∧ Grow h.nx.nat h h' := by
  apply ret_of rfl
  show W fs none f6_c _ _ _
  unfold f6_c
  have hlen := hv.len
  have hvb := hv.beq
  by_cases hn : n < 1 ∨ 7 < n
  · have hg : chkG n P = 1 := by unfold chkG; rw [if_pos hn]
    rw [hg]
    by_cases h1 : n < 1
    · have d1 : decide (n < 1) = true := decide_eq_true h1
      simp (disch := omega) only [f6_r0, f6_r1, f6_r2, f6_rs, Option.some.injEq, exists_eq_left', Nat.reduceEqDiff, ↓reduceIte, Bool.false_eq_true, Bool.not_true, d1, bz]
      exact Grow.refl _ _
    · have d1 : decide (n < 1) = false := decide_eq_false h1
      have d2 : decide (7 < n) = true := decide_eq_true (by omega)
      simp (disch := omega) only [f6_r0, f6_r1, f6_r2, f6_rs, Option.some.injEq, exists_eq_left', Nat.reduceEqDiff, ↓reduceIte, Bool.false_eq_true, Bool.not_false, d1, d2, bz]
      exact Grow.refl _ _
  · have d1 : decide (n < 1) = false := decide_eq_false (by omega)
    have d2 : decide (7 < n) = false := decide_eq_false (by omega)
    have no : ∀ j, j < P.length → ¬ chAt n P j → chkG n P = 20 := fun j hj hx => by
      unfold chkG
      rw [if_neg hn, if_neg (fun h => hx (chAt_iff.2 h j hj))]
    simp (disch := omega) only [f6_r0, f6_r1, f6_r3, Nat.reduceEqDiff, ↓reduceIte, Bool.false_eq_true, Bool.not_false, d1, d2, bz]
    refine W_loop (f6_I h n v P) (fun i => P.length - i) ?_ 0 ⟨by omega, fun j hj => by omega, Grow.refl _ _, by simp (disch := omega) only [getK_set, Nat.reduceEqDiff, ↓reduceIte, and_self, Int.natCast_zero]⟩
    rintro i fr h1 ⟨hi, hok, hG, g0, g1, g5⟩
    have hc1 := hG.hc hc
    have hv1 := hv.grow hc hG
    unfold f6_l0
    by_cases hlt : i < P.length
    · have d3 : decide ((i : Int) < (P.length : Int)) = true := decide_eq_true (by omega)
      obtain ⟨id, q, pa, pb, pc, pd⟩ := hv1.at2 hlt
      have hgd := gd_at hlt
      have hno := no i hlt
      unfold chAt at hno
      rw [hgd] at hno
      generalize hx : P[i] = x at *
      by_cases e1 : x.1 < 0
      · have d4 : decide (x.1 < 0) = true := decide_eq_true e1
        simp (disch := omega) only [f6_r4, f6_r5, f6_r6, f6_r7, f6_rs, Option.some.injEq, exists_eq_left', Nat.reduceEqDiff, ↓reduceIte, Bool.false_eq_true, Bool.not_true, g1, g5, hlen, d3, hvb, pa, pc, pd, d4, bz]
        exact ⟨by rw [hno (by omega)], hG⟩
      · have d4 : decide (x.1 < 0) = false := decide_eq_false e1
        by_cases e2 : x.2 ≤ x.1
        · have d5 : decide (x.2 ≤ x.1) = true := decide_eq_true e2
          simp (disch := omega) only [f6_r4, f6_r5, f6_r6, f6_r7, f6_rs, Option.some.injEq, exists_eq_left', Nat.reduceEqDiff, ↓reduceIte, Bool.false_eq_true, Bool.not_true, Bool.not_false, g1, g5, hlen, d3, hvb, pa, pc, pd, d4, d5, bz]
          exact ⟨by rw [hno (by omega)], hG⟩
        · have d5 : decide (x.2 ≤ x.1) = false := decide_eq_false e2
          by_cases e3 : n ≤ x.2
          · have d6 : decide (n ≤ x.2) = true := decide_eq_true e3
            simp (disch := omega) only [f6_r4, f6_r5, f6_r6, f6_r7, f6_rs, Option.some.injEq, exists_eq_left', Nat.reduceEqDiff, ↓reduceIte, Bool.false_eq_true, Bool.not_true, Bool.not_false, g0, g1, g5, hlen, d3, hvb, pa, pc, pd, d4, d5, d6, bz]
            exact ⟨by rw [hno (by omega)], hG⟩
          · have d6 : decide (n ≤ x.2) = false := decide_eq_false e3
            by_cases h0 : 0 < i
            · have d7 : decide (0 < (i : Int)) = true := decide_eq_true (by omega)
              obtain ⟨j, rfl⟩ : ∃ j, i = j + 1 := ⟨i - 1, by omega⟩
              have hj1 : ((j + 1 : Nat) : Int) - 1 = (j : Int) := by omega
              have hjl : j < P.length := by omega
              obtain ⟨id2, q2, wa, wb, _, _⟩ := hv1.at2 hjl
              have hgj := gd_at hjl
              rw [Nat.add_sub_cancel, hgj] at hno
              have hpw : V.agg [.i .i64 P[j].1, .i .i64 P[j].2] = pV P[j] := rfl
              have hpx : V.agg [.i .i64 x.1, .i .i64 x.2] = pV x := rfl
              simp (disch := omega) only [f6_r4, f6_r5, f6_r6, bin_sub, Nat.reduceEqDiff, ↓reduceIte, Bool.false_eq_true, Bool.not_false, g0, g1, g5, hlen, d3, hvb, pa, pb, pc, pd, d4, d5, d6, d7, hj1, wa, wb, hpw, hpx, bz]
              refine (callP_0 (ef := f35) k.c35 rfl (f35_ret (x := P[j]) (y := x) hc1)).mono ?_
              rintro r h3 ⟨rfl, g3⟩
              have hG3 := hG.trans (g3.low hG.nx)
              cases hb : bfB P[j] x with
              | false =>
                simp (disch := omega) only [f6_r7, f6_rs, Option.some.injEq, exists_eq_left', Nat.reduceEqDiff, ↓reduceIte, Bool.false_eq_true, Bool.not_false, bz]
                exact ⟨by rw [hno (fun h => by have := h.2.2.2 (by omega); rw [hb] at this; cases this)], hG3⟩
              | true =>
                simp (disch := omega) only [f6_r8, Nat.reduceEqDiff, ↓reduceIte, Bool.false_eq_true, Bool.not_true, Bool.not_false, g5, bz]
                refine ⟨j + 1 + 1, by omega, by omega, fun t ht => ?_, hG3, by simp (disch := omega) only [getK_set, Nat.reduceEqDiff, ↓reduceIte, g0, g1, and_self, Int.natCast_add, Int.natCast_one]⟩
                by_cases e : t = j + 1
                · subst e
                  unfold chAt
                  rw [hgd, Nat.add_sub_cancel, hgj]
                  exact ⟨by omega, by omega, by omega, fun _ => hb⟩
                · exact hok t (by omega)
            · have d7 : decide (0 < (i : Int)) = false := decide_eq_false (by omega)
              simp (disch := omega) only [f6_r4, f6_r5, f6_r6, f6_r8, Nat.reduceEqDiff, ↓reduceIte, Bool.false_eq_true, Bool.not_false, g0, g1, g5, hlen, d3, hvb, pa, pc, pd, d4, d5, d6, d7, bz]
              refine ⟨i + 1, by omega, by omega, fun t ht => ?_, hG, by simp (disch := omega) only [getK_set, Nat.reduceEqDiff, ↓reduceIte, g0, g1, and_self, Int.natCast_add, Int.natCast_one]⟩
              by_cases e : t = i
              · subst e
                unfold chAt
                rw [hgd]
                exact ⟨by omega, by omega, by omega, fun h => absurd h h0⟩
              · exact hok t (by omega)
    · have d3 : decide ((i : Int) < (P.length : Int)) = false := decide_eq_false (by omega)
      have hg : chkG n P = 0 := by
        unfold chkG
        rw [if_neg hn, if_pos (chAt_iff.1 fun j hj => hok j (by omega))]
      simp (disch := omega) only [f6_r4, f6_r9, f6_rs, Option.some.injEq, exists_eq_left', Nat.reduceEqDiff, ↓reduceIte, Bool.false_eq_true, g1, g5, hlen, d3, bz]
      exact ⟨by rw [hg], hG⟩
/-! ### The reference's IsOrder -/
def ioAt (n : Int) (P : List (Int × Int)) (j : Nat) : Prop := risAt n P j ∧ ((P.getD j (0, 0)).2, (P.getD j (0, 0)).1) ∉ P ∧ ∀ y ∈ P, y.1 = (P.getD j (0, 0)).2 → ((P.getD j (0, 0)).1, y.2) ∈ P
theorem ioAt_iff {n : Int} {P : List (Int × Int)} (hn : n ≤ 7) : (∀ j, j < P.length → ioAt n P j) ↔ (risB n P = true ∧ trB (relR P) = true) := by
  have hRl : (relR P).length = 49 := rl_len
  have mem : ∀ {x}, x ∈ P → ∃ j, ∃ h : j < P.length, P.getD j (0, 0) = x := fun {x} hx => by
    obtain ⟨j, hj, rfl⟩ := List.getElem_of_mem hx
    exact ⟨j, hj, gd_at hj⟩
  have okn : risB n P = true → ∀ x ∈ P, 0 ≤ x.1 ∧ x.1 < n ∧ 0 ≤ x.2 ∧ x.2 < n ∧ x.1 ≠ x.2 := fun h x hx => by
    obtain ⟨j, hj, e⟩ := mem hx
    have := (risB_iff.1 h j hj).1
    rw [e] at this
    unfold okE nodeB at this
    simp only [Bool.and_eq_true, decide_eq_true_eq] at this
    exact ⟨this.1.1, this.1.2, this.2.1.1, this.2.1.2, this.2.2⟩
  constructor
  · intro h
    have hr : risB n P = true := risB_iff.2 fun j hj => (h j hj).1
    have hnd := ris_nd hn hr
    refine ⟨hr, (trB_iff hRl).2 fun a b c h1 h2 => ?_⟩
    rw [relR_iff hnd] at h1 h2 ⊢
    obtain ⟨j, hj, e⟩ := mem h1
    have := (h j hj).2.2 _ h2
    rw [e] at this
    exact this rfl
  · rintro ⟨hr, ht⟩ j hj
    have hnd := ris_nd hn hr
    have ht := (trB_iff hRl).1 ht
    have hm : P.getD j (0, 0) ∈ P := by rw [gd_at hj]; exact List.getElem_mem _
    obtain ⟨a1, a2, a3, a4, a5⟩ := okn hr _ hm
    refine ⟨risB_iff.1 hr j hj, fun h => ?_, fun y hy e => ?_⟩
    · generalize P.getD j (0, 0) = x at *
      obtain ⟨p, hp⟩ : ∃ p : Nat, x.1 = (p : Int) := ⟨x.1.toNat, by omega⟩
      obtain ⟨q, hq⟩ : ∃ q : Nat, x.2 = (q : Int) := ⟨x.2.toNat, by omega⟩
      have e1 : x = ((p : Int), (q : Int)) := Prod.ext hp hq
      have h1 : rat (relR P) p q = true := (relR_iff hnd).2 (by rw [← e1]; exact hm)
      have h2 : rat (relR P) q p = true := (relR_iff hnd).2 (by rw [← hp, ← hq]; exact h)
      have h3 := (relR_iff hnd).1 (ht _ _ _ h1 h2)
      exact (okn hr _ h3).2.2.2.2 rfl
    · obtain ⟨b1, b2, b3, b4, b5⟩ := okn hr _ hy
      generalize P.getD j (0, 0) = x at *
      obtain ⟨p, hp⟩ : ∃ p : Nat, x.1 = (p : Int) := ⟨x.1.toNat, by omega⟩
      obtain ⟨q, hq⟩ : ∃ q : Nat, x.2 = (q : Int) := ⟨x.2.toNat, by omega⟩
      obtain ⟨s, hs⟩ : ∃ s : Nat, y.2 = (s : Int) := ⟨y.2.toNat, by omega⟩
      have e1 : x = ((p : Int), (q : Int)) := Prod.ext hp hq
      have e2 : y = ((q : Int), (s : Int)) := Prod.ext (e.trans hq) hs
      have h1 : rat (relR P) p q = true := (relR_iff hnd).2 (by rw [← e1]; exact hm)
      have h2 : rat (relR P) q s = true := (relR_iff hnd).2 (by rw [← e2]; exact hy)
      have h3 := (relR_iff hnd).1 (ht _ _ _ h1 h2)
      rw [hp, hs]; exact h3
def f7_I (h0 : H) (n : Int) (v : V) (P : List (Int × Int)) (i : Nat) (fr : Fr) (h1 : H) : Prop := i ≤ P.length ∧ (∀ j, j < i → ioAt n P j) ∧ Grow h0.nx.nat h0 h1 ∧ fr.get (K.ofNat 0) = some (.i .i64 n) ∧ fr.get (K.ofNat 1) = some (v) ∧ fr.get (K.ofNat 5) = some (.i .i64 (i : Int))
def f7_J (h0 : H) (n : Int) (v : V) (P : List (Int × Int)) (i : Nat) (x : Int × Int) (t : Nat) (fr : Fr) (h1 : H) : Prop := t ≤ P.length ∧ (∀ j, j < t → (P.getD j (0, 0)).1 = x.2 → (x.1, (P.getD j (0, 0)).2) ∈ P) ∧ Grow h0.nx.nat h0 h1 ∧ fr.get (K.ofNat 0) = some (.i .i64 n) ∧ fr.get (K.ofNat 1) = some (v) ∧ fr.get (K.ofNat 5) = some (.i .i64 (i : Int)) ∧ fr.get (K.ofNat 6) = some (.i .i64 x.1) ∧ fr.get (K.ofNat 7) = some (.i .i64 x.2) ∧ fr.get (K.ofNat 8) = some (.i .i64 (t : Int))
theorem f7_ret {n : Int} {v : V} {P : List (Int × Int)} (k : CallsRk fs) (hn : n ≤ 7) (hv : Srp h v P) (hP : ∀ y ∈ P, inI y) (hl : P.length ≤ 1000) (hc : HC h) : Ret fs f7 [.i .i64 n, v] h fun r h' => ∃ b, r = .b b ∧ (b = true ↔ risB n P = true ∧ trB (relR P) = true) ∧ Grow h.nx.nat h h' := by
  apply ret_of rfl
  show W fs none f7_c _ _ _
  unfold f7_c
  have hlen := hv.len
  have hvb := hv.beq
  have no : ∀ {hh : H} j, j < P.length → ¬ ioAt n P j → Grow h.nx.nat h hh → ∃ b, V.b false = .b b ∧ (b = true ↔ risB n P = true ∧ trB (relR P) = true) ∧ Grow h.nx.nat h hh := fun {hh} j hj hx g =>
    ⟨false, rfl, ⟨(fun h => by cases h), fun h => absurd ((ioAt_iff hn).2 h j hj) hx⟩, g⟩
  simp (disch := omega) only [f7_r0, f7_r1, bz]
  refine W_loop (f7_I h n v P) (fun i => P.length - i) ?_ 0 ⟨by omega, fun j hj => by omega, Grow.refl _ _, by simp (disch := omega) only [getK_set, Nat.reduceEqDiff, ↓reduceIte, and_self, Int.natCast_zero]⟩
  rintro i fr h1 ⟨hi, hok, hG, g0, g1, g5⟩
  have hc1 := hG.hc hc
  have hv1 := hv.grow hc hG
  unfold f7_l1
  by_cases hlt : i < P.length
  · have d3 : decide ((i : Int) < (P.length : Int)) = true := decide_eq_true (by omega)
    obtain ⟨id, q, pa, pb, pc, pd⟩ := hv1.at2 hlt
    have hgd := gd_at hlt
    have hno := fun hh => no (hh := hh) i hlt
    have hxI := hP P[i] (List.getElem_mem _)
    have hev : risAt n P i → (P[i].2, P[i].1) ∉ P → (∀ y ∈ P, y.1 = P[i].2 → (P[i].1, y.2) ∈ P) → ioAt n P i := fun a b c => by
      unfold ioAt; rw [hgd]; exact ⟨a, b, c⟩
    have hri : risAt n P i ↔ okE n P[i] = true ∧ (0 < i → bfB (P.getD (i - 1) (0, 0)) P[i] = true) := by unfold risAt; rw [hgd]
    unfold ioAt at hno
    rw [hri, hgd] at hno
    rw [hri] at hev
    unfold okE nodeB at hno hev
    simp only [Bool.and_eq_true, decide_eq_true_eq] at hno hev
    have hpi : P[i]? = some P[i] := List.getElem?_eq_getElem hlt
    generalize hx : P[i] = x at *
    by_cases e1 : x.1 < 0
    · have d4 : decide (x.1 < 0) = true := decide_eq_true e1
      simp (disch := omega) only [f7_r2, f7_r3, f7_r4, f7_r5, f7_rs, Option.some.injEq, exists_eq_left', Nat.reduceEqDiff, ↓reduceIte, Bool.false_eq_true, Bool.not_true, g1, g5, hlen, d3, hvb, pa, pc, pd, d4, bz]
      exact hno _ (fun h => by have := h.1.1.1.1; omega) hG
    · have d4 : decide (x.1 < 0) = false := decide_eq_false e1
      by_cases e2 : x.2 < 0
      · have d5 : decide (x.2 < 0) = true := decide_eq_true e2
        simp (disch := omega) only [f7_r2, f7_r3, f7_r4, f7_r5, f7_rs, Option.some.injEq, exists_eq_left', Nat.reduceEqDiff, ↓reduceIte, Bool.false_eq_true, Bool.not_true, Bool.not_false, g1, g5, hlen, d3, hvb, pa, pc, pd, d4, d5, bz]
        exact hno _ (fun h => by have := h.1.1.2.1.1; omega) hG
      · have d5 : decide (x.2 < 0) = false := decide_eq_false e2
        by_cases e3 : n ≤ x.1
        · have d6 : decide (n ≤ x.1) = true := decide_eq_true e3
          simp (disch := omega) only [f7_r2, f7_r3, f7_r4, f7_r5, f7_rs, Option.some.injEq, exists_eq_left', Nat.reduceEqDiff, ↓reduceIte, Bool.false_eq_true, Bool.not_true, Bool.not_false, g0, g1, g5, hlen, d3, hvb, pa, pc, pd, d4, d5, d6, bz]
          exact hno _ (fun h => by have := h.1.1.1.2; omega) hG
        · have d6 : decide (n ≤ x.1) = false := decide_eq_false e3
          by_cases e4 : n ≤ x.2
          · have d7 : decide (n ≤ x.2) = true := decide_eq_true e4
            simp (disch := omega) only [f7_r2, f7_r3, f7_r4, f7_r5, f7_rs, Option.some.injEq, exists_eq_left', Nat.reduceEqDiff, ↓reduceIte, Bool.false_eq_true, Bool.not_true, Bool.not_false, g0, g1, g5, hlen, d3, hvb, pa, pc, pd, d4, d5, d6, d7, bz]
            exact hno _ (fun h => by have := h.1.1.2.1.2; omega) hG
          · have d7 : decide (n ≤ x.2) = false := decide_eq_false e4
            by_cases e5 : x.1 = x.2
            · have d8 : decide (x.1 = x.2) = true := decide_eq_true e5
              simp (disch := omega) only [f7_r2, f7_r3, f7_r4, f7_r5, f7_rs, Option.some.injEq, exists_eq_left', Nat.reduceEqDiff, ↓reduceIte, Bool.false_eq_true, Bool.not_true, Bool.not_false, g0, g1, g5, hlen, d3, hvb, pa, pc, pd, d4, d5, d6, d7, d8, bz]
              exact hno _ (fun h => h.1.1.2.2 e5) hG
            · have d8 : decide (x.1 = x.2) = false := decide_eq_false e5
              have hps : V.agg [.i .i64 x.2, .i .i64 x.1] = pV (x.2, x.1) := rfl
              simp (disch := omega) only [f7_r2, f7_r3, f7_r4, xg_build, Nat.reduceEqDiff, ↓reduceIte, Bool.false_eq_true, Bool.not_false, g0, g1, g5, hlen, d3, hvb, pa, pc, pd, d4, d5, d6, d7, d8, hps, bz]
              refine (callP_0 (ef := f36) k.c36 rfl (f36_ret hv1 hP (x := (x.2, x.1)) ⟨hxI.2, hxI.1⟩ (by omega) hc1)).mono ?_
              rintro r h2 ⟨rfl, g2⟩
              have hc2 := g2.hc hc1
              have hG2 := hG.trans (g2.low hG.nx)
              have hv2 := hv1.grow hc1 g2
              cases hm : decide ((x.2, x.1) ∈ P) with
              | true =>
                simp (disch := omega) only [f7_r5, f7_rs, Option.some.injEq, exists_eq_left', Nat.reduceEqDiff, ↓reduceIte, Bool.false_eq_true, Bool.not_true, bz]
                exact hno _ (fun h => h.2.1 (of_decide_eq_true hm)) hG2
              | false =>
                have hm := of_decide_eq_false hm
                -- what is left to say of this pair
                have inner : (0 < i → bfB (P.getD (i - 1) (0, 0)) x = true) → ∀ (fr : Fr) (hh : H), Grow h.nx.nat h hh → fr.get (K.ofNat 0) = some (.i .i64 n) ∧ fr.get (K.ofNat 1) = some (v) ∧ fr.get (K.ofNat 5) = some (.i .i64 (i : Int)) ∧ fr.get (K.ofNat 6) = some (.i .i64 x.1) ∧ fr.get (K.ofNat 7) = some (.i .i64 x.2) →
                    W fs none (.reg f7_r6) (seqK (W fs none (.block 2 (.loop f7_l0))) (atK 1 (seqK (W fs none (.reg f7_r11)) (loopK (f7_I h n v P) (fun i => P.length - i) i (atK 0 (seqK (W fs none (.seq (.reg f7_r12) .ret)) (retK f7 fun r h' => ∃ b, r = .b b ∧ (b = true ↔ risB n P = true ∧ trB (relR P) = true) ∧ Grow h.nx.nat h h'))))))) fr hh := by
                  clear g0 g1 g5 fr
                  rintro hbf fr hh hGh ⟨g0, g1, g5, g6, g7⟩
                  simp (disch := omega) only [f7_r6, bz]
                  refine W_loop (f7_J h n v P i x) (fun t => P.length - t) ?_ 0 ⟨by omega, fun j hj => by omega, hGh, by simp (disch := omega) only [getK_set, Nat.reduceEqDiff, ↓reduceIte, g0, g1, g5, g6, g7, and_self, Int.natCast_zero]⟩
                  clear g0 g1 g5 g6 g7 fr
                  rintro t fr h3 ⟨ht, hkt, hG3, g0, g1, g5, g6, g7, g8⟩
                  have hc3 := hG3.hc hc
                  have hv3 := hv.grow hc hG3
                  unfold f7_l0
                  by_cases htl : t < P.length
                  · have dt : decide ((t : Int) < (P.length : Int)) = true := decide_eq_true (by omega)
                    obtain ⟨idt, qt, ta, tb, tc, td⟩ := hv3.at2 htl
                    have hgt := gd_at htl
                    have hyI := hP P[t] (List.getElem_mem _)
                    have hyM : P[t] ∈ P := List.getElem_mem _
                    generalize hy : P[t] = y at *
                    have step : (y.1 = x.2 → (x.1, y.2) ∈ P) → ∀ j, j < t + 1 → (P.getD j (0, 0)).1 = x.2 → (x.1, (P.getD j (0, 0)).2) ∈ P := fun hs j hj => by
                      by_cases e : j = t
                      · subst e; rw [hgt]; exact hs
                      · exact hkt j (by omega)
                    by_cases e6 : y.1 = x.2
                    · have d9 : decide (y.1 = x.2) = true := decide_eq_true e6
                      have hpy : V.agg [.i .i64 x.1, .i .i64 y.2] = pV (x.1, y.2) := rfl
                      simp (disch := omega) only [f7_r7, f7_r8, Nat.reduceEqDiff, ↓reduceIte, g1, g6, g7, g8, hlen, dt, ta, tc, td, d9, hpy, bz]
                      refine (callP_0 (ef := f36) k.c36 rfl (f36_ret hv3 hP (x := (x.1, y.2)) ⟨hxI.1, hyI.2⟩ (by omega) hc3)).mono ?_
                      rintro r h4 ⟨rfl, g4⟩
                      have hG4 := hG3.trans (g4.low hG3.nx)
                      cases hm2 : decide ((x.1, y.2) ∈ P) with
                      | false =>
                        simp (disch := omega) only [f7_r9, f7_rs, Option.some.injEq, exists_eq_left', Nat.reduceEqDiff, ↓reduceIte, Bool.not_false, bz]
                        exact hno _ (fun h => of_decide_eq_false hm2 (h.2.2 y hyM e6)) hG4
                      | true =>
                        simp (disch := omega) only [f7_r10, Nat.reduceEqDiff, ↓reduceIte, Bool.false_eq_true, Bool.not_true, g8, bz]
                        exact ⟨t + 1, by omega, by omega, step fun _ => of_decide_eq_true hm2, hG4, by simp (disch := omega) only [getK_set, Nat.reduceEqDiff, ↓reduceIte, g0, g1, g5, g6, g7, and_self, Int.natCast_add, Int.natCast_one]⟩
                    · have d9 : decide (y.1 = x.2) = false := decide_eq_false e6
                      simp (disch := omega) only [f7_r7, f7_r8, f7_r10, Nat.reduceEqDiff, ↓reduceIte, Bool.false_eq_true, g1, g7, g8, hlen, dt, ta, tc, d9, bz]
                      exact ⟨t + 1, by omega, by omega, step fun h => absurd h e6, hG3, by simp (disch := omega) only [getK_set, Nat.reduceEqDiff, ↓reduceIte, g0, g1, g5, g6, g7, and_self, Int.natCast_add, Int.natCast_one]⟩
                  · have dt : decide ((t : Int) < (P.length : Int)) = false := decide_eq_false (by omega)
                    simp (disch := omega) only [f7_r7, f7_r11, Nat.reduceEqDiff, ↓reduceIte, Bool.false_eq_true, g1, g5, g8, hlen, dt, bz]
                    refine ⟨i + 1, by omega, by omega, fun j hj => ?_, hG3, by simp (disch := omega) only [getK_set, Nat.reduceEqDiff, ↓reduceIte, g0, g1, and_self, Int.natCast_add, Int.natCast_one]⟩
                    by_cases e : j = i
                    · subst e
                      refine hev ⟨⟨⟨by omega, by omega⟩, ⟨by omega, by omega⟩, e5⟩, hbf⟩ hm fun y hy => ?_
                      obtain ⟨s, hs, rfl⟩ := List.getElem_of_mem hy
                      have := hkt s (by omega)
                      rw [gd_at hs] at this
                      exact this
                    · exact hok j (by omega)
                by_cases h0 : 0 < i
                · have d9 : decide (0 < (i : Int)) = true := decide_eq_true (by omega)
                  obtain ⟨j, rfl⟩ : ∃ j, i = j + 1 := ⟨i - 1, by omega⟩
                  have hj1 : ((j + 1 : Nat) : Int) - 1 = (j : Int) := by omega
                  have hjl : j < P.length := by omega
                  obtain ⟨id2, q2, wa, wb, _, _⟩ := hv2.at2 hjl
                  obtain ⟨id3, q3, xa, xb, _, _⟩ := hv2.at2 hlt
                  rw [hx] at xb
                  have hgj := gd_at hjl
                  have hpw : V.agg [.i .i64 P[j].1, .i .i64 P[j].2] = pV P[j] := rfl
                  have hpx : V.agg [.i .i64 x.1, .i .i64 x.2] = pV x := rfl
                  simp (disch := omega) only [bin_sub, Nat.reduceEqDiff, ↓reduceIte, Bool.false_eq_true, Bool.not_false, g1, g5, d9, hj1, wa, wb, xa, xb, hpw, hpx, bz]
                  refine (callP_0 (ef := f35) k.c35 rfl (f35_ret (x := P[j]) (y := x) hc2)).mono ?_
                  rintro r h3 ⟨rfl, g3⟩
                  have hG3 := hG2.trans (g3.low hG2.nx)
                  cases hb : bfB P[j] x with
                  | false =>
                    simp (disch := omega) only [f7_r5, f7_rs, Option.some.injEq, exists_eq_left', Nat.reduceEqDiff, ↓reduceIte, Bool.false_eq_true, Bool.not_false, bz]
                    refine hno _ (fun h => ?_) hG3
                    have := h.1.2 (by omega)
                    rw [Nat.add_sub_cancel, hgj, hb] at this
                    cases this
                  | true =>
                    simp (disch := omega) only [Nat.reduceEqDiff, ↓reduceIte, Bool.false_eq_true, Bool.not_true, Bool.not_false, bz]
                    exact inner (fun _ => by rw [Nat.add_sub_cancel, hgj]; exact hb) _ _ hG3 (by simp (disch := omega) only [getK_set, Nat.reduceEqDiff, ↓reduceIte, g0, g1, g5, and_self])
                · have d9 : decide (0 < (i : Int)) = false := decide_eq_false (by omega)
                  simp (disch := omega) only [Nat.reduceEqDiff, ↓reduceIte, Bool.false_eq_true, Bool.not_false, g5, d9, bz]
                  exact inner (fun h => absurd h h0) _ _ hG2 (by simp (disch := omega) only [getK_set, Nat.reduceEqDiff, ↓reduceIte, g0, g1, g5, and_self])
  · have d3 : decide ((i : Int) < (P.length : Int)) = false := decide_eq_false (by omega)
    simp (disch := omega) only [f7_r2, f7_r12, f7_rs, Option.some.injEq, exists_eq_left', Nat.reduceEqDiff, ↓reduceIte, Bool.false_eq_true, g1, g5, hlen, d3, bz]
    exact ⟨true, rfl, ⟨fun _ => (ioAt_iff hn).1 fun j hj => hok j (by omega), fun _ => rfl⟩, hG⟩
/-! ### Where there is an error -/
structure CallsEr (fs : T EF) : Prop extends CallsCk fs where
  c8 : fs.get (K.ofNat 8) = some f8
  c9 : fs.get (K.ofNat 9) = some f9
  c43 : fs.get (K.ofNat 43) = some f43
theorem f43_e {n : Int} {v w : V} {P : List (Int × Int)} (k : CallsEr fs) (hv : Srp h v P) (hl : P.length ≤ 1000) (hw : chkG n P ≠ 0) (hc : HC h) : Ret fs f43 [.i .i64 n, v, w] h fun r h' => r = .i .i64 (chkG n P) ∧ Grow h.nx.nat h h' := by
  apply ret_of rfl
  show W fs none f43_c _ _ _
  unfold f43_c
  have d : decide (chkG n P ≠ 0) = true := decide_eq_true hw
  simp (disch := omega) only [f43_r0, f43_r1, Nat.reduceEqDiff, ↓reduceIte, bz]
  refine (callP_0 (ef := f8) k.c8 rfl (f8_ret k.toCallsCk hv (by omega) hc)).mono ?_
  rintro r h1 ⟨rfl, g1⟩
  simp (disch := omega) only [f43_r2, f43_r3, f43_rs, Option.some.injEq, exists_eq_left', Nat.reduceEqDiff, ↓reduceIte, d, bz]
  exact g1
theorem f10_e {n : Int} {v : V}  {P : List (Int × Int)} (k : CallsEr fs) (hv : Srp h v P) (hl : P.length ≤ 1000) (hw : chkG n P ≠ 0) (hc : HC h) : Ret fs f10 [.i .i64 n, v] h fun r h' => r = .tup [.sn, .i .i64 (chkG n P)] ∧ Grow h.nx.nat h h' := by
  apply ret_of rfl
  show W fs none f10_c _ _ _
  unfold f10_c
  have d : decide (chkG n P ≠ 0) = true := decide_eq_true hw
  simp (disch := omega) only [f10_r0, f10_r1, Nat.reduceEqDiff, ↓reduceIte, bz]
  refine (callP_0 (ef := f8) k.c8 rfl (f8_ret k.toCallsCk hv (by omega) hc)).mono ?_
  rintro r h1 ⟨rfl, g1⟩
  simp (disch := omega) only [f10_r2, f10_r3, f10_rs, Option.some.injEq, exists_eq_left', Nat.reduceEqDiff, ↓reduceIte, d, bz]
  exact g1
theorem f13_e {n : Int} {v : V}  {P : List (Int × Int)} (k : CallsEr fs) (hv : Srp h v P) (hl : P.length ≤ 1000) (hw : chkG n P ≠ 0) (hc : HC h) : Ret fs f13 [.i .i64 n, v] h fun r h' => r = .tup [.i .i64 0, .i .i64 (chkG n P)] ∧ Grow h.nx.nat h h' := by
  apply ret_of rfl
  show W fs none f13_c _ _ _
  unfold f13_c
  have d : decide (chkG n P ≠ 0) = true := decide_eq_true hw
  simp (disch := omega) only [f13_r0, f13_r1, Nat.reduceEqDiff, ↓reduceIte, bz]
  refine (callP_0 (ef := f8) k.c8 rfl (f8_ret k.toCallsCk hv (by omega) hc)).mono ?_
  rintro r h1 ⟨rfl, g1⟩
  simp (disch := omega) only [f13_r2, f13_r3, f13_rs, Option.some.injEq, exists_eq_left', Nat.reduceEqDiff, ↓reduceIte, d, bz]
  exact g1
theorem f14_e {n : Int} {v : V}  {P : List (Int × Int)} (k : CallsEr fs) (hv : Srp h v P) (hl : P.length ≤ 1000) (hw : chkG n P ≠ 0) (hc : HC h) : Ret fs f14 [.i .i64 n, v] h fun r h' => r = .tup [.sn, .b false, .i .i64 (chkG n P)] ∧ Grow h.nx.nat h h' := by
  apply ret_of rfl
  show W fs none f14_c _ _ _
  unfold f14_c
  have d : decide (chkG n P ≠ 0) = true := decide_eq_true hw
  simp (disch := omega) only [f14_r0, f14_r1, Nat.reduceEqDiff, ↓reduceIte, bz]
  refine (callP_0 (ef := f8) k.c8 rfl (f8_ret k.toCallsCk hv (by omega) hc)).mono ?_
  rintro r h1 ⟨rfl, g1⟩
  simp (disch := omega) only [f14_r2, f14_r3, f14_rs, Option.some.injEq, exists_eq_left', Nat.reduceEqDiff, ↓reduceIte, d, bz]
  exact g1
theorem f15_e {n : Int} {v : V}  {P : List (Int × Int)} (k : CallsEr fs) (hv : Srp h v P) (hl : P.length ≤ 1000) (hw : chkG n P ≠ 0) (hc : HC h) : Ret fs f15 [.i .i64 n, v] h fun r h' => r = .tup [.sn, .b false, .i .i64 (chkG n P)] ∧ Grow h.nx.nat h h' := by
  apply ret_of rfl
  show W fs none f15_c _ _ _
  unfold f15_c
  have d : decide (chkG n P ≠ 0) = true := decide_eq_true hw
  simp (disch := omega) only [f15_r0, f15_r1, Nat.reduceEqDiff, ↓reduceIte, bz]
  refine (callP_0 (ef := f8) k.c8 rfl (f8_ret k.toCallsCk hv (by omega) hc)).mono ?_
  rintro r h1 ⟨rfl, g1⟩
  simp (disch := omega) only [f15_r2, f15_r3, f15_rs, Option.some.injEq, exists_eq_left', Nat.reduceEqDiff, ↓reduceIte, d, bz]
  exact g1
theorem f16_e {n : Int} {v : V} {w : V} {P : List (Int × Int)} (k : CallsEr fs) (hv : Srp h v P) (hl : P.length ≤ 1000) (hw : chkG n P ≠ 0) (hc : HC h) : Ret fs f16 [.i .i64 n, v, w] h fun r h' => r = .tup [.b false, .i .i64 (chkG n P)] ∧ Grow h.nx.nat h h' := by
  apply ret_of rfl
  show W fs none f16_c _ _ _
  unfold f16_c
  have d : decide (chkG n P ≠ 0) = true := decide_eq_true hw
  simp (disch := omega) only [f16_r0, f16_r1, Nat.reduceEqDiff, ↓reduceIte, bz]
  refine (callP_0 (ef := f8) k.c8 rfl (f8_ret k.toCallsCk hv (by omega) hc)).mono ?_
  rintro r h1 ⟨rfl, g1⟩
  simp (disch := omega) only [f16_r2, f16_r3, f16_rs, Option.some.injEq, exists_eq_left', Nat.reduceEqDiff, ↓reduceIte, d, bz]
  exact g1
theorem f17_e {n : Int} {v : V}  {P : List (Int × Int)} (k : CallsEr fs) (hv : Srp h v P) (hl : P.length ≤ 1000) (hw : chkG n P ≠ 0) (hc : HC h) : Ret fs f17 [.i .i64 n, v] h fun r h' => r = .tup [.i .i64 0, .i .i64 (chkG n P)] ∧ Grow h.nx.nat h h' := by
  apply ret_of rfl
  show W fs none f17_c _ _ _
  unfold f17_c
  have d : decide (chkG n P ≠ 0) = true := decide_eq_true hw
  simp (disch := omega) only [f17_r0, f17_r1, Nat.reduceEqDiff, ↓reduceIte, bz]
  refine (callP_0 (ef := f8) k.c8 rfl (f8_ret k.toCallsCk hv (by omega) hc)).mono ?_
  rintro r h1 ⟨rfl, g1⟩
  simp (disch := omega) only [f17_r2, f17_r3, f17_rs, Option.some.injEq, exists_eq_left', Nat.reduceEqDiff, ↓reduceIte, d, bz]
  exact g1
theorem f19_e {n : Int} {v : V}  {P : List (Int × Int)} (k : CallsEr fs) (hv : Srp h v P) (hl : P.length ≤ 1000) (hw : ckO n P ≠ 0) (hc : HC h) : Ret fs f19 [.i .i64 n, v] h fun r h' => r = .tup [.sn, .i .i64 (ckO n P)] ∧ Grow h.nx.nat h h' := by
  apply ret_of rfl
  show W fs none f19_c _ _ _
  unfold f19_c
  have d : decide (ckO n P ≠ 0) = true := decide_eq_true hw
  simp (disch := omega) only [f19_r0, f19_r1, Nat.reduceEqDiff, ↓reduceIte, bz]
  refine (callP_0 (ef := f9) k.c9 rfl (f9_ret k.toCallsCk hv (by omega) hc)).mono ?_
  rintro r h1 ⟨rfl, g1⟩
  simp (disch := omega) only [f19_r2, f19_r3, f19_rs, Option.some.injEq, exists_eq_left', Nat.reduceEqDiff, ↓reduceIte, d, bz]
  exact g1
theorem f20_e {n : Int} {v : V}  {P : List (Int × Int)} (k : CallsEr fs) (hv : Srp h v P) (hl : P.length ≤ 1000) (hw : ckO n P ≠ 0) (hc : HC h) : Ret fs f20 [.i .i64 n, v] h fun r h' => r = .tup [.sn, .i .i64 (ckO n P)] ∧ Grow h.nx.nat h h' := by
  apply ret_of rfl
  show W fs none f20_c _ _ _
  unfold f20_c
  have d : decide (ckO n P ≠ 0) = true := decide_eq_true hw
  simp (disch := omega) only [f20_r0, f20_r1, Nat.reduceEqDiff, ↓reduceIte, bz]
  refine (callP_0 (ef := f9) k.c9 rfl (f9_ret k.toCallsCk hv (by omega) hc)).mono ?_
  rintro r h1 ⟨rfl, g1⟩
  simp (disch := omega) only [f20_r2, f20_r3, f20_rs, Option.some.injEq, exists_eq_left', Nat.reduceEqDiff, ↓reduceIte, d, bz]
  exact g1
theorem f21_e {n : Int} {v : V}  {P : List (Int × Int)} (k : CallsEr fs) (hv : Srp h v P) (hl : P.length ≤ 1000) (hw : ckO n P ≠ 0) (hc : HC h) : Ret fs f21 [.i .i64 n, v] h fun r h' => r = .tup [.sn, .i .i64 (ckO n P)] ∧ Grow h.nx.nat h h' := by
  apply ret_of rfl
  show W fs none f21_c _ _ _
  unfold f21_c
  have d : decide (ckO n P ≠ 0) = true := decide_eq_true hw
  simp (disch := omega) only [f21_r0, f21_r1, Nat.reduceEqDiff, ↓reduceIte, bz]
  refine (callP_0 (ef := f9) k.c9 rfl (f9_ret k.toCallsCk hv (by omega) hc)).mono ?_
  rintro r h1 ⟨rfl, g1⟩
  simp (disch := omega) only [f21_r2, f21_r3, f21_rs, Option.some.injEq, exists_eq_left', Nat.reduceEqDiff, ↓reduceIte, d, bz]
  exact g1
theorem f18_e {n : Int} {v : V} {P : List (Int × Int)} (k : CallsEr fs) (hv : Srp h v P) (hl : P.length ≤ 1000) (hw : chkG n P ≠ 0) (hc : HC h) : Ret fs f18 [.i .i64 n, v] h fun r h' => r = .tup [.agg [.sn, .sn], .b false, .i .i64 (chkG n P)] ∧ Grow h.nx.nat h h' := by
  apply ret_of rfl
  show W fs none f18_c _ _ _
  unfold f18_c
  have d : decide (chkG n P ≠ 0) = true := decide_eq_true hw
  have n1 := nx_new h (.cells 2 [.sn, .sn])
  have g1 : Grow h.nx.nat h (h.new (.cells 2 [.sn, .sn])) := Grow.new (Nat.le_refl _) _
  have e1 : (h.new (.cells 2 [.sn, .sn])).get h.nx = .cells 2 [.sn, .sn] := get_new_same
  simp (disch := omega) only [f18_r0, f18_r1, Nat.reduceEqDiff, ↓reduceIte, bz]
  generalize h.new (.cells 2 [.sn, .sn]) = h1 at *
  have hc1 := g1.hc hc
  refine (callP_0 (ef := f8) k.c8 rfl (f8_ret k.toCallsCk (hv.grow hc g1) (by omega) hc1)).mono ?_
  rintro r h2 ⟨rfl, g2⟩
  have e2 := (g2.old h.nx (by omega)).trans e1
  have st_ : storeV h2 2 (.p h.nx 0) (.agg [.sn, .sn]) = .ok undefV (h2.put h.nx (.cells 2 [.sn, .sn])) := store_p e2 (show cellsN 2 (.agg [.sn, .sn]) = some [.sn, .sn] from rfl) (by omega)
  have rd : readP (h2.put h.nx (.cells 2 [.sn, .sn])) (.p h.nx 0) (many? 2) = some (.agg [.sn, .sn]) := rd2 get_put_same
  simp (disch := omega) only [f18_r2, f18_r3, f18_rs, Option.some.injEq, exists_eq_left', Nat.reduceEqDiff, ↓reduceIte, d, st_, rd, bz]
  exact (g1.trans (g2.low g1.nx)).trans (Grow.put (Nat.le_refl _) ((g2.hc hc1).cells e2) _)
theorem f22_e {n : Int} {v : V} {P : List (Int × Int)} (k : CallsEr fs) (hv : Srp h v P) (hl : P.length ≤ 1000) (hw : ckO n P ≠ 0) (hc : HC h) : Ret fs f22 [.i .i64 n, v] h fun r h' => r = .tup [.agg [.sn, .sn], .b false, .i .i64 (ckO n P)] ∧ Grow h.nx.nat h h' := by
  apply ret_of rfl
  show W fs none f22_c _ _ _
  unfold f22_c
  have d : decide (ckO n P ≠ 0) = true := decide_eq_true hw
  have n1 := nx_new h (.cells 2 [.sn, .sn])
  have g1 : Grow h.nx.nat h (h.new (.cells 2 [.sn, .sn])) := Grow.new (Nat.le_refl _) _
  have e1 : (h.new (.cells 2 [.sn, .sn])).get h.nx = .cells 2 [.sn, .sn] := get_new_same
  simp (disch := omega) only [f22_r0, f22_r1, Nat.reduceEqDiff, ↓reduceIte, bz]
  generalize h.new (.cells 2 [.sn, .sn]) = h1 at *
  have hc1 := g1.hc hc
  refine (callP_0 (ef := f9) k.c9 rfl (f9_ret k.toCallsCk (hv.grow hc g1) (by omega) hc1)).mono ?_
  rintro r h2 ⟨rfl, g2⟩
  have e2 := (g2.old h.nx (by omega)).trans e1
  have st_ : storeV h2 2 (.p h.nx 0) (.agg [.sn, .sn]) = .ok undefV (h2.put h.nx (.cells 2 [.sn, .sn])) := store_p e2 (show cellsN 2 (.agg [.sn, .sn]) = some [.sn, .sn] from rfl) (by omega)
  have rd : readP (h2.put h.nx (.cells 2 [.sn, .sn])) (.p h.nx 0) (many? 2) = some (.agg [.sn, .sn]) := rd2 get_put_same
  simp (disch := omega) only [f22_r2, f22_r3, f22_rs, Option.some.injEq, exists_eq_left', Nat.reduceEqDiff, ↓reduceIte, d, st_, rd, bz]
  exact (g1.trans (g2.low g1.nx)).trans (Grow.put (Nat.le_refl _) ((g2.hc hc1).cells e2) _)
theorem f11_e {n x1 x2 : Int} {v : V} {P : List (Int × Int)} (k : CallsEr fs) (hv : Srp h v P) (hl : P.length ≤ 1000) (hw : chkG n P ≠ 0) (hc : HC h) : Ret fs f11 [.i .i64 n, v, pV (x1, x2), pV (x1, x2)] h fun r h' => r = .tup [.b false, .i .i64 (chkG n P)] ∧ Grow h.nx.nat h h' := by
  apply ret_of rfl
  show W fs none f11_c _ _ _
  unfold f11_c
  have d : decide (chkG n P ≠ 0) = true := decide_eq_true hw
  have cx : cellsN 2 (pV (x1, x2)) = some [.i .i64 x1, .i .i64 x2] := rfl
  have n1 := nx_new h (.cells 2 [.i .i64 x1, .i .i64 x2])
  have g1 : Grow h.nx.nat h (h.new (.cells 2 [.i .i64 x1, .i .i64 x2])) := Grow.new (Nat.le_refl _) _
  have e1 : (h.new (.cells 2 [.i .i64 x1, .i .i64 x2])).get h.nx = .cells 2 [.i .i64 x1, .i .i64 x2] := get_new_same
  simp (disch := omega) only [f11_r0, frame_4, Nat.reduceEqDiff, ↓reduceIte, cx, bz]
  generalize h.new (.cells 2 [.i .i64 x1, .i .i64 x2]) = h1 at *
  have n2 := nx_new h1 (.cells 2 [.i .i64 x1, .i .i64 x2])
  have g2 : Grow h1.nx.nat h1 (h1.new (.cells 2 [.i .i64 x1, .i .i64 x2])) := Grow.new (Nat.le_refl _) _
  have e2 : (h1.new (.cells 2 [.i .i64 x1, .i .i64 x2])).get h1.nx = .cells 2 [.i .i64 x1, .i .i64 x2] := get_new_same
  generalize h1.new (.cells 2 [.i .i64 x1, .i .i64 x2]) = h2 at *
  have gA : Grow h.nx.nat h h2 := g1.trans (g2.low (by omega))
  have hc2 := gA.hc hc
  have l1 := ldn2 ((g2.old h.nx (by omega)).trans e1)
  have l2 := ldn2 e2
  have ca : cellsN 2 (.agg [.i .i64 x1, .i .i64 x2]) = some [.i .i64 x1, .i .i64 x2] := rfl
  have g3 : Grow h2.nx.nat h2 (h2.new (.cells (2 * 2) [.i .i64 x1, .i .i64 x2, .i .i64 x1, .i .i64 x2])) := Grow.new (Nat.le_refl _) _
  have sa : setMany [V.i .i64 0, V.i .i64 0, V.i .i64 0, V.i .i64 0] 0 [V.i .i64 x1, V.i .i64 x2] = [V.i .i64 x1, V.i .i64 x2, V.i .i64 0, V.i .i64 0] := rfl
  have sb : setMany [V.i .i64 x1, V.i .i64 x2, V.i .i64 0, V.i .i64 0] 2 [V.i .i64 x1, V.i .i64 x2] = [V.i .i64 x1, V.i .i64 x2, V.i .i64 x1, V.i .i64 x2] := rfl
  simp (disch := omega) only [f11_r1, x_bslice, Nat.reduceEqDiff, ↓reduceIte, l1, l2, fill_c, ca, sa, sb, bz]
  generalize h2.new (.cells (2 * 2) [.i .i64 x1, .i .i64 x2, .i .i64 x1, .i .i64 x2]) = h3 at *
  have gB : Grow h.nx.nat h h3 := gA.trans (g3.low gA.nx)
  refine (callP_0 (ef := f43) k.c43 rfl (f43_e k (hv.grow hc gB) hl hw (gB.hc hc))).mono ?_
  rintro r h4 ⟨rfl, g4⟩
  simp (disch := omega) only [f11_r2, f11_r3, f11_rs, Option.some.injEq, exists_eq_left', Nat.reduceEqDiff, ↓reduceIte, d, bz]
  exact gB.trans (g4.low gB.nx)
theorem f12_e {n x1 x2 : Int} {v : V} {P : List (Int × Int)} (k : CallsEr fs) (hv : Srp h v P) (hl : P.length ≤ 1000) (hw : chkG n P ≠ 0) (hc : HC h) : Ret fs f12 [.i .i64 n, v, pV (x1, x2)] h fun r h' => r = .tup [.sn, .i .i64 (chkG n P)] ∧ Grow h.nx.nat h h' := by
  apply ret_of rfl
  show W fs none f12_c _ _ _
  unfold f12_c
  have d : decide (chkG n P ≠ 0) = true := decide_eq_true hw
  have cx : cellsN 2 (pV (x1, x2)) = some [.i .i64 x1, .i .i64 x2] := rfl
  have n1 := nx_new h (.cells 2 [.i .i64 x1, .i .i64 x2])
  have g1 : Grow h.nx.nat h (h.new (.cells 2 [.i .i64 x1, .i .i64 x2])) := Grow.new (Nat.le_refl _) _
  have e1 : (h.new (.cells 2 [.i .i64 x1, .i .i64 x2])).get h.nx = .cells 2 [.i .i64 x1, .i .i64 x2] := get_new_same
  simp (disch := omega) only [f12_r0, ↓reduceIte, cx, bz]
  generalize h.new (.cells 2 [.i .i64 x1, .i .i64 x2]) = h2 at *
  have hc2 := g1.hc hc
  have l1 := ldn2 e1
  have ca : cellsN 2 (.agg [.i .i64 x1, .i .i64 x2]) = some [.i .i64 x1, .i .i64 x2] := rfl
  have g3 : Grow h2.nx.nat h2 (h2.new (.cells (1 * 2) [.i .i64 x1, .i .i64 x2])) := Grow.new (Nat.le_refl _) _
  have sa : setMany [V.i .i64 0, V.i .i64 0] 0 [V.i .i64 x1, V.i .i64 x2] = [V.i .i64 x1, V.i .i64 x2] := rfl
  simp (disch := omega) only [f12_r1, x_bslice, Nat.reduceEqDiff, ↓reduceIte, l1, fill_c, ca, sa, bz]
  generalize h2.new (.cells (1 * 2) [.i .i64 x1, .i .i64 x2]) = h3 at *
  have gB : Grow h.nx.nat h h3 := g1.trans (g3.low g1.nx)
  refine (callP_0 (ef := f43) k.c43 rfl (f43_e k (hv.grow hc gB) hl hw (gB.hc hc))).mono ?_
  rintro r h4 ⟨rfl, g4⟩
  simp (disch := omega) only [f12_r2, f12_r3, f12_rs, Option.some.injEq, exists_eq_left', Nat.reduceEqDiff, ↓reduceIte, d, bz]
  exact gB.trans (g4.low gB.nx)
end
end Go.Ev
