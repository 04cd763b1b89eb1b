/-
  Steady: what is small, what is a polynomial; few, ints., and what follows.
-/
import Derived.Test.YtlnkpocijfgikaaDoorPd

namespace Go.Ev
open Go Go.RowKit
noncomputable def f97_r0 : List EOper := [oG 2 (.as (.c (.b false)))]
noncomputable def f97_r1 : List EOper := [oG 3 (.mv (tG 0)), oG 4 (.bin .lss (tG 3) (.c (.i .i64 (.negSucc 29)))), oG 5 (.mv (tG 4)), gG 6 5 false (.mv (tG 0)), gG 7 5 false (.bin .gtr (tG 6) (cG 30)), oG 8 (.pick (tG 5) (.c (.b true)) (tG 7)), oG 2 (.as (tG 8))]
noncomputable def f97_c : EC := (.seq (.reg f97_r0) (.seq (.reg f97_r1) .ret))
noncomputable def f97 : EF := ⟨9, [.tmp (.ofNat 2)], f97_c, none⟩
theorem f97_rs : f97.rs = [.tmp (.ofNat 2)] := of_eq_true (eq_self _)
noncomputable def f106_r0 : List EOper := [oG 4 (.as (cG 0))]
noncomputable def f106_r1 : List EOper := [oG 6 (.mv (tG 0)), oG 7 (.len (tG 6)), oG 8 (.mv (cG 0))]
noncomputable def f106_r2 : List EOper := [oG 9 (.bin .lss (tG 8) (tG 7))]
noncomputable def f106_r3 : List EOper := [oG 10 (.mv (tG 8)), oG 5 (.as (tG 10))]
noncomputable def f106_r4 : List EOper := [oG 11 (.mv (tG 1)), oG 12 (.mv (tG 0)), oG 13 (.mv (tG 5)), oG 14 (.iads 1 (tG 12) (tG 13)), oG 15 (.ld (tG 14)), oG 16 (.call (tG 11) [(tG 15)])]
noncomputable def f106_r5 : List EOper := [oG 17 (.mv (tG 5)), oG 4 (.as (tG 17))]
noncomputable def f106_r6 : List EOper := [oG 18 (.bin .add (tG 8) (cG 1)), oG 8 (.mv (tG 18))]
noncomputable def f106_l0 : EC := (.seq (.reg f106_r2) (.seq (.cond (tG 9) .skip (.exit 0)) (.seq (.block 1 (.seq (.reg f106_r3) (.seq (.reg f106_r4) (.cond (tG 16) (.seq (.reg f106_r5) .ret) .skip)))) (.reg f106_r6))))
noncomputable def f106_r7 : List EOper := [oG 4 (.as (.c (.i .i64 (.negSucc 0))))]
noncomputable def f106_c : EC := (.seq (.reg f106_r0) (.seq (.seq (.reg f106_r1) (.block 0 (.loop f106_l0))) (.seq (.reg f106_r7) .ret)))
noncomputable def f106 : EF := ⟨19, [.tmp (.ofNat 4)], f106_c, none⟩
theorem f106_rs : f106.rs = [.tmp (.ofNat 4)] := of_eq_true (eq_self _)
noncomputable def f96_r0 : List EOper := [oG 4 (.as (.c (.b false)))]
noncomputable def f96_r1 : List EOper := [oG 5 (.mv (tG 0)), oG 6 (.mv (tG 1)), oG 7 (.call (fG 106) [(tG 5), (tG 6)]), oG 8 (.bin .geq (tG 7) (cG 0)), oG 4 (.as (tG 8))]
noncomputable def f96_c : EC := (.seq (.reg f96_r0) (.seq (.reg f96_r1) .ret))
noncomputable def f96 : EF := ⟨9, [.tmp (.ofNat 4)], f96_c, none⟩
theorem f96_rs : f96.rs = [.tmp (.ofNat 4)] := of_eq_true (eq_self _)
noncomputable def f84_r0 : List EOper := [oG 2 (.as (.c (.b false)))]
noncomputable def f84_r1 : List EOper := [oG 3 (.mv (tG 0)), oG 4 (.call (fG 96) [(tG 3), (fG 97)]), oG 5 (.not (tG 4)), oG 2 (.as (tG 5))]
noncomputable def f84_c : EC := (.seq (.reg f84_r0) (.seq (.reg f84_r1) .ret))
noncomputable def f84 : EF := ⟨6, [.tmp (.ofNat 2)], f84_c, none⟩
theorem f84_rs : f84.rs = [.tmp (.ofNat 2)] := of_eq_true (eq_self _)
noncomputable def f54_r0 : List EOper := [oG 2 (.as (.c (.b false)))]
noncomputable def f54_r1 : List EOper := [oG 3 (.mv (tG 0)), oG 4 (.len (tG 3)), oG 5 (.bin .geq (tG 4) (cG 1)), oG 6 (.mv (tG 5)), gG 7 6 true (.mv (tG 0)), gG 8 6 true (.len (tG 7)), gG 9 6 true (.bin .leq (tG 8) (cG 6)), oG 10 (.pick (tG 6) (tG 9) (.c (.b false))), oG 11 (.mv (tG 10)), gG 12 11 true (.mv (tG 0)), gG 13 11 true (.call (fG 84) [(tG 12)]), oG 14 (.pick (tG 11) (tG 13) (.c (.b false))), oG 15 (.mv (tG 14)), gG 16 15 true (.mv (tG 0)), gG 17 15 true (.mv (tG 0)), gG 18 15 true (.len (tG 17)), gG 19 15 true (.bin .sub (tG 18) (cG 1)), gG 20 15 true (.iads 1 (tG 16) (tG 19)), gG 21 15 true (.ld (tG 20)), gG 22 15 true (.bin .neq (tG 21) (cG 0)), oG 23 (.pick (tG 15) (tG 22) (.c (.b false))), oG 2 (.as (tG 23))]
noncomputable def f54_c : EC := (.seq (.reg f54_r0) (.seq (.reg f54_r1) .ret))
noncomputable def f54 : EF := ⟨24, [.tmp (.ofNat 2)], f54_c, none⟩
theorem f54_rs : f54.rs = [.tmp (.ofNat 2)] := of_eq_true (eq_self _)
noncomputable def f14_r0 : List EOper := [oG 2 (.as (cG 0))]
noncomputable def f14_r1 : List EOper := [oG 3 (.mv (tG 0)), oG 4 (.call (fG 54) [(tG 3)]), oG 5 (.not (tG 4))]
noncomputable def f14_r2 : List EOper := [oG 2 (.as (cG 90))]
noncomputable def f14_r3 : List EOper := [oG 2 (.as (cG 0))]
noncomputable def f14_c : EC := (.seq (.reg f14_r0) (.seq (.seq (.reg f14_r1) (.cond (tG 5) (.seq (.reg f14_r2) .ret) .skip)) (.seq (.reg f14_r3) .ret)))
noncomputable def f14 : EF := ⟨6, [.tmp (.ofNat 2)], f14_c, none⟩
theorem f14_rs : f14.rs = [.tmp (.ofNat 2)] := of_eq_true (eq_self _)
noncomputable def f53_r0 : List EOper := [oG 2 (.as (.c (.b false)))]
noncomputable def f53_r1 : List EOper := [oG 3 (.as (cG 0))]
noncomputable def f53_r2 : List EOper := [oG 4 (.mv (tG 3)), oG 5 (.mv (tG 0)), oG 6 (.len (tG 5)), oG 7 (.bin .lss (tG 4) (tG 6))]
noncomputable def f53_r3 : List EOper := [oG 10 (.mv (tG 0)), oG 11 (.mv (tG 3)), oG 12 (.iads 1 (tG 10) (tG 11)), oG 13 (.ld (tG 12)), oG 14 (.bin .lss (tG 13) (.c (.i .i64 (.negSucc 29)))), oG 15 (.mv (tG 14)), gG 16 15 false (.mv (tG 0)), gG 17 15 false (.mv (tG 3)), gG 18 15 false (.iads 1 (tG 16) (tG 17)), gG 19 15 false (.ld (tG 18)), gG 20 15 false (.bin .gtr (tG 19) (cG 30)), oG 21 (.pick (tG 15) (.c (.b true)) (tG 20))]
noncomputable def f53_r4 : List EOper := [oG 2 (.as (.c (.b false)))]
noncomputable def f53_r5 : List EOper := [oG 8 (.mv (tG 3)), oG 9 (.bin .add (tG 8) (cG 1)), oG 3 (.as (tG 9))]
noncomputable def f53_l0 : EC := (.seq (.seq (.reg f53_r2) (.cond (tG 7) .skip (.exit 0))) (.seq (.block 1 (.seq (.reg f53_r3) (.cond (tG 21) (.seq (.reg f53_r4) .ret) .skip))) (.reg f53_r5)))
noncomputable def f53_r6 : List EOper := [oG 2 (.as (.c (.b true)))]
noncomputable def f53_c : EC := (.seq (.reg f53_r0) (.seq (.seq (.reg f53_r1) (.block 0 (.loop f53_l0))) (.seq (.reg f53_r6) .ret)))
noncomputable def f53 : EF := ⟨22, [.tmp (.ofNat 2)], f53_c, none⟩
theorem f53_rs : f53.rs = [.tmp (.ofNat 2)] := of_eq_true (eq_self _)
noncomputable def f13_r0 : List EOper := [oG 2 (.as (.c (.b false)))]
noncomputable def f13_r1 : List EOper := [oG 3 (.mv (tG 0)), oG 4 (.len (tG 3)), oG 5 (.bin .geq (tG 4) (cG 1)), oG 6 (.mv (tG 5)), gG 7 6 true (.mv (tG 0)), gG 8 6 true (.len (tG 7)), gG 9 6 true (.bin .leq (tG 8) (cG 6)), oG 10 (.pick (tG 6) (tG 9) (.c (.b false))), oG 11 (.mv (tG 10)), gG 12 11 true (.mv (tG 0)), gG 13 11 true (.call (fG 53) [(tG 12)]), oG 14 (.pick (tG 11) (tG 13) (.c (.b false))), oG 15 (.mv (tG 14)), gG 16 15 true (.mv (tG 0)), gG 17 15 true (.mv (tG 0)), gG 18 15 true (.len (tG 17)), gG 19 15 true (.bin .sub (tG 18) (cG 1)), gG 20 15 true (.iads 1 (tG 16) (tG 19)), gG 21 15 true (.ld (tG 20)), gG 22 15 true (.bin .neq (tG 21) (cG 0)), oG 23 (.pick (tG 15) (tG 22) (.c (.b false))), oG 2 (.as (tG 23))]
noncomputable def f13_c : EC := (.seq (.reg f13_r0) (.seq (.reg f13_r1) .ret))
noncomputable def f13 : EF := ⟨24, [.tmp (.ofNat 2)], f13_c, none⟩
theorem f13_rs : f13.rs = [.tmp (.ofNat 2)] := of_eq_true (eq_self _)
noncomputable def f12_r0 : List EOper := [oG 4 (.as (.c .sn))]
noncomputable def f12_r1 : List EOper := [oG 5 (.as (.c .sn))]
noncomputable def f12_r2 : List EOper := [oG 6 (.mv (tG 5)), oG 7 (.mv (tG 0)), oG 8 (.mv (tG 0)), oG 9 (.len (tG 8)), oG 10 (.mv (tG 1)), oG 11 (.min (tG 9) (tG 10)), oG 12 (.slice 1 (tG 7) none (some (tG 11)) none), oG 13 (.app 1 (tG 6) (tG 12)), oG 4 (.as (tG 13))]
noncomputable def f12_c : EC := (.seq (.reg f12_r0) (.seq (.reg f12_r1) (.seq (.reg f12_r2) .ret)))
noncomputable def f12 : EF := ⟨14, [.tmp (.ofNat 4)], f12_c, none⟩
theorem f12_rs : f12.rs = [.tmp (.ofNat 4)] := of_eq_true (eq_self _)
noncomputable def f31_r0 : List EOper := [oG 4 (.as (.c (.b false)))]
noncomputable def f31_r1 : List EOper := [oG 6 (.mv (tG 0)), oG 7 (.len (tG 6)), oG 8 (.mv (tG 1)), oG 9 (.len (tG 8)), oG 10 (.bin .neq (tG 7) (tG 9))]
noncomputable def f31_r2 : List EOper := [oG 4 (.as (.c (.b false)))]
noncomputable def f31_r3 : List EOper := [oG 5 (.as (cG 0))]
noncomputable def f31_r4 : List EOper := [oG 11 (.mv (tG 5)), oG 12 (.mv (tG 0)), oG 13 (.len (tG 12)), oG 14 (.bin .lss (tG 11) (tG 13))]
noncomputable def f31_r5 : List Stage := [⟨[oG 17 (.mv (tG 0)), oG 18 (.mv (tG 5)), oG 19 (.iads 1 (tG 17) (tG 18)), oG 20 (.ld (tG 19)), oG 21 (.mv (tG 1)), oG 22 (.mv (tG 5)), oG 23 (.iads 1 (tG 21) (tG 22)), oG 24 (.ld (tG 23)), oG 25 (.bin .neq (tG 20) (tG 24))], [], none, []⟩]
noncomputable def f31_r6 : List EOper := [oG 4 (.as (.c (.b false)))]
noncomputable def f31_r7 : List EOper := [oG 15 (.mv (tG 5)), oG 16 (.bin .add (tG 15) (cG 1)), oG 5 (.as (tG 16))]
noncomputable def f31_l0 : EC := (.seq (.seq (.reg f31_r4) (.cond (tG 14) .skip (.exit 0))) (.seq (.block 1 (.seq (.draw f31_r5) (.cond (tG 25) (.seq (.reg f31_r6) .ret) .skip))) (.reg f31_r7)))
noncomputable def f31_r8 : List EOper := [oG 4 (.as (.c (.b true)))]
noncomputable def f31_c : EC := (.seq (.reg f31_r0) (.seq (.seq (.reg f31_r1) (.cond (tG 10) (.seq (.reg f31_r2) .ret) .skip)) (.seq (.seq (.reg f31_r3) (.block 0 (.loop f31_l0))) (.seq (.reg f31_r8) .ret))))
noncomputable def f31 : EF := ⟨26, [.tmp (.ofNat 4)], f31_c, none⟩
theorem ng29 : Int.negSucc 29 = -30 := of_eq_true (eq_self _)
theorem ng0 : Int.negSucc 0 = -1 := of_eq_true (eq_self _)
theorem of90 : Int.ofNat 90 = 90 := of_eq_true (eq_self _)
def bigB (x : Int) : Bool := decide (x < -30) || decide (x > 30)
def smB (L : List Int) : Bool := !L.any bigB
def plB (L : List Int) : Bool := decide (1 ≤ L.length) && (decide (L.length ≤ 6) && (smB L && decide (L.getD (L.length - 1) 0 ≠ 0)))
theorem any_take {p : Int → Bool} {L : List Int} {j : Nat} (hj : j < L.length) : (L.take (j + 1)).any p = ((L.take j).any p || p L[j]) := by
  rw [List.take_succ_eq_append_getElem hj, List.any_append]; simp
section
variable {fs : T EF} {h : H} {v : V} {L : List Int}
theorem f97_ret {x : Int} : Ret fs f97 [.i .i64 x] h fun r h' => r = .b (bigB x) ∧ h' = h := by
  apply ret_of rfl
  show W fs none f97_c _ _ _
  unfold f97_c bigB
  by_cases h1 : x < -30
  · have d1 : decide (x < -30) = true := decide_eq_true h1
    simp (disch := omega) only [f97_r0, f97_r1, f97_rs, Option.some.injEq, exists_eq_left', Nat.reduceEqDiff, ↓reduceIte, Bool.false_eq_true, Bool.not_true, ng29, d1, Bool.true_or, and_self, bz]
  · have d1 : decide (x < -30) = false := decide_eq_false h1
    simp (disch := omega) only [f97_r0, f97_r1, f97_rs, Option.some.injEq, exists_eq_left', Nat.reduceEqDiff, ↓reduceIte, Bool.false_eq_true, Bool.not_false, ng29, d1, Bool.false_or, and_self, bz]
def f106_I (h0 : H) (v g : V) (L : List Int) (p : Int → Bool) (j : Nat) (fr : Fr) (h1 : H) : Prop := j ≤ L.length ∧ (L.take j).any p = false ∧ h1 = h0 ∧ fr.get (K.ofNat 0) = some (v) ∧ fr.get (K.ofNat 1) = some (g) ∧ fr.get (K.ofNat 6) = some (v) ∧ fr.get (K.ofNat 7) = some (.i .i64 (L.length : Int)) ∧ fr.get (K.ofNat 8) = some (.i .i64 (j : Int))
theorem f106_ret {g : V} {p : Int → Bool} (hv : Sr iE h v L) (hL : L.length ≤ 1000000) (hg : ∀ x, x ∈ L → ∀ P, CallP fs g [.i .i64 x] h P = P (.b (p x)) h) : Ret fs f106 [v, g] h fun r h' => (∃ n : Int, r = .i .i64 n ∧ decide (n ≥ 0) = L.any p) ∧ h' = h := by
  apply ret_of rfl
  show W fs none f106_c _ _ _
  unfold f106_c
  have e1 := hv.len
  simp (disch := omega) only [f106_r0, f106_r1, Nat.reduceEqDiff, ↓reduceIte, e1, bz]
  refine W_loop (f106_I h v g L p) (fun j => L.length - j) ?_ 0 ⟨by omega, rfl, rfl, by simp (disch := omega) only [getK_set, Nat.reduceEqDiff, ↓reduceIte, and_self, Int.natCast_zero]⟩
  rintro j fr h1 ⟨hj, ha, rfl, g0, g1, g6, g7, g8⟩
  unfold f106_l0
  by_cases hlt : j < L.length
  · have d1 : decide ((j : Int) < (L.length : Int)) = true := decide_eq_true (by omega)
    obtain ⟨q, p1, p2⟩ := hv.at j hlt
    have hgj := hg L[j] (List.getElem_mem hlt)
    have hs := any_take (p := p) hlt
    cases hp : p L[j] with
    | true =>
      rw [hp] at hgj
      have hany : L.any p = true := List.any_eq_true.2 ⟨_, List.getElem_mem hlt, hp⟩
      simp (disch := omega) only [f106_r2, f106_r3, f106_r4, f106_r5, f106_rs, atK_r, loopK_r, Option.some.injEq, exists_eq_left', Nat.reduceEqDiff, ↓reduceIte, g0, g1, g7, g8, d1, p1, p2, iE, hgj, bz]
      exact ⟨⟨_, rfl, by rw [hany]; exact decide_eq_true (by omega)⟩, trivial⟩
    | false =>
      rw [hp] at hgj hs
      simp (disch := omega) only [f106_r2, f106_r3, f106_r4, f106_r6, Nat.reduceEqDiff, ↓reduceIte, Bool.false_eq_true, g0, g1, g7, g8, d1, p1, p2, iE, hgj, fw64, bz]
      exact ⟨j + 1, by omega, by omega, by rw [hs, ha]; rfl, rfl, by simp (disch := omega) only [getK_set, Nat.reduceEqDiff, ↓reduceIte, g0, g1, g6, g7, and_self, Int.natCast_add, Int.natCast_one]⟩
  · have d1 : decide ((j : Int) < (L.length : Int)) = false := decide_eq_false (by omega)
    have hany : L.any p = false := by rw [← ha, List.take_of_length_le (by omega)]
    simp (disch := omega) only [f106_r2, f106_r7, f106_rs, Option.some.injEq, exists_eq_left', ↓reduceIte, Bool.false_eq_true, g7, g8, d1, ng0, bz]
    exact ⟨⟨_, rfl, by rw [hany]; exact decide_eq_false (by omega)⟩, trivial⟩
theorem f96_ret {g : V} {p : Int → Bool} (h106 : fs.get (.ofNat 106) = some f106) (hv : Sr iE h v L) (hL : L.length ≤ 1000000) (hg : ∀ x, x ∈ L → ∀ P, CallP fs g [.i .i64 x] h P = P (.b (p x)) h) : Ret fs f96 [v, g] h fun r h' => r = .b (L.any p) ∧ h' = h := by
  apply ret_of rfl
  show W fs none f96_c _ _ _
  unfold f96_c
  simp (disch := omega) only [f96_r0, f96_r1, Nat.reduceEqDiff, ↓reduceIte, bz]
  refine (callP_0 (ef := f106) h106 rfl (f106_ret hv hL hg)).mono ?_
  rintro r h' ⟨⟨n, rfl, hn⟩, rfl⟩
  simp (disch := omega) only [f96_rs, Option.some.injEq, exists_eq_left', ↓reduceIte, hn, and_self, bz]
structure CSm (fs : T EF) : Prop where
  c97 : fs.get (K.ofNat 97) = some f97
  c106 : fs.get (K.ofNat 106) = some f106
  c96 : fs.get (K.ofNat 96) = some f96
  c84 : fs.get (K.ofNat 84) = some f84
theorem callP_eq2 {f : V} {args : List V} {u : V} {P : V → H → Prop} (hr : CallP fs f args h fun r h' => r = u ∧ h' = h) : CallP fs f args h P = P u h := by
  apply propext
  obtain ⟨n, v, h', e, rfl, rfl⟩ := hr
  constructor
  · rintro ⟨n2, v2, h2, e2, hp⟩
    have a1 := callV_le (eval_le fs (Nat.le_max_left n n2)) _ _ _ _ _ e
    have a2 := callV_le (eval_le fs (Nat.le_max_right n n2)) _ _ _ _ _ e2
    rw [a1] at a2
    cases a2; exact hp
  · intro hp; exact ⟨n, _, _, e, hp⟩
theorem f84_ret (k : CSm fs) (hv : Sr iE h v L) (hL : L.length ≤ 1000000) : Ret fs f84 [v] h fun r h' => r = .b (smB L) ∧ h' = h := by
  apply ret_of rfl
  show W fs none f84_c _ _ _
  unfold f84_c
  simp (disch := omega) only [f84_r0, f84_r1, Nat.reduceEqDiff, ↓reduceIte, bz]
  refine (callP_0 (ef := f96) k.c96 rfl (f96_ret (p := bigB) k.c106 hv hL fun x _ P => callP_eq2 ((callP_0 (ef := f97) k.c97 rfl f97_ret)))).mono ?_
  rintro r h' ⟨rfl, rfl⟩
  simp (disch := omega) only [f84_rs, Option.some.injEq, exists_eq_left', ↓reduceIte, smB, and_self, bz]
theorem f84_eq (k : CSm fs) (hv : Sr iE h v L) (hL : L.length ≤ 1000000) {P : V → H → Prop} : CallP fs (.fn (.ofNat 84) []) [v] h P = P (.b (smB L)) h := callP_eq2 (callP_0 k.c84 rfl (f84_ret k hv hL))
def f53_I (h0 : H) (v : V) (L : List Int) (j : Nat) (fr : Fr) (h1 : H) : Prop := j ≤ L.length ∧ (L.take j).any bigB = false ∧ h1 = h0 ∧ fr.get (K.ofNat 0) = some (v) ∧ fr.get (K.ofNat 3) = some (.i .i64 (j : Int))
theorem f53_ret (hv : Sr iE h v L) (hL : L.length ≤ 1000000) : Ret fs f53 [v] h fun r h' => r = .b (smB L) ∧ h' = h := by
  apply ret_of rfl
  show W fs none f53_c _ _ _
  unfold f53_c
  have e1 := hv.len
  simp (disch := omega) only [f53_r0, f53_r1, bz]
  refine W_loop (f53_I h v L) (fun j => L.length - j) ?_ 0 ⟨by omega, rfl, rfl, by simp (disch := omega) only [getK_set, Nat.reduceEqDiff, ↓reduceIte, and_self, Int.natCast_zero]⟩
  rintro j fr h1 ⟨hj, ha, rfl, g0, g3⟩
  unfold f53_l0
  by_cases hlt : j < L.length
  · have d1 : decide ((j : Int) < (L.length : Int)) = true := decide_eq_true (by omega)
    obtain ⟨q, p1, p2⟩ := hv.at j hlt
    have hs := any_take (p := bigB) hlt
    generalize hx : L[j] = x at *
    have yes : bigB x = true → smB L = false := fun hp => by
      have hany : L.any bigB = true := List.any_eq_true.2 ⟨_, List.getElem_mem hlt, by rw [hx]; exact hp⟩
      unfold smB; rw [hany]; rfl
    by_cases h1 : x < -30
    · have d2 : decide (x < -30) = true := decide_eq_true h1
      have := yes (by unfold bigB; rw [d2]; rfl)
      simp (disch := omega) only [f53_r2, f53_r3, f53_r4, f53_rs, atK_r, loopK_r, Option.some.injEq, exists_eq_left', Nat.reduceEqDiff, ↓reduceIte, Bool.false_eq_true, Bool.not_true, g0, g3, e1, d1, p1, p2, iE, ng29, d2, this, and_self, bz]
    · have d2 : decide (x < -30) = false := decide_eq_false h1
      by_cases h2 : x > 30
      · have d3 : decide (x > 30) = true := decide_eq_true h2
        have := yes (by unfold bigB; rw [d3, Bool.or_true])
        simp (disch := omega) only [f53_r2, f53_r3, f53_r4, f53_rs, atK_r, loopK_r, Option.some.injEq, exists_eq_left', Nat.reduceEqDiff, ↓reduceIte, Bool.false_eq_true, Bool.not_false, g0, g3, e1, d1, p1, p2, iE, ng29, d2, d3, this, and_self, bz]
      · have d3 : decide (x > 30) = false := decide_eq_false h2
        rw [show bigB x = false by unfold bigB; rw [d2, d3]; rfl] at hs
        simp (disch := omega) only [f53_r2, f53_r3, f53_r5, Nat.reduceEqDiff, ↓reduceIte, Bool.false_eq_true, Bool.not_false, g0, g3, e1, d1, p1, p2, iE, ng29, d2, d3, fw64, bz]
        exact ⟨j + 1, by omega, by omega, by rw [hs, ha]; rfl, rfl, by simp (disch := omega) only [getK_set, Nat.reduceEqDiff, ↓reduceIte, g0, and_self, Int.natCast_add, Int.natCast_one]⟩
  · have d1 : decide ((j : Int) < (L.length : Int)) = false := decide_eq_false (by omega)
    have hany : smB L = true := by unfold smB; rw [List.take_of_length_le (by omega)] at ha; rw [ha]; rfl
    simp (disch := omega) only [f53_r2, f53_r6, f53_rs, Option.some.injEq, exists_eq_left', Nat.reduceEqDiff, ↓reduceIte, Bool.false_eq_true, g0, g3, e1, d1, hany, and_self, bz]
theorem f53_eq (k : fs.get (.ofNat 53) = some f53) (hv : Sr iE h v L) (hL : L.length ≤ 1000000) {P : V → H → Prop} : CallP fs (.fn (.ofNat 53) []) [v] h P = P (.b (smB L)) h := callP_eq2 (callP_0 k rfl (f53_ret hv hL))
theorem getD_at0 {L : List Int} {i : Nat} (hi : i < L.length) : L.getD i 0 = L[i] := by rw [List.getD_eq_getElem?_getD, List.getElem?_eq_getElem hi]; rfl
theorem f54_ret (k : CSm fs) (hv : Sr iE h v L) (hL : L.length ≤ 1000000) : Ret fs f54 [v] h fun r h' => r = .b (plB L) ∧ h' = h := by
  apply ret_of rfl
  show W fs none f54_c _ _ _
  unfold f54_c plB
  have e1 := hv.len
  have e2 := fun P => f84_eq k hv hL (P := P)
  by_cases h1 : 1 ≤ L.length
  · have d1 : decide ((L.length : Int) ≥ 1) = true := decide_eq_true (by omega)
    have b1 : decide (1 ≤ L.length) = true := decide_eq_true h1
    by_cases h2 : L.length ≤ 6
    · have d2 : decide ((L.length : Int) ≤ 6) = true := decide_eq_true (by omega)
      have b2 : decide (L.length ≤ 6) = true := decide_eq_true h2
      cases hs : smB L with
      | false =>
        simp (disch := omega) only [f54_r0, f54_r1, f54_rs, Option.some.injEq, exists_eq_left', Nat.reduceEqDiff, ↓reduceIte, Bool.false_eq_true, e1, e2, d1, d2, b1, b2, hs, Bool.true_and, Bool.false_and, and_self, bz]
      | true =>
        obtain ⟨q, p1, p2⟩ := hv.at (L.length - 1) (by omega)
        have ei : (L.length : Int) - 1 = ((L.length - 1 : Nat) : Int) := by omega
        simp (disch := omega) only [f54_r0, f54_r1, f54_rs, Option.some.injEq, exists_eq_left', Nat.reduceEqDiff, ↓reduceIte, e1, e2, d1, d2, b1, b2, hs, ei, fw64, p1, p2, iE, getD_at0, Bool.true_and, and_self, bz]
    · have d2 : decide ((L.length : Int) ≤ 6) = false := decide_eq_false (by omega)
      have b2 : decide (L.length ≤ 6) = false := decide_eq_false h2
      simp (disch := omega) only [f54_r0, f54_r1, f54_rs, Option.some.injEq, exists_eq_left', Nat.reduceEqDiff, ↓reduceIte, Bool.false_eq_true, e1, d1, d2, b1, b2, Bool.true_and, Bool.false_and, and_self, bz]
  · have d1 : decide ((L.length : Int) ≥ 1) = false := decide_eq_false (by omega)
    have b1 : decide (1 ≤ L.length) = false := decide_eq_false h1
    simp (disch := omega) only [f54_r0, f54_r1, f54_rs, Option.some.injEq, exists_eq_left', Nat.reduceEqDiff, ↓reduceIte, Bool.false_eq_true, e1, d1, b1, Bool.false_and, and_self, bz]
theorem f54_eq (k : CSm fs) (h54 : fs.get (.ofNat 54) = some f54) (hv : Sr iE h v L) (hL : L.length ≤ 1000000) {P : V → H → Prop} : CallP fs (.fn (.ofNat 54) []) [v] h P = P (.b (plB L)) h := callP_eq2 (callP_0 h54 rfl (f54_ret k hv hL))
theorem f13_ret (k : fs.get (.ofNat 53) = some f53) (hv : Sr iE h v L) (hL : L.length ≤ 1000000) : Ret fs f13 [v] h fun r h' => r = .b (plB L) ∧ h' = h := by
  apply ret_of rfl
  show W fs none f13_c _ _ _
  unfold f13_c plB
  have e1 := hv.len
  have e2 := fun P => f53_eq k hv hL (P := P)
  by_cases h1 : 1 ≤ L.length
  · have d1 : decide ((L.length : Int) ≥ 1) = true := decide_eq_true (by omega)
    have b1 : decide (1 ≤ L.length) = true := decide_eq_true h1
    by_cases h2 : L.length ≤ 6
    · have d2 : decide ((L.length : Int) ≤ 6) = true := decide_eq_true (by omega)
      have b2 : decide (L.length ≤ 6) = true := decide_eq_true h2
      cases hs : smB L with
      | false =>
        simp (disch := omega) only [f13_r0, f13_r1, f13_rs, Option.some.injEq, exists_eq_left', Nat.reduceEqDiff, ↓reduceIte, Bool.false_eq_true, e1, e2, d1, d2, b1, b2, hs, Bool.true_and, Bool.false_and, and_self, bz]
      | true =>
        obtain ⟨q, p1, p2⟩ := hv.at (L.length - 1) (by omega)
        have ei : (L.length : Int) - 1 = ((L.length - 1 : Nat) : Int) := by omega
        simp (disch := omega) only [f13_r0, f13_r1, f13_rs, Option.some.injEq, exists_eq_left', Nat.reduceEqDiff, ↓reduceIte, e1, e2, d1, d2, b1, b2, hs, ei, fw64, p1, p2, iE, getD_at0, Bool.true_and, and_self, bz]
    · have d2 : decide ((L.length : Int) ≤ 6) = false := decide_eq_false (by omega)
      have b2 : decide (L.length ≤ 6) = false := decide_eq_false h2
      simp (disch := omega) only [f13_r0, f13_r1, f13_rs, Option.some.injEq, exists_eq_left', Nat.reduceEqDiff, ↓reduceIte, Bool.false_eq_true, e1, d1, d2, b1, b2, Bool.true_and, Bool.false_and, and_self, bz]
  · have d1 : decide ((L.length : Int) ≥ 1) = false := decide_eq_false (by omega)
    have b1 : decide (1 ≤ L.length) = false := decide_eq_false h1
    simp (disch := omega) only [f13_r0, f13_r1, f13_rs, Option.some.injEq, exists_eq_left', Nat.reduceEqDiff, ↓reduceIte, Bool.false_eq_true, e1, d1, b1, Bool.false_and, and_self, bz]
def ckI (L : List Int) : Int := if plB L = true then 0 else 90
theorem f14_ret (k : CSm fs) (h54 : fs.get (.ofNat 54) = some f54) (hv : Sr iE h v L) (hL : L.length ≤ 1000000) : Ret fs f14 [v] h fun r h' => r = .i .i64 (ckI L) ∧ h' = h := by
  apply ret_of rfl
  show W fs none f14_c _ _ _
  unfold f14_c ckI
  have e2 := fun P => f54_eq k h54 hv hL (P := P)
  cases hp : plB L with
  | true => simp (disch := omega) only [f14_r0, f14_r1, f14_r3, f14_rs, Option.some.injEq, exists_eq_left', Nat.reduceEqDiff, ↓reduceIte, Bool.false_eq_true, Bool.not_true, e2, hp, and_self, bz]
  | false => simp (disch := omega) only [f14_r0, f14_r1, f14_r2, f14_rs, Option.some.injEq, exists_eq_left', Nat.reduceEqDiff, ↓reduceIte, Bool.false_eq_true, Bool.not_false, e2, hp, of90, and_self, bz]
theorem f14_eq (k : CSm fs) (h54 : fs.get (.ofNat 54) = some f54) (h14 : fs.get (.ofNat 14) = some f14) (hv : Sr iE h v L) (hL : L.length ≤ 1000000) {P : V → H → Prop} : CallP fs (.fn (.ofNat 14) []) [v] h P = P (.i .i64 (ckI L)) h := callP_eq2 (callP_0 h14 rfl (f14_ret k h54 hv hL))
theorem f12_ret {m : Nat} (hv : Sr iE h v L) (hc : HC h) (hm : m ≤ 1000000) : Ret fs f12 [v, .i .i64 (m : Int)] h fun u h' => Sl iE h' u (L.take m) ∧ Own h.nx.nat u ∧ Grow h.nx.nat h h' := by
  apply ret_of rfl
  show W fs none f12_c _ _ _
  unfold f12_c
  have hmin : min (L.length : Int) (m : Int) = ((min L.length m : Nat) : Int) := by omega
  obtain ⟨v', p1, p2, _⟩ := hv.cut (lo := none) (hi := some (.i .i64 ((min L.length m : Nat) : Int))) (l := 0) (u := min L.length m) bnd_none bnd_i (by omega) (by omega)
  rw [List.drop_zero, show L.take (min L.length m) = L.take m by rw [Nat.min_comm, List.take_eq_take_iff]; omega] at p2
  obtain ⟨v2, h2, q1, q2, q3, q4, _⟩ := Sl.appR (e := iE) (b := h.nx.nat) (v := .sn) (L := []) Sl.nil Own.sn (Nat.le_refl _) p2 hc (by simp; omega)
  simp (disch := omega) only [f12_r0, f12_r1, f12_r2, f12_rs, x_slice, sliceV_eq, Option.map_none, Option.map_some, x_app, x_min, min_ii, Option.some.injEq, exists_eq_left', Nat.reduceEqDiff, ↓reduceIte, hv.len, hmin, p1, q1, bz]
  exact ⟨by simpa using q2, q3, q4⟩
end
end Go.Ev
namespace Go.Ev
open Go Go.RowKit
noncomputable def f94_r0 : List EOper := [oG 2 (.as (cG 0))]
noncomputable def f94_r1 : List EOper := [oG 3 (.as (cG 0))]
noncomputable def f94_r2 : List EOper := [oG 6 (.mv (tG 0)), oG 7 (.len (tG 6)), oG 8 (.mv (cG 0))]
noncomputable def f94_r3 : List EOper := [oG 9 (.bin .lss (tG 8) (tG 7))]
noncomputable def f94_r4 : List EOper := [oG 10 (.iads 1 (tG 6) (tG 8)), oG 11 (.ld (tG 10)), oG 5 (.as (tG 11))]
noncomputable def f94_r5 : List EOper := [oG 12 (.mv (tG 3)), oG 13 (.mv (tG 5)), oG 14 (.bin .add (tG 12) (tG 13)), oG 3 (.as (tG 14))]
noncomputable def f94_r6 : List EOper := [oG 15 (.bin .add (tG 8) (cG 1)), oG 8 (.mv (tG 15))]
noncomputable def f94_l0 : EC := (.seq (.reg f94_r3) (.seq (.cond (tG 9) .skip (.exit 0)) (.seq (.block 1 (.seq (.reg f94_r4) (.reg f94_r5))) (.reg f94_r6))))
noncomputable def f94_r7 : List EOper := [oG 16 (.mv (tG 3)), oG 2 (.as (tG 16))]
noncomputable def f94_c : EC := (.seq (.reg f94_r0) (.seq (.reg f94_r1) (.seq (.seq (.reg f94_r2) (.block 0 (.loop f94_l0))) (.seq (.reg f94_r7) .ret))))
noncomputable def f94 : EF := ⟨17, [.tmp (.ofNat 2)], f94_c, none⟩
theorem f94_rs : f94.rs = [.tmp (.ofNat 2)] := of_eq_true (eq_self _)
noncomputable def f67_r0 : List EOper := [oG 4 (.as (.c .sn))]
noncomputable def f67_r1 : List EOper := [oG 9 (.mv (tG 0)), oG 10 (.len (tG 9)), oG 11 (.mv (tG 1)), oG 12 (.len (tG 11)), oG 13 (.bin .add (tG 10) (tG 12)), oG 14 (.bin .sub (tG 13) (cG 1)), oG 15 (.mkslice 1 [(.i .i64 (.ofNat 0))] (tG 14)), oG 5 (.as (tG 15))]
noncomputable def f67_r2 : List EOper := [oG 16 (.mv (tG 5)), oG 17 (.len (tG 16)), oG 18 (.mv (cG 0))]
noncomputable def f67_r3 : List EOper := [oG 19 (.bin .lss (tG 18) (tG 17))]
noncomputable def f67_r4 : List EOper := [oG 20 (.mv (tG 18)), oG 6 (.as (tG 20))]
noncomputable def f67_r5 : List EOper := [oG 7 (.as (.c .sn))]
noncomputable def f67_r6 : List EOper := [oG 21 (.mv (tG 6)), oG 22 (.mv (tG 1)), oG 23 (.len (tG 22)), oG 24 (.bin .sub (tG 21) (tG 23)), oG 25 (.bin .add (tG 24) (cG 1)), oG 26 (.max (cG 0) (tG 25)), oG 8 (.as (tG 26))]
noncomputable def f67_r7 : List EOper := [oG 27 (.mv (tG 8)), oG 28 (.mv (tG 6)), oG 29 (.mv (tG 0)), oG 30 (.len (tG 29)), oG 31 (.bin .sub (tG 30) (cG 1)), oG 32 (.min (tG 28) (tG 31)), oG 33 (.bin .leq (tG 27) (tG 32))]
noncomputable def f67_r8 : List Stage := [⟨[oG 36 (.mv (tG 7)), oG 37 (.mv (tG 0)), oG 38 (.mv (tG 8)), oG 39 (.iads 1 (tG 37) (tG 38)), oG 40 (.ld (tG 39)), oG 41 (.mv (tG 1)), oG 42 (.mv (tG 6)), oG 43 (.mv (tG 8)), oG 44 (.bin .sub (tG 42) (tG 43)), oG 45 (.iads 1 (tG 41) (tG 44)), oG 46 (.ld (tG 45)), oG 47 (.bin .mul (tG 40) (tG 46)), oG 48 (.bslice 1 1 [(.i .i64 (.ofNat 0))] [(0, 1, (tG 47))])], [], (some (oG 49 (.app 1 (tG 36) (tG 48)))), [(.ofNat 48)]⟩, ⟨[], [], (some (oG 7 (.as (tG 49)))), []⟩, ⟨[], [], none, []⟩]
noncomputable def f67_r9 : List EOper := [oG 34 (.mv (tG 8)), oG 35 (.bin .add (tG 34) (cG 1)), oG 8 (.as (tG 35))]
noncomputable def f67_l0 : EC := (.seq (.seq (.reg f67_r7) (.cond (tG 33) .skip (.exit 2))) (.seq (.block 3 (.draw f67_r8)) (.reg f67_r9)))
noncomputable def f67_r10 : List EOper := [oG 50 (.mv (tG 5)), oG 51 (.mv (tG 6)), oG 52 (.mv (tG 7)), oG 53 (.call (fG 94) [(tG 52)]), oG 54 (.iads 1 (tG 50) (tG 51)), ⟨none, none, .st 1 (tG 54) (tG 53)⟩]
noncomputable def f67_r11 : List EOper := [oG 55 (.bin .add (tG 18) (cG 1)), oG 18 (.mv (tG 55))]
noncomputable def f67_l1 : EC := (.seq (.reg f67_r3) (.seq (.cond (tG 19) .skip (.exit 0)) (.seq (.block 1 (.seq (.reg f67_r4) (.seq (.reg f67_r5) (.seq (.seq (.reg f67_r6) (.block 2 (.loop f67_l0))) (.reg f67_r10))))) (.reg f67_r11))))
noncomputable def f67_r12 : List EOper := [oG 56 (.mv (tG 5)), oG 4 (.as (tG 56))]
noncomputable def f67_c : EC := (.seq (.reg f67_r0) (.seq (.reg f67_r1) (.seq (.seq (.reg f67_r2) (.block 0 (.loop f67_l1))) (.seq (.reg f67_r12) .ret))))
noncomputable def f67 : EF := ⟨57, [.tmp (.ofNat 4)], f67_c, none⟩
theorem f67_rs : f67.rs = [.tmp (.ofNat 4)] := of_eq_true (eq_self _)
noncomputable def f79_r0 : List EOper := [oG 4 (.as (.c .sn))]
noncomputable def f79_r1 : List EOper := [oG 8 (.mv (tG 0)), oG 9 (.len (tG 8)), oG 10 (.mv (tG 1)), oG 11 (.len (tG 10)), oG 12 (.bin .add (tG 9) (tG 11)), oG 13 (.bin .sub (tG 12) (cG 1)), oG 14 (.mkslice 1 [(.i .i64 (.ofNat 0))] (tG 13)), oG 5 (.as (tG 14))]
noncomputable def f79_r2 : List EOper := [oG 6 (.as (cG 0))]
noncomputable def f79_r3 : List EOper := [oG 15 (.mv (tG 6)), oG 16 (.mv (tG 0)), oG 17 (.len (tG 16)), oG 18 (.bin .lss (tG 15) (tG 17))]
noncomputable def f79_r4 : List EOper := [oG 7 (.as (cG 0))]
noncomputable def f79_r5 : List EOper := [oG 21 (.mv (tG 7)), oG 22 (.mv (tG 1)), oG 23 (.len (tG 22)), oG 24 (.bin .lss (tG 21) (tG 23))]
noncomputable def f79_r6 : List Stage := [⟨[oG 27 (.mv (tG 5)), oG 28 (.mv (tG 6)), oG 29 (.mv (tG 7)), oG 30 (.bin .add (tG 28) (tG 29)), oG 31 (.mv (tG 5)), oG 32 (.mv (tG 6)), oG 33 (.mv (tG 7)), oG 34 (.bin .add (tG 32) (tG 33)), oG 35 (.iads 1 (tG 31) (tG 34)), oG 36 (.ld (tG 35)), oG 37 (.mv (tG 0)), oG 38 (.mv (tG 6)), oG 39 (.iads 1 (tG 37) (tG 38)), oG 40 (.ld (tG 39)), oG 41 (.mv (tG 1)), oG 42 (.mv (tG 7)), oG 43 (.iads 1 (tG 41) (tG 42)), oG 44 (.ld (tG 43)), oG 45 (.bin .mul (tG 40) (tG 44)), oG 46 (.bin .add (tG 36) (tG 45)), oG 47 (.iads 1 (tG 27) (tG 30))], [], (some ⟨none, none, .st 1 (tG 47) (tG 46)⟩), []⟩, ⟨[], [], none, []⟩]
noncomputable def f79_r7 : List EOper := [oG 25 (.mv (tG 7)), oG 26 (.bin .add (tG 25) (cG 1)), oG 7 (.as (tG 26))]
noncomputable def f79_l0 : EC := (.seq (.seq (.reg f79_r5) (.cond (tG 24) .skip (.exit 2))) (.seq (.block 3 (.draw f79_r6)) (.reg f79_r7)))
noncomputable def f79_r8 : List EOper := [oG 19 (.mv (tG 6)), oG 20 (.bin .add (tG 19) (cG 1)), oG 6 (.as (tG 20))]
noncomputable def f79_l1 : EC := (.seq (.seq (.reg f79_r3) (.cond (tG 18) .skip (.exit 0))) (.seq (.block 1 (.seq (.reg f79_r4) (.block 2 (.loop f79_l0)))) (.reg f79_r8)))
noncomputable def f79_r9 : List EOper := [oG 48 (.mv (tG 5)), oG 4 (.as (tG 48))]
noncomputable def f79_c : EC := (.seq (.reg f79_r0) (.seq (.reg f79_r1) (.seq (.seq (.reg f79_r2) (.block 0 (.loop f79_l1))) (.seq (.reg f79_r9) .ret))))
noncomputable def f79 : EF := ⟨49, [.tmp (.ofNat 4)], f79_c, none⟩
noncomputable def f66_r0 : List EOper := [oG 2 (.as (.c .sn)), oG 3 (.as (cG 0))]
noncomputable def f66_r1 : List EOper := [oG 4 (.mv (tG 0)), oG 5 (.call (fG 54) [(tG 4)]), oG 6 (.not (tG 5))]
noncomputable def f66_r2 : List EOper := [oG 2 (.as (.c .sn)), oG 3 (.as (cG 8))]
noncomputable def f66_r3 : List EOper := [oG 7 (.mv (tG 0)), oG 2 (.as (tG 7)), oG 3 (.as (cG 0))]
noncomputable def f66_c : EC := (.seq (.reg f66_r0) (.seq (.seq (.reg f66_r1) (.cond (tG 6) (.seq (.reg f66_r2) .ret) .skip)) (.seq (.reg f66_r3) .ret)))
noncomputable def f66 : EF := ⟨8, [.tmp (.ofNat 2), .tmp (.ofNat 3)], f66_c, none⟩
noncomputable def f23_r0 : List EOper := [oG 4 (.as (.c .sn)), oG 5 (.as (cG 0))]
noncomputable def f23_r1 : List EOper := [oG 9 (.mv (tG 0)), oG 10 (.mv (tG 1)), oG 11 (.build [.sn, .sn] [(0, 1, (tG 9)), (1, 1, (tG 10))]), oG 12 (.mv (cG 0))]
noncomputable def f23_r2 : List EOper := [oG 13 (.bin .lss (tG 12) (cG 2))]
noncomputable def f23_r3 : List EOper := [oG 14 (.ix 2 1 false (tG 11) (tG 12)), oG 7 (.as (tG 14))]
noncomputable def f23_r4 : List EOper := [oG 15 (.mv (tG 7)), oG 16 (.call (fG 14) [(tG 15)]), oG 8 (.as (tG 16))]
noncomputable def f23_r5 : List EOper := [oG 17 (.mv (tG 8)), oG 18 (.bin .neq (tG 17) (cG 0))]
noncomputable def f23_r6 : List EOper := [oG 19 (.mv (tG 8)), oG 4 (.as (.c .sn)), oG 5 (.as (tG 19))]
noncomputable def f23_r7 : List EOper := [oG 20 (.bin .add (tG 12) (cG 1)), oG 12 (.mv (tG 20))]
noncomputable def f23_l0 : EC := (.seq (.reg f23_r2) (.seq (.cond (tG 13) .skip (.exit 0)) (.seq (.block 1 (.seq (.reg f23_r3) (.seq (.reg f23_r4) (.seq (.reg f23_r5) (.cond (tG 18) (.seq (.reg f23_r6) .ret) .skip))))) (.reg f23_r7))))
noncomputable def f23_r8 : List EOper := [oG 21 (.mv (tG 0)), oG 22 (.mv (tG 1)), oG 23 (.call (fG 67) [(tG 21), (tG 22)]), oG 24 (.call (fG 66) [(tG 23)]), oG 25 (.ext (tG 24) 0), oG 26 (.ext (tG 24) 1), oG 4 (.as (tG 25)), oG 5 (.as (tG 26))]
noncomputable def f23_c : EC := (.seq (.reg f23_r0) (.seq (.seq (.reg f23_r1) (.block 0 (.loop f23_l0))) (.seq (.reg f23_r8) .ret)))
noncomputable def f23 : EF := ⟨27, [.tmp (.ofNat 4), .tmp (.ofNat 5)], f23_c, none⟩
theorem f23_rs : f23.rs = [.tmp (.ofNat 4), .tmp (.ofNat 5)] := of_eq_true (eq_self _)
def fil (L : List Int) (k : Nat) : List Int := L.take k ++ List.replicate (L.length - k) 0
theorem fil_len {L : List Int} {k : Nat} (hk : k ≤ L.length) : (fil L k).length = L.length := by simp [fil]; omega
theorem fil_set {L : List Int} {k : Nat} (hk : k < L.length) : (fil L k).set k L[k] = fil L (k + 1) := by
  unfold fil
  rw [show L.length - k = (L.length - (k + 1)) + 1 by omega, List.replicate_succ, List.set_append_right _ _ (by simp; omega), List.take_succ_eq_append_getElem hk, List.append_assoc]
  congr 1
  rw [show k - (L.take k).length = 0 by simp; omega]
  rfl
theorem fil_all {L : List Int} : fil L L.length = L := by simp [fil]
theorem fil_0 {L : List Int} : fil L 0 = List.replicate L.length 0 := by simp [fil]
theorem suN_succ {L : List Int} {j : Nat} (hj : j < L.length) : fw .i64 (suN L j + L[j]) = suN L (j + 1) := by
  unfold suN; rw [fwA]; congr 1
  show _ = sg _ j + L.getD j 0
  rw [getD_lt hj]
theorem suN_0 {L : List Int} : suN L 0 = 0 := fw_0
section
variable {fs : T EF} {h : H} {v w : V} {A B L : List Int}
def f94_I (h0 : H) (v : V) (L : List Int) (j : Nat) (fr : Fr) (h1 : H) : Prop := j ≤ L.length ∧ h1 = h0 ∧ fr.get (K.ofNat 3) = some (.i .i64 (suN L j)) ∧ fr.get (K.ofNat 6) = some (v) ∧ fr.get (K.ofNat 7) = some (.i .i64 (L.length : Int)) ∧ fr.get (K.ofNat 8) = some (.i .i64 (j : Int))
theorem f94_ret (hv : Sr iE h v L) (hL : L.length ≤ 1000000) : Ret fs f94 [v] h fun r h' => r = .i .i64 (suN L L.length) ∧ h' = h := by
  apply ret_of rfl
  show W fs none f94_c _ _ _
  unfold f94_c
  have e1 := hv.len
  simp (disch := omega) only [f94_r0, f94_r1, f94_r2, Nat.reduceEqDiff, ↓reduceIte, e1, bz]
  refine W_loop (f94_I h v L) (fun j => L.length - j) ?_ 0 ⟨by omega, rfl, by simp (disch := omega) only [getK_set, Nat.reduceEqDiff, ↓reduceIte, and_self, Int.natCast_zero, suN_0]⟩
  rintro j fr h1 ⟨hj, rfl, g3, g6, g7, g8⟩
  unfold f94_l0
  by_cases hlt : j < L.length
  · have d1 : decide ((j : Int) < (L.length : Int)) = true := decide_eq_true (by omega)
    obtain ⟨q, p1, p2⟩ := hv.at j hlt
    have hs := suN_succ hlt
    simp (disch := omega) only [f94_r3, f94_r4, f94_r5, f94_r6, Nat.reduceEqDiff, ↓reduceIte, g3, g6, g7, g8, d1, p1, p2, iE, hs, fw64, bz]
    exact ⟨j + 1, by omega, by omega, rfl, by simp (disch := omega) only [getK_set, Nat.reduceEqDiff, ↓reduceIte, g6, g7, and_self, Int.natCast_add, Int.natCast_one]⟩
  · have d1 : decide ((j : Int) < (L.length : Int)) = false := decide_eq_false (by omega)
    obtain rfl : j = L.length := by omega
    simp (disch := omega) only [f94_r3, f94_r7, f94_rs, Option.some.injEq, exists_eq_left', Nat.reduceEqDiff, ↓reduceIte, Bool.false_eq_true, g3, g7, g8, d1, and_self, bz]
theorem f94_eq (k : fs.get (.ofNat 94) = some f94) (hv : Sr iE h v L) (hL : L.length ≤ 1000000) {P : V → H → Prop} : CallP fs (.fn (.ofNat 94) []) [v] h P = P (.i .i64 (suN L L.length)) h := callP_eq2 (callP_0 k rfl (f94_ret hv hL))
def f67_J (h2 : H) (v w o : V) (A B : List Int) (k i : Nat) (fr : Fr) (h1 : H) : Prop := k + 1 - B.length ≤ i ∧ i ≤ min k (A.length - 1) + 1 ∧ Grow h2.nx.nat h2 h1 ∧ ∃ u P, Sl iE h1 u P ∧ Own h2.nx.nat u ∧ P.length ≤ i ∧ suN P P.length = fw .i64 (sg (abF A B k) i) ∧ fr.get (K.ofNat 0) = some (v) ∧ fr.get (K.ofNat 1) = some (w) ∧ fr.get (K.ofNat 5) = some (o) ∧ fr.get (K.ofNat 6) = some (.i .i64 (k : Int)) ∧ fr.get (K.ofNat 7) = some (u) ∧ fr.get (K.ofNat 8) = some (.i .i64 (i : Int)) ∧ fr.get (K.ofNat 16) = some (o) ∧ fr.get (K.ofNat 17) = some (.i .i64 ((A.length + B.length - 1 : Nat) : Int)) ∧ fr.get (K.ofNat 18) = some (.i .i64 (k : Int))
theorem f67_inner {Q : Ex → Fr → H → Prop} {o : V} {k i : Nat} {h2 h1 : H} {fr : Fr} (hA : 1 ≤ A.length ∧ A.length ≤ 1000) (hB : 1 ≤ B.length ∧ B.length ≤ 1000) (hv : Sr iE h2 v A) (hw : Sr iE h2 w B) (hc : HC h2)
    (hI : f67_J h2 v w o A B k i fr h1) (hq : ∀ fr h1, f67_J h2 v w o A B k (min k (A.length - 1) + 1) fr h1 → Q (.exit 2) fr h1) : W fs none (.loop f67_l0) Q fr h1 := by
  refine W_loop (f67_J h2 v w o A B k) (fun i => min k (A.length - 1) + 1 - i) ?_ i hI
  clear hI fr h1
  rintro i fr h1 ⟨hlo, hhi, hG, u, P, hs, ho, hP, hsum, g0, g1, g5, g6, g7, g8, g16, g17, g18⟩
  have hc1 := hG.hc hc
  have hv1 := hv.grow hc hG
  have hw1 := hw.grow hc hG
  have e1 := hv1.len
  have e2 := hw1.len
  have em : min (k : Int) ((A.length : Int) - 1) = ((min k (A.length - 1) : Nat) : Int) := by omega
  unfold f67_l0
  by_cases hlt : i ≤ min k (A.length - 1)
  · have d1 : decide ((i : Int) ≤ ((min k (A.length - 1) : Nat) : Int)) = true := decide_eq_true (by omega)
    have hi : i < A.length := by omega
    have hki : k - i < B.length := by omega
    have ei : (k : Int) - (i : Int) = ((k - i : Nat) : Int) := by omega
    obtain ⟨p, p1, p2, p3⟩ := hv1.atb i hi
    obtain ⟨q, q1, q2, q3⟩ := hw1.atb (k - i) hki
    have hlit := Sl.lit (e := iE) (x := fw .i64 (A[i] * B[k - i])) (h := h1)
    obtain ⟨u', h3, a1, a2, a3, a4, _⟩ := Sl.push (e := iE) (x := fw .i64 (A[i] * B[k - i])) (c := .i .i64 (fw .i64 (A[i] * B[k - i]))) rfl hs ho hG.nx hc1 (by omega)
    have hsx : suN (P ++ [fw .i64 (A[i] * B[k - i])]) (P ++ [fw .i64 (A[i] * B[k - i])]).length = fw .i64 (sg (abF A B k) (i + 1)) := by
      rw [suN_snoc, hsum, fwA, fwB]
      congr 1
      show _ = sg (abF A B k) i + abF A B k i
      unfold abF
      rw [if_pos (by omega), getD_lt hi, getD_lt hki]
    simp (disch := omega) only [f67_r7, f67_r8, w_draw, x_app, x_min, kg, xg_mv, xg_ld, xg_bin, xg_iads, xg_bslice, bin_mul, min_ii, Option.some.injEq, exists_eq_left', Nat.reduceEqDiff, ↓reduceIte, g0, g1, g6, g7, g8, e1, em, d1, fw64, ei, p1, p2, q1, q2, iE, hc1.dead, bz]
    refine ⟨fresh_one (n := 1) (sz := 1) (by simp (disch := omega) only [getK_set, ↓reduceIte]), ?_⟩
    simp (disch := omega) only [f67_r9, fresh_nil, stK_n, Nat.reduceEqDiff, ↓reduceIte, g8, a1, fw64, bz]
    exact ⟨i + 1, by omega, by omega, by omega, hG.trans a4, u', _, a2, a3, by simp; omega, hsx, by simp (disch := omega) only [getK_set, Nat.reduceEqDiff, ↓reduceIte, g0, g1, g5, g6, g16, g17, g18, and_self, Int.natCast_add, Int.natCast_one]⟩
  · have d1 : decide ((i : Int) ≤ ((min k (A.length - 1) : Nat) : Int)) = false := decide_eq_false (by omega)
    obtain rfl : i = min k (A.length - 1) + 1 := by omega
    simp (disch := omega) only [f67_r7, x_min, min_ii, Nat.reduceEqDiff, ↓reduceIte, Bool.false_eq_true, g0, g6, g8, e1, em, d1, fw64, bz]
    exact hq _ _ ⟨hlo, Nat.le_refl _, hG, u, P, hs, ho, hP, hsum, by simp (disch := omega) only [getK_set, Nat.reduceEqDiff, ↓reduceIte, g0, g1, g5, g6, g7, g8, g16, g17, g18, and_self]⟩
def f67_I (h : H) (v w o : V) (A B : List Int) (k : Nat) (fr : Fr) (h1 : H) : Prop := k ≤ A.length + B.length - 1 ∧ Grow h.nx.nat h h1 ∧ Sl iE h1 o (fil (prd A B) k) ∧ Own h.nx.nat o ∧ fr.get (K.ofNat 0) = some (v) ∧ fr.get (K.ofNat 1) = some (w) ∧ fr.get (K.ofNat 5) = some (o) ∧ fr.get (K.ofNat 16) = some (o) ∧ fr.get (K.ofNat 17) = some (.i .i64 ((A.length + B.length - 1 : Nat) : Int)) ∧ fr.get (K.ofNat 18) = some (.i .i64 (k : Int))
theorem f67_ret (k94 : fs.get (.ofNat 94) = some f94) (hA : 1 ≤ A.length ∧ A.length ≤ 1000) (hB : 1 ≤ B.length ∧ B.length ≤ 1000) (hv : Sr iE h v A) (hw : Sr iE h w B) (hc : HC h) : Ret fs f67 [v, w] h fun r h' => Sl iE h' r (prd A B) ∧ Own h.nx.nat r ∧ Grow h.nx.nat h h' := by
  apply ret_of rfl
  show W fs none f67_c _ _ _
  unfold f67_c
  have hpl := prd_len (A := A) (B := B)
  have en : (A.length : Int) + (B.length : Int) - 1 = ((A.length + B.length - 1 : Nat) : Int) := by omega
  have hmk := mks_ints (h := h) (k := .i64) (n := A.length + B.length - 1) (by omega)
  have hsl := mks_sl (h := h) (n := A.length + B.length - 1)
  have hle := hsl.len
  rw [List.length_replicate] at hle
  have gA := Grow.new (Nat.le_refl h.nx.nat) (.cells ((A.length + B.length - 1) * 1) (rep [.i .i64 0] (A.length + B.length - 1)))
  simp (disch := omega) only [f67_r0, f67_r1, f67_r2, x_mks, Nat.reduceEqDiff, ↓reduceIte, hv.len, hw.len, fw64, en, hmk, hle, bz]
  generalize h.new (.cells ((A.length + B.length - 1) * 1) (rep [.i .i64 0] (A.length + B.length - 1))) = h0 at *
  have ho0 : Own h.nx.nat (.sl h.nx 0 (A.length + B.length - 1) 1) := fun id off n sz e => by cases e; exact Nat.le_refl _
  generalize V.sl h.nx 0 (A.length + B.length - 1) 1 = o at *
  rw [show List.replicate (A.length + B.length - 1) (0 : Int) = fil (prd A B) 0 by rw [fil_0, hpl]] at hsl
  refine W_loop (f67_I h v w o A B) (fun k => A.length + B.length - 1 - k) ?_ 0 ⟨by omega, gA, hsl, ho0, by simp (disch := omega) only [getK_set, Nat.reduceEqDiff, ↓reduceIte, and_self, Int.natCast_zero]⟩
  rintro k fr h1 ⟨hk, hG, hs, ho, g0, g1, g5, g16, g17, g18⟩
  have hc1 := hG.hc hc
  have hv1 := hv.grow hc hG
  have hw1 := hw.grow hc hG
  unfold f67_l1
  by_cases hlt : k < A.length + B.length - 1
  · have d1 : decide ((k : Int) < ((A.length + B.length - 1 : Nat) : Int)) = true := decide_eq_true (by omega)
    have e3 : max (0 : Int) ((k : Int) - (B.length : Int) + 1) = ((k + 1 - B.length : Nat) : Int) := by omega
    simp (disch := omega) only [f67_r3, f67_r4, f67_r5, f67_r6, x_max, max_ii, Nat.reduceEqDiff, ↓reduceIte, g1, g17, g18, d1, hw1.len, fw64, e3, bz]
    refine f67_inner (h2 := h1) (v := v) (w := w) (o := o) (A := A) (B := B) (k := k) (i := k + 1 - B.length) hA hB hv1 hw1 hc1 ⟨Nat.le_refl _, by omega, Grow.refl _ _, .sn, [], Sl.nil, Own.sn, by simp, ?_, by simp (disch := omega) only [getK_set, Nat.reduceEqDiff, ↓reduceIte, g0, g1, g5, g16, g17, g18, and_self]⟩ ?_
    · rw [sg_zero (fun i hi => abF_low (by omega))]; rfl
    clear g0 g1 g5 g16 g17 g18 fr
    rintro fr h3 ⟨_, _, hG3, u, P, hsu, hou, hP, hsum, g0, g1, g5, g6, g7, g8, g16, g17, g18⟩
    have hs3 := hs.grow hc1 hG3
    have hc3 := hG3.hc hc1
    have hfin : suN P P.length = (prd A B)[k]'(by omega) := by
      rw [hsum, prd_at]
      congr 1
      unfold cvF
      by_cases hka : k ≤ A.length - 1
      · rw [Nat.min_eq_left hka]
        exact (sg_tail (by omega) fun i a b => abF_high (by omega)).symm
      · rw [Nat.min_eq_right (by omega), show A.length - 1 + 1 = A.length by omega]
    have hfl : k < (fil (prd A B) k).length := by rw [fil_len (by omega)]; omega
    have e4 := fun P0 => f94_eq (P := P0) k94 hsu.sr (by omega)
    rw [hfin] at e4
    obtain ⟨p, id, m, cs', a1, a2, a3, ⟨off, n', sz, a4⟩, a5⟩ := hs3.st (i := k) hfl (x := (prd A B)[k]'(by omega)) (c := .i .i64 ((prd A B)[k]'(by omega))) rfl rfl hc3
    rw [fil_set (by omega)] at a3
    simp (disch := omega) only [f67_r10, f67_r11, Nat.reduceEqDiff, ↓reduceIte, g5, g6, g7, g18, e4, a1, a2, fw64, bz]
    exact ⟨k + 1, by omega, by omega, (hG.trans (hG3.low hG.nx)).trans (Grow.put (ho _ _ _ _ a4) a5 _), a3, ho, by simp (disch := omega) only [getK_set, Nat.reduceEqDiff, ↓reduceIte, g0, g1, g5, g16, g17, and_self, Int.natCast_add, Int.natCast_one]⟩
  · have d1 : decide ((k : Int) < ((A.length + B.length - 1 : Nat) : Int)) = false := decide_eq_false (by omega)
    have ek : k = (prd A B).length := by omega
    rw [ek, fil_all] at hs
    simp (disch := omega) only [f67_r3, f67_r12, f67_rs, Option.some.injEq, exists_eq_left', Nat.reduceEqDiff, ↓reduceIte, Bool.false_eq_true, g5, g17, g18, d1, bz]
    exact ⟨hs, ho, hG⟩
structure CallsT (fs : T EF) : Prop extends CSm fs where
  c94 : fs.get (K.ofNat 94) = some f94
  c67 : fs.get (K.ofNat 67) = some f67
  c79 : fs.get (K.ofNat 79) = some f79
  c54 : fs.get (K.ofNat 54) = some f54
  c14 : fs.get (K.ofNat 14) = some f14
  c66 : fs.get (K.ofNat 66) = some f66
  c53 : fs.get (K.ofNat 53) = some f53
def f23_I (h0 : H) (v w : V) (i : Nat) (fr : Fr) (h1 : H) : Prop := i ≤ 2 ∧ h1 = h0 ∧ fr.get (K.ofNat 0) = some (v) ∧ fr.get (K.ofNat 1) = some (w) ∧ fr.get (K.ofNat 11) = some (.agg [v, w]) ∧ fr.get (K.ofNat 12) = some (.i .i64 (i : Int))
end
end Go.Ev
namespace Go.Ev
open Go Go.RowKit
noncomputable def f56_r0 : List EOper := [oG 2 (.as (.c .sn)), oG 3 (.as (.c (.b false)))]
noncomputable def f56_r1 : List EOper := [oG 11 (.mv (tG 0)), oG 12 (.len (tG 11)), oG 13 (.bin .sub (tG 12) (cG 1)), oG 4 (.as (tG 13))]
noncomputable def f56_r2 : List EOper := [oG 14 (.mv (tG 4)), oG 15 (.bin .add (tG 14) (cG 1)), oG 16 (.mkslice 1 [(.i .i64 (.ofNat 0))] (tG 15)), oG 5 (.as (tG 16))]
noncomputable def f56_r3 : List EOper := [oG 17 (.mv (tG 0)), oG 18 (.len (tG 17)), oG 19 (.mv (cG 0))]
noncomputable def f56_r4 : List EOper := [oG 20 (.bin .lss (tG 19) (tG 18))]
noncomputable def f56_r5 : List EOper := [oG 21 (.mv (tG 19)), oG 22 (.iads 1 (tG 17) (tG 19)), oG 23 (.ld (tG 22)), oG 6 (.as (tG 21)), oG 7 (.as (tG 23))]
noncomputable def f56_r6 : List EOper := [oG 24 (.mv (tG 7)), oG 25 (.bslice 1 1 [(.i .i64 (.ofNat 0))] [(0, 1, (tG 24))]), oG 8 (.as (tG 25))]
noncomputable def f56_r7 : List EOper := [oG 26 (.mv (tG 6)), oG 27 (.mv (cG 0))]
noncomputable def f56_r8 : List EOper := [oG 28 (.bin .lss (tG 27) (tG 26))]
noncomputable def f56_r9 : List EOper := [oG 29 (.mv (tG 8)), oG 30 (.bslice 2 1 [(.i .i64 (.ofNat 0)), (.i .i64 (.ofNat 0))] [(0, 1, (cG 1)), (1, 1, (cG 1))]), oG 31 (.call (fG 67) [(tG 29), (tG 30)]), oG 8 (.as (tG 31))]
noncomputable def f56_r10 : List EOper := [oG 32 (.bin .add (tG 27) (cG 1)), oG 27 (.mv (tG 32))]
noncomputable def f56_l0 : EC := (.seq (.reg f56_r8) (.seq (.cond (tG 28) .skip (.exit 2)) (.seq (.block 3 (.reg f56_r9)) (.reg f56_r10))))
noncomputable def f56_r11 : List EOper := [oG 33 (.mv (tG 4)), oG 34 (.mv (tG 6)), oG 35 (.bin .sub (tG 33) (tG 34)), oG 36 (.mv (cG 0))]
noncomputable def f56_r12 : List EOper := [oG 37 (.bin .lss (tG 36) (tG 35))]
noncomputable def f56_r13 : List EOper := [oG 38 (.mv (tG 8)), oG 39 (.bslice 2 1 [(.i .i64 (.ofNat 0)), (.i .i64 (.ofNat 0))] [(0, 1, (cG 1)), (1, 1, (.c (.i .i64 (.negSucc 0))))]), oG 40 (.call (fG 67) [(tG 38), (tG 39)]), oG 8 (.as (tG 40))]
noncomputable def f56_r14 : List EOper := [oG 41 (.bin .add (tG 36) (cG 1)), oG 36 (.mv (tG 41))]
noncomputable def f56_l1 : EC := (.seq (.reg f56_r12) (.seq (.cond (tG 37) .skip (.exit 4)) (.seq (.block 5 (.reg f56_r13)) (.reg f56_r14))))
noncomputable def f56_r15 : List EOper := [oG 42 (.mv (tG 8)), oG 43 (.len (tG 42)), oG 44 (.mv (cG 0))]
noncomputable def f56_r16 : List EOper := [oG 45 (.bin .lss (tG 44) (tG 43))]
noncomputable def f56_r17 : List EOper := [oG 46 (.mv (tG 44)), oG 47 (.iads 1 (tG 42) (tG 44)), oG 48 (.ld (tG 47)), oG 9 (.as (tG 46)), oG 10 (.as (tG 48))]
noncomputable def f56_r18 : List EOper := [oG 49 (.mv (tG 5)), oG 50 (.mv (tG 9)), oG 51 (.iads 1 (tG 49) (tG 50)), oG 52 (.ld (tG 51)), oG 53 (.mv (tG 10)), oG 54 (.bin .add (tG 52) (tG 53)), oG 55 (.iads 1 (tG 49) (tG 50)), ⟨none, none, .st 1 (tG 55) (tG 54)⟩]
noncomputable def f56_r19 : List EOper := [oG 56 (.bin .add (tG 44) (cG 1)), oG 44 (.mv (tG 56))]
noncomputable def f56_l2 : EC := (.seq (.reg f56_r16) (.seq (.cond (tG 45) .skip (.exit 6)) (.seq (.block 7 (.seq (.reg f56_r17) (.reg f56_r18))) (.reg f56_r19))))
noncomputable def f56_r20 : List EOper := [oG 57 (.bin .add (tG 19) (cG 1)), oG 19 (.mv (tG 57))]
noncomputable def f56_l3 : EC := (.seq (.reg f56_r4) (.seq (.cond (tG 20) .skip (.exit 0)) (.seq (.block 1 (.seq (.reg f56_r5) (.seq (.reg f56_r6) (.seq (.seq (.reg f56_r7) (.block 2 (.loop f56_l0))) (.seq (.seq (.reg f56_r11) (.block 4 (.loop f56_l1))) (.seq (.reg f56_r15) (.block 6 (.loop f56_l2)))))))) (.reg f56_r20))))
noncomputable def f56_r21 : List EOper := [oG 58 (.mv (tG 5)), oG 59 (.iads 1 (tG 58) (cG 0)), oG 60 (.ld (tG 59)), oG 61 (.bin .eql (tG 60) (cG 0)), oG 62 (.mv (tG 61)), gG 63 62 false (.mv (tG 5)), gG 64 62 false (.mv (tG 4)), gG 65 62 false (.iads 1 (tG 63) (tG 64)), gG 66 62 false (.ld (tG 65)), gG 67 62 false (.bin .eql (tG 66) (cG 0)), oG 68 (.pick (tG 62) (.c (.b true)) (tG 67))]
noncomputable def f56_r22 : List EOper := [oG 2 (.as (.c .sn)), oG 3 (.as (.c (.b false)))]
noncomputable def f56_r23 : List EOper := [oG 69 (.mv (tG 5)), oG 2 (.as (tG 69)), oG 3 (.as (.c (.b true)))]
noncomputable def f56_c : EC := (.seq (.reg f56_r0) (.seq (.reg f56_r1) (.seq (.reg f56_r2) (.seq (.seq (.reg f56_r3) (.block 0 (.loop f56_l3))) (.seq (.seq (.reg f56_r21) (.cond (tG 68) (.seq (.reg f56_r22) .ret) .skip)) (.seq (.reg f56_r23) .ret))))))
noncomputable def f56 : EF := ⟨70, [.tmp (.ofNat 2), .tmp (.ofNat 3)], f56_c, none⟩
theorem f56_rs : f56.rs = [.tmp (.ofNat 2), .tmp (.ofNat 3)] := of_eq_true (eq_self _)
noncomputable def f24_r0 : List EOper := [oG 2 (.as (.c .sn)), oG 3 (.as (cG 0))]
noncomputable def f24_r1 : List EOper := [oG 7 (.mv (tG 0)), oG 8 (.call (fG 14) [(tG 7)]), oG 4 (.as (tG 8))]
noncomputable def f24_r2 : List EOper := [oG 9 (.mv (tG 4)), oG 10 (.bin .neq (tG 9) (cG 0))]
noncomputable def f24_r3 : List EOper := [oG 11 (.mv (tG 4)), oG 2 (.as (.c .sn)), oG 3 (.as (tG 11))]
noncomputable def f24_r4 : List EOper := [oG 13 (.mv (tG 0)), oG 14 (.call (fG 56) [(tG 13)]), oG 12 (.mv (tG 14)), oG 15 (.ext (tG 12) 0), oG 16 (.ext (tG 12) 1), oG 5 (.as (tG 15)), oG 6 (.as (tG 16))]
noncomputable def f24_r5 : List EOper := [oG 17 (.mv (tG 6)), oG 18 (.not (tG 17))]
noncomputable def f24_r6 : List EOper := [oG 2 (.as (.c .sn)), oG 3 (.as (cG 4))]
noncomputable def f24_r7 : List EOper := [oG 19 (.mv (tG 5)), oG 20 (.call (fG 66) [(tG 19)]), oG 21 (.ext (tG 20) 0), oG 22 (.ext (tG 20) 1), oG 2 (.as (tG 21)), oG 3 (.as (tG 22))]
noncomputable def f24_c : EC := (.seq (.reg f24_r0) (.seq (.seq (.reg f24_r1) (.seq (.reg f24_r2) (.cond (tG 10) (.seq (.reg f24_r3) .ret) .skip))) (.seq (.reg f24_r4) (.seq (.seq (.reg f24_r5) (.cond (tG 18) (.seq (.reg f24_r6) .ret) .skip)) (.seq (.reg f24_r7) .ret)))))
noncomputable def f24 : EF := ⟨23, [.tmp (.ofNat 2), .tmp (.ofNat 3)], f24_c, none⟩
theorem f24_rs : f24.rs = [.tmp (.ofNat 2), .tmp (.ofNat 3)] := of_eq_true (eq_self _)
noncomputable def f69_r0 : List EOper := [oG 2 (.as (.c .sn))]
noncomputable def f69_r1 : List EOper := [oG 9 (.mv (tG 0)), oG 10 (.len (tG 9)), oG 11 (.bin .sub (tG 10) (cG 1)), oG 3 (.as (tG 11))]
noncomputable def f69_r2 : List EOper := [oG 12 (.mv (tG 3)), oG 13 (.bin .add (tG 12) (cG 1)), oG 14 (.mkslice 1 [(.i .i64 (.ofNat 0))] (tG 13)), oG 4 (.as (tG 14))]
noncomputable def f69_r3 : List EOper := [oG 5 (.as (cG 0))]
noncomputable def f69_r4 : List EOper := [oG 15 (.mv (tG 5)), oG 16 (.mv (tG 3)), oG 17 (.bin .leq (tG 15) (tG 16))]
noncomputable def f69_r5 : List EOper := [oG 20 (.bslice 1 1 [(.i .i64 (.ofNat 0))] [(0, 1, (cG 1))]), oG 6 (.as (tG 20))]
noncomputable def f69_r6 : List EOper := [oG 7 (.as (cG 0))]
noncomputable def f69_r7 : List EOper := [oG 21 (.mv (tG 7)), oG 22 (.mv (tG 3)), oG 23 (.bin .lss (tG 21) (tG 22))]
noncomputable def f69_r8 : List EOper := [oG 26 (.mv (tG 7)), oG 27 (.mv (tG 5)), oG 28 (.bin .lss (tG 26) (tG 27))]
noncomputable def f69_r9 : List EOper := [oG 29 (.mv (tG 6)), oG 30 (.bslice 2 1 [(.i .i64 (.ofNat 0)), (.i .i64 (.ofNat 0))] [(0, 1, (cG 1)), (1, 1, (cG 1))]), oG 31 (.call (fG 79) [(tG 29), (tG 30)]), oG 6 (.as (tG 31))]
noncomputable def f69_r10 : List EOper := [oG 32 (.mv (tG 6)), oG 33 (.bslice 2 1 [(.i .i64 (.ofNat 0)), (.i .i64 (.ofNat 0))] [(0, 1, (cG 1)), (1, 1, (.c (.i .i64 (.negSucc 0))))]), oG 34 (.call (fG 79) [(tG 32), (tG 33)]), oG 6 (.as (tG 34))]
noncomputable def f69_r11 : List EOper := [oG 24 (.mv (tG 7)), oG 25 (.bin .add (tG 24) (cG 1)), oG 7 (.as (tG 25))]
noncomputable def f69_l0 : EC := (.seq (.seq (.reg f69_r7) (.cond (tG 23) .skip (.exit 2))) (.seq (.block 3 (.seq (.reg f69_r8) (.cond (tG 28) (.reg f69_r9) (.reg f69_r10)))) (.reg f69_r11)))
noncomputable def f69_r12 : List EOper := [oG 8 (.as (cG 0))]
noncomputable def f69_r13 : List EOper := [oG 35 (.mv (tG 8)), oG 36 (.mv (tG 3)), oG 37 (.bin .leq (tG 35) (tG 36))]
noncomputable def f69_r14 : List Stage := [⟨[oG 40 (.mv (tG 4)), oG 41 (.mv (tG 8)), oG 42 (.mv (tG 4)), oG 43 (.mv (tG 8)), oG 44 (.iads 1 (tG 42) (tG 43)), oG 45 (.ld (tG 44)), oG 46 (.mv (tG 0)), oG 47 (.mv (tG 5)), oG 48 (.iads 1 (tG 46) (tG 47)), oG 49 (.ld (tG 48)), oG 50 (.mv (tG 6)), oG 51 (.mv (tG 8)), oG 52 (.iads 1 (tG 50) (tG 51)), oG 53 (.ld (tG 52)), oG 54 (.bin .mul (tG 49) (tG 53)), oG 55 (.bin .add (tG 45) (tG 54)), oG 56 (.iads 1 (tG 40) (tG 41))], [], (some ⟨none, none, .st 1 (tG 56) (tG 55)⟩), []⟩, ⟨[], [], none, []⟩]
noncomputable def f69_r15 : List EOper := [oG 38 (.mv (tG 8)), oG 39 (.bin .add (tG 38) (cG 1)), oG 8 (.as (tG 39))]
noncomputable def f69_l1 : EC := (.seq (.seq (.reg f69_r13) (.cond (tG 37) .skip (.exit 4))) (.seq (.block 5 (.draw f69_r14)) (.reg f69_r15)))
noncomputable def f69_r16 : List EOper := [oG 18 (.mv (tG 5)), oG 19 (.bin .add (tG 18) (cG 1)), oG 5 (.as (tG 19))]
noncomputable def f69_l2 : EC := (.seq (.seq (.reg f69_r4) (.cond (tG 17) .skip (.exit 0))) (.seq (.block 1 (.seq (.reg f69_r5) (.seq (.seq (.reg f69_r6) (.block 2 (.loop f69_l0))) (.seq (.reg f69_r12) (.block 4 (.loop f69_l1)))))) (.reg f69_r16)))
noncomputable def f69_r17 : List EOper := [oG 57 (.mv (tG 4)), oG 2 (.as (tG 57))]
noncomputable def f69_c : EC := (.seq (.reg f69_r0) (.seq (.reg f69_r1) (.seq (.reg f69_r2) (.seq (.seq (.reg f69_r3) (.block 0 (.loop f69_l2))) (.seq (.reg f69_r17) .ret)))))
noncomputable def f69 : EF := ⟨58, [.tmp (.ofNat 2)], f69_c, none⟩
section
variable {fs : T EF} {h : H} {v w : V} {A B L : List Int}
theorem lit2 {h : H} {x y : Int} : Sl iE (h.new (.cells (2 * 1) [.i .i64 x, .i .i64 y])) (.sl h.nx 0 2 1) [x, y] := by
  refine .inr ⟨h.nx, 0, 2 * 1, _, rfl, get_new_same, rfl, by simp, fun i hi => ?_⟩
  obtain rfl | rfl : i = 0 ∨ i = 1 := by have : i < 2 := hi; omega
  · rfl
  · rfl
def f56_J (h2 : H) (v o : V) (A : List Int) (k : Nat) (a : Int) (j : Nat) (fr : Fr) (h1 : H) : Prop := j ≤ k ∧ Grow h2.nx.nat h2 h1 ∧ ∃ u, Sl iE h1 u (ch P1 [a] j) ∧ Own h2.nx.nat u ∧ fr.get (K.ofNat 0) = some (v) ∧ fr.get (K.ofNat 4) = some (.i .i64 ((A.length - 1 : Nat) : Int)) ∧ fr.get (K.ofNat 5) = some (o) ∧ fr.get (K.ofNat 6) = some (.i .i64 (k : Int)) ∧ fr.get (K.ofNat 8) = some (u) ∧ fr.get (K.ofNat 17) = some (v) ∧ fr.get (K.ofNat 18) = some (.i .i64 (A.length : Int)) ∧ fr.get (K.ofNat 19) = some (.i .i64 (k : Int)) ∧ fr.get (K.ofNat 26) = some (.i .i64 (k : Int)) ∧ fr.get (K.ofNat 27) = some (.i .i64 (j : Int))
theorem f56_in0 {Q : Ex → Fr → H → Prop} {o : V} {k j : Nat} {a : Int} {h2 h1 : H} {fr : Fr} (k94 : fs.get (.ofNat 94) = some f94) (k67 : fs.get (.ofNat 67) = some f67) (hk : k ≤ 100) (hc : HC h2)
    (hI : f56_J h2 v o A k a j fr h1) (hq : ∀ fr h1, f56_J h2 v o A k a k fr h1 → Q (.exit 2) fr h1) : W fs none (.loop f56_l0) Q fr h1 := by
  refine W_loop (f56_J h2 v o A k a) (fun j => k - j) ?_ j hI
  clear hI fr h1
  rintro j fr h1 ⟨hj, hG, u, hs, ho, g0, g4, g5, g6, g8, g17, g18, g19, g26, g27⟩
  have hc1 := hG.hc hc
  unfold f56_l0
  by_cases hlt : j < k
  · have d1 : decide ((j : Int) < (k : Int)) = true := decide_eq_true (by omega)
    have g2 := Grow.new (Nat.le_refl h1.nx.nat) (.cells (2 * 1) [.i .i64 1, .i .i64 1])
    have hl := lit2 (h := h1) (x := 1) (y := 1)
    have hs1 := hs.grow hc1 g2
    have hcl := ch_len (B := P1) (X := [a]) rfl (by simp) (k := j)
    have hcl' : (ch P1 [a] j).length = 1 + j := hcl
    simp (disch := omega) only [f56_r8, f56_r9, Nat.reduceEqDiff, ↓reduceIte, fill_2, set_2, g8, g26, g27, d1, bz]
    refine (callP_0 (ef := f67) k67 rfl (f67_ret (A := ch P1 [a] j) (B := P1) k94 (by omega) (by simp [P1]) hs1.sr hl.sr (g2.hc hc1))).mono ?_
    rintro u' h3 ⟨s3, o3, g3⟩
    simp (disch := omega) only [f56_r10, Nat.reduceEqDiff, ↓reduceIte, g27, fw64, bz]
    have gg := g2.trans (g3.low g2.nx)
    exact ⟨j + 1, by omega, by omega, hG.trans (gg.low hG.nx), u', s3, o3.low (Nat.le_trans hG.nx g2.nx), by simp (disch := omega) only [getK_set, Nat.reduceEqDiff, ↓reduceIte, g0, g4, g5, g6, g17, g18, g19, g26, and_self, Int.natCast_add, Int.natCast_one]⟩
  · have d1 : decide ((j : Int) < (k : Int)) = false := decide_eq_false (by omega)
    obtain rfl : j = k := by omega
    simp (disch := omega) only [f56_r8, ↓reduceIte, Bool.false_eq_true, g26, g27, d1, bz]
    exact hq _ _ ⟨Nat.le_refl _, hG, u, hs, ho, by simp (disch := omega) only [getK_set, Nat.reduceEqDiff, ↓reduceIte, g0, g4, g5, g6, g8, g17, g18, g19, g26, g27, and_self]⟩
def f56_K (h2 : H) (v o : V) (A : List Int) (k : Nat) (a : Int) (j : Nat) (fr : Fr) (h1 : H) : Prop := j ≤ A.length - 1 - k ∧ Grow h2.nx.nat h2 h1 ∧ ∃ u, Sl iE h1 u (ch P2 (ch P1 [a] k) j) ∧ Own h2.nx.nat u ∧ fr.get (K.ofNat 0) = some (v) ∧ fr.get (K.ofNat 4) = some (.i .i64 ((A.length - 1 : Nat) : Int)) ∧ fr.get (K.ofNat 5) = some (o) ∧ fr.get (K.ofNat 6) = some (.i .i64 (k : Int)) ∧ fr.get (K.ofNat 8) = some (u) ∧ fr.get (K.ofNat 17) = some (v) ∧ fr.get (K.ofNat 18) = some (.i .i64 (A.length : Int)) ∧ fr.get (K.ofNat 19) = some (.i .i64 (k : Int)) ∧ fr.get (K.ofNat 35) = some (.i .i64 ((A.length - 1 - k : Nat) : Int)) ∧ fr.get (K.ofNat 36) = some (.i .i64 (j : Int))
theorem f56_in1 {Q : Ex → Fr → H → Prop} {o : V} {k j : Nat} {a : Int} {h2 h1 : H} {fr : Fr} (k94 : fs.get (.ofNat 94) = some f94) (k67 : fs.get (.ofNat 67) = some f67) (hA : A.length ≤ 100) (hk : k ≤ 100) (hc : HC h2)
    (hI : f56_K h2 v o A k a j fr h1) (hq : ∀ fr h1, f56_K h2 v o A k a (A.length - 1 - k) fr h1 → Q (.exit 4) fr h1) : W fs none (.loop f56_l1) Q fr h1 := by
  refine W_loop (f56_K h2 v o A k a) (fun j => A.length - 1 - k - j) ?_ j hI
  clear hI fr h1
  rintro j fr h1 ⟨hj, hG, u, hs, ho, g0, g4, g5, g6, g8, g17, g18, g19, g35, g36⟩
  have hc1 := hG.hc hc
  unfold f56_l1
  by_cases hlt : j < A.length - 1 - k
  · have d1 : decide ((j : Int) < ((A.length - 1 - k : Nat) : Int)) = true := decide_eq_true (by omega)
    have g2 := Grow.new (Nat.le_refl h1.nx.nat) (.cells (2 * 1) [.i .i64 1, .i .i64 (-1)])
    have hl := lit2 (h := h1) (x := 1) (y := -1)
    have hs1 := hs.grow hc1 g2
    have hcl0 : (ch P1 [a] k).length = 1 + k := ch_len (B := P1) (X := [a]) rfl (by simp) (k := k)
    have hcl' := ch_len (B := P2) (X := ch P1 [a] k) rfl (by omega) (k := j)
    simp (disch := omega) only [f56_r12, f56_r13, Nat.reduceEqDiff, ↓reduceIte, fill_2, set_2, g8, g35, g36, d1, ng0, bz]
    refine (callP_0 (ef := f67) k67 rfl (f67_ret (A := ch P2 (ch P1 [a] k) j) (B := P2) k94 (by omega) (by simp [P2]) hs1.sr hl.sr (g2.hc hc1))).mono ?_
    rintro u' h3 ⟨s3, o3, g3⟩
    simp (disch := omega) only [f56_r14, Nat.reduceEqDiff, ↓reduceIte, g36, fw64, bz]
    have gg := g2.trans (g3.low g2.nx)
    exact ⟨j + 1, by omega, by omega, hG.trans (gg.low hG.nx), u', s3, o3.low (Nat.le_trans hG.nx g2.nx), by simp (disch := omega) only [getK_set, Nat.reduceEqDiff, ↓reduceIte, g0, g4, g5, g6, g17, g18, g19, g35, and_self, Int.natCast_add, Int.natCast_one]⟩
  · have d1 : decide ((j : Int) < ((A.length - 1 - k : Nat) : Int)) = false := decide_eq_false (by omega)
    obtain rfl : j = A.length - 1 - k := by omega
    simp (disch := omega) only [f56_r12, ↓reduceIte, Bool.false_eq_true, g35, g36, d1, bz]
    exact hq _ _ ⟨Nat.le_refl _, hG, u, hs, ho, by simp (disch := omega) only [getK_set, Nat.reduceEqDiff, ↓reduceIte, g0, g4, g5, g6, g8, g17, g18, g19, g35, g36, and_self]⟩
def f56_L (h h2 : H) (v o u : V) (A : List Int) (k c : Nat) (fr : Fr) (h1 : H) : Prop := c ≤ A.length ∧ Grow h.nx.nat h2 h1 ∧ Sl iE h1 o (dsL A k c) ∧ Sl iE h1 u (scl (A.getD k 0) (psL (A.length - 1) k)) ∧ fr.get (K.ofNat 0) = some (v) ∧ fr.get (K.ofNat 4) = some (.i .i64 ((A.length - 1 : Nat) : Int)) ∧ fr.get (K.ofNat 5) = some (o) ∧ fr.get (K.ofNat 17) = some (v) ∧ fr.get (K.ofNat 18) = some (.i .i64 (A.length : Int)) ∧ fr.get (K.ofNat 19) = some (.i .i64 (k : Int)) ∧ fr.get (K.ofNat 42) = some (u) ∧ fr.get (K.ofNat 43) = some (.i .i64 (A.length : Int)) ∧ fr.get (K.ofNat 44) = some (.i .i64 (c : Int))
theorem f56_in2 {Q : Ex → Fr → H → Prop} {o u : V} {k c : Nat} {h2 h1 : H} {fr : Fr} (hA : A.length ≤ 100) (hk : k < A.length) (hc : HC h2) (ho : Own h.nx.nat o) (hu : ∀ id off n sz, o = .sl id off n sz → NotIn id u)
    (hI : f56_L h h2 v o u A k c fr h1) (hq : ∀ fr h1, f56_L h h2 v o u A k A.length fr h1 → Q (.exit 6) fr h1) : W fs none (.loop f56_l2) Q fr h1 := by
  refine W_loop (f56_L h h2 v o u A k) (fun c => A.length - c) ?_ c hI
  clear hI fr h1
  rintro c fr h1 ⟨hj, hG, hs, hsu, g0, g4, g5, g17, g18, g19, g42, g43, g44⟩
  have hc1 := hG.hc hc
  unfold f56_l2
  by_cases hlt : c < A.length
  · have d1 : decide ((c : Int) < (A.length : Int)) = true := decide_eq_true (by omega)
    have hpl : (psL (A.length - 1) k).length = A.length := by rw [psL_len (by omega)]; omega
    have hul : c < (scl (A.getD k 0) (psL (A.length - 1) k)).length := by rw [scl_len, hpl]; exact hlt
    obtain ⟨p, p1, p2⟩ := hsu.at c hul
    have hl : c < (dsL A k c).length := by rw [dsL_len]; exact hlt
    obtain ⟨x, x1, x2⟩ := hs.at c hl
    rw [dsL_at, if_neg (by omega)] at x2
    have hux : (scl (A.getD k 0) (psL (A.length - 1) k))[c] = fw .i64 (A[k] * (psL (A.length - 1) k).getD c 0) := by
      rw [← getD_lt hul, scl_getD, getD_lt hk]
    rw [hux] at p2
    obtain ⟨p', id, m, cs', a1, a2, a3, ⟨off, n', sz, a4⟩, a5⟩ := hs.st (i := c) hl (x := fw .i64 (fw .i64 (dsF A k c) + fw .i64 (A[k] * (psL (A.length - 1) k).getD c 0))) (c := .i .i64 (fw .i64 (fw .i64 (dsF A k c) + fw .i64 (A[k] * (psL (A.length - 1) k).getD c 0)))) rfl rfl hc1
    rw [dsL_set hk rfl] at a3
    have hsu' := hsu.put (hu _ _ _ _ a4) (.cells m cs')
    generalize hx : fw .i64 (dsF A k c) = y at *
    generalize hz : fw .i64 (A[k] * (psL (A.length - 1) k).getD c 0) = z at *
    have x2 : loadV h1 x one? = .ok (.i .i64 y) h1 := x2
    have p2 : loadV h1 p one? = .ok (.i .i64 z) h1 := p2
    obtain rfl : x = p' := by have := x1 .i64 h1; rw [a1] at this; cases this; rfl
    simp (disch := omega) only [f56_r16, f56_r17, f56_r18, f56_r19, Nat.reduceEqDiff, ↓reduceIte, g5, g42, g43, g44, d1, p1, p2, x1, x2, a2, fw64, bz]
    exact ⟨c + 1, by omega, by omega, hG.trans (Grow.put (ho _ _ _ _ a4) a5 _), a3, hsu', by simp (disch := omega) only [getK_set, Nat.reduceEqDiff, ↓reduceIte, g0, g4, g5, g17, g18, g19, g42, g43, and_self, Int.natCast_add, Int.natCast_one]⟩
  · have d1 : decide ((c : Int) < (A.length : Int)) = false := decide_eq_false (by omega)
    obtain rfl : c = A.length := by omega
    simp (disch := omega) only [f56_r16, ↓reduceIte, Bool.false_eq_true, g43, g44, d1, bz]
    exact hq _ _ ⟨Nat.le_refl _, hG, hs, hsu, by simp (disch := omega) only [getK_set, Nat.reduceEqDiff, ↓reduceIte, g0, g4, g5, g17, g18, g19, g42, g43, g44, and_self]⟩
theorem small_at (hA : smB A = true) {i : Nat} (hi : i < A.length) : -30 ≤ A[i] ∧ A[i] ≤ 30 := by
  unfold smB at hA
  rw [Bool.not_eq_true', List.any_eq_false] at hA
  have := hA A[i] (List.getElem_mem hi)
  unfold bigB at this
  simp only [Bool.or_eq_true, decide_eq_true_eq] at this
  omega
def f56_M (h : H) (v o : V) (A : List Int) (k : Nat) (fr : Fr) (h1 : H) : Prop := k ≤ A.length ∧ Grow h.nx.nat h h1 ∧ Sl iE h1 o (dsL A k 0) ∧ fr.get (K.ofNat 0) = some (v) ∧ fr.get (K.ofNat 4) = some (.i .i64 ((A.length - 1 : Nat) : Int)) ∧ fr.get (K.ofNat 5) = some (o) ∧ fr.get (K.ofNat 17) = some (v) ∧ fr.get (K.ofNat 18) = some (.i .i64 (A.length : Int)) ∧ fr.get (K.ofNat 19) = some (.i .i64 (k : Int))
theorem f56_ret (k94 : fs.get (.ofNat 94) = some f94) (k67 : fs.get (.ofNat 67) = some f67) (hA1 : 1 ≤ A.length) (hA : A.length ≤ 100) (hsm : smB A = true) (hv : Sr iE h v A) (hc : HC h) : Ret fs f56 [v] h fun r h' => ∃ u, r = .tup [if dsOk A = true then u else .sn, .b (dsOk A)] ∧ Sl iE h' u (dsc A) ∧ Own h.nx.nat u ∧ Grow h.nx.nat h h' := by
  apply ret_of rfl
  show W fs none f56_c _ _ _
  unfold f56_c
  have en : (A.length : Int) - 1 = ((A.length - 1 : Nat) : Int) := by omega
  have en2 : ((A.length - 1 : Nat) : Int) + 1 = (A.length : Int) := by omega
  have hmk := mks_ints (h := h) (k := .i64) (n := A.length) (by omega)
  have hsl := mks_sl (h := h) (n := A.length)
  have gA := Grow.new (Nat.le_refl h.nx.nat) (.cells (A.length * 1) (rep [.i .i64 0] A.length))
  simp (disch := omega) only [f56_r0, f56_r1, f56_r2, f56_r3, x_mks, Nat.reduceEqDiff, ↓reduceIte, hv.len, fw64, en, en2, hmk, bz]
  generalize h.new (.cells (A.length * 1) (rep [.i .i64 0] A.length)) = h0 at *
  have ho0 : Own h.nx.nat (.sl h.nx 0 A.length 1) := fun id off n sz e => by cases e; exact Nat.le_refl _
  generalize V.sl h.nx 0 A.length 1 = o at *
  rw [← dsL_0] at hsl
  refine W_loop (f56_M h v o A) (fun k => A.length - k) ?_ 0 ⟨by omega, gA, hsl, by simp (disch := omega) only [getK_set, Nat.reduceEqDiff, ↓reduceIte, and_self, Int.natCast_zero]⟩
  rintro k fr h1 ⟨hk, hG, hs, g0, g4, g5, g17, g18, g19⟩
  have hc1 := hG.hc hc
  have hv1 := hv.grow hc hG
  unfold f56_l3
  by_cases hlt : k < A.length
  · have d1 : decide ((k : Int) < (A.length : Int)) = true := decide_eq_true (by omega)
    obtain ⟨p, p1, p2⟩ := hv1.at k hlt
    have p2 : loadV h1 p one? = .ok (.i .i64 A[k]) h1 := p2
    have hak : A.getD k 0 = A[k] := getD_lt hlt
    have hbd := small_at hsm hlt
    have hlit := Sl.lit (e := iE) (x := A[k]) (h := h1)
    have gl := Grow.new (Nat.le_refl h1.nx.nat) (.cells (1 * 1) [iE A[k]])
    simp (disch := omega) only [f56_r4, f56_r5, f56_r6, f56_r7, Nat.reduceEqDiff, ↓reduceIte, g17, g18, g19, d1, p1, p2, bz]
    have hh : h1.new (.cells (1 * 1) [iE A[k]]) = h1.new (.cells (1 * 1) [.i .i64 A[k]]) := rfl
    rw [hh] at hlit
    have gl : Grow h1.nx.nat h1 (h1.new (.cells (1 * 1) [.i .i64 A[k]])) := gl
    refine f56_in0 (h2 := h1) (v := v) (o := o) (A := A) (k := k) (a := A[k]) (j := 0) k94 k67 (by omega) hc1 ⟨Nat.zero_le _, gl, _, hlit, (fun id off n sz e => by cases e; exact Nat.le_refl _), by simp (disch := omega) only [getK_set, Nat.reduceEqDiff, ↓reduceIte, g0, g4, g5, g17, g18, g19, and_self, Int.natCast_zero]⟩ ?_
    clear g0 g4 g5 g17 g18 g19 fr
    rintro fr h3 ⟨_, hG3, u3, s3, o3, g0, g4, g5, g6, g8, g17, g18, g19, g26, g27⟩
    have en3 : ((A.length - 1 : Nat) : Int) - (k : Int) = ((A.length - 1 - k : Nat) : Int) := by omega
    simp (disch := omega) only [f56_r11, Nat.reduceEqDiff, ↓reduceIte, g4, g6, en3, fw64, bz]
    refine f56_in1 (h2 := h1) (v := v) (o := o) (A := A) (k := k) (a := A[k]) (j := 0) k94 k67 hA (by omega) hc1 ⟨Nat.zero_le _, hG3, u3, s3, o3, by simp (disch := omega) only [getK_set, Nat.reduceEqDiff, ↓reduceIte, g0, g4, g5, g6, g8, g17, g18, g19, and_self, Int.natCast_zero]⟩ ?_
    clear g0 g4 g5 g6 g8 g17 g18 g19 g26 g27 fr
    rintro fr h4 ⟨_, hG4, u4, s4, o4, g0, g4, g5, g6, g8, g17, g18, g19, g35, g36⟩
    have eqs : ch P2 (ch P1 [A[k]] k) (A.length - 1 - k) = scl (A.getD k 0) (psL (A.length - 1) k) := by
      rw [hak]
      unfold psL
      rw [← ch_scl, ← ch_scl, scl_one (fw64 (by omega) (by omega))]
    rw [eqs] at s4
    have hs4 := hs.grow hc1 hG4
    have hlen : ∀ h0, lenV u4 h0 = .ok (.i .i64 (A.length : Int)) h0 := fun h0 => by
      rw [s4.len, scl_len, psL_len (by omega), show A.length - 1 + 1 = A.length by omega]
    simp (disch := omega) only [f56_r15, ↓reduceIte, g8, hlen, bz]
    refine f56_in2 (h := h) (h2 := h4) (v := v) (o := o) (u := u4) (A := A) (k := k) (c := 0) hA hlt (hG4.hc hc1) ho0 (fun id off n sz e => o4.notIn (hs.lt hc1 _ _ _ _ e)) ⟨Nat.zero_le _, Grow.refl _ _, hs4, s4, by simp (disch := omega) only [getK_set, Nat.reduceEqDiff, ↓reduceIte, g0, g4, g5, g17, g18, g19, and_self, Int.natCast_zero]⟩ ?_
    clear g0 g4 g5 g6 g8 g17 g18 g19 g35 g36 fr
    rintro fr h5 ⟨_, hG5, s5, _, g0, g4, g5, g17, g18, g19, g42, g43, g44⟩
    rw [dsL_next] at s5
    simp (disch := omega) only [f56_r20, ↓reduceIte, g19, fw64, bz]
    exact ⟨k + 1, by omega, by omega, (hG.trans (hG4.low hG.nx)).trans hG5, s5, by simp (disch := omega) only [getK_set, Nat.reduceEqDiff, ↓reduceIte, g0, g4, g5, g17, g18, and_self, Int.natCast_add, Int.natCast_one]⟩
  · have d1 : decide ((k : Int) < (A.length : Int)) = false := decide_eq_false (by omega)
    obtain rfl : k = A.length := by omega
    have hs : Sl iE h1 o (dsc A) := hs
    have hdl : (dsc A).length = A.length := dsL_len
    obtain ⟨x, x1, x2⟩ := hs.at 0 (by omega)
    obtain ⟨y, y1, y2⟩ := hs.at (A.length - 1) (by omega)
    have b1 : (dsc A).getD 0 0 = (dsc A)[0]'(by omega) := getD_lt (by omega)
    have b2 : (dsc A).getD (A.length - 1) 0 = (dsc A)[A.length - 1]'(by omega) := getD_lt (by omega)
    have x2 : loadV h1 x one? = .ok (.i .i64 ((dsc A).getD 0 0)) h1 := by rw [b1]; exact x2
    have y2 : loadV h1 y one? = .ok (.i .i64 ((dsc A).getD (A.length - 1) 0)) h1 := by rw [b2]; exact y2
    have x1 : ∀ k (h1 : H), iadsV 1 o (.i k 0) h1 = .ok x h1 := x1
    unfold dsOk
    cases e1 : decide ((dsc A).getD 0 0 = 0) with
    | true =>
      simp (disch := omega) only [f56_r4, f56_r21, f56_r22, f56_rs, Option.some.injEq, exists_eq_left', Nat.reduceEqDiff, ↓reduceIte, Bool.false_eq_true, Bool.not_true, g5, g18, g19, d1, x1, x2, e1, Bool.true_or, bz]
      exact ⟨o, hs, ho0, hG⟩
    | false =>
      cases e2 : decide ((dsc A).getD (A.length - 1) 0 = 0) with
      | true =>
        simp (disch := omega) only [f56_r4, f56_r21, f56_r22, f56_rs, Option.some.injEq, exists_eq_left', Nat.reduceEqDiff, ↓reduceIte, Bool.false_eq_true, Bool.not_true, Bool.not_false, g4, g5, g18, g19, d1, x1, x2, e1, y1, y2, e2, Bool.or_true, bz]
        exact ⟨o, hs, ho0, hG⟩
      | false =>
        simp (disch := omega) only [f56_r4, f56_r21, f56_r23, f56_rs, Option.some.injEq, exists_eq_left', Nat.reduceEqDiff, ↓reduceIte, Bool.false_eq_true, Bool.not_false, g4, g5, g18, g19, d1, x1, x2, e1, y1, y2, e2, Bool.or_false, bz]
        exact ⟨o, rfl, hs, ho0, hG⟩
theorem plB_len {A : List Int} (h : plB A = true) : 1 ≤ A.length ∧ A.length ≤ 6 ∧ smB A = true ∧ A.getD (A.length - 1) 0 ≠ 0 := by
  unfold plB at h; simp only [Bool.and_eq_true, decide_eq_true_eq] at h; exact ⟨h.1, h.2.1, h.2.2.1, h.2.2.2⟩
structure CallsD (fs : T EF) : Prop extends CallsT fs where
  c56 : fs.get (K.ofNat 56) = some f56
  c69 : fs.get (K.ofNat 69) = some f69
theorem lit1 {h : H} {x : Int} : Sl iE (h.new (.cells (1 * 1) [.i .i64 x])) (.sl h.nx 0 1 1) [x] := Sl.lit (e := iE) (x := x)
end
end Go.Ev
namespace Go.Ev
open Go Go.RowKit
noncomputable def f25_r0 : List EOper := [oG 2 (.as (.c .sn))]
noncomputable def f25_r1 : List EOper := [oG 3 (.as (.c .sn))]
noncomputable def f25_r2 : List EOper := [oG 4 (.as (cG 0))]
noncomputable def f25_r3 : List EOper := [oG 5 (.mv (tG 4)), oG 6 (.mv (tG 0)), oG 7 (.len (tG 6)), oG 8 (.bin .lss (tG 5) (tG 7)), oG 9 (.mv (tG 8)), gG 10 9 true (.mv (tG 4)), gG 11 9 true (.bin .lss (tG 10) (cG 6)), oG 12 (.pick (tG 9) (tG 11) (.c (.b false)))]
noncomputable def f25_r4 : List EOper := [oG 15 (.mv (tG 3)), oG 16 (.mv (tG 0)), oG 17 (.mv (tG 4)), oG 18 (.iads 1 (tG 16) (tG 17)), oG 19 (.ld (tG 18)), oG 20 (.conv .u64 (tG 19)), oG 21 (.bin .rem (tG 20) (.c (.i .u64 (.ofNat 61)))), oG 22 (.conv .i64 (tG 21)), oG 23 (.bin .sub (tG 22) (cG 30)), oG 24 (.bslice 1 1 [(.i .i64 (.ofNat 0))] [(0, 1, (tG 23))]), oG 25 (.app 1 (tG 15) (tG 24)), oG 3 (.as (tG 25))]
noncomputable def f25_r5 : List EOper := [oG 13 (.mv (tG 4)), oG 14 (.bin .add (tG 13) (cG 1)), oG 4 (.as (tG 14))]
noncomputable def f25_l0 : EC := (.seq (.seq (.reg f25_r3) (.cond (tG 12) .skip (.exit 0))) (.seq (.block 1 (.reg f25_r4)) (.reg f25_r5)))
noncomputable def f25_r6 : List EOper := [oG 26 (.mv (tG 3)), oG 27 (.len (tG 26)), oG 28 (.bin .eql (tG 27) (cG 0)), oG 29 (.mv (tG 28)), gG 30 29 false (.mv (tG 3)), gG 31 29 false (.mv (tG 3)), gG 32 29 false (.len (tG 31)), gG 33 29 false (.bin .sub (tG 32) (cG 1)), gG 34 29 false (.iads 1 (tG 30) (tG 33)), gG 35 29 false (.ld (tG 34)), gG 36 29 false (.bin .eql (tG 35) (cG 0)), oG 37 (.pick (tG 29) (.c (.b true)) (tG 36))]
noncomputable def f25_r7 : List EOper := [oG 38 (.mv (tG 3)), oG 39 (.bslice 1 1 [(.i .i64 (.ofNat 0))] [(0, 1, (cG 1))]), oG 40 (.app 1 (tG 38) (tG 39)), oG 3 (.as (tG 40))]
noncomputable def f25_r8 : List EOper := [oG 41 (.mv (tG 3)), oG 42 (.mv (tG 3)), oG 43 (.len (tG 42)), oG 44 (.bin .sub (tG 43) (cG 6)), oG 45 (.max (cG 0) (tG 44)), oG 46 (.slice 1 (tG 41) (some (tG 45)) none none), oG 2 (.as (tG 46))]
noncomputable def f25_c : EC := (.seq (.reg f25_r0) (.seq (.reg f25_r1) (.seq (.seq (.reg f25_r2) (.block 0 (.loop f25_l0))) (.seq (.seq (.reg f25_r6) (.cond (tG 37) (.reg f25_r7) .skip)) (.seq (.reg f25_r8) .ret)))))
noncomputable def f25 : EF := ⟨47, [.tmp (.ofNat 2)], f25_c, none⟩
section
variable {fs : T EF} {h : H} {v w : V} {A B L M : List Int}
structure TwoP (h0 h1 : H) (a b : V) (A B : List Int) : Prop where
  sa : Sl iE h1 a A
  sb : Sl iE h1 b B
  oa : Own h0.nx.nat a
  ob : Own h0.nx.nat b
  ap : ∀ id off n sz, a = .sl id off n sz → NotIn id b
  gr : Grow h0.nx.nat h0 h1
theorem TwoP.grow {h0 h1 h2 : H} {a b : V} (t : TwoP h0 h1 a b A B) (hc : HC h1) (g : Grow h1.nx.nat h1 h2) : TwoP h0 h2 a b A B := ⟨t.sa.grow hc g, t.sb.grow hc g, t.oa, t.ob, t.ap, t.gr.trans (g.low t.gr.nx)⟩
end
end Go.Ev
namespace Go.Ev
open Go Go.RowKit
def dstep (B e : Nat → Int) (p : Int × Int) (c : Nat) : Int × Int := (fw .i64 (p.1 + fw .i64 (fw .i64 (p.2 * e c) * B c)), fw .i64 (0 - p.2))
def detL (el : Nat → Nat → Int) : Nat → Nat → List Nat → Int
  | 0, _, _ => 1
  | d + 1, row, rem => (rem.foldl (dstep (fun c => detL el d (row + 1) (rem.filter fun x => decide (x ≠ c))) (el row)) (0, 1)).1
def remT (s t : Nat) : List Nat := (List.range s).filter fun c => !t.testBit c
theorem rng_filter {p : Nat → Bool} {c : Nat} : (List.range (c + 1)).filter p = (List.range c).filter p ++ (if p c = true then [c] else []) := by
  rw [List.range_succ, List.filter_append]
  congr 1
  cases h : p c <;> simp [h]
theorem remT_or {s t c : Nat} : remT s (t ||| 2 ^ c) = (remT s t).filter fun x => decide (x ≠ c) := by
  unfold remT
  rw [List.filter_filter]
  apply List.filter_congr
  intro x _
  rw [Nat.testBit_or, Nat.testBit_two_pow]
  by_cases e : c = x
  · subst e; simp
  · have : x ≠ c := fun h => e h.symm
    simp [e, this]
theorem testBit_mod {t c : Nat} : t / 2 ^ c % 2 = if t.testBit c = true then 1 else 0 := by
  rw [Nat.testBit_eq_decide_div_mod_eq]
  by_cases h : t / 2 ^ c % 2 = 1
  · simp [h]
  · simp [h]; omega
theorem remT_0 {s : Nat} : remT s 0 = List.range s := by
  unfold remT
  rw [List.filter_eq_self]
  intro x _
  simp
def elN (A : List Int) (r c : Nat) : Int := if ((A.length : Int) - 1 - 2 * c + r - 1 < 0 ∨ (A.length : Int) - 1 - 2 * c + r - 1 > (A.length : Int) - 1) then 0 else A.getD ((A.length : Int) - 1 - 2 * c + r - 1).toNat 0
def minL (A : List Int) : List Int := (List.range (A.length - 1)).map fun i => detL (elN A) (i + 1) 0 (List.range (i + 1))
theorem minL_len {A : List Int} : (minL A).length = A.length - 1 := by simp [minL]
theorem minL_at {A : List Int} {i : Nat} (hi : i < (minL A).length) : (minL A)[i] = detL (elN A) (i + 1) 0 (List.range (i + 1)) := by simp [minL]
def ngL (A : List Int) : List Int := A.map fun a => fw .i64 (0 - a)
theorem prd_neg {A : List Int} : prd A [-1] = ngL A := by
  have hl : (prd A [-1]).length = A.length := by rw [prd_len]; simp
  apply List.ext_getElem
  · rw [hl]; simp [ngL]
  · intro k h1 h2
    rw [prd_at]
    have hk : k < A.length := by omega
    simp only [ngL, List.getElem_map]
    congr 1
    unfold cvF
    rw [sg_one (j := k) hk]
    · unfold abF
      rw [if_pos (Nat.le_refl _), Nat.sub_self, getD_lt hk]
      show A[k] * (-1) = 0 - A[k]
      omega
    · intro i hi hne
      unfold abF
      split
      · rw [getD_ge (L := [-1]) (by simp; omega), Int.mul_zero]
      · rfl
def upL (A : List Int) : List Int := if A.getD (A.length - 1) 0 < 0 then ngL A else A
theorem upL_len {A : List Int} : (upL A).length = A.length := by unfold upL; split <;> simp [ngL]
def stB (A : List Int) : Bool := !(minL (upL A)).any fun m => decide (m ≤ 0)
end Go.Ev
namespace Go.Ev
open Go Go.RowKit
def trN (L : List Int) : Nat → Nat
  | 0 => 0
  | k + 1 => if L.getD k 0 = 0 then trN L k else k + 1
def trm (L : List Int) : List Int := L.take (trN L L.length)
def evL (A : List Int) (j : Nat) : List Int := ((List.range j).filter fun i => decide (i % 2 = 0)).map fun i => A.getD i 0
def odL (A : List Int) (j : Nat) : List Int := ((List.range j).filter fun i => !decide (i % 2 = 0)).map fun i => A.getD i 0
theorem evL_s0 {A : List Int} {j : Nat} (h : j % 2 = 0) : evL A (j + 1) = evL A j ++ [A.getD j 0] := by
  unfold evL; rw [rng_filter, if_pos (decide_eq_true h), List.map_append]; rfl
theorem evL_s1 {A : List Int} {j : Nat} (h : j % 2 = 1) : evL A (j + 1) = evL A j := by
  unfold evL; rw [rng_filter, if_neg (by simp; omega), List.append_nil]
theorem odL_s0 {A : List Int} {j : Nat} (h : j % 2 = 0) : odL A (j + 1) = odL A j := by
  unfold odL; rw [rng_filter, if_neg (by simp; omega), List.append_nil]
theorem odL_s1 {A : List Int} {j : Nat} (h : j % 2 = 1) : odL A (j + 1) = odL A j ++ [A.getD j 0] := by
  unfold odL; rw [rng_filter, if_pos (by simp; omega), List.map_append]; rfl
theorem evL_le {A : List Int} {j : Nat} : (evL A j).length ≤ j := by
  unfold evL; rw [List.length_map]
  exact Nat.le_trans (List.length_filter_le _ _) (by simp)
theorem odL_le {A : List Int} {j : Nat} : (odL A j).length ≤ j := by
  unfold odL; rw [List.length_map]
  exact Nat.le_trans (List.length_filter_le _ _) (by simp)
end Go.Ev
namespace Go.Ev
open Go Go.RowKit
noncomputable def f87_r0 : List EOper := [oG 6 (.as (cG 0))]
noncomputable def f87_r1 : List EOper := [oG 8 (.ld (tG 2)), oG 9 (.mv (tG 1)), oG 10 (.bin .mul (cG 2) (tG 9)), oG 11 (.bin .sub (tG 8) (tG 10)), oG 12 (.mv (tG 0)), oG 13 (.bin .add (tG 11) (tG 12)), oG 14 (.bin .sub (tG 13) (cG 1)), oG 7 (.as (tG 14))]
noncomputable def f87_r2 : List EOper := [oG 15 (.mv (tG 7)), oG 16 (.bin .lss (tG 15) (cG 0)), oG 17 (.mv (tG 16)), gG 18 17 false (.mv (tG 7)), gG 19 17 false (.ld (tG 2)), gG 20 17 false (.bin .gtr (tG 18) (tG 19)), oG 21 (.pick (tG 17) (.c (.b true)) (tG 20))]
noncomputable def f87_r3 : List EOper := [oG 6 (.as (cG 0))]
noncomputable def f87_r4 : List EOper := [oG 22 (.ld (tG 3)), oG 23 (.mv (tG 7)), oG 24 (.iads 1 (tG 22) (tG 23)), oG 25 (.ld (tG 24)), oG 6 (.as (tG 25))]
noncomputable def f87_c : EC := (.seq (.reg f87_r0) (.seq (.reg f87_r1) (.seq (.seq (.reg f87_r2) (.cond (tG 21) (.seq (.reg f87_r3) .ret) .skip)) (.seq (.reg f87_r4) .ret))))
noncomputable def f87 : EF := ⟨26, [.tmp (.ofNat 6)], f87_c, none⟩
theorem f87_rs : f87.rs = [.tmp (.ofNat 6)] := of_eq_true (eq_self _)
noncomputable def f99_r0 : List EOper := [oG 7 (.as (cG 0))]
noncomputable def f99_r1 : List EOper := [oG 11 (.mv (tG 0)), oG 12 (.ld (tG 2)), oG 13 (.bin .eql (tG 11) (tG 12))]
noncomputable def f99_r2 : List EOper := [oG 7 (.as (cG 1))]
noncomputable def f99_r3 : List EOper := [oG 8 (.as (cG 0))]
noncomputable def f99_r4 : List EOper := [oG 14 (.mv (cG 1)), oG 9 (.as (tG 14))]
noncomputable def f99_r5 : List EOper := [oG 15 (.ld (tG 2)), oG 16 (.mv (cG 0))]
noncomputable def f99_r6 : List EOper := [oG 17 (.bin .lss (tG 16) (tG 15))]
noncomputable def f99_r7 : List EOper := [oG 18 (.mv (tG 16)), oG 10 (.as (tG 18))]
noncomputable def f99_r8 : List EOper := [oG 19 (.mv (tG 1)), oG 20 (.mv (tG 10)), oG 21 (.bin .shr (tG 19) (tG 20)), oG 22 (.bin .and (tG 21) (.c (.i .u64 (.ofNat 1)))), oG 23 (.bin .eql (tG 22) (.c (.i .u64 (.ofNat 0))))]
noncomputable def f99_r9 : List Stage := [⟨[oG 24 (.mv (tG 8)), oG 25 (.mv (tG 9)), oG 26 (.ld (tG 3)), oG 27 (.mv (tG 0)), oG 28 (.mv (tG 10)), oG 31 (.ld (tG 4)), oG 32 (.mv (tG 0)), oG 33 (.bin .add (tG 32) (cG 1)), oG 34 (.mv (tG 1)), oG 35 (.mv (tG 10)), oG 36 (.bin .shl (.c (.i .u64 (.ofNat 1))) (tG 35)), oG 37 (.bin .or (tG 34) (tG 36))], [], (some (oG 29 (.call (tG 26) [(tG 27), (tG 28)]))), []⟩, ⟨[oG 30 (.bin .mul (tG 25) (tG 29))], [oG 24 (.mv (tG 8)), oG 25 (.mv (tG 9)), oG 31 (.ld (tG 4)), oG 32 (.mv (tG 0)), oG 33 (.bin .add (tG 32) (cG 1)), oG 34 (.mv (tG 1)), oG 35 (.mv (tG 10)), oG 36 (.bin .shl (.c (.i .u64 (.ofNat 1))) (tG 35)), oG 37 (.bin .or (tG 34) (tG 36))], (some (oG 38 (.call (tG 31) [(tG 33), (tG 37)]))), []⟩, ⟨[oG 39 (.bin .mul (tG 30) (tG 38)), oG 40 (.bin .add (tG 24) (tG 39))], [oG 24 (.mv (tG 8)), oG 25 (.mv (tG 9)), oG 30 (.bin .mul (tG 25) (tG 29))], (some (oG 8 (.as (tG 40)))), []⟩, ⟨[], [], none, []⟩]
noncomputable def f99_r10 : List EOper := [oG 41 (.mv (tG 9)), oG 42 (.neg (tG 41)), oG 9 (.as (tG 42))]
noncomputable def f99_r11 : List EOper := [oG 43 (.bin .add (tG 16) (cG 1)), oG 16 (.mv (tG 43))]
noncomputable def f99_l0 : EC := (.seq (.reg f99_r6) (.seq (.cond (tG 17) .skip (.exit 0)) (.seq (.block 1 (.seq (.reg f99_r7) (.seq (.reg f99_r8) (.cond (tG 23) (.seq (.draw f99_r9) (.reg f99_r10)) .skip)))) (.reg f99_r11))))
noncomputable def f99_r12 : List EOper := [oG 44 (.mv (tG 8)), oG 7 (.as (tG 44))]
noncomputable def f99_c : EC := (.seq (.reg f99_r0) (.seq (.seq (.reg f99_r1) (.cond (tG 13) (.seq (.reg f99_r2) .ret) .skip)) (.seq (.reg f99_r3) (.seq (.reg f99_r4) (.seq (.seq (.reg f99_r5) (.block 0 (.loop f99_l0))) (.seq (.reg f99_r12) .ret))))))
noncomputable def f99 : EF := ⟨45, [.tmp (.ofNat 7)], f99_c, none⟩
theorem f99_rs : f99.rs = [.tmp (.ofNat 7)] := of_eq_true (eq_self _)
noncomputable def f88_r0 : List EOper := [oG 2 (.box 1 (tG 0)), oG 3 (.box 1 (tG 1)), oG 4 (.as (cG 0))]
noncomputable def f88_r1 : List EOper := [oG 5 (.alloc 1 [.fnil])]
noncomputable def f88_r2 : List EOper := [oG 6 (.mkfn (.ofNat 99) [(tG 2), (tG 3), (tG 5)]), ⟨none, none, .st 1 (tG 5) (tG 6)⟩]
noncomputable def f88_r3 : List EOper := [oG 7 (.ld (tG 5)), oG 8 (.call (tG 7) [(cG 0), (.c (.i .u64 (.ofNat 0)))]), oG 4 (.as (tG 8))]
noncomputable def f88_c : EC := (.seq (.reg f88_r0) (.seq (.reg f88_r1) (.seq (.reg f88_r2) (.seq (.reg f88_r3) .ret))))
noncomputable def f88 : EF := ⟨9, [.tmp (.ofNat 4)], f88_c, none⟩
theorem f88_rs : f88.rs = [.tmp (.ofNat 4)] := of_eq_true (eq_self _)
noncomputable def f57_r0 : List EOper := [oG 1 (.box 1 (tG 0)), oG 2 (.as (.c .sn))]
noncomputable def f57_r1 : List EOper := [oG 7 (.ld (tG 1)), oG 8 (.len (tG 7)), oG 9 (.bin .sub (tG 8) (cG 1)), oG 3 (.alloc 1 [(.i .i64 (.ofNat 0))]), ⟨none, none, .st 1 (tG 3) (tG 9)⟩]
noncomputable def f57_r2 : List EOper := [oG 10 (.mkfn (.ofNat 87) [(tG 3), (tG 1)]), oG 4 (.as (tG 10))]
noncomputable def f57_r3 : List EOper := [oG 11 (.ld (tG 3)), oG 12 (.mkslice 1 [(.i .i64 (.ofNat 0))] (tG 11)), oG 5 (.as (tG 12))]
noncomputable def f57_r4 : List EOper := [oG 13 (.mv (tG 5)), oG 14 (.len (tG 13)), oG 15 (.mv (cG 0))]
noncomputable def f57_r5 : List EOper := [oG 16 (.bin .lss (tG 15) (tG 14))]
noncomputable def f57_r6 : List EOper := [oG 17 (.mv (tG 15)), oG 6 (.as (tG 17))]
noncomputable def f57_r7 : List EOper := [oG 18 (.mv (tG 5)), oG 19 (.mv (tG 6)), oG 20 (.mv (tG 6)), oG 21 (.bin .add (tG 20) (cG 1)), oG 22 (.mv (tG 4)), oG 23 (.call (fG 88) [(tG 21), (tG 22)]), oG 24 (.iads 1 (tG 18) (tG 19)), ⟨none, none, .st 1 (tG 24) (tG 23)⟩]
noncomputable def f57_r8 : List EOper := [oG 25 (.bin .add (tG 15) (cG 1)), oG 15 (.mv (tG 25))]
noncomputable def f57_l0 : EC := (.seq (.reg f57_r5) (.seq (.cond (tG 16) .skip (.exit 0)) (.seq (.block 1 (.seq (.reg f57_r6) (.reg f57_r7))) (.reg f57_r8))))
noncomputable def f57_r9 : List EOper := [oG 26 (.mv (tG 5)), oG 2 (.as (tG 26))]
noncomputable def f57_c : EC := (.seq (.reg f57_r0) (.seq (.reg f57_r1) (.seq (.reg f57_r2) (.seq (.reg f57_r3) (.seq (.seq (.reg f57_r4) (.block 0 (.loop f57_l0))) (.seq (.reg f57_r9) .ret))))))
noncomputable def f57 : EF := ⟨27, [.tmp (.ofNat 2)], f57_c, none⟩
theorem f57_rs : f57.rs = [.tmp (.ofNat 2)] := of_eq_true (eq_self _)
theorem shl_u8 {n : Nat} (hn : n ≤ 8) : binV .shl (.i .u64 1) (.i .i64 (n : Int)) = some (.i .u64 ((2 ^ n : Nat) : Int)) := by
  have h2 : 2 ^ n ≤ 256 := Nat.pow_le_pow_right (by omega) hn
  have h3 : ((2 ^ n : Nat) : Int) ≤ 256 := Int.ofNat_le.2 h2
  rw [bin_shl (by omega), show min (n : Int).toNat (IntKind.bits .u64) = n by show min (n : Int).toNat 64 = n; omega, Int.one_mul, show (2 : Int) ^ n = ((2 ^ n : Nat) : Int) by simp]
  rw [fwu64 (Int.natCast_nonneg _) (by omega)]
theorem shr_8 {k : IntKind} {t n : Nat} (hk : 64 ≤ k.bits) (hn : n ≤ 8) : binV .shr (.i k (t : Int)) (.i .i64 (n : Int)) = some (.i k ((t / 2 ^ n : Nat) : Int)) := by
  rw [bin_shr, Nat.min_eq_left (by omega)]
theorem and_u1 {m : Nat} (hm : m ≤ 1000) : binV .and (.i .u64 (m : Int)) (.i .u64 1) = some (.i .u64 ((m % 2 : Nat) : Int)) := by
  have := bin_and (k := .u64) (m := m) (n := 1) (by show _ ≤ 18446744073709551615; omega) (by show _ ≤ 18446744073709551615; omega)
  rw [Nat.and_one_is_mod] at this
  exact this
theorem or_u {m n : Nat} (hm : m ≤ 1000) (hn : n ≤ 1000) : binV .or (.i .u64 (m : Int)) (.i .u64 (n : Int)) = some (.i .u64 ((m ||| n : Nat) : Int)) := bin_or (by show _ ≤ 18446744073709551615; omega) (by show _ ≤ 18446744073709551615; omega)
theorem beq_f3 {f a b q : K} {c d g : Nat} : beqV (.fn f [.p a c, .p b d, .p q g]) (.fn f [.p a c, .p b d, .p q g]) = true := by
  show (f.beq f && ((a.beq a && Nat.beq c c) && ((b.beq b && Nat.beq d d) && ((q.beq q && Nat.beq g g) && true)))) = true
  simp [K.beq_refl]
section
variable {fs : T EF} {h : H} {v w : V} {A B L : List Int}
structure ElM (h : H) (idn ida : K) (va : V) (A : List Int) : Prop where
  n : h.get idn = .cells 1 [.i .i64 ((A.length : Int) - 1)]
  a : h.get ida = .cells 1 [va]
  s : Sr iE h va A
theorem ElM.grow {h' : H} {idn ida : K} {va : V} (m : ElM h idn ida va A) (hc : HC h) (g : Grow h.nx.nat h h') : ElM h' idn ida va A := by
  obtain ⟨n, a, s⟩ := m
  exact ⟨(g.old _ (hc.cells n)).trans n, (g.old _ (hc.cells a)).trans a, s.grow hc g⟩
theorem f87_ret {idn ida : K} {va : V} {r c : Nat} (m : ElM h idn ida va A) (hA : A.length ≤ 1000) (hr : r ≤ 1000) (hcc : c ≤ 1000) : Ret fs f87 [.i .i64 (r : Int), .i .i64 (c : Int), .p idn 0, .p ida 0] h fun x h' => x = .i .i64 (elN A r c) ∧ h' = h := by
  obtain ⟨en, ea, sa⟩ := m
  have ln : loadV h (.p idn 0) one? = .ok (.i .i64 ((A.length : Int) - 1)) h := load_p en rfl
  have la : loadV h (.p ida 0) one? = .ok va h := load_p ea rfl
  apply ret_of rfl
  show W fs none f87_c _ _ _
  unfold f87_c elN
  generalize hx : (A.length : Int) - 1 - 2 * (c : Int) + (r : Int) - 1 = x
  have b1 : fw .i64 (2 * (c : Int)) = 2 * (c : Int) := fw64 (by omega) (by omega)
  have b2 : fw .i64 ((A.length : Int) - 1 - 2 * (c : Int)) = (A.length : Int) - 1 - 2 * (c : Int) := fw64 (by omega) (by omega)
  have b3 : fw .i64 ((A.length : Int) - 1 - 2 * (c : Int) + (r : Int)) = (A.length : Int) - 1 - 2 * (c : Int) + (r : Int) := fw64 (by omega) (by omega)
  have b4 : fw .i64 ((A.length : Int) - 1 - 2 * (c : Int) + (r : Int) - 1) = x := by rw [fw64 (by omega) (by omega), hx]
  by_cases h1 : x < 0
  · have d1 : decide (x < 0) = true := decide_eq_true h1
    rw [if_pos (.inl h1)]
    simp (disch := omega) only [f87_r0, f87_r1, f87_r2, f87_r3, f87_rs, bin_mul, frame_4, Option.some.injEq, exists_eq_left', Nat.reduceEqDiff, ↓reduceIte, Bool.false_eq_true, Bool.not_true, ln, b1, b2, b3, b4, d1, and_self, bz]
  · have d1 : decide (x < 0) = false := decide_eq_false h1
    by_cases h2 : x > (A.length : Int) - 1
    · have d2 : decide (x > (A.length : Int) - 1) = true := decide_eq_true h2
      rw [if_pos (.inr h2)]
      simp (disch := omega) only [f87_r0, f87_r1, f87_r2, f87_r3, f87_rs, bin_mul, frame_4, Option.some.injEq, exists_eq_left', Nat.reduceEqDiff, ↓reduceIte, Bool.false_eq_true, Bool.not_false, ln, b1, b2, b3, b4, d1, d2, and_self, bz]
    · have d2 : decide (x > (A.length : Int) - 1) = false := decide_eq_false h2
      rw [if_neg (by omega)]
      obtain ⟨y, rfl⟩ : ∃ y : Nat, x = y := ⟨x.toNat, by omega⟩
      have hy : y < A.length := by omega
      obtain ⟨p, p1, p2⟩ := sa.at y hy
      have p2 : loadV h p one? = .ok (.i .i64 A[y]) h := p2
      have e2 : A.getD (y : Int).toNat 0 = A[y] := by rw [Int.toNat_natCast, getD_lt hy]
      rw [e2]
      simp (disch := omega) only [f87_r0, f87_r1, f87_r2, f87_r4, f87_rs, bin_mul, frame_4, Option.some.injEq, exists_eq_left', Nat.reduceEqDiff, ↓reduceIte, Bool.false_eq_true, Bool.not_false, ln, la, b1, b2, b3, b4, d1, d2, p1, p2, and_self, bz]
structure BlM (h : H) (ids ide idb : K) (s : Nat) (g : V) : Prop where
  s : h.get ids = .cells 1 [.i .i64 (s : Int)]
  el : h.get ide = .cells 1 [g]
  b : h.get idb = .cells 1 [.fn (K.ofNat 99) [.p ids 0, .p ide 0, .p idb 0]]
def f99_I (h0 : H) (ids ide idb : K) (s row t : Nat) (B E : Nat → Int) (c : Nat) (fr : Fr) (h1 : H) : Prop := c ≤ s ∧ h1 = h0 ∧ fr.get (K.ofNat 0) = some (.i .i64 (row : Int)) ∧ fr.get (K.ofNat 1) = some (.i .u64 (t : Int)) ∧ fr.get (K.ofNat 2) = some (.p ids 0) ∧ fr.get (K.ofNat 3) = some (.p ide 0) ∧ fr.get (K.ofNat 4) = some (.p idb 0) ∧ fr.get (K.ofNat 8) = some (.i .i64 ((((List.range c).filter fun c => !t.testBit c).foldl (dstep B E) (0, 1)).1)) ∧ fr.get (K.ofNat 9) = some (.i .i64 ((((List.range c).filter fun c => !t.testBit c).foldl (dstep B E) (0, 1)).2)) ∧ fr.get (K.ofNat 15) = some (.i .i64 (s : Int)) ∧ fr.get (K.ofNat 16) = some (.i .i64 (c : Int))
theorem f99_ret {ids ide idb : K} {s : Nat} {g : V} {el : Nat → Nat → Int} (h99 : fs.get (.ofNat 99) = some f99) (m : BlM h ids ide idb s g) (hs : s ≤ 8) (hg : ∀ r c : Nat, r ≤ 8 → c ≤ 8 → ∀ P, CallP fs g [.i .i64 (r : Int), .i .i64 (c : Int)] h P = P (.i .i64 (el r c)) h) :
    ∀ d row t : Nat, row + d = s → t < 2 ^ s → Ret fs f99 [.i .i64 (row : Int), .i .u64 (t : Int), .p ids 0, .p ide 0, .p idb 0] h fun x h' => x = .i .i64 (detL el d row (remT s t)) ∧ h' = h := by
  have ls : loadV h (.p ids 0) one? = .ok (.i .i64 (s : Int)) h := load_p m.s rfl
  have le : loadV h (.p ide 0) one? = .ok g h := load_p m.el rfl
  have lb : loadV h (.p idb 0) one? = .ok (.fn (K.ofNat 99) [.p ids 0, .p ide 0, .p idb 0]) h := load_p m.b rfl
  have hp : (2 : Nat) ^ s ≤ 256 := Nat.pow_le_pow_right (n := 2) (by omega) hs
  intro d
  induction d with
  | zero =>
    intro row t hd _
    have d1 : decide ((row : Int) = (s : Int)) = true := decide_eq_true (by omega)
    apply ret_of rfl
    show W fs none f99_c _ _ _
    unfold f99_c detL
    simp (disch := omega) only [f99_r0, f99_r1, f99_r2, f99_rs, Option.some.injEq, exists_eq_left', Nat.reduceEqDiff, ↓reduceIte, frame_5, ls, d1, and_self, bz]
  | succ d ih =>
    intro row t hd ht
    have d1 : decide ((row : Int) = (s : Int)) = false := decide_eq_false (by omega)
    have hcall : ∀ c, c < s → ∀ P, CallP fs (.fn (K.ofNat 99) [.p ids 0, .p ide 0, .p idb 0]) [.i .i64 ((row + 1 : Nat) : Int), .i .u64 ((t ||| 2 ^ c : Nat) : Int)] h P = P (.i .i64 (detL el d (row + 1) ((remT s t).filter fun x => decide (x ≠ c)))) h := fun c hcs P => by
      refine callP_eq2 (callP_of h99 rfl ?_)
      rw [cat_eq, ← remT_or]
      exact ih (row + 1) (t ||| 2 ^ c) (by omega) (Nat.or_lt_two_pow ht (Nat.pow_lt_pow_right (by omega) hcs))
    apply ret_of rfl
    show W fs none f99_c _ _ _
    unfold f99_c
    simp (disch := omega) only [f99_r0, f99_r1, f99_r3, f99_r4, f99_r5, Nat.reduceEqDiff, ↓reduceIte, Bool.false_eq_true, frame_5, ls, d1, bz]
    refine W_loop (f99_I h ids ide idb s row t (fun c => detL el d (row + 1) ((remT s t).filter fun x => decide (x ≠ c))) (el row)) (fun c => s - c) ?_ 0 ⟨Nat.zero_le _, rfl, by simp (disch := omega) only [getK_set, Nat.reduceEqDiff, ↓reduceIte, and_self, Int.natCast_zero, List.range_zero, List.filter_nil, List.foldl_nil]⟩
    rintro c fr h1 ⟨hcs, rfl, g0, g1, g2, g3, g4, g8, g9, g15, g16⟩
    unfold f99_l0
    by_cases hlt : c < s
    · have d2 : decide ((c : Int) < (s : Int)) = true := decide_eq_true (by omega)
      have hsh := shr_8 (k := .u64) (t := t) (n := c) (Nat.le_refl _) (by omega)
      have hq : t / 2 ^ c ≤ 1000 := Nat.le_trans (Nat.div_le_self _ _) (by omega)
      have hand := and_u1 hq
      rw [testBit_mod] at hand
      have hf := rng_filter (p := fun c => !t.testBit c) (c := c)
      generalize hst : ((List.range c).filter fun c => !t.testBit c).foldl (dstep (fun c => detL el d (row + 1) ((remT s t).filter fun x => decide (x ≠ c))) (el row)) (0, 1) = st at *
      cases hb : t.testBit c with
      | true =>
        rw [hb] at hand hf
        have hf : (List.range (c + 1)).filter (fun c => !t.testBit c) = (List.range c).filter fun c => !t.testBit c := by simpa using hf
        have hand : binV .and (.i .u64 ((t / 2 ^ c : Nat) : Int)) (.i .u64 1) = some (.i .u64 1) := by rw [hand]; rfl
        have d3 : decide ((1 : Int) = 0) = false := rfl
        simp (disch := omega) only [f99_r6, f99_r7, f99_r8, f99_r11, Nat.reduceEqDiff, ↓reduceIte, Bool.false_eq_true, g1, g15, g16, d2, hsh, hand, d3, fw64, bz]
        exact ⟨c + 1, by omega, by omega, rfl, by rw [hf, hst]; simp (disch := omega) only [getK_set, Nat.reduceEqDiff, ↓reduceIte, g0, g1, g2, g3, g4, g8, g9, g15, and_self, Int.natCast_add, Int.natCast_one]⟩
      | false =>
        rw [hb] at hand hf
        have hf : (List.range (c + 1)).filter (fun c => !t.testBit c) = ((List.range c).filter fun c => !t.testBit c) ++ [c] := by simpa using hf
        have hand : binV .and (.i .u64 ((t / 2 ^ c : Nat) : Int)) (.i .u64 1) = some (.i .u64 0) := by rw [hand]; rfl
        have d3 : decide ((0 : Int) = 0) = true := rfl
        have hshl := shl_u8 (n := c) (by omega)
        have h2c : (2 : Nat) ^ c ≤ 256 := Nat.pow_le_pow_right (n := 2) (by omega) (show c ≤ 8 by omega)
        have hor := or_u (m := t) (n := 2 ^ c) (by omega) (by omega)
        have hgc := hg row c (by omega) (by omega)
        have hcc := hcall c hlt
        have er : (row : Int) + 1 = ((row + 1 : Nat) : Int) := by omega
        have hnew : ((List.range (c + 1)).filter fun c => !t.testBit c).foldl (dstep (fun c => detL el d (row + 1) ((remT s t).filter fun x => decide (x ≠ c))) (el row)) (0, 1) = (fw .i64 (st.1 + fw .i64 (fw .i64 (st.2 * el row c) * detL el d (row + 1) ((remT s t).filter fun x => decide (x ≠ c)))), fw .i64 (0 - st.2)) := by
          rw [hf, List.foldl_append, hst]; rfl
        generalize detL el d (row + 1) ((remT s t).filter fun x => decide (x ≠ c)) = D at *
        simp (disch := omega) only [f99_r6, f99_r7, f99_r8, f99_r9, f99_r10, f99_r11, w_draw, x_neg, kg, xg_mv, xg_ld, xg_bin, fresh_nil, stK_n, stay_cons, again_ok, stay_mv, beq_i, stay_ld, stay_bin, bin_mul, onI_i, Nat.reduceEqDiff, ↓reduceIte, decide_eq_true_eq, g0, g1, g3, g4, g8, g9, g15, g16, d2, hsh, hand, le, lb, hshl, hor, er, fw64, hgc, hcc, beq_f3, isub_eq, bz]
        exact ⟨c + 1, by omega, by omega, rfl, by rw [hnew]; simp (disch := omega) only [getK_set, Nat.reduceEqDiff, ↓reduceIte, g0, g1, g2, g3, g4, g15, and_self, Int.natCast_add, Int.natCast_one]⟩
    · have d2 : decide ((c : Int) < (s : Int)) = false := decide_eq_false (by omega)
      obtain rfl : c = s := by omega
      simp (disch := omega) only [f99_r6, f99_r12, f99_rs, Option.some.injEq, exists_eq_left', Nat.reduceEqDiff, ↓reduceIte, Bool.false_eq_true, g8, g15, g16, d2, and_true, bz]
      rfl
theorem f88_ret {s : Nat} {g : V} {el : Nat → Nat → Int} (h99 : fs.get (.ofNat 99) = some f99) (h1g : cellsN 1 g = some [g]) (hs : s ≤ 8) (hg : ∀ h', Grow h.nx.nat h h' → ∀ r c : Nat, r ≤ 8 → c ≤ 8 → ∀ P, CallP fs g [.i .i64 (r : Int), .i .i64 (c : Int)] h' P = P (.i .i64 (el r c)) h') :
    Ret fs f88 [.i .i64 (s : Int), g] h fun x h' => x = .i .i64 (detL el s 0 (List.range s)) ∧ Grow h.nx.nat h h' := by
  apply ret_of rfl
  show W fs none f88_c _ _ _
  unfold f88_c
  have n1 := nx_new h (.cells 1 [.i .i64 (s : Int)])
  have gA := Grow.new (Nat.le_refl h.nx.nat) (.cells 1 [.i .i64 (s : Int)])
  have e1 : (h.new (.cells 1 [.i .i64 (s : Int)])).get h.nx = .cells 1 [.i .i64 (s : Int)] := get_new_same
  simp (disch := omega) only [f88_r0, f88_r1, x_box, Nat.reduceEqDiff, ↓reduceIte, h1g, bz]
  generalize h.new (.cells 1 [.i .i64 (s : Int)]) = hA at *
  have n2 := nx_new hA (.cells 1 [g])
  have gB := Grow.new (Nat.le_refl hA.nx.nat) (.cells 1 [g])
  have e2 : (hA.new (.cells 1 [g])).get hA.nx = .cells 1 [g] := get_new_same
  have e1' : (hA.new (.cells 1 [g])).get h.nx = .cells 1 [.i .i64 (s : Int)] := (get_new_old (by omega)).trans e1
  generalize hA.new (.cells 1 [g]) = hB at *
  have n3 := nx_new hB (.cells 1 [.fnil])
  have gC := Grow.new (Nat.le_refl hB.nx.nat) (.cells 1 [.fnil])
  have e3 : (hB.new (.cells 1 [.fnil])).get hB.nx = .cells 1 [.fnil] := get_new_same
  have e2' : (hB.new (.cells 1 [.fnil])).get hA.nx = .cells 1 [g] := (get_new_old (by omega)).trans e2
  have e1'' : (hB.new (.cells 1 [.fnil])).get h.nx = .cells 1 [.i .i64 (s : Int)] := (get_new_old (by omega)).trans e1'
  generalize hB.new (.cells 1 [.fnil]) = hC at *
  have hst : storeV hC 1 (.p hB.nx 0) (.fn (K.ofNat 99) [.p h.nx 0, .p hA.nx 0, .p hB.nx 0]) = .ok undefV (hC.put hB.nx (.cells 1 [.fn (K.ofNat 99) [.p h.nx 0, .p hA.nx 0, .p hB.nx 0]])) := by
    rw [store_p (m := 1) (cs := [.fnil]) (xs := [.fn (K.ofNat 99) [.p h.nx 0, .p hA.nx 0, .p hB.nx 0]]) e3 rfl (by omega)]; rfl
  have gD := Grow.put (b := h.nx.nat) (h := hC) (k := hB.nx) (by omega) (by omega) (.cells 1 [.fn (K.ofNat 99) [.p h.nx 0, .p hA.nx 0, .p hB.nx 0]])
  have k1 : (hC.put hB.nx (.cells 1 [.fn (K.ofNat 99) [.p h.nx 0, .p hA.nx 0, .p hB.nx 0]])).get h.nx = .cells 1 [.i .i64 (s : Int)] := (get_put_other (kNe (by omega))).trans e1''
  have k2 : (hC.put hB.nx (.cells 1 [.fn (K.ofNat 99) [.p h.nx 0, .p hA.nx 0, .p hB.nx 0]])).get hA.nx = .cells 1 [g] := (get_put_other (kNe (by omega))).trans e2'
  have k3 : (hC.put hB.nx (.cells 1 [.fn (K.ofNat 99) [.p h.nx 0, .p hA.nx 0, .p hB.nx 0]])).get hB.nx = .cells 1 [.fn (K.ofNat 99) [.p h.nx 0, .p hA.nx 0, .p hB.nx 0]] := get_put_same
  have gAll : Grow h.nx.nat h (hC.put hB.nx (.cells 1 [.fn (K.ofNat 99) [.p h.nx 0, .p hA.nx 0, .p hB.nx 0]])) := ((gA.trans (gB.low (by omega))).trans (gC.low (by omega))).trans gD
  have lb : loadV (hC.put hB.nx (.cells 1 [.fn (K.ofNat 99) [.p h.nx 0, .p hA.nx 0, .p hB.nx 0]])) (.p hB.nx 0) one? = .ok (.fn (K.ofNat 99) [.p h.nx 0, .p hA.nx 0, .p hB.nx 0]) (hC.put hB.nx (.cells 1 [.fn (K.ofNat 99) [.p h.nx 0, .p hA.nx 0, .p hB.nx 0]])) := load_p k3 rfl
  simp (disch := omega) only [f88_r2, f88_r3, x_mkfn, Nat.reduceEqDiff, ↓reduceIte, hst, lb, bz]
  refine (callP_of h99 rfl (by
    rw [cat_eq]
    exact f99_ret (s := s) (g := g) (el := el) h99 ⟨k1, k2, k3⟩ hs (hg _ gAll) s 0 0 (by omega) (Nat.two_pow_pos s))).mono ?_
  rintro r h' ⟨rfl, rfl⟩
  rw [remT_0]
  simp (disch := omega) only [f88_rs, Option.some.injEq, exists_eq_left', ↓reduceIte, bz]
  exact gAll
def f57_I (h : H) (v o : V) (idn ida : K) (A : List Int) (i : Nat) (fr : Fr) (h1 : H) : Prop := i ≤ A.length - 1 ∧ Grow h.nx.nat h h1 ∧ Sl iE h1 o (fil (minL A) i) ∧ ElM h1 idn ida v A ∧ fr.get (K.ofNat 4) = some (.fn (K.ofNat 87) [.p idn 0, .p ida 0]) ∧ fr.get (K.ofNat 5) = some (o) ∧ fr.get (K.ofNat 13) = some (o) ∧ fr.get (K.ofNat 14) = some (.i .i64 ((A.length - 1 : Nat) : Int)) ∧ fr.get (K.ofNat 15) = some (.i .i64 (i : Int))
structure CallsM (fs : T EF) : Prop where
  c87 : fs.get (K.ofNat 87) = some f87
  c99 : fs.get (K.ofNat 99) = some f99
  c88 : fs.get (K.ofNat 88) = some f88
theorem f57_ret (k : CallsM fs) (hA1 : 1 ≤ A.length) (hA : A.length ≤ 8) (hv : Sr iE h v A) (hc : HC h) : Ret fs f57 [v] h fun r h' => Sl iE h' r (minL A) ∧ Own h.nx.nat r ∧ Grow h.nx.nat h h' := by
  apply ret_of rfl
  show W fs none f57_c _ _ _
  unfold f57_c
  have hml := minL_len (A := A)
  have h1v : cellsN 1 v = some [v] := hv.one
  have n1 := nx_new h (.cells 1 [v])
  have gA := Grow.new (Nat.le_refl h.nx.nat) (.cells 1 [v])
  have e1 : (h.new (.cells 1 [v])).get h.nx = .cells 1 [v] := get_new_same
  have l1 : loadV (h.new (.cells 1 [v])) (.p h.nx 0) one? = .ok v (h.new (.cells 1 [v])) := load_p e1 rfl
  have en : (A.length : Int) - 1 = ((A.length - 1 : Nat) : Int) := by omega
  have hlv := hv.len
  have en' : fw .i64 ((A.length : Int) - 1) = ((A.length - 1 : Nat) : Int) := by rw [fw64 (by omega) (by omega), en]
  have st1 : storeV ((h.new (.cells 1 [v])).new (.cells 1 [.i .i64 0])) 1 (.p (h.new (.cells 1 [v])).nx 0) (.i .i64 ((A.length - 1 : Nat) : Int)) = .ok undefV (((h.new (.cells 1 [v])).new (.cells 1 [.i .i64 0])).put (h.new (.cells 1 [v])).nx (.cells 1 [.i .i64 ((A.length - 1 : Nat) : Int)])) := by
    rw [store_p (m := 1) (cs := [.i .i64 0]) (xs := [.i .i64 ((A.length - 1 : Nat) : Int)]) get_new_same rfl (by omega)]; rfl
  have hvA := hv.grow hc gA
  have hcA := gA.hc hc
  simp (disch := omega) only [f57_r0, f57_r1, x_box, Nat.reduceEqDiff, ↓reduceIte, h1v, l1, hlv, en', st1, bz]
  generalize h.new (.cells 1 [v]) = hA0 at *
  have n2 := nx_new hA0 (.cells 1 [.i .i64 0])
  have gB : Grow hA0.nx.nat hA0 ((hA0.new (.cells 1 [.i .i64 0])).put hA0.nx (.cells 1 [.i .i64 ((A.length - 1 : Nat) : Int)])) := (Grow.new (Nat.le_refl _) _).trans (Grow.put (Nat.le_refl _) (by omega) _)
  have e2 : ((hA0.new (.cells 1 [.i .i64 0])).put hA0.nx (.cells 1 [.i .i64 ((A.length - 1 : Nat) : Int)])).get hA0.nx = .cells 1 [.i .i64 ((A.length - 1 : Nat) : Int)] := get_put_same
  have n2' : ((hA0.new (.cells 1 [.i .i64 0])).put hA0.nx (.cells 1 [.i .i64 ((A.length - 1 : Nat) : Int)])).nx.nat = hA0.nx.nat + 1 := by rw [nx_put]; exact n2
  generalize (hA0.new (.cells 1 [.i .i64 0])).put hA0.nx (.cells 1 [.i .i64 ((A.length - 1 : Nat) : Int)]) = hB at *
  have mB : ElM hB hA0.nx h.nx v A := ⟨by rw [e2, en], (gB.old _ (by omega)).trans e1, hvA.grow hcA gB⟩
  have hcB := gB.hc hcA
  have l2 : loadV hB (.p hA0.nx 0) one? = .ok (.i .i64 ((A.length - 1 : Nat) : Int)) hB := load_p e2 rfl
  have hmk := mks_ints (h := hB) (k := .i64) (n := A.length - 1) (by omega)
  have hsl := mks_sl (h := hB) (n := A.length - 1)
  have hle := hsl.len
  rw [List.length_replicate] at hle
  have gC := Grow.new (Nat.le_refl hB.nx.nat) (.cells ((A.length - 1) * 1) (rep [.i .i64 0] (A.length - 1)))
  have gAll := (gA.trans (gB.low (by omega))).trans (gC.low (b := h.nx.nat) (by omega))
  have mC := mB.grow hcB gC
  simp (disch := omega) only [f57_r2, f57_r3, f57_r4, x_mkfn, x_mks, Nat.reduceEqDiff, ↓reduceIte, l2, hmk, hle, bz]
  generalize hB.new (.cells ((A.length - 1) * 1) (rep [.i .i64 0] (A.length - 1))) = h0 at *
  have ho0 : Own h.nx.nat (.sl hB.nx 0 (A.length - 1) 1) := fun id off n sz e => by cases e; omega
  have hno : ∀ id off n sz, V.sl hB.nx 0 (A.length - 1) 1 = .sl id off n sz → hB.nx.nat ≤ id.nat := fun id off n sz e => by cases e; exact Nat.le_refl _
  generalize V.sl hB.nx 0 (A.length - 1) 1 = o at *
  rw [show List.replicate (A.length - 1) (0 : Int) = fil (minL A) 0 by rw [fil_0, hml]] at hsl
  refine W_loop (f57_I h v o hA0.nx h.nx A) (fun k => A.length - 1 - k) ?_ 0 ⟨by omega, gAll, hsl, mC, by simp (disch := omega) only [getK_set, Nat.reduceEqDiff, ↓reduceIte, and_self, Int.natCast_zero]⟩
  rintro i fr h1 ⟨hi, hG, hs, m1, g4, g5, g13, g14, g15⟩
  have hc1 := hG.hc hc
  unfold f57_l0
  by_cases hlt : i < A.length - 1
  · have d1 : decide ((i : Int) < ((A.length - 1 : Nat) : Int)) = true := decide_eq_true (by omega)
    have ei : (i : Int) + 1 = ((i + 1 : Nat) : Int) := by omega
    simp (disch := omega) only [f57_r5, f57_r6, f57_r7, Nat.reduceEqDiff, ↓reduceIte, g4, g5, g14, g15, d1, fw64, ei, bz]
    refine (callP_0 (ef := f88) k.c88 rfl (f88_ret (h := h1) (s := i + 1) (g := .fn (K.ofNat 87) [.p hA0.nx 0, .p h.nx 0]) (el := elN A) k.c99 rfl (by omega) (fun h' g' r c hr hcc P => ?_))).mono ?_
    · refine callP_eq2 (callP_of k.c87 rfl ?_)
      rw [cat_eq]
      exact f87_ret (m1.grow hc1 g') (by omega) (by omega) (by omega)
    rintro x h2 ⟨rfl, g2⟩
    have hc2 := g2.hc hc1
    have hs2 := hs.grow hc1 g2
    have m2 := m1.grow hc1 g2
    have hil : i < (minL A).length := by omega
    obtain ⟨p, id, m, cs', a1, a2, a3, ⟨off, n', sz, a4⟩, a5⟩ := hs2.st (i := i) (by rw [fil_len (by omega)]; exact hil) (x := (minL A)[i]) (c := .i .i64 ((minL A)[i])) rfl rfl hc2
    rw [fil_set hil] at a3
    rw [minL_at hil] at a2
    have hidn := hno _ _ _ _ a4
    have m3 : ElM (h2.put id (.cells m cs')) hA0.nx h.nx v A := by
      obtain ⟨q1, q2, q3⟩ := m2
      exact ⟨(get_put_other (kNe (by omega))).trans q1, (get_put_other (kNe (by omega))).trans q2, q3.put (fun off n sz e => by have := hv.lt hc _ _ _ _ e; omega) _⟩
    simp (disch := omega) only [f57_r8, Nat.reduceEqDiff, ↓reduceIte, g15, a1, a2, fw64, bz]
    exact ⟨i + 1, by omega, by omega, (hG.trans (g2.low hG.nx)).trans (Grow.put (ho0 _ _ _ _ a4) a5 _), a3, m3, by simp (disch := omega) only [getK_set, Nat.reduceEqDiff, ↓reduceIte, g4, g5, g13, g14, and_self, Int.natCast_add, Int.natCast_one]⟩
  · have d1 : decide ((i : Int) < ((A.length - 1 : Nat) : Int)) = false := decide_eq_false (by omega)
    have ei : i = (minL A).length := by omega
    rw [ei, fil_all] at hs
    simp (disch := omega) only [f57_r5, f57_r9, f57_rs, Option.some.injEq, exists_eq_left', Nat.reduceEqDiff, ↓reduceIte, Bool.false_eq_true, g5, g14, g15, d1, bz]
    exact ⟨hs, ho0, hG⟩
end
end Go.Ev
namespace Go.Ev
open Go Go.RowKit
noncomputable def f70_r0 : List EOper := [oG 4 (.as (cG 0))]
noncomputable def f70_r1 : List EOper := [oG 5 (.mv (tG 1)), oG 6 (.bin .lss (tG 5) (cG 0)), oG 7 (.mv (tG 6)), gG 8 7 false (.mv (tG 1)), gG 9 7 false (.mv (tG 0)), gG 10 7 false (.len (tG 9)), gG 11 7 false (.bin .geq (tG 8) (tG 10)), oG 12 (.pick (tG 7) (.c (.b true)) (tG 11))]
noncomputable def f70_r2 : List EOper := [oG 4 (.as (cG 0))]
noncomputable def f70_r3 : List EOper := [oG 13 (.mv (tG 0)), oG 14 (.mv (tG 1)), oG 15 (.iads 1 (tG 13) (tG 14)), oG 16 (.ld (tG 15)), oG 4 (.as (tG 16))]
noncomputable def f70_c : EC := (.seq (.reg f70_r0) (.seq (.seq (.reg f70_r1) (.cond (tG 12) (.seq (.reg f70_r2) .ret) .skip)) (.seq (.reg f70_r3) .ret)))
noncomputable def f70 : EF := ⟨17, [.tmp (.ofNat 4)], f70_c, none⟩
noncomputable def f71_r0 : List EOper := [oG 6 (.as (cG 0))]
noncomputable def f71_r1 : List EOper := [oG 7 (.as (cG 0)), oG 8 (.as (cG 1))]
noncomputable def f71_r2 : List EOper := [oG 10 (.mv (tG 2)), oG 11 (.bin .eql (tG 10) (cG 0))]
noncomputable def f71_r3 : List EOper := [oG 6 (.as (cG 1))]
noncomputable def f71_r4 : List EOper := [oG 9 (.as (cG 0))]
noncomputable def f71_r5 : List EOper := [oG 12 (.mv (tG 2)), oG 13 (.mv (tG 9)), oG 14 (.bin .shr (tG 12) (tG 13)), oG 15 (.bin .gtr (tG 14) (cG 0))]
noncomputable def f71_r6 : List EOper := [oG 18 (.mv (tG 2)), oG 19 (.mv (tG 9)), oG 20 (.bin .shr (tG 18) (tG 19)), oG 21 (.bin .rem (tG 20) (cG 2)), oG 22 (.bin .eql (tG 21) (cG 1))]
noncomputable def f71_r7 : List Stage := [⟨[oG 23 (.mv (tG 7)), oG 24 (.mv (tG 8)), oG 25 (.mv (tG 0)), oG 26 (.mv (tG 1)), oG 27 (.iads 1 (tG 25) (tG 26)), oG 28 (.ld (tG 27)), oG 29 (.mv (tG 9)), oG 30 (.iads 1 (tG 28) (tG 29)), oG 31 (.ld (tG 30)), oG 32 (.bin .mul (tG 24) (tG 31)), oG 33 (.mv (tG 0)), oG 34 (.mv (tG 1)), oG 35 (.bin .add (tG 34) (cG 1)), oG 36 (.mv (tG 2)), oG 37 (.mv (tG 9)), oG 38 (.bin .shl (cG 1) (tG 37)), oG 39 (.bin .andNot (tG 36) (tG 38))], [], (some (oG 40 (.call (fG 71) [(tG 33), (tG 35), (tG 39)]))), []⟩, ⟨[oG 41 (.bin .mul (tG 32) (tG 40)), oG 42 (.bin .add (tG 23) (tG 41))], [oG 23 (.mv (tG 7)), oG 24 (.mv (tG 8)), oG 25 (.mv (tG 0)), oG 26 (.mv (tG 1)), oG 27 (.iads 1 (tG 25) (tG 26)), oG 28 (.ld (tG 27)), oG 29 (.mv (tG 9)), oG 30 (.iads 1 (tG 28) (tG 29)), oG 31 (.ld (tG 30)), oG 32 (.bin .mul (tG 24) (tG 31))], (some (oG 7 (.as (tG 42)))), []⟩, ⟨[], [], none, []⟩]
noncomputable def f71_r8 : List EOper := [oG 43 (.mv (tG 8)), oG 44 (.neg (tG 43)), oG 8 (.as (tG 44))]
noncomputable def f71_r9 : List EOper := [oG 16 (.mv (tG 9)), oG 17 (.bin .add (tG 16) (cG 1)), oG 9 (.as (tG 17))]
noncomputable def f71_l0 : EC := (.seq (.seq (.reg f71_r5) (.cond (tG 15) .skip (.exit 0))) (.seq (.block 1 (.seq (.reg f71_r6) (.cond (tG 22) (.seq (.draw f71_r7) (.reg f71_r8)) .skip))) (.reg f71_r9)))
noncomputable def f71_r10 : List EOper := [oG 45 (.mv (tG 7)), oG 6 (.as (tG 45))]
noncomputable def f71_c : EC := (.seq (.reg f71_r0) (.seq (.reg f71_r1) (.seq (.seq (.reg f71_r2) (.cond (tG 11) (.seq (.reg f71_r3) .ret) .skip)) (.seq (.seq (.reg f71_r4) (.block 0 (.loop f71_l0))) (.seq (.reg f71_r10) .ret)))))
noncomputable def f71 : EF := ⟨46, [.tmp (.ofNat 6)], f71_c, none⟩
noncomputable def f30_r0 : List EOper := [oG 2 (.as (.c .sn))]
noncomputable def f30_r1 : List EOper := [oG 10 (.mv (tG 0)), oG 11 (.len (tG 10)), oG 12 (.bin .sub (tG 11) (cG 1)), oG 3 (.as (tG 12))]
noncomputable def f30_r2 : List EOper := [oG 4 (.as (.c .sn))]
noncomputable def f30_r3 : List EOper := [oG 5 (.as (cG 1))]
noncomputable def f30_r4 : List EOper := [oG 13 (.mv (tG 5)), oG 14 (.mv (tG 3)), oG 15 (.bin .leq (tG 13) (tG 14))]
noncomputable def f30_r5 : List EOper := [oG 6 (.as (.c .sn))]
noncomputable def f30_r6 : List EOper := [oG 7 (.as (cG 1))]
noncomputable def f30_r7 : List EOper := [oG 18 (.mv (tG 7)), oG 19 (.mv (tG 3)), oG 20 (.bin .leq (tG 18) (tG 19))]
noncomputable def f30_r8 : List EOper := [oG 23 (.mv (tG 6)), oG 24 (.mv (tG 0)), oG 25 (.mv (tG 3)), oG 26 (.mv (tG 7)), oG 27 (.bin .mul (cG 2) (tG 26)), oG 28 (.bin .sub (tG 25) (tG 27)), oG 29 (.mv (tG 5)), oG 30 (.bin .add (tG 28) (tG 29)), oG 31 (.call (fG 70) [(tG 24), (tG 30)]), oG 32 (.bslice 1 1 [(.i .i64 (.ofNat 0))] [(0, 1, (tG 31))]), oG 33 (.app 1 (tG 23) (tG 32)), oG 6 (.as (tG 33))]
noncomputable def f30_r9 : List EOper := [oG 21 (.mv (tG 7)), oG 22 (.bin .add (tG 21) (cG 1)), oG 7 (.as (tG 22))]
noncomputable def f30_l0 : EC := (.seq (.seq (.reg f30_r7) (.cond (tG 20) .skip (.exit 2))) (.seq (.block 3 (.reg f30_r8)) (.reg f30_r9)))
noncomputable def f30_r10 : List EOper := [oG 34 (.mv (tG 4)), oG 35 (.mv (tG 6)), oG 36 (.bslice 1 1 [.sn] [(0, 1, (tG 35))]), oG 37 (.app 1 (tG 34) (tG 36)), oG 4 (.as (tG 37))]
noncomputable def f30_r11 : List EOper := [oG 16 (.mv (tG 5)), oG 17 (.bin .add (tG 16) (cG 1)), oG 5 (.as (tG 17))]
noncomputable def f30_l1 : EC := (.seq (.seq (.reg f30_r4) (.cond (tG 15) .skip (.exit 0))) (.seq (.block 1 (.seq (.reg f30_r5) (.seq (.seq (.reg f30_r6) (.block 2 (.loop f30_l0))) (.reg f30_r10)))) (.reg f30_r11)))
noncomputable def f30_r12 : List EOper := [oG 8 (.as (.c .sn))]
noncomputable def f30_r13 : List EOper := [oG 9 (.as (cG 1))]
noncomputable def f30_r14 : List EOper := [oG 38 (.mv (tG 9)), oG 39 (.mv (tG 3)), oG 40 (.bin .leq (tG 38) (tG 39))]
noncomputable def f30_r15 : List EOper := [oG 43 (.mv (tG 8)), oG 44 (.mv (tG 4)), oG 45 (.mv (tG 9)), oG 46 (.bin .shl (cG 1) (tG 45)), oG 47 (.bin .sub (tG 46) (cG 1)), oG 48 (.call (fG 71) [(tG 44), (cG 0), (tG 47)]), oG 49 (.bslice 1 1 [(.i .i64 (.ofNat 0))] [(0, 1, (tG 48))]), oG 50 (.app 1 (tG 43) (tG 49)), oG 8 (.as (tG 50))]
noncomputable def f30_r16 : List EOper := [oG 41 (.mv (tG 9)), oG 42 (.bin .add (tG 41) (cG 1)), oG 9 (.as (tG 42))]
noncomputable def f30_l2 : EC := (.seq (.seq (.reg f30_r14) (.cond (tG 40) .skip (.exit 4))) (.seq (.block 5 (.reg f30_r15)) (.reg f30_r16)))
noncomputable def f30_r17 : List EOper := [oG 51 (.mv (tG 8)), oG 2 (.as (tG 51))]
noncomputable def f30_c : EC := (.seq (.reg f30_r0) (.seq (.reg f30_r1) (.seq (.reg f30_r2) (.seq (.seq (.reg f30_r3) (.block 0 (.loop f30_l1))) (.seq (.reg f30_r12) (.seq (.seq (.reg f30_r13) (.block 4 (.loop f30_l2))) (.seq (.reg f30_r17) .ret)))))))
noncomputable def f30 : EF := ⟨52, [.tmp (.ofNat 2)], f30_c, none⟩
noncomputable def f86_r0 : List EOper := [oG 2 (.as (.c (.b false)))]
noncomputable def f86_r1 : List EOper := [oG 3 (.mv (tG 0)), oG 4 (.bin .leq (tG 3) (cG 0)), oG 2 (.as (tG 4))]
noncomputable def f86_c : EC := (.seq (.reg f86_r0) (.seq (.reg f86_r1) .ret))
noncomputable def f86 : EF := ⟨5, [.tmp (.ofNat 2)], f86_c, none⟩
theorem f86_rs : f86.rs = [.tmp (.ofNat 2)] := of_eq_true (eq_self _)
noncomputable def f98_r0 : List EOper := [oG 4 (.as (cG 0))]
noncomputable def f98_r1 : List EOper := [oG 6 (.mv (tG 0)), oG 7 (.len (tG 6)), oG 8 (.mv (cG 0))]
noncomputable def f98_r2 : List EOper := [oG 9 (.bin .lss (tG 8) (tG 7))]
noncomputable def f98_r3 : List EOper := [oG 10 (.mv (tG 8)), oG 5 (.as (tG 10))]
noncomputable def f98_r4 : List EOper := [oG 11 (.mv (tG 1)), oG 12 (.mv (tG 0)), oG 13 (.mv (tG 5)), oG 14 (.iads 1 (tG 12) (tG 13)), oG 15 (.ld (tG 14)), oG 16 (.call (tG 11) [(tG 15)])]
noncomputable def f98_r5 : List EOper := [oG 17 (.mv (tG 5)), oG 4 (.as (tG 17))]
noncomputable def f98_r6 : List EOper := [oG 18 (.bin .add (tG 8) (cG 1)), oG 8 (.mv (tG 18))]
noncomputable def f98_l0 : EC := (.seq (.reg f98_r2) (.seq (.cond (tG 9) .skip (.exit 0)) (.seq (.block 1 (.seq (.reg f98_r3) (.seq (.reg f98_r4) (.cond (tG 16) (.seq (.reg f98_r5) .ret) .skip)))) (.reg f98_r6))))
noncomputable def f98_r7 : List EOper := [oG 4 (.as (.c (.i .i64 (.negSucc 0))))]
noncomputable def f98_c : EC := (.seq (.reg f98_r0) (.seq (.seq (.reg f98_r1) (.block 0 (.loop f98_l0))) (.seq (.reg f98_r7) .ret)))
noncomputable def f98 : EF := ⟨19, [.tmp (.ofNat 4)], f98_c, none⟩
noncomputable def f85_r0 : List EOper := [oG 4 (.as (.c (.b false)))]
noncomputable def f85_r1 : List EOper := [oG 5 (.mv (tG 0)), oG 6 (.mv (tG 1)), oG 7 (.call (fG 98) [(tG 5), (tG 6)]), oG 8 (.bin .geq (tG 7) (cG 0)), oG 4 (.as (tG 8))]
noncomputable def f85_c : EC := (.seq (.reg f85_r0) (.seq (.reg f85_r1) .ret))
noncomputable def f85 : EF := ⟨9, [.tmp (.ofNat 4)], f85_c, none⟩
theorem f85_rs : f85.rs = [.tmp (.ofNat 4)] := of_eq_true (eq_self _)
noncomputable def f55_r0 : List EOper := [oG 2 (.as (.c (.b false)))]
noncomputable def f55_r1 : List EOper := [oG 3 (.mv (tG 0)), oG 4 (.mv (tG 0)), oG 5 (.len (tG 4)), oG 6 (.bin .sub (tG 5) (cG 1)), oG 7 (.iads 1 (tG 3) (tG 6)), oG 8 (.ld (tG 7)), oG 9 (.bin .lss (tG 8) (cG 0))]
noncomputable def f55_r2 : List EOper := [oG 10 (.mv (tG 0)), oG 11 (.bslice 1 1 [(.i .i64 (.ofNat 0))] [(0, 1, (.c (.i .i64 (.negSucc 0))))]), oG 12 (.call (fG 67) [(tG 10), (tG 11)]), oG 0 (.as (tG 12))]
noncomputable def f55_r3 : List EOper := [oG 13 (.mv (tG 0)), oG 14 (.call (fG 57) [(tG 13)]), oG 15 (.call (fG 85) [(tG 14), (fG 86)]), oG 16 (.not (tG 15)), oG 2 (.as (tG 16))]
noncomputable def f55_c : EC := (.seq (.reg f55_r0) (.seq (.seq (.reg f55_r1) (.cond (tG 9) (.reg f55_r2) .skip)) (.seq (.reg f55_r3) .ret)))
noncomputable def f55 : EF := ⟨17, [.tmp (.ofNat 2)], f55_c, none⟩
theorem f55_rs : f55.rs = [.tmp (.ofNat 2)] := of_eq_true (eq_self _)
noncomputable def f15_r0 : List EOper := [oG 2 (.as (.c (.b false))), oG 3 (.as (cG 0))]
noncomputable def f15_r1 : List EOper := [oG 5 (.mv (tG 0)), oG 6 (.call (fG 14) [(tG 5)]), oG 4 (.as (tG 6))]
noncomputable def f15_r2 : List EOper := [oG 7 (.mv (tG 4)), oG 8 (.bin .neq (tG 7) (cG 0))]
noncomputable def f15_r3 : List EOper := [oG 9 (.mv (tG 4)), oG 2 (.as (.c (.b false))), oG 3 (.as (tG 9))]
noncomputable def f15_r4 : List EOper := [oG 10 (.mv (tG 0)), oG 11 (.call (fG 55) [(tG 10)]), oG 2 (.as (tG 11)), oG 3 (.as (cG 0))]
noncomputable def f15_c : EC := (.seq (.reg f15_r0) (.seq (.seq (.reg f15_r1) (.seq (.reg f15_r2) (.cond (tG 8) (.seq (.reg f15_r3) .ret) .skip))) (.seq (.reg f15_r4) .ret)))
noncomputable def f15 : EF := ⟨12, [.tmp (.ofNat 2), .tmp (.ofNat 3)], f15_c, none⟩
theorem f15_rs : f15.rs = [.tmp (.ofNat 2), .tmp (.ofNat 3)] := of_eq_true (eq_self _)
noncomputable def f27_r0 : List EOper := [oG 2 (.as (.c (.b false)))]
noncomputable def f27_r1 : List EOper := [oG 3 (.as (.c .sn))]
noncomputable def f27_r2 : List EOper := [oG 4 (.as (cG 0))]
noncomputable def f27_r3 : List EOper := [oG 7 (.mv (tG 4)), oG 8 (.mv (tG 0)), oG 9 (.len (tG 8)), oG 10 (.bin .lss (tG 7) (tG 9))]
noncomputable def f27_r4 : List EOper := [oG 13 (.mv (tG 0)), oG 14 (.mv (tG 0)), oG 15 (.len (tG 14)), oG 16 (.bin .sub (tG 15) (cG 1)), oG 17 (.iads 1 (tG 13) (tG 16)), oG 18 (.ld (tG 17)), oG 19 (.bin .lss (tG 18) (cG 0))]
noncomputable def f27_r5 : List EOper := [oG 20 (.mv (tG 3)), oG 21 (.mv (tG 0)), oG 22 (.mv (tG 4)), oG 23 (.iads 1 (tG 21) (tG 22)), oG 24 (.ld (tG 23)), oG 25 (.neg (tG 24)), oG 26 (.bslice 1 1 [(.i .i64 (.ofNat 0))] [(0, 1, (tG 25))]), oG 27 (.app 1 (tG 20) (tG 26)), oG 3 (.as (tG 27))]
noncomputable def f27_r6 : List EOper := [oG 28 (.mv (tG 3)), oG 29 (.mv (tG 0)), oG 30 (.mv (tG 4)), oG 31 (.iads 1 (tG 29) (tG 30)), oG 32 (.ld (tG 31)), oG 33 (.bslice 1 1 [(.i .i64 (.ofNat 0))] [(0, 1, (tG 32))]), oG 34 (.app 1 (tG 28) (tG 33)), oG 3 (.as (tG 34))]
noncomputable def f27_r7 : List EOper := [oG 11 (.mv (tG 4)), oG 12 (.bin .add (tG 11) (cG 1)), oG 4 (.as (tG 12))]
noncomputable def f27_l0 : EC := (.seq (.seq (.reg f27_r3) (.cond (tG 10) .skip (.exit 0))) (.seq (.block 1 (.seq (.reg f27_r4) (.cond (tG 19) (.reg f27_r5) (.reg f27_r6)))) (.reg f27_r7)))
noncomputable def f27_r8 : List EOper := [oG 35 (.mv (tG 3)), oG 36 (.call (fG 30) [(tG 35)]), oG 5 (.as (tG 36))]
noncomputable def f27_r9 : List EOper := [oG 6 (.as (cG 0))]
noncomputable def f27_r10 : List EOper := [oG 37 (.mv (tG 6)), oG 38 (.mv (tG 5)), oG 39 (.len (tG 38)), oG 40 (.bin .lss (tG 37) (tG 39))]
noncomputable def f27_r11 : List EOper := [oG 43 (.mv (tG 5)), oG 44 (.mv (tG 6)), oG 45 (.iads 1 (tG 43) (tG 44)), oG 46 (.ld (tG 45)), oG 47 (.bin .leq (tG 46) (cG 0))]
noncomputable def f27_r12 : List EOper := [oG 2 (.as (.c (.b false)))]
noncomputable def f27_r13 : List EOper := [oG 41 (.mv (tG 6)), oG 42 (.bin .add (tG 41) (cG 1)), oG 6 (.as (tG 42))]
noncomputable def f27_l1 : EC := (.seq (.seq (.reg f27_r10) (.cond (tG 40) .skip (.exit 2))) (.seq (.block 3 (.seq (.reg f27_r11) (.cond (tG 47) (.seq (.reg f27_r12) .ret) .skip))) (.reg f27_r13)))
noncomputable def f27_r14 : List EOper := [oG 2 (.as (.c (.b true)))]
noncomputable def f27_c : EC := (.seq (.reg f27_r0) (.seq (.reg f27_r1) (.seq (.seq (.reg f27_r2) (.block 0 (.loop f27_l0))) (.seq (.reg f27_r8) (.seq (.seq (.reg f27_r9) (.block 2 (.loop f27_l1))) (.seq (.reg f27_r14) .ret))))))
noncomputable def f27 : EF := ⟨48, [.tmp (.ofNat 2)], f27_c, none⟩
noncomputable def f16_r0 : List EOper := [oG 2 (.as (.c (.b false))), oG 3 (.as (cG 0))]
noncomputable def f16_r1 : List EOper := [oG 7 (.mv (tG 0)), oG 8 (.call (fG 14) [(tG 7)]), oG 4 (.as (tG 8))]
noncomputable def f16_r2 : List EOper := [oG 9 (.mv (tG 4)), oG 10 (.bin .neq (tG 9) (cG 0))]
noncomputable def f16_r3 : List EOper := [oG 11 (.mv (tG 4)), oG 2 (.as (.c (.b false))), oG 3 (.as (tG 11))]
noncomputable def f16_r4 : List EOper := [oG 13 (.mv (tG 0)), oG 14 (.call (fG 56) [(tG 13)]), oG 12 (.mv (tG 14)), oG 15 (.ext (tG 12) 0), oG 16 (.ext (tG 12) 1), oG 5 (.as (tG 15)), oG 6 (.as (tG 16))]
noncomputable def f16_r5 : List EOper := [oG 17 (.mv (tG 6)), oG 18 (.mv (tG 17)), gG 19 18 true (.mv (tG 5)), gG 20 18 true (.call (fG 55) [(tG 19)]), oG 21 (.pick (tG 18) (tG 20) (.c (.b false))), oG 2 (.as (tG 21)), oG 3 (.as (cG 0))]
noncomputable def f16_c : EC := (.seq (.reg f16_r0) (.seq (.seq (.reg f16_r1) (.seq (.reg f16_r2) (.cond (tG 10) (.seq (.reg f16_r3) .ret) .skip))) (.seq (.reg f16_r4) (.seq (.reg f16_r5) .ret))))
noncomputable def f16 : EF := ⟨22, [.tmp (.ofNat 2), .tmp (.ofNat 3)], f16_c, none⟩
theorem f16_rs : f16.rs = [.tmp (.ofNat 2), .tmp (.ofNat 3)] := of_eq_true (eq_self _)
noncomputable def f28_r0 : List EOper := [oG 2 (.as (.c (.b false)))]
noncomputable def f28_r1 : List EOper := [oG 4 (.mv (tG 0)), oG 5 (.call (fG 69) [(tG 4)]), oG 3 (.as (tG 5))]
noncomputable def f28_r2 : List EOper := [oG 6 (.mv (tG 3)), oG 7 (.iads 1 (tG 6) (cG 0)), oG 8 (.ld (tG 7)), oG 9 (.bin .neq (tG 8) (cG 0)), oG 10 (.mv (tG 9)), gG 11 10 true (.mv (tG 3)), gG 12 10 true (.mv (tG 3)), gG 13 10 true (.len (tG 12)), gG 14 10 true (.bin .sub (tG 13) (cG 1)), gG 15 10 true (.iads 1 (tG 11) (tG 14)), gG 16 10 true (.ld (tG 15)), gG 17 10 true (.bin .neq (tG 16) (cG 0)), oG 18 (.pick (tG 10) (tG 17) (.c (.b false))), oG 19 (.mv (tG 18)), gG 20 19 true (.mv (tG 3)), gG 21 19 true (.call (fG 27) [(tG 20)]), oG 22 (.pick (tG 19) (tG 21) (.c (.b false))), oG 2 (.as (tG 22))]
noncomputable def f28_c : EC := (.seq (.reg f28_r0) (.seq (.reg f28_r1) (.seq (.reg f28_r2) .ret)))
noncomputable def f28 : EF := ⟨23, [.tmp (.ofNat 2)], f28_c, none⟩
noncomputable def f17_r0 : List EOper := [oG 2 (.as (.c .sn)), oG 3 (.as (cG 0))]
noncomputable def f17_r1 : List EOper := [oG 5 (.mv (tG 0)), oG 6 (.call (fG 14) [(tG 5)]), oG 4 (.as (tG 6))]
noncomputable def f17_r2 : List EOper := [oG 7 (.mv (tG 4)), oG 8 (.bin .neq (tG 7) (cG 0))]
noncomputable def f17_r3 : List EOper := [oG 9 (.mv (tG 4)), oG 2 (.as (.c .sn)), oG 3 (.as (tG 9))]
noncomputable def f17_r4 : List EOper := [oG 10 (.mv (tG 0)), oG 11 (.call (fG 57) [(tG 10)]), oG 2 (.as (tG 11)), oG 3 (.as (cG 0))]
noncomputable def f17_c : EC := (.seq (.reg f17_r0) (.seq (.seq (.reg f17_r1) (.seq (.reg f17_r2) (.cond (tG 8) (.seq (.reg f17_r3) .ret) .skip))) (.seq (.reg f17_r4) .ret)))
noncomputable def f17 : EF := ⟨12, [.tmp (.ofNat 2), .tmp (.ofNat 3)], f17_c, none⟩
theorem f17_rs : f17.rs = [.tmp (.ofNat 2), .tmp (.ofNat 3)] := of_eq_true (eq_self _)
noncomputable def f29_r0 : List EOper := [oG 4 (.as (.c (.b false)))]
noncomputable def f29_r1 : List EOper := [oG 6 (.mv (tG 0)), oG 7 (.len (tG 6)), oG 8 (.mv (tG 1)), oG 9 (.len (tG 8)), oG 10 (.bin .neq (tG 7) (tG 9))]
noncomputable def f29_r2 : List EOper := [oG 4 (.as (.c (.b false)))]
noncomputable def f29_r3 : List EOper := [oG 5 (.as (cG 0))]
noncomputable def f29_r4 : List EOper := [oG 11 (.mv (tG 5)), oG 12 (.mv (tG 0)), oG 13 (.len (tG 12)), oG 14 (.bin .lss (tG 11) (tG 13))]
noncomputable def f29_r5 : List Stage := [⟨[oG 17 (.mv (tG 0)), oG 18 (.mv (tG 5)), oG 19 (.iads 1 (tG 17) (tG 18)), oG 20 (.ld (tG 19)), oG 21 (.mv (tG 1)), oG 22 (.mv (tG 5)), oG 23 (.iads 1 (tG 21) (tG 22)), oG 24 (.ld (tG 23)), oG 25 (.bin .neq (tG 20) (tG 24))], [], none, []⟩]
noncomputable def f29_r6 : List EOper := [oG 4 (.as (.c (.b false)))]
noncomputable def f29_r7 : List EOper := [oG 15 (.mv (tG 5)), oG 16 (.bin .add (tG 15) (cG 1)), oG 5 (.as (tG 16))]
noncomputable def f29_l0 : EC := (.seq (.seq (.reg f29_r4) (.cond (tG 14) .skip (.exit 0))) (.seq (.block 1 (.seq (.draw f29_r5) (.cond (tG 25) (.seq (.reg f29_r6) .ret) .skip))) (.reg f29_r7)))
noncomputable def f29_r8 : List EOper := [oG 4 (.as (.c (.b true)))]
noncomputable def f29_c : EC := (.seq (.reg f29_r0) (.seq (.seq (.reg f29_r1) (.cond (tG 10) (.seq (.reg f29_r2) .ret) .skip)) (.seq (.seq (.reg f29_r3) (.block 0 (.loop f29_l0))) (.seq (.reg f29_r8) .ret))))
noncomputable def f29 : EF := ⟨26, [.tmp (.ofNat 4)], f29_c, none⟩
section
variable {fs : T EF} {h : H} {v w : V} {A B L : List Int}
structure CallsR (fs : T EF) : Prop where
  c70 : fs.get (K.ofNat 70) = some f70
  c71 : fs.get (K.ofNat 71) = some f71
theorem f86_ret {x : Int} : Ret fs f86 [.i .i64 x] h fun r h' => r = .b (decide (x ≤ 0)) ∧ h' = h := by
  apply ret_of rfl
  show W fs none f86_c _ _ _
  unfold f86_c
  simp (disch := omega) only [f86_r0, f86_r1, f86_rs, Option.some.injEq, exists_eq_left', Nat.reduceEqDiff, ↓reduceIte, and_self, bz]
theorem f98_same : f98 = f106 := rfl
structure CallsS (fs : T EF) : Prop extends CallsD fs, CallsM fs, CallsR fs where
  c98 : fs.get (K.ofNat 98) = some f98
  c85 : fs.get (K.ofNat 85) = some f85
  c86 : fs.get (K.ofNat 86) = some f86
  c57 : fs.get (K.ofNat 57) = some f57
  c30 : fs.get (K.ofNat 30) = some f30
  c55 : fs.get (K.ofNat 55) = some f55
  c27 : fs.get (K.ofNat 27) = some f27
theorem f85_ret (k : CallsS fs) (hv : Sr iE h v L) (hL : L.length ≤ 1000000) : Ret fs f85 [v, .fn (.ofNat 86) []] h fun r h' => r = .b (L.any fun m => decide (m ≤ 0)) ∧ h' = h := by
  apply ret_of rfl
  show W fs none f85_c _ _ _
  unfold f85_c
  have h98 : fs.get (K.ofNat 98) = some f106 := by rw [k.c98, f98_same]
  simp (disch := omega) only [f85_r0, f85_r1, Nat.reduceEqDiff, ↓reduceIte, bz]
  refine (callP_0 (ef := f106) h98 rfl (f106_ret (p := fun m => decide (m ≤ 0)) hv hL fun x _ P => callP_eq2 (callP_0 (ef := f86) k.c86 rfl f86_ret))).mono ?_
  rintro r h' ⟨⟨n, rfl, hn⟩, rfl⟩
  simp (disch := omega) only [f85_rs, Option.some.injEq, exists_eq_left', ↓reduceIte, hn, and_self, bz]
theorem f55_ret (k : CallsS fs) (hA1 : 1 ≤ A.length) (hA : A.length ≤ 8) (hv : Sr iE h v A) (hc : HC h) : Ret fs f55 [v] h fun r h' => r = .b (stB A) ∧ Grow h.nx.nat h h' := by
  apply ret_of rfl
  show W fs none f55_c _ _ _
  unfold f55_c stB
  have ei : (A.length : Int) - 1 = ((A.length - 1 : Nat) : Int) := by omega
  obtain ⟨p, p1, p2⟩ := hv.at (A.length - 1) (by omega)
  have p2 : loadV h p one? = .ok (.i .i64 (A.getD (A.length - 1) 0)) h := by rw [getD_lt (by omega)]; exact p2
  have rest : ∀ (fr : Fr) (u : V) (h1 : H), fr.get (K.ofNat 0) = some u → Sr iE h1 u (upL A) → Grow h.nx.nat h h1 → W fs none (.seq (.reg f55_r3) .ret) (retK f55 fun r h' => r = .b (!(minL (upL A)).any fun m => decide (m ≤ 0)) ∧ Grow h.nx.nat h h') fr h1 := by
    intro fr u h1 g0 hu hG
    simp (disch := omega) only [f55_r3, ↓reduceIte, g0, bz]
    refine (callP_0 (ef := f57) k.c57 rfl (f57_ret k.toCallsM (by rw [upL_len]; exact hA1) (by rw [upL_len]; exact hA) hu (hG.hc hc))).mono ?_
    rintro w h2 ⟨sw, ow, g2⟩
    have e85 := fun P => callP_eq2 (P := P) (callP_0 (args := [w, .fn (K.ofNat 86) []]) k.c85 rfl (f85_ret k sw.sr (by rw [minL_len, upL_len]; omega)))
    simp (disch := omega) only [f55_rs, Option.some.injEq, exists_eq_left', ↓reduceIte, e85, bz]
    exact hG.trans (g2.low hG.nx)
  by_cases h0 : A.getD (A.length - 1) 0 < 0
  · have d1 : decide (A.getD (A.length - 1) 0 < 0) = true := decide_eq_true h0
    have eu : upL A = prd A [-1] := by unfold upL; rw [if_pos h0, prd_neg]
    have g2 := Grow.new (Nat.le_refl h.nx.nat) (.cells (1 * 1) [.i .i64 (-1)])
    have hl := lit1 (h := h) (x := -1)
    simp (disch := omega) only [f55_r0, f55_r1, f55_r2, Nat.reduceEqDiff, ↓reduceIte, hv.len, ei, fw64, p1, p2, d1, ng0, bz]
    refine (callP_0 (ef := f67) k.c67 rfl (f67_ret k.c94 (by omega) (by simp) (hv.grow hc g2) hl.sr (g2.hc hc))).mono ?_
    rintro u h1 ⟨su, _, g1⟩
    rw [← eu] at su
    simp (disch := omega) only [↓reduceIte, bz]
    exact rest _ u h1 (by simp (disch := omega) only [getK_set, ↓reduceIte]) su.sr (g2.trans (g1.low g2.nx))
  · have d1 : decide (A.getD (A.length - 1) 0 < 0) = false := decide_eq_false h0
    have eu : upL A = A := by unfold upL; rw [if_neg h0]
    simp (disch := omega) only [f55_r0, f55_r1, Nat.reduceEqDiff, ↓reduceIte, Bool.false_eq_true, hv.len, ei, fw64, p1, p2, d1, bz]
    exact rest _ v h (by simp (disch := omega) only [getK_set, Nat.reduceEqDiff, ↓reduceIte]) (by rw [eu]; exact hv) (Grow.refl _ _)
theorem f15_ret (k : CallsS fs) (hA : plB A = true) (hv : Sr iE h v A) (hc : HC h) : Ret fs f15 [v] h fun r h' => r = .tup [.b (stB A), .i .i64 0] ∧ Grow h.nx.nat h h' := by
  obtain ⟨l1, l2, _, _⟩ := plB_len hA
  apply ret_of rfl
  show W fs none f15_c _ _ _
  unfold f15_c
  have ca : ckI A = 0 := by unfold ckI; rw [if_pos hA]
  have eA := fun P => f14_eq k.toCSm k.c54 k.c14 hv (by omega) (P := P)
  have d0 : decide ((0 : Int) ≠ 0) = false := rfl
  simp (disch := omega) only [f15_r0, f15_r1, f15_r2, f15_r4, Nat.reduceEqDiff, ↓reduceIte, Bool.false_eq_true, eA, ca, d0, bz]
  refine (callP_0 (ef := f55) k.c55 rfl (f55_ret k l1 (by omega) hv hc)).mono ?_
  rintro r h' ⟨rfl, hG⟩
  simp (disch := omega) only [f15_rs, Option.some.injEq, exists_eq_left', Nat.reduceEqDiff, ↓reduceIte, bz]
  exact hG
theorem f17_ret (k : CallsS fs) (hA : plB A = true) (hv : Sr iE h v A) (hc : HC h) : Ret fs f17 [v] h fun r h' => ∃ u, r = .tup [u, .i .i64 0] ∧ Sl iE h' u (minL A) ∧ Grow h.nx.nat h h' := by
  obtain ⟨l1, l2, _, _⟩ := plB_len hA
  apply ret_of rfl
  show W fs none f17_c _ _ _
  unfold f17_c
  have ca : ckI A = 0 := by unfold ckI; rw [if_pos hA]
  have eA := fun P => f14_eq k.toCSm k.c54 k.c14 hv (by omega) (P := P)
  have d0 : decide ((0 : Int) ≠ 0) = false := rfl
  simp (disch := omega) only [f17_r0, f17_r1, f17_r2, f17_r4, Nat.reduceEqDiff, ↓reduceIte, Bool.false_eq_true, eA, ca, d0, bz]
  refine (callP_0 (ef := f57) k.c57 rfl (f57_ret k.toCallsM l1 (by omega) hv hc)).mono ?_
  rintro r h' ⟨hs, _, hG⟩
  simp (disch := omega) only [f17_rs, Option.some.injEq, exists_eq_left', Nat.reduceEqDiff, ↓reduceIte, bz]
  exact ⟨_, rfl, hs, hG⟩
theorem f16_ret (k : CallsS fs) (hA : plB A = true) (hv : Sr iE h v A) (hc : HC h) : Ret fs f16 [v] h fun r h' => r = .tup [.b (dsOk A && stB (dsc A)), .i .i64 0] ∧ Grow h.nx.nat h h' := by
  obtain ⟨l1, l2, l3, _⟩ := plB_len hA
  have hdl : (dsc A).length = A.length := dsL_len
  apply ret_of rfl
  show W fs none f16_c _ _ _
  unfold f16_c
  have ca : ckI A = 0 := by unfold ckI; rw [if_pos hA]
  have eA := fun P => f14_eq k.toCSm k.c54 k.c14 hv (by omega) (P := P)
  have d0 : decide ((0 : Int) ≠ 0) = false := rfl
  simp (disch := omega) only [f16_r0, f16_r1, f16_r2, f16_r4, Nat.reduceEqDiff, ↓reduceIte, Bool.false_eq_true, eA, ca, d0, bz]
  refine (callP_0 (ef := f56) k.c56 rfl (f56_ret k.c94 k.c67 l1 (by omega) l3 hv hc)).mono ?_
  rintro r h' ⟨u, rfl, hs, _, hG⟩
  cases hk : dsOk A with
  | false =>
    simp (disch := omega) only [f16_r5, f16_rs, Option.some.injEq, exists_eq_left', Nat.reduceEqDiff, ↓reduceIte, Bool.false_eq_true, Bool.false_and, bz]
    exact hG
  | true =>
    simp (disch := omega) only [f16_r5, Nat.reduceEqDiff, ↓reduceIte, bz]
    refine (callP_0 (ef := f55) k.c55 rfl (f55_ret k (by omega) (by omega) hs.sr (hG.hc hc))).mono ?_
    rintro r h2 ⟨rfl, hG2⟩
    simp (disch := omega) only [f16_rs, Option.some.injEq, exists_eq_left', Nat.reduceEqDiff, ↓reduceIte, Bool.true_and, bz]
    exact hG.trans (hG2.low hG.nx)
end
end Go.Ev
