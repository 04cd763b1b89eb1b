/-
  Steady: what is small, what is a polynomial; few, ints., and what follows.
-/
import Derived.Test.YtlnkpocijfgikaaDoorPd

namespace Go.Ev
open Go Go.RowKit
noncomputable def f97_r0 : List EOper := [oG 2 (.as (.c (.b false)))]
noncomputable def f97_r1 : List EOper := [oG 3 (.mv (tG 0)), oG 4 (.bin .lss (tG 3) (.c (.i .i64 (.negSucc 29)))), oG 5 (.mv (tG 4)), gG 6 5 false (.mv (tG 0)), gG 7 5 false (.bin .gtr (tG 6) (cG 30)), oG 8 (.pick (tG 5) (.c (.b true)) (tG 7)), oG 2 (.as (tG 8))]
noncomputable def f97_c : EC := (.seq (.reg f97_r0) (.seq (.reg f97_r1) .ret))
noncomputable def f97 : EF := ⟨9, [.tmp (.ofNat 2)], f97_c, none⟩
theorem f97_rs : f97.rs = [.tmp (.ofNat 2)] := of_eq_true (eq_self _)
noncomputable def f106_r0 : List EOper := [oG 4 (.as (cG 0))]
noncomputable def f106_r1 : List EOper := [oG 6 (.mv (tG 0)), oG 7 (.len (tG 6)), oG 8 (.mv (cG 0))]
noncomputable def f106_r2 : List EOper := [oG 9 (.bin .lss (tG 8) (tG 7))]
noncomputable def f106_r3 : List EOper := [oG 10 (.mv (tG 8)), oG 5 (.as (tG 10))]
noncomputable def f106_r4 : List EOper := [oG 11 (.mv (tG 1)), oG 12 (.mv (tG 0)), oG 13 (.mv (tG 5)), oG 14 (.iads 1 (tG 12) (tG 13)), oG 15 (.ld (tG 14)), oG 16 (.call (tG 11) [(tG 15)])]
noncomputable def f106_r5 : List EOper := [oG 17 (.mv (tG 5)), oG 4 (.as (tG 17))]
noncomputable def f106_r6 : List EOper := [oG 18 (.bin .add (tG 8) (cG 1)), oG 8 (.mv (tG 18))]
noncomputable def f106_l0 : EC := (.seq (.reg f106_r2) (.seq (.cond (tG 9) .skip (.exit 0)) (.seq (.block 1 (.seq (.reg f106_r3) (.seq (.reg f106_r4) (.cond (tG 16) (.seq (.reg f106_r5) .ret) .skip)))) (.reg f106_r6))))
noncomputable def f106_r7 : List EOper := [oG 4 (.as (.c (.i .i64 (.negSucc 0))))]
noncomputable def f106_c : EC := (.seq (.reg f106_r0) (.seq (.seq (.reg f106_r1) (.block 0 (.loop f106_l0))) (.seq (.reg f106_r7) .ret)))
noncomputable def f106 : EF := ⟨19, [.tmp (.ofNat 4)], f106_c, none⟩
theorem f106_rs : f106.rs = [.tmp (.ofNat 4)] := of_eq_true (eq_self _)
noncomputable def f96_r0 : List EOper := [oG 4 (.as (.c (.b false)))]
noncomputable def f96_r1 : List EOper := [oG 5 (.mv (tG 0)), oG 6 (.mv (tG 1)), oG 7 (.call (fG 106) [(tG 5), (tG 6)]), oG 8 (.bin .geq (tG 7) (cG 0)), oG 4 (.as (tG 8))]
noncomputable def f96_c : EC := (.seq (.reg f96_r0) (.seq (.reg f96_r1) .ret))
noncomputable def f96 : EF := ⟨9, [.tmp (.ofNat 4)], f96_c, none⟩
theorem f96_rs : f96.rs = [.tmp (.ofNat 4)] := of_eq_true (eq_self _)
noncomputable def f84_r0 : List EOper := [oG 2 (.as (.c (.b false)))]
noncomputable def f84_r1 : List EOper := [oG 3 (.mv (tG 0)), oG 4 (.call (fG 96) [(tG 3), (fG 97)]), oG 5 (.not (tG 4)), oG 2 (.as (tG 5))]
noncomputable def f84_c : EC := (.seq (.reg f84_r0) (.seq (.reg f84_r1) .ret))
noncomputable def f84 : EF := ⟨6, [.tmp (.ofNat 2)], f84_c, none⟩
theorem f84_rs : f84.rs = [.tmp (.ofNat 2)] := of_eq_true (eq_self _)
noncomputable def f54_r0 : List EOper := [oG 2 (.as (.c (.b false)))]
noncomputable def f54_r1 : List EOper := [oG 3 (.mv (tG 0)), oG 4 (.len (tG 3)), oG 5 (.bin .geq (tG 4) (cG 1)), oG 6 (.mv (tG 5)), gG 7 6 true (.mv (tG 0)), gG 8 6 true (.len (tG 7)), gG 9 6 true (.bin .leq (tG 8) (cG 6)), oG 10 (.pick (tG 6) (tG 9) (.c (.b false))), oG 11 (.mv (tG 10)), gG 12 11 true (.mv (tG 0)), gG 13 11 true (.call (fG 84) [(tG 12)]), oG 14 (.pick (tG 11) (tG 13) (.c (.b false))), oG 15 (.mv (tG 14)), gG 16 15 true (.mv (tG 0)), gG 17 15 true (.mv (tG 0)), gG 18 15 true (.len (tG 17)), gG 19 15 true (.bin .sub (tG 18) (cG 1)), gG 20 15 true (.iads 1 (tG 16) (tG 19)), gG 21 15 true (.ld (tG 20)), gG 22 15 true (.bin .neq (tG 21) (cG 0)), oG 23 (.pick (tG 15) (tG 22) (.c (.b false))), oG 2 (.as (tG 23))]
noncomputable def f54_c : EC := (.seq (.reg f54_r0) (.seq (.reg f54_r1) .ret))
noncomputable def f54 : EF := ⟨24, [.tmp (.ofNat 2)], f54_c, none⟩
theorem f54_rs : f54.rs = [.tmp (.ofNat 2)] := of_eq_true (eq_self _)
noncomputable def f14_r0 : List EOper := [oG 2 (.as (cG 0))]
noncomputable def f14_r1 : List EOper := [oG 3 (.mv (tG 0)), oG 4 (.call (fG 54) [(tG 3)]), oG 5 (.not (tG 4))]
noncomputable def f14_r2 : List EOper := [oG 2 (.as (cG 90))]
noncomputable def f14_r3 : List EOper := [oG 2 (.as (cG 0))]
noncomputable def f14_c : EC := (.seq (.reg f14_r0) (.seq (.seq (.reg f14_r1) (.cond (tG 5) (.seq (.reg f14_r2) .ret) .skip)) (.seq (.reg f14_r3) .ret)))
noncomputable def f14 : EF := ⟨6, [.tmp (.ofNat 2)], f14_c, none⟩
theorem f14_rs : f14.rs = [.tmp (.ofNat 2)] := of_eq_true (eq_self _)
noncomputable def f53_r0 : List EOper := [oG 2 (.as (.c (.b false)))]
noncomputable def f53_r1 : List EOper := [oG 3 (.as (cG 0))]
noncomputable def f53_r2 : List EOper := [oG 4 (.mv (tG 3)), oG 5 (.mv (tG 0)), oG 6 (.len (tG 5)), oG 7 (.bin .lss (tG 4) (tG 6))]
noncomputable def f53_r3 : List EOper := [oG 10 (.mv (tG 0)), oG 11 (.mv (tG 3)), oG 12 (.iads 1 (tG 10) (tG 11)), oG 13 (.ld (tG 12)), oG 14 (.bin .lss (tG 13) (.c (.i .i64 (.negSucc 29)))), oG 15 (.mv (tG 14)), gG 16 15 false (.mv (tG 0)), gG 17 15 false (.mv (tG 3)), gG 18 15 false (.iads 1 (tG 16) (tG 17)), gG 19 15 false (.ld (tG 18)), gG 20 15 false (.bin .gtr (tG 19) (cG 30)), oG 21 (.pick (tG 15) (.c (.b true)) (tG 20))]
noncomputable def f53_r4 : List EOper := [oG 2 (.as (.c (.b false)))]
noncomputable def f53_r5 : List EOper := [oG 8 (.mv (tG 3)), oG 9 (.bin .add (tG 8) (cG 1)), oG 3 (.as (tG 9))]
noncomputable def f53_l0 : EC := (.seq (.seq (.reg f53_r2) (.cond (tG 7) .skip (.exit 0))) (.seq (.block 1 (.seq (.reg f53_r3) (.cond (tG 21) (.seq (.reg f53_r4) .ret) .skip))) (.reg f53_r5)))
noncomputable def f53_r6 : List EOper := [oG 2 (.as (.c (.b true)))]
noncomputable def f53_c : EC := (.seq (.reg f53_r0) (.seq (.seq (.reg f53_r1) (.block 0 (.loop f53_l0))) (.seq (.reg f53_r6) .ret)))
noncomputable def f53 : EF := ⟨22, [.tmp (.ofNat 2)], f53_c, none⟩
theorem f53_rs : f53.rs = [.tmp (.ofNat 2)] := of_eq_true (eq_self _)
theorem ng29 : Int.negSucc 29 = -30 := of_eq_true (eq_self _)
theorem ng0 : Int.negSucc 0 = -1 := of_eq_true (eq_self _)
theorem of90 : Int.ofNat 90 = 90 := of_eq_true (eq_self _)
def bigB (x : Int) : Bool := decide (x < -30) || decide (x > 30)
def smB (L : List Int) : Bool := !L.any bigB
def plB (L : List Int) : Bool := decide (1 ≤ L.length) && (decide (L.length ≤ 6) && (smB L && decide (L.getD (L.length - 1) 0 ≠ 0)))
theorem any_take {p : Int → Bool} {L : List Int} {j : Nat} (hj : j < L.length) : (L.take (j + 1)).any p = ((L.take j).any p || p L[j]) := by
  rw [List.take_succ_eq_append_getElem hj, List.any_append]; simp
section
variable {fs : T EF} {h : H} {v : V} {L : List Int}
theorem f97_ret {x : Int} : Ret fs f97 [.i .i64 x] h fun r h' => r = .b (bigB x) ∧ h' = h := by
  apply ret_of rfl
  show W fs none f97_c _ _ _
  unfold f97_c bigB
  by_cases h1 : x < -30
  · have d1 : decide (x < -30) = true := decide_eq_true h1
    simp (disch := omega) only [f97_r0, f97_r1, f97_rs, Option.some.injEq, exists_eq_left', Nat.reduceEqDiff, ↓reduceIte, Bool.false_eq_true, Bool.not_true, ng29, d1, Bool.true_or, and_self, bz]
  · have d1 : decide (x < -30) = false := decide_eq_false h1
    simp (disch := omega) only [f97_r0, f97_r1, f97_rs, Option.some.injEq, exists_eq_left', Nat.reduceEqDiff, ↓reduceIte, Bool.false_eq_true, Bool.not_false, ng29, d1, Bool.false_or, and_self, bz]
def f106_I (h0 : H) (v g : V) (L : List Int) (p : Int → Bool) (j : Nat) (fr : Fr) (h1 : H) : Prop := j ≤ L.length ∧ (L.take j).any p = false ∧ h1 = h0 ∧ fr.get (K.ofNat 0) = some (v) ∧ fr.get (K.ofNat 1) = some (g) ∧ fr.get (K.ofNat 6) = some (v) ∧ fr.get (K.ofNat 7) = some (.i .i64 (L.length : Int)) ∧ fr.get (K.ofNat 8) = some (.i .i64 (j : Int))
theorem f106_ret {g : V} {p : Int → Bool} (hv : Sr iE h v L) (hL : L.length ≤ 1000000) (hg : ∀ x, x ∈ L → ∀ P, CallP fs g [.i .i64 x] h P = P (.b (p x)) h) : Ret fs f106 [v, g] h fun r h' => (∃ n : Int, r = .i .i64 n ∧ decide (n ≥ 0) = L.any p) ∧ h' = h := by
  apply ret_of rfl
  show W fs none f106_c _ _ _
  unfold f106_c
  have e1 := hv.len
  simp (disch := omega) only [f106_r0, f106_r1, Nat.reduceEqDiff, ↓reduceIte, e1, bz]
  refine W_loop (f106_I h v g L p) (fun j => L.length - j) ?_ 0 ⟨by omega, rfl, rfl, by simp (disch := omega) only [getK_set, Nat.reduceEqDiff, ↓reduceIte, and_self, Int.natCast_zero]⟩
  rintro j fr h1 ⟨hj, ha, rfl, g0, g1, g6, g7, g8⟩
  unfold f106_l0
  by_cases hlt : j < L.length
  · have d1 : decide ((j : Int) < (L.length : Int)) = true := decide_eq_true (by omega)
    obtain ⟨q, p1, p2⟩ := hv.at j hlt
    have hgj := hg L[j] (List.getElem_mem hlt)
    have hs := any_take (p := p) hlt
    cases hp : p L[j] with
    | true =>
      rw [hp] at hgj
      have hany : L.any p = true := List.any_eq_true.2 ⟨_, List.getElem_mem hlt, hp⟩
      simp (disch := omega) only [f106_r2, f106_r3, f106_r4, f106_r5, f106_rs, atK_r, loopK_r, Option.some.injEq, exists_eq_left', Nat.reduceEqDiff, ↓reduceIte, g0, g1, g7, g8, d1, p1, p2, iE, hgj, bz]
      exact ⟨⟨_, rfl, by rw [hany]; exact decide_eq_true (by omega)⟩, trivial⟩
    | false =>
      rw [hp] at hgj hs
      simp (disch := omega) only [f106_r2, f106_r3, f106_r4, f106_r6, Nat.reduceEqDiff, ↓reduceIte, Bool.false_eq_true, g0, g1, g7, g8, d1, p1, p2, iE, hgj, fw64, bz]
      exact ⟨j + 1, by omega, by omega, by rw [hs, ha]; rfl, rfl, by simp (disch := omega) only [getK_set, Nat.reduceEqDiff, ↓reduceIte, g0, g1, g6, g7, and_self, Int.natCast_add, Int.natCast_one]⟩
  · have d1 : decide ((j : Int) < (L.length : Int)) = false := decide_eq_false (by omega)
    have hany : L.any p = false := by rw [← ha, List.take_of_length_le (by omega)]
    simp (disch := omega) only [f106_r2, f106_r7, f106_rs, Option.some.injEq, exists_eq_left', ↓reduceIte, Bool.false_eq_true, g7, g8, d1, ng0, bz]
    exact ⟨⟨_, rfl, by rw [hany]; exact decide_eq_false (by omega)⟩, trivial⟩
theorem f96_ret {g : V} {p : Int → Bool} (h106 : fs.get (.ofNat 106) = some f106) (hv : Sr iE h v L) (hL : L.length ≤ 1000000) (hg : ∀ x, x ∈ L → ∀ P, CallP fs g [.i .i64 x] h P = P (.b (p x)) h) : Ret fs f96 [v, g] h fun r h' => r = .b (L.any p) ∧ h' = h := by
  apply ret_of rfl
  show W fs none f96_c _ _ _
  unfold f96_c
  simp (disch := omega) only [f96_r0, f96_r1, Nat.reduceEqDiff, ↓reduceIte, bz]
  refine (callP_0 (ef := f106) h106 rfl (f106_ret hv hL hg)).mono ?_
  rintro r h' ⟨⟨n, rfl, hn⟩, rfl⟩
  simp (disch := omega) only [f96_rs, Option.some.injEq, exists_eq_left', ↓reduceIte, hn, and_self, bz]
structure CSm (fs : T EF) : Prop where
  c97 : fs.get (K.ofNat 97) = some f97
  c106 : fs.get (K.ofNat 106) = some f106
  c96 : fs.get (K.ofNat 96) = some f96
  c84 : fs.get (K.ofNat 84) = some f84
theorem callP_eq2 {f : V} {args : List V} {u : V} {P : V → H → Prop} (hr : CallP fs f args h fun r h' => r = u ∧ h' = h) : CallP fs f args h P = P u h := by
  apply propext
  obtain ⟨n, v, h', e, rfl, rfl⟩ := hr
  constructor
  · rintro ⟨n2, v2, h2, e2, hp⟩
    have a1 := callV_le (eval_le fs (Nat.le_max_left n n2)) _ _ _ _ _ e
    have a2 := callV_le (eval_le fs (Nat.le_max_right n n2)) _ _ _ _ _ e2
    rw [a1] at a2
    cases a2; exact hp
  · intro hp; exact ⟨n, _, _, e, hp⟩
theorem f84_ret (k : CSm fs) (hv : Sr iE h v L) (hL : L.length ≤ 1000000) : Ret fs f84 [v] h fun r h' => r = .b (smB L) ∧ h' = h := by
  apply ret_of rfl
  show W fs none f84_c _ _ _
  unfold f84_c
  simp (disch := omega) only [f84_r0, f84_r1, Nat.reduceEqDiff, ↓reduceIte, bz]
  refine (callP_0 (ef := f96) k.c96 rfl (f96_ret (p := bigB) k.c106 hv hL fun x _ P => callP_eq2 ((callP_0 (ef := f97) k.c97 rfl f97_ret)))).mono ?_
  rintro r h' ⟨rfl, rfl⟩
  simp (disch := omega) only [f84_rs, Option.some.injEq, exists_eq_left', ↓reduceIte, smB, and_self, bz]
theorem f84_eq (k : CSm fs) (hv : Sr iE h v L) (hL : L.length ≤ 1000000) {P : V → H → Prop} : CallP fs (.fn (.ofNat 84) []) [v] h P = P (.b (smB L)) h := callP_eq2 (callP_0 k.c84 rfl (f84_ret k hv hL))
def f53_I (h0 : H) (v : V) (L : List Int) (j : Nat) (fr : Fr) (h1 : H) : Prop := j ≤ L.length ∧ (L.take j).any bigB = false ∧ h1 = h0 ∧ fr.get (K.ofNat 0) = some (v) ∧ fr.get (K.ofNat 3) = some (.i .i64 (j : Int))
theorem f53_ret (hv : Sr iE h v L) (hL : L.length ≤ 1000000) : Ret fs f53 [v] h fun r h' => r = .b (smB L) ∧ h' = h := by
  apply ret_of rfl
  show W fs none f53_c _ _ _
  unfold f53_c
  have e1 := hv.len
  simp (disch := omega) only [f53_r0, f53_r1, bz]
  refine W_loop (f53_I h v L) (fun j => L.length - j) ?_ 0 ⟨by omega, rfl, rfl, by simp (disch := omega) only [getK_set, Nat.reduceEqDiff, ↓reduceIte, and_self, Int.natCast_zero]⟩
  rintro j fr h1 ⟨hj, ha, rfl, g0, g3⟩
  unfold f53_l0
  by_cases hlt : j < L.length
  · have d1 : decide ((j : Int) < (L.length : Int)) = true := decide_eq_true (by omega)
    obtain ⟨q, p1, p2⟩ := hv.at j hlt
    have hs := any_take (p := bigB) hlt
    generalize hx : L[j] = x at *
    have yes : bigB x = true → smB L = false := fun hp => by
      have hany : L.any bigB = true := List.any_eq_true.2 ⟨_, List.getElem_mem hlt, by rw [hx]; exact hp⟩
      unfold smB; rw [hany]; rfl
    by_cases h1 : x < -30
    · have d2 : decide (x < -30) = true := decide_eq_true h1
      have := yes (by unfold bigB; rw [d2]; rfl)
      simp (disch := omega) only [f53_r2, f53_r3, f53_r4, f53_rs, atK_r, loopK_r, Option.some.injEq, exists_eq_left', Nat.reduceEqDiff, ↓reduceIte, Bool.false_eq_true, Bool.not_true, g0, g3, e1, d1, p1, p2, iE, ng29, d2, this, and_self, bz]
    · have d2 : decide (x < -30) = false := decide_eq_false h1
      by_cases h2 : x > 30
      · have d3 : decide (x > 30) = true := decide_eq_true h2
        have := yes (by unfold bigB; rw [d3, Bool.or_true])
        simp (disch := omega) only [f53_r2, f53_r3, f53_r4, f53_rs, atK_r, loopK_r, Option.some.injEq, exists_eq_left', Nat.reduceEqDiff, ↓reduceIte, Bool.false_eq_true, Bool.not_false, g0, g3, e1, d1, p1, p2, iE, ng29, d2, d3, this, and_self, bz]
      · have d3 : decide (x > 30) = false := decide_eq_false h2
        rw [show bigB x = false by unfold bigB; rw [d2, d3]; rfl] at hs
        simp (disch := omega) only [f53_r2, f53_r3, f53_r5, Nat.reduceEqDiff, ↓reduceIte, Bool.false_eq_true, Bool.not_false, g0, g3, e1, d1, p1, p2, iE, ng29, d2, d3, fw64, bz]
        exact ⟨j + 1, by omega, by omega, by rw [hs, ha]; rfl, rfl, by simp (disch := omega) only [getK_set, Nat.reduceEqDiff, ↓reduceIte, g0, and_self, Int.natCast_add, Int.natCast_one]⟩
  · have d1 : decide ((j : Int) < (L.length : Int)) = false := decide_eq_false (by omega)
    have hany : smB L = true := by unfold smB; rw [List.take_of_length_le (by omega)] at ha; rw [ha]; rfl
    simp (disch := omega) only [f53_r2, f53_r6, f53_rs, Option.some.injEq, exists_eq_left', Nat.reduceEqDiff, ↓reduceIte, Bool.false_eq_true, g0, g3, e1, d1, hany, and_self, bz]
theorem f53_eq (k : fs.get (.ofNat 53) = some f53) (hv : Sr iE h v L) (hL : L.length ≤ 1000000) {P : V → H → Prop} : CallP fs (.fn (.ofNat 53) []) [v] h P = P (.b (smB L)) h := callP_eq2 (callP_0 k rfl (f53_ret hv hL))
theorem getD_at0 {L : List Int} {i : Nat} (hi : i < L.length) : L.getD i 0 = L[i] := by rw [List.getD_eq_getElem?_getD, List.getElem?_eq_getElem hi]; rfl
theorem f54_ret (k : CSm fs) (hv : Sr iE h v L) (hL : L.length ≤ 1000000) : Ret fs f54 [v] h fun r h' => r = .b (plB L) ∧ h' = h := by
  apply ret_of rfl
  show W fs none f54_c _ _ _
  unfold f54_c plB
  have e1 := hv.len
  have e2 := fun P => f84_eq k hv hL (P := P)
  by_cases h1 : 1 ≤ L.length
  · have d1 : decide ((L.length : Int) ≥ 1) = true := decide_eq_true (by omega)
    have b1 : decide (1 ≤ L.length) = true := decide_eq_true h1
    by_cases h2 : L.length ≤ 6
    · have d2 : decide ((L.length : Int) ≤ 6) = true := decide_eq_true (by omega)
      have b2 : decide (L.length ≤ 6) = true := decide_eq_true h2
      cases hs : smB L with
      | false =>
        simp (disch := omega) only [f54_r0, f54_r1, f54_rs, Option.some.injEq, exists_eq_left', Nat.reduceEqDiff, ↓reduceIte, Bool.false_eq_true, e1, e2, d1, d2, b1, b2, hs, Bool.true_and, Bool.false_and, and_self, bz]
      | true =>
        obtain ⟨q, p1, p2⟩ := hv.at (L.length - 1) (by omega)
        have ei : (L.length : Int) - 1 = ((L.length - 1 : Nat) : Int) := by omega
        simp (disch := omega) only [f54_r0, f54_r1, f54_rs, Option.some.injEq, exists_eq_left', Nat.reduceEqDiff, ↓reduceIte, e1, e2, d1, d2, b1, b2, hs, ei, fw64, p1, p2, iE, getD_at0, Bool.true_and, and_self, bz]
    · have d2 : decide ((L.length : Int) ≤ 6) = false := decide_eq_false (by omega)
      have b2 : decide (L.length ≤ 6) = false := decide_eq_false h2
      simp (disch := omega) only [f54_r0, f54_r1, f54_rs, Option.some.injEq, exists_eq_left', Nat.reduceEqDiff, ↓reduceIte, Bool.false_eq_true, e1, d1, d2, b1, b2, Bool.true_and, Bool.false_and, and_self, bz]
  · have d1 : decide ((L.length : Int) ≥ 1) = false := decide_eq_false (by omega)
    have b1 : decide (1 ≤ L.length) = false := decide_eq_false h1
    simp (disch := omega) only [f54_r0, f54_r1, f54_rs, Option.some.injEq, exists_eq_left', Nat.reduceEqDiff, ↓reduceIte, Bool.false_eq_true, e1, d1, b1, Bool.false_and, and_self, bz]
theorem f54_eq (k : CSm fs) (h54 : fs.get (.ofNat 54) = some f54) (hv : Sr iE h v L) (hL : L.length ≤ 1000000) {P : V → H → Prop} : CallP fs (.fn (.ofNat 54) []) [v] h P = P (.b (plB L)) h := callP_eq2 (callP_0 h54 rfl (f54_ret k hv hL))
def ckI (L : List Int) : Int := if plB L = true then 0 else 90
theorem f14_ret (k : CSm fs) (h54 : fs.get (.ofNat 54) = some f54) (hv : Sr iE h v L) (hL : L.length ≤ 1000000) : Ret fs f14 [v] h fun r h' => r = .i .i64 (ckI L) ∧ h' = h := by
  apply ret_of rfl
  show W fs none f14_c _ _ _
  unfold f14_c ckI
  have e2 := fun P => f54_eq k h54 hv hL (P := P)
  cases hp : plB L with
  | true => simp (disch := omega) only [f14_r0, f14_r1, f14_r3, f14_rs, Option.some.injEq, exists_eq_left', Nat.reduceEqDiff, ↓reduceIte, Bool.false_eq_true, Bool.not_true, e2, hp, and_self, bz]
  | false => simp (disch := omega) only [f14_r0, f14_r1, f14_r2, f14_rs, Option.some.injEq, exists_eq_left', Nat.reduceEqDiff, ↓reduceIte, Bool.false_eq_true, Bool.not_false, e2, hp, of90, and_self, bz]
theorem f14_eq (k : CSm fs) (h54 : fs.get (.ofNat 54) = some f54) (h14 : fs.get (.ofNat 14) = some f14) (hv : Sr iE h v L) (hL : L.length ≤ 1000000) {P : V → H → Prop} : CallP fs (.fn (.ofNat 14) []) [v] h P = P (.i .i64 (ckI L)) h := callP_eq2 (callP_0 h14 rfl (f14_ret k h54 hv hL))
end
end Go.Ev
namespace Go.Ev
open Go Go.RowKit
theorem fw_def (x : Int) : fw .i64 x = if x % 18446744073709551616 ≥ 9223372036854775808 then x % 18446744073709551616 - 18446744073709551616 else x % 18446744073709551616 := by
  rw [fw_eq]
  simp [IntKind.wrap, IntKind.bits, IntKind.signed]
theorem fw_mod (x : Int) : (fw .i64 x) % 18446744073709551616 = x % 18446744073709551616 := by
  rw [fw_def]; split <;> omega
theorem fw_cong {x y : Int} (h : x % 18446744073709551616 = y % 18446744073709551616) : fw .i64 x = fw .i64 y := by
  rw [fw_def, fw_def, h]
theorem fwA (x y : Int) : fw .i64 (fw .i64 x + y) = fw .i64 (x + y) := fw_cong (by rw [Int.add_emod, fw_mod, ← Int.add_emod])
theorem fwB (x y : Int) : fw .i64 (x + fw .i64 y) = fw .i64 (x + y) := fw_cong (by rw [Int.add_emod, fw_mod, ← Int.add_emod])
theorem fw_0 : fw .i64 0 = 0 := fw64 (by omega) (by omega)
def sg (f : Nat → Int) : Nat → Int
  | 0 => 0
  | n + 1 => sg f n + f n
theorem sg_zero {f : Nat → Int} : ∀ {n : Nat}, (∀ i, i < n → f i = 0) → sg f n = 0
  | 0, _ => rfl
  | n + 1, h => by show sg f n + f n = 0; rw [sg_zero (n := n) (fun i hi => h i (by omega)), h n (by omega)]; rfl
theorem sg_tail {f : Nat → Int} {m : Nat} : ∀ {n : Nat}, m ≤ n → (∀ i, m ≤ i → i < n → f i = 0) → sg f n = sg f m
  | 0, h, _ => by rw [show m = 0 by omega]
  | n + 1, h, hz => by
    by_cases e : m = n + 1
    · rw [e]
    · show sg f n + f n = _
      rw [sg_tail (n := n) (by omega) (fun i a b => hz i a (by omega)), hz n (by omega) (by omega), Int.add_zero]
theorem sg_congr {f g : Nat → Int} : ∀ {n : Nat}, (∀ i, i < n → f i = g i) → sg f n = sg g n
  | 0, _ => rfl
  | n + 1, h => by show sg f n + f n = sg g n + g n; rw [sg_congr (n := n) (fun i hi => h i (by omega)), h n (by omega)]
def abF (A B : List Int) (k i : Nat) : Int := if i ≤ k then A.getD i 0 * B.getD (k - i) 0 else 0
def cvF (A B : List Int) (k : Nat) : Int := sg (abF A B k) A.length
def prd (A B : List Int) : List Int := (List.range (A.length + B.length - 1)).map fun k => fw .i64 (cvF A B k)
theorem prd_len {A B : List Int} : (prd A B).length = A.length + B.length - 1 := by simp [prd]
theorem prd_at {A B : List Int} {k : Nat} (hk : k < (prd A B).length) : (prd A B)[k] = fw .i64 (cvF A B k) := by simp [prd]
theorem getD_ge {L : List Int} {i : Nat} (h : L.length ≤ i) : L.getD i 0 = 0 := by rw [List.getD_eq_getElem?_getD, List.getElem?_eq_none h]; rfl
theorem getD_lt {L : List Int} {i : Nat} (hi : i < L.length) : L.getD i 0 = L[i] := by rw [List.getD_eq_getElem?_getD, List.getElem?_eq_getElem hi]; rfl
theorem abF_low {A B : List Int} {k i : Nat} (h : i + B.length ≤ k) : abF A B k i = 0 := by
  unfold abF; rw [if_pos (by omega), getD_ge (L := B) (by omega), Int.mul_zero]
theorem abF_high {A B : List Int} {k i : Nat} (h : k < i) : abF A B k i = 0 := by unfold abF; rw [if_neg (by omega)]
def suN (L : List Int) (n : Nat) : Int := fw .i64 (sg (fun i => L.getD i 0) n)
theorem suN_snoc {L : List Int} {x : Int} : suN (L ++ [x]) (L ++ [x]).length = fw .i64 (suN L L.length + x) := by
  unfold suN
  rw [fwA]
  congr 1
  rw [List.length_append, List.length_cons, List.length_nil]
  show sg _ L.length + _ = _
  rw [sg_congr (g := fun i => L.getD i 0) (fun i hi => by
    rw [getD_lt (by simp; omega), getD_lt hi, List.getElem_append_left hi])]
  congr 1
  show (L ++ [x]).getD L.length 0 = x
  rw [getD_lt (by simp)]
  simp
def tmF (A B : List Int) (i k m : Nat) : Int := sg (abF A B m) i + (if i ≤ m ∧ m - i < k then A.getD i 0 * B.getD (m - i) 0 else 0)
def tmL (A B : List Int) (i k : Nat) : List Int := (List.range (A.length + B.length - 1)).map fun m => fw .i64 (tmF A B i k m)
theorem tmL_len {A B : List Int} {i k : Nat} : (tmL A B i k).length = A.length + B.length - 1 := by simp [tmL]
theorem tmL_at {A B : List Int} {i k m : Nat} (hm : m < (tmL A B i k).length) : (tmL A B i k)[m] = fw .i64 (tmF A B i k m) := by simp [tmL]
theorem tmL_zero {A B : List Int} : tmL A B 0 0 = List.replicate (A.length + B.length - 1) 0 := by
  apply List.ext_getElem
  · simp [tmL]
  · intro m h1 h2
    rw [tmL_at, List.getElem_replicate]
    unfold tmF sg
    rw [if_neg (by omega)]; exact fw_0
theorem tmL_next {A B : List Int} {i : Nat} : tmL A B i B.length = tmL A B (i + 1) 0 := by
  unfold tmL
  apply List.map_congr_left
  intro m hm
  congr 1
  unfold tmF
  rw [if_neg (show ¬ (i + 1 ≤ m ∧ m - (i + 1) < 0) by omega), Int.add_zero]
  show _ = sg (abF A B m) i + abF A B m i
  congr 1
  unfold abF
  by_cases h1 : i ≤ m
  · rw [if_pos h1]
    by_cases h2 : m - i < B.length
    · rw [if_pos ⟨h1, h2⟩]
    · rw [if_neg (by omega), getD_ge (L := B) (by omega), Int.mul_zero]
  · rw [if_neg h1, if_neg (by omega)]
theorem tmL_set {A B : List Int} {i k : Nat} (hi : i < A.length) (hk : k < B.length) : (tmL A B i k).set (i + k) (fw .i64 (fw .i64 (tmF A B i k (i + k)) + fw .i64 (A[i] * B[k]))) = tmL A B i (k + 1) := by
  apply List.ext_getElem
  · simp [tmL]
  · intro m h1 h2
    rw [List.getElem_set, tmL_at]
    split
    · rename_i e
      subst e
      rw [fwA, fwB, tmL_at]
      congr 1
      unfold tmF
      rw [if_neg (by omega), if_pos (by omega), getD_lt hi, show i + k - i = k by omega, getD_lt hk]; omega
    · rename_i e
      rw [tmL_at]
      congr 1
      unfold tmF
      congr 1
      by_cases h3 : i ≤ m ∧ m - i < k
      · rw [if_pos h3, if_pos (by omega)]
      · rw [if_neg h3, if_neg (by omega)]
theorem tmL_end {A B : List Int} : tmL A B A.length 0 = prd A B := by
  unfold tmL prd
  apply List.map_congr_left
  intro m hm
  congr 1
  unfold tmF cvF
  rw [if_neg (by omega), Int.add_zero]
end Go.Ev
namespace Go.Ev
open Go Go.RowKit
def frL (q : Rat) : List V := [.i .i64 q.num, .i .i64 (q.den : Int)]
theorem fr_div {a b : Int} (hb : b ≠ 0) : (Rat.divInt a b).num = a.tdiv (if b < 0 then -(Int.gcd a b : Int) else (Int.gcd a b : Int)) ∧ ((Rat.divInt a b).den : Int) = b.tdiv (if b < 0 then -(Int.gcd a b : Int) else (Int.gcd a b : Int)) := by
  have h1 : ((Int.gcd a b : Nat) : Int) ∣ a := Int.gcd_dvd_left a b
  have h2 : ((Int.gcd a b : Nat) : Int) ∣ b := Int.gcd_dvd_right a b
  rw [Rat.num_divInt, Rat.den_divInt, if_neg hb, Int.gcd_comm b a]
  by_cases hn : b < 0
  · rw [if_pos hn, Int.tdiv_neg, Int.tdiv_neg, Int.tdiv_eq_ediv_of_dvd h1, Int.tdiv_eq_ediv_of_dvd h2, Int.sign_eq_neg_one_of_neg hn]
    refine ⟨by rw [Int.neg_one_mul, Int.neg_ediv_of_dvd h1], ?_⟩
    rw [← Int.neg_ediv_of_dvd h2, Int.natCast_ediv, Int.ofNat_natAbs_of_nonpos (by omega)]
  · rw [if_neg hn, Int.tdiv_eq_ediv_of_dvd h1, Int.tdiv_eq_ediv_of_dvd h2, Int.sign_eq_one_of_pos (by omega), Int.one_mul]
    exact ⟨rfl, by rw [Int.natCast_ediv, Int.natAbs_of_nonneg (by omega)]⟩
theorem gcd_step {a b : Int} : Int.gcd b (a.tmod b) = Int.gcd a b := by
  show Nat.gcd b.natAbs (a.tmod b).natAbs = Nat.gcd a.natAbs b.natAbs
  rw [Int.natAbs_tmod, Nat.gcd_comm, ← Nat.gcd_rec, Nat.gcd_comm]
theorem gcd_le {a b M : Int} (ha : a.natAbs ≤ M.natAbs) (hb : b.natAbs ≤ M.natAbs) : Int.gcd a b ≤ M.natAbs := by
  by_cases h : a = 0
  · subst h; rw [Int.gcd_zero_left]; exact hb
  · exact Nat.le_trans (Nat.le_of_dvd (by omega) (Nat.gcd_dvd_left _ _)) ha
theorem rat_eq (q : Rat) : Rat.divInt q.num (q.den : Int) = q := Rat.num_divInt_den q
theorem rat_mul {p q : Rat} : Rat.divInt (p.num * q.num) ((p.den : Int) * (q.den : Int)) = p * q := by
  rw [← Rat.divInt_mul_divInt, rat_eq, rat_eq]
theorem rat_den {q : Rat} : (q.den : Int) ≠ 0 := by have := q.den_nz; omega
theorem rat_sub {p q : Rat} : Rat.divInt (p.num * (q.den : Int) - q.num * (p.den : Int)) ((p.den : Int) * (q.den : Int)) = p - q := by
  rw [← Rat.divInt_sub_divInt _ _ rat_den rat_den, rat_eq, rat_eq]
theorem rat_div {p q : Rat} : Rat.divInt (p.num * (q.den : Int)) ((p.den : Int) * q.num) = p / q := by
  have h : q⁻¹ = Rat.divInt (q.den : Int) q.num := by rw [← Rat.inv_divInt, rat_eq]
  rw [← Rat.divInt_mul_divInt, rat_eq, Rat.div_def, h]
end Go.Ev
namespace Go.Ev
open Go Go.RowKit
noncomputable def f83_r0 : List EOper := [oG 4 (.as (cG 0))]
noncomputable def f83_r1 : List EOper := [oG 5 (.mv (tG 1)), oG 6 (.bin .neq (tG 5) (cG 0))]
noncomputable def f83_r2 : List Stage := [⟨[oG 7 (.mv (tG 1)), oG 8 (.mv (tG 0)), oG 9 (.mv (tG 1)), oG 10 (.bin .rem (tG 8) (tG 9))], [], (some (oG 0 (.as (tG 7)))), []⟩, ⟨[], [oG 9 (.mv (tG 1)), oG 10 (.bin .rem (tG 8) (tG 9))], (some (oG 1 (.as (tG 10)))), []⟩, ⟨[], [], none, []⟩]
noncomputable def f83_l0 : EC := (.seq (.seq (.reg f83_r1) (.cond (tG 6) .skip (.exit 0))) (.block 1 (.draw f83_r2)))
noncomputable def f83_r3 : List EOper := [oG 11 (.mv (tG 0)), oG 12 (.mv (tG 0)), oG 13 (.neg (tG 12)), oG 14 (.mx3 (tG 11) (tG 13) (cG 1)), oG 4 (.as (tG 14))]
noncomputable def f83_c : EC := (.seq (.reg f83_r0) (.seq (.block 0 (.loop f83_l0)) (.seq (.reg f83_r3) .ret)))
noncomputable def f83 : EF := ⟨15, [.tmp (.ofNat 4)], f83_c, none⟩
theorem f83_rs : f83.rs = [.tmp (.ofNat 4)] := of_eq_true (eq_self _)
noncomputable def f107_r0 : List EOper := [oG 4 (.as (cG 0))]
noncomputable def f107_r1 : List EOper := [oG 5 (.mv (tG 1)), oG 6 (.bin .neq (tG 5) (cG 0))]
noncomputable def f107_r2 : List Stage := [⟨[oG 7 (.mv (tG 1)), oG 8 (.mv (tG 0)), oG 9 (.mv (tG 1)), oG 10 (.bin .rem (tG 8) (tG 9))], [], (some (oG 0 (.as (tG 7)))), []⟩, ⟨[], [oG 9 (.mv (tG 1)), oG 10 (.bin .rem (tG 8) (tG 9))], (some (oG 1 (.as (tG 10)))), []⟩, ⟨[], [], none, []⟩]
noncomputable def f107_l0 : EC := (.seq (.seq (.reg f107_r1) (.cond (tG 6) .skip (.exit 0))) (.block 1 (.draw f107_r2)))
noncomputable def f107_r3 : List EOper := [oG 11 (.mv (tG 0)), oG 12 (.mv (tG 0)), oG 13 (.neg (tG 12)), oG 14 (.max (tG 11) (tG 13)), oG 4 (.as (tG 14))]
noncomputable def f107_c : EC := (.seq (.reg f107_r0) (.seq (.block 0 (.loop f107_l0)) (.seq (.reg f107_r3) .ret)))
noncomputable def f107 : EF := ⟨15, [.tmp (.ofNat 4)], f107_c, none⟩
theorem f107_rs : f107.rs = [.tmp (.ofNat 4)] := of_eq_true (eq_self _)
noncomputable def f100_r0 : List EOper := [oG 4 (.alloc 2 [(.i .i64 (.ofNat 0)), (.i .i64 (.ofNat 0))])]
noncomputable def f100_r1 : List EOper := [oG 6 (.mv (tG 0)), oG 7 (.mv (tG 1)), oG 8 (.call (fG 107) [(tG 6), (tG 7)]), oG 5 (.as (tG 8))]
noncomputable def f100_r2 : List EOper := [oG 9 (.mv (tG 1)), oG 10 (.bin .lss (tG 9) (cG 0))]
noncomputable def f100_r3 : List EOper := [oG 11 (.mv (tG 5)), oG 12 (.neg (tG 11)), oG 5 (.as (tG 12))]
noncomputable def f100_r4 : List Stage := [⟨[oG 13 (.mv (tG 0)), oG 14 (.mv (tG 5)), oG 15 (.bin .quo (tG 13) (tG 14)), oG 16 (.mv (tG 1)), oG 17 (.mv (tG 5)), oG 18 (.bin .quo (tG 16) (tG 17)), oG 19 (.build [(.i .i64 (.ofNat 0)), (.i .i64 (.ofNat 0))] [(0, 1, (tG 15)), (1, 1, (tG 18))])], [], (some ⟨none, none, .st 2 (tG 4) (tG 19)⟩), []⟩, ⟨[], [], none, []⟩]
noncomputable def f100_c : EC := (.seq (.reg f100_r0) (.seq (.reg f100_r1) (.seq (.seq (.reg f100_r2) (.cond (tG 10) (.reg f100_r3) .skip)) (.seq (.draw f100_r4) .ret))))
noncomputable def f100 : EF := ⟨20, [.celln (.ofNat 4) 2], f100_c, none⟩
theorem f100_rs : f100.rs = [.celln (.ofNat 4) 2] := of_eq_true (eq_self _)
noncomputable def f52_r0 : List EOper := [oG 4 (.alloc 2 [(.i .i64 (.ofNat 0)), (.i .i64 (.ofNat 0))])]
noncomputable def f52_r1 : List EOper := [oG 6 (.mv (tG 0)), oG 7 (.mv (tG 1)), oG 8 (.call (fG 83) [(tG 6), (tG 7)]), oG 5 (.as (tG 8))]
noncomputable def f52_r2 : List Stage := [⟨[oG 9 (.mv (tG 0)), oG 10 (.mv (tG 5)), oG 11 (.bin .quo (tG 9) (tG 10)), oG 12 (.mv (tG 1)), oG 13 (.mv (tG 5)), oG 14 (.bin .quo (tG 12) (tG 13)), oG 15 (.build [(.i .i64 (.ofNat 0)), (.i .i64 (.ofNat 0))] [(0, 1, (tG 11)), (1, 1, (tG 14))])], [], (some ⟨none, none, .st 2 (tG 4) (tG 15)⟩), []⟩, ⟨[], [], none, []⟩]
noncomputable def f52_c : EC := (.seq (.reg f52_r0) (.seq (.reg f52_r1) (.seq (.draw f52_r2) .ret)))
noncomputable def f52 : EF := ⟨16, [.celln (.ofNat 4) 2], f52_c, none⟩
theorem f52_rs : f52.rs = [.celln (.ofNat 4) 2] := of_eq_true (eq_self _)
noncomputable def f103_r0 : List EOper := [oG 2 (.box 2 (tG 0)), oG 3 (.box 2 (tG 1)), oG 4 (.alloc 2 [(.i .i64 (.ofNat 0)), (.i .i64 (.ofNat 0))])]
noncomputable def f103_r1 : List EOper := [oG 5 (.fadr 0 (tG 2)), oG 6 (.ld (tG 5)), oG 7 (.fadr 0 (tG 3)), oG 8 (.ld (tG 7)), oG 9 (.bin .mul (tG 6) (tG 8)), oG 10 (.fadr 1 (tG 2)), oG 11 (.ld (tG 10)), oG 12 (.fadr 1 (tG 3)), oG 13 (.ld (tG 12)), oG 14 (.bin .mul (tG 11) (tG 13)), oG 15 (.call (fG 100) [(tG 9), (tG 14)]), ⟨none, none, .st 2 (tG 4) (tG 15)⟩]
noncomputable def f103_c : EC := (.seq (.reg f103_r0) (.seq (.reg f103_r1) .ret))
noncomputable def f103 : EF := ⟨16, [.celln (.ofNat 4) 2], f103_c, none⟩
theorem f103_rs : f103.rs = [.celln (.ofNat 4) 2] := of_eq_true (eq_self _)
noncomputable def f104_r0 : List EOper := [oG 2 (.box 2 (tG 0)), oG 3 (.box 2 (tG 1)), oG 4 (.alloc 2 [(.i .i64 (.ofNat 0)), (.i .i64 (.ofNat 0))])]
noncomputable def f104_r1 : List EOper := [oG 5 (.fadr 0 (tG 2)), oG 6 (.ld (tG 5)), oG 7 (.fadr 1 (tG 3)), oG 8 (.ld (tG 7)), oG 9 (.bin .mul (tG 6) (tG 8)), oG 10 (.fadr 1 (tG 2)), oG 11 (.ld (tG 10)), oG 12 (.fadr 0 (tG 3)), oG 13 (.ld (tG 12)), oG 14 (.bin .mul (tG 11) (tG 13)), oG 15 (.call (fG 100) [(tG 9), (tG 14)]), ⟨none, none, .st 2 (tG 4) (tG 15)⟩]
noncomputable def f104_c : EC := (.seq (.reg f104_r0) (.seq (.reg f104_r1) .ret))
noncomputable def f104 : EF := ⟨16, [.celln (.ofNat 4) 2], f104_c, none⟩
theorem f104_rs : f104.rs = [.celln (.ofNat 4) 2] := of_eq_true (eq_self _)
noncomputable def f105_r0 : List EOper := [oG 2 (.box 2 (tG 0)), oG 3 (.box 2 (tG 1)), oG 4 (.alloc 2 [(.i .i64 (.ofNat 0)), (.i .i64 (.ofNat 0))])]
noncomputable def f105_r1 : List EOper := [oG 5 (.fadr 0 (tG 2)), oG 6 (.ld (tG 5)), oG 7 (.fadr 1 (tG 3)), oG 8 (.ld (tG 7)), oG 9 (.bin .mul (tG 6) (tG 8)), oG 10 (.fadr 0 (tG 3)), oG 11 (.ld (tG 10)), oG 12 (.fadr 1 (tG 2)), oG 13 (.ld (tG 12)), oG 14 (.bin .mul (tG 11) (tG 13)), oG 15 (.bin .sub (tG 9) (tG 14)), oG 16 (.fadr 1 (tG 2)), oG 17 (.ld (tG 16)), oG 18 (.fadr 1 (tG 3)), oG 19 (.ld (tG 18)), oG 20 (.bin .mul (tG 17) (tG 19)), oG 21 (.call (fG 100) [(tG 15), (tG 20)]), ⟨none, none, .st 2 (tG 4) (tG 21)⟩]
noncomputable def f105_c : EC := (.seq (.reg f105_r0) (.seq (.reg f105_r1) .ret))
noncomputable def f105 : EF := ⟨22, [.celln (.ofNat 4) 2], f105_c, none⟩
theorem f105_rs : f105.rs = [.celln (.ofNat 4) 2] := of_eq_true (eq_self _)
section
variable {fs : T EF} {h : H} {v w u : V} {a b : Int} {p q : Rat}
def M63 : Nat := 9223372036854775807
theorem isub_0 {x : Int} : isub 0 x = -x := by rw [isub_eq]; omega
theorem neg63 {x : Int} (hx : x.natAbs ≤ M63) : fw .i64 (isub 0 x) = -x := by
  unfold M63 at hx
  rw [isub_0, fw64 (by omega) (by omega)]
def f107_I (a b : Int) (h0 : H) (s : Int × Int) (fr : Fr) (h1 : H) : Prop := Int.gcd s.1 s.2 = Int.gcd a b ∧ s.1.natAbs ≤ M63 ∧ s.2.natAbs ≤ M63 ∧ h1 = h0 ∧ fr.get (K.ofNat 0) = some (.i .i64 s.1) ∧ fr.get (K.ofNat 1) = some (.i .i64 s.2)
theorem f107_ret (ha : a.natAbs ≤ M63) (hb : b.natAbs ≤ M63) : Ret fs f107 [.i .i64 a, .i .i64 b] h fun r h' => r = .i .i64 (Int.gcd a b : Int) ∧ h' = h := by
  apply ret_of rfl
  show W fs none f107_c _ _ _
  unfold f107_c
  simp (disch := omega) only [f107_r0, bz]
  refine W_loop (f107_I a b h) (fun s => s.2.natAbs) ?_ (a, b) ⟨rfl, ha, hb, rfl, by simp (disch := omega) only [getK_set, Nat.reduceEqDiff, ↓reduceIte, and_self]⟩
  rintro ⟨x, y⟩ fr h1 ⟨hg, hx, hy, rfl, g0, g1⟩
  have hg : Int.gcd x y = Int.gcd a b := hg
  have hx : x.natAbs ≤ M63 := hx
  have hy : y.natAbs ≤ M63 := hy
  have g0 : fr.get (K.ofNat 0) = some (.i .i64 x) := g0
  have g1 : fr.get (K.ofNat 1) = some (.i .i64 y) := g1
  unfold f107_l0
  by_cases h0 : y = 0
  · have d1 : decide (y ≠ 0) = false := decide_eq_false (fun e => e h0)
    have en := neg63 hx
    have em : max x (-x) = ((Int.gcd a b : Nat) : Int) := by
      rw [← hg, h0, Int.gcd_zero_right]; omega
    simp (disch := omega) only [f107_r1, f107_r3, f107_rs, x_max, max_ii, Option.some.injEq, exists_eq_left', Nat.reduceEqDiff, ↓reduceIte, Bool.false_eq_true, g0, g1, d1, en, em, and_self, bz]
  · have d1 : decide (y ≠ 0) = true := decide_eq_true h0
    have d2 : decide (y = 0) = false := decide_eq_false h0
    simp (disch := omega) only [f107_r1, f107_r2, stay_bin, bin_rem, Nat.reduceEqDiff, ↓reduceIte, g0, g1, d1, bz]
    have hm : (x.tmod y).natAbs < y.natAbs := by rw [Int.natAbs_tmod]; exact Nat.mod_lt _ (by omega)
    exact ⟨(y, x.tmod y), hm, gcd_step.trans hg, hy, by show (x.tmod y).natAbs ≤ M63; omega, rfl, by simp (disch := omega) only [getK_set, Nat.reduceEqDiff, ↓reduceIte, and_self]⟩
theorem f107_eq (k : fs.get (.ofNat 107) = some f107) (ha : a.natAbs ≤ M63) (hb : b.natAbs ≤ M63) {P : V → H → Prop} : CallP fs (.fn (.ofNat 107) []) [.i .i64 a, .i .i64 b] h P = P (.i .i64 (Int.gcd a b : Int)) h := callP_eq2 (callP_0 k rfl (f107_ret ha hb))
theorem mx3_i {k : IntKind} {a b c : Int} : mx3V (.i k a) (.i k b) (.i k c) h = .ok (.i k (max (max a b) c)) h := by
  show RV.ok (.i k (bif ilt (bif ilt a b then b else a) c then c else (bif ilt a b then b else a))) h = _
  rw [ilt_eq, ilt_eq]
  congr 2
  by_cases h1 : a < b
  · rw [decide_eq_true h1]
    by_cases h2 : b < c
    · rw [cond_true, decide_eq_true h2]; show c = _; omega
    · rw [cond_true, decide_eq_false h2]; show b = _; omega
  · rw [decide_eq_false h1]
    by_cases h2 : a < c
    · rw [cond_false, decide_eq_true h2]; show c = _; omega
    · rw [cond_false, decide_eq_false h2]; show a = _; omega
theorem f83_ret (ha : a.natAbs ≤ M63) (hb : b.natAbs ≤ M63) : Ret fs f83 [.i .i64 a, .i .i64 b] h fun r h' => r = .i .i64 (max (Int.gcd a b : Int) 1) ∧ h' = h := by
  apply ret_of rfl
  show W fs none f83_c _ _ _
  unfold f83_c
  simp (disch := omega) only [f83_r0, bz]
  refine W_loop (f107_I a b h) (fun s => s.2.natAbs) ?_ (a, b) ⟨rfl, ha, hb, rfl, by simp (disch := omega) only [getK_set, Nat.reduceEqDiff, ↓reduceIte, and_self]⟩
  rintro ⟨x, y⟩ fr h1 ⟨hg, hx, hy, rfl, g0, g1⟩
  have hg : Int.gcd x y = Int.gcd a b := hg
  have hx : x.natAbs ≤ M63 := hx
  have hy : y.natAbs ≤ M63 := hy
  have g0 : fr.get (K.ofNat 0) = some (.i .i64 x) := g0
  have g1 : fr.get (K.ofNat 1) = some (.i .i64 y) := g1
  unfold f83_l0
  by_cases h0 : y = 0
  · have d1 : decide (y ≠ 0) = false := decide_eq_false (fun e => e h0)
    have en := neg63 hx
    have em : max (max x (-x)) 1 = max ((Int.gcd a b : Nat) : Int) 1 := by
      rw [← hg, h0, Int.gcd_zero_right]; omega
    simp (disch := omega) only [f83_r1, f83_r3, f83_rs, Option.some.injEq, exists_eq_left', Nat.reduceEqDiff, ↓reduceIte, Bool.false_eq_true, x_mx3, g0, g1, d1, en, mx3_i, em, and_self, bz]
  · have d1 : decide (y ≠ 0) = true := decide_eq_true h0
    have d2 : decide (y = 0) = false := decide_eq_false h0
    simp (disch := omega) only [f83_r1, f83_r2, stay_bin, bin_rem, Nat.reduceEqDiff, ↓reduceIte, g0, g1, d1, bz]
    have hm : (x.tmod y).natAbs < y.natAbs := by rw [Int.natAbs_tmod]; exact Nat.mod_lt _ (by omega)
    exact ⟨(y, x.tmod y), hm, gcd_step.trans hg, hy, by show (x.tmod y).natAbs ≤ M63; omega, rfl, by simp (disch := omega) only [getK_set, Nat.reduceEqDiff, ↓reduceIte, and_self]⟩
theorem f83_eq (k : fs.get (.ofNat 83) = some f83) (ha : a.natAbs ≤ M63) (hb : b.natAbs ≤ M63) (h0 : a ≠ 0 ∨ b ≠ 0) {P : V → H → Prop} : CallP fs (.fn (.ofNat 83) []) [.i .i64 a, .i .i64 b] h P = P (.i .i64 (Int.gcd a b : Int)) h := by
  rw [callP_eq2 (callP_0 k rfl (f83_ret ha hb))]
  have : Int.gcd a b ≠ 0 := fun e => by
    have := Int.gcd_eq_zero_iff.1 e
    omega
  rw [show max ((Int.gcd a b : Nat) : Int) 1 = ((Int.gcd a b : Nat) : Int) by omega]
theorem tdiv63 {a c : Int} (ha : a.natAbs ≤ M63) : fw .i64 (a.tdiv c) = a.tdiv c := by
  have : (a.tdiv c).natAbs ≤ a.natAbs := by rw [Int.natAbs_tdiv]; exact Nat.div_le_self _ _
  unfold M63 at ha
  exact fw64 (by omega) (by omega)
theorem store2 {id : K} {c1 c2 x y : V} (hb : h.get id = .cells 2 [c1, c2]) : storeV h 2 (.p id 0) (.agg [x, y]) = .ok undefV (h.put id (.cells 2 [x, y])) := by
  rw [store_p (m := 2) (cs := [c1, c2]) (xs := [x, y]) hb rfl (by omega)]; rfl
theorem read2 {id : K} {x y : V} (hb : h.get id = .cells 2 [x, y]) : readP h (.p id 0) (many? 2) = some (.agg [x, y]) := by
  show (h.get id).onC none (fun n cs => many? 2 cs n 0) = _
  rw [hb]; rfl
theorem f100_ret (k107 : fs.get (.ofNat 107) = some f107) (ha : a.natAbs ≤ M63) (hb : b.natAbs ≤ M63) (h0 : b ≠ 0) : Ret fs f100 [.i .i64 a, .i .i64 b] h fun r h' => r = .agg (frL (Rat.divInt a b)) ∧ Grow h.nx.nat h h' := by
  apply ret_of rfl
  show W fs none f100_c _ _ _
  unfold f100_c
  have gA := Grow.new (Nat.le_refl h.nx.nat) (.cells 2 [.i .i64 0, .i .i64 0])
  have a1 : (h.new (.cells 2 [.i .i64 0, .i .i64 0])).get h.nx = .cells 2 [.i .i64 0, .i .i64 0] := get_new_same
  have n1 := nx_new h (.cells 2 [.i .i64 0, .i .i64 0])
  have e1 := fun h P => f107_eq (h := h) (P := P) k107 ha hb
  have hg : Int.gcd a b ≠ 0 := fun e => h0 (Int.gcd_eq_zero_iff.1 e).2
  have hgl : (Int.gcd a b) ≤ M63 := by
    have := gcd_le (M := (M63 : Int)) ha hb
    exact this
  have hr := fr_div (a := a) h0
  have hst := fun x y => store2 (x := x) (y := y) a1
  by_cases hn : b < 0
  · have d1 : decide (b < 0) = true := decide_eq_true hn
    rw [if_pos hn] at hr
    have en : fw .i64 (isub 0 (Int.gcd a b : Int)) = -(Int.gcd a b : Int) := neg63 (by simpa using hgl)
    have d2 : decide (-(Int.gcd a b : Int) = 0) = false := decide_eq_false (by omega)
    have q1 := tdiv63 (c := -(Int.gcd a b : Int)) ha
    have q2 := tdiv63 (c := -(Int.gcd a b : Int)) hb
    have rd := read2 (h := (h.new (.cells 2 [.i .i64 0, .i .i64 0])).put h.nx (.cells 2 [.i .i64 (a.tdiv (-(Int.gcd a b : Int))), .i .i64 (b.tdiv (-(Int.gcd a b : Int)))])) (id := h.nx) get_put_same
    simp (disch := omega) only [f100_r0, f100_r1, f100_r2, f100_r3, f100_r4, f100_rs, xg_build, bin_quo, Option.some.injEq, exists_eq_left', Nat.reduceEqDiff, ↓reduceIte, e1, d1, en, q1, q2, hst, rd, bz]
    exact ⟨by unfold frL; rw [hr.1, hr.2], gA.trans (Grow.put (Nat.le_refl _) (by omega) _)⟩
  · have d1 : decide (b < 0) = false := decide_eq_false hn
    rw [if_neg hn] at hr
    have d2 : decide ((Int.gcd a b : Int) = 0) = false := decide_eq_false (by omega)
    have q1 := tdiv63 (c := (Int.gcd a b : Int)) ha
    have q2 := tdiv63 (c := (Int.gcd a b : Int)) hb
    have rd := read2 (h := (h.new (.cells 2 [.i .i64 0, .i .i64 0])).put h.nx (.cells 2 [.i .i64 (a.tdiv (Int.gcd a b : Int)), .i .i64 (b.tdiv (Int.gcd a b : Int))])) (id := h.nx) get_put_same
    simp (disch := omega) only [f100_r0, f100_r1, f100_r2, f100_r4, f100_rs, xg_build, bin_quo, Option.some.injEq, exists_eq_left', Nat.reduceEqDiff, ↓reduceIte, Bool.false_eq_true, e1, d1, q1, q2, hst, rd, bz]
    exact ⟨by unfold frL; rw [hr.1, hr.2], gA.trans (Grow.put (Nat.le_refl _) (by omega) _)⟩
theorem fw_63 {x : Int} (hx : x.natAbs ≤ M63) : fw .i64 x = x := by
  unfold M63 at hx
  exact fw64 (by omega) (by omega)
theorem f103_ret (k100 : fs.get (.ofNat 100) = some f100) (k107 : fs.get (.ofNat 107) = some f107) (hb1 : (p.num * q.num).natAbs ≤ M63) (hb2 : ((p.den : Int) * (q.den : Int)).natAbs ≤ M63) : Ret fs f103 [.agg (frL p), .agg (frL q)] h fun r h' => r = .agg (frL (p * q)) ∧ Grow h.nx.nat h h' := by
  apply ret_of rfl
  show W fs none f103_c _ _ _
  unfold f103_c frL
  have gA := Grow.new (Nat.le_refl h.nx.nat) (.cells 2 [.i .i64 p.num, .i .i64 (p.den : Int)])
  have n1 := nx_new h (.cells 2 [.i .i64 p.num, .i .i64 (p.den : Int)])
  have b1 : (h.new (.cells 2 [.i .i64 p.num, .i .i64 (p.den : Int)])).get h.nx = .cells 2 [.i .i64 p.num, .i .i64 (p.den : Int)] := get_new_same
  have hw2 : (p.den : Int) * (q.den : Int) ≠ 0 := fun e => by rcases Int.mul_eq_zero.1 e with h | h; exact rat_den h; exact rat_den h
  have m1 : fw .i64 (p.num * q.num) = p.num * q.num := fw_63 hb1
  have m2 : fw .i64 ((p.den : Int) * (q.den : Int)) = (p.den : Int) * (q.den : Int) := fw_63 hb2
  simp (disch := omega) only [f103_r0, Nat.reduceEqDiff, ↓reduceIte, cells2, bz]
  generalize h.new (.cells 2 [.i .i64 p.num, .i .i64 (p.den : Int)]) = hA at *
  have gB := Grow.new (Nat.le_refl hA.nx.nat) (.cells 2 [.i .i64 q.num, .i .i64 (q.den : Int)])
  have n2 := nx_new hA (.cells 2 [.i .i64 q.num, .i .i64 (q.den : Int)])
  have c1 : (hA.new (.cells 2 [.i .i64 q.num, .i .i64 (q.den : Int)])).get h.nx = .cells 2 [.i .i64 p.num, .i .i64 (p.den : Int)] := (get_new_old (by omega)).trans b1
  have c2 : (hA.new (.cells 2 [.i .i64 q.num, .i .i64 (q.den : Int)])).get hA.nx = .cells 2 [.i .i64 q.num, .i .i64 (q.den : Int)] := get_new_same
  have hB2 : hA.nx.nat < (hA.new (.cells 2 [.i .i64 q.num, .i .i64 (q.den : Int)])).nx.nat := by omega
  have GB := gA.trans (gB.low gA.nx)
  generalize hA.nx = i2 at *
  generalize hA.new (.cells 2 [.i .i64 q.num, .i .i64 (q.den : Int)]) = hB at *
  have gC := Grow.new (Nat.le_refl hB.nx.nat) (.cells 2 [.i .i64 0, .i .i64 0])
  have n3 := nx_new hB (.cells 2 [.i .i64 0, .i .i64 0])
  have d1 : (hB.new (.cells 2 [.i .i64 0, .i .i64 0])).get h.nx = .cells 2 [.i .i64 p.num, .i .i64 (p.den : Int)] := (get_new_old (by omega)).trans c1
  have d2 : (hB.new (.cells 2 [.i .i64 0, .i .i64 0])).get i2 = .cells 2 [.i .i64 q.num, .i .i64 (q.den : Int)] := (get_new_old (by omega)).trans c2
  have d3 : (hB.new (.cells 2 [.i .i64 0, .i .i64 0])).get hB.nx = .cells 2 [.i .i64 0, .i .i64 0] := get_new_same
  have GC := GB.trans (gC.low GB.nx)
  generalize hB.nx = i3 at *
  generalize hB.new (.cells 2 [.i .i64 0, .i .i64 0]) = hC at *
  have l1 : loadV hC (.p h.nx 0) one? = .ok (.i .i64 p.num) hC := load_p d1 rfl
  have l2 : loadV hC (.p h.nx 1) one? = .ok (.i .i64 (p.den : Int)) hC := load_p d1 rfl
  have l3 : loadV hC (.p i2 0) one? = .ok (.i .i64 q.num) hC := load_p d2 rfl
  have l4 : loadV hC (.p i2 1) one? = .ok (.i .i64 (q.den : Int)) hC := load_p d2 rfl
  simp (disch := omega) only [f103_r1, x_fadr, Nat.reduceEqDiff, ↓reduceIte, l1, l2, l3, l4, m1, m2, bz]
  refine (callP_0 (ef := f100) k100 rfl (f100_ret k107 hb1 hb2 hw2)).mono ?_
  rintro r h' ⟨rfl, g⟩
  have st := store2 (h := h') (id := i3) (x := .i .i64 (Rat.divInt (p.num * q.num) ((p.den : Int) * (q.den : Int))).num) (y := .i .i64 ((Rat.divInt (p.num * q.num) ((p.den : Int) * (q.den : Int))).den : Int)) ((g.old _ (by omega)).trans d3)
  have rd := read2 (h := h'.put i3 (.cells 2 [.i .i64 (Rat.divInt (p.num * q.num) ((p.den : Int) * (q.den : Int))).num, .i .i64 ((Rat.divInt (p.num * q.num) ((p.den : Int) * (q.den : Int))).den : Int)])) (id := i3) get_put_same
  have := g.nx
  unfold frL
  simp (disch := omega) only [f103_rs, Option.some.injEq, exists_eq_left', Nat.reduceEqDiff, ↓reduceIte, st, rd, bz]
  exact ⟨by rw [rat_mul], (GC.trans (g.low (by omega))).trans (Grow.put (by omega) (by omega) _)⟩
theorem f104_ret (k100 : fs.get (.ofNat 100) = some f100) (k107 : fs.get (.ofNat 107) = some f107) (hb1 : (p.num * (q.den : Int)).natAbs ≤ M63) (hb2 : ((p.den : Int) * q.num).natAbs ≤ M63) (hq : q.num ≠ 0) : Ret fs f104 [.agg (frL p), .agg (frL q)] h fun r h' => r = .agg (frL (p / q)) ∧ Grow h.nx.nat h h' := by
  apply ret_of rfl
  show W fs none f104_c _ _ _
  unfold f104_c frL
  have gA := Grow.new (Nat.le_refl h.nx.nat) (.cells 2 [.i .i64 p.num, .i .i64 (p.den : Int)])
  have n1 := nx_new h (.cells 2 [.i .i64 p.num, .i .i64 (p.den : Int)])
  have b1 : (h.new (.cells 2 [.i .i64 p.num, .i .i64 (p.den : Int)])).get h.nx = .cells 2 [.i .i64 p.num, .i .i64 (p.den : Int)] := get_new_same
  have hw2 : (p.den : Int) * q.num ≠ 0 := fun e => by rcases Int.mul_eq_zero.1 e with h | h; exact rat_den h; exact hq h
  have m1 : fw .i64 (p.num * (q.den : Int)) = p.num * (q.den : Int) := fw_63 hb1
  have m2 : fw .i64 ((p.den : Int) * q.num) = (p.den : Int) * q.num := fw_63 hb2
  simp (disch := omega) only [f104_r0, Nat.reduceEqDiff, ↓reduceIte, cells2, bz]
  generalize h.new (.cells 2 [.i .i64 p.num, .i .i64 (p.den : Int)]) = hA at *
  have gB := Grow.new (Nat.le_refl hA.nx.nat) (.cells 2 [.i .i64 q.num, .i .i64 (q.den : Int)])
  have n2 := nx_new hA (.cells 2 [.i .i64 q.num, .i .i64 (q.den : Int)])
  have c1 : (hA.new (.cells 2 [.i .i64 q.num, .i .i64 (q.den : Int)])).get h.nx = .cells 2 [.i .i64 p.num, .i .i64 (p.den : Int)] := (get_new_old (by omega)).trans b1
  have c2 : (hA.new (.cells 2 [.i .i64 q.num, .i .i64 (q.den : Int)])).get hA.nx = .cells 2 [.i .i64 q.num, .i .i64 (q.den : Int)] := get_new_same
  have hB2 : hA.nx.nat < (hA.new (.cells 2 [.i .i64 q.num, .i .i64 (q.den : Int)])).nx.nat := by omega
  have GB := gA.trans (gB.low gA.nx)
  generalize hA.nx = i2 at *
  generalize hA.new (.cells 2 [.i .i64 q.num, .i .i64 (q.den : Int)]) = hB at *
  have gC := Grow.new (Nat.le_refl hB.nx.nat) (.cells 2 [.i .i64 0, .i .i64 0])
  have n3 := nx_new hB (.cells 2 [.i .i64 0, .i .i64 0])
  have d1 : (hB.new (.cells 2 [.i .i64 0, .i .i64 0])).get h.nx = .cells 2 [.i .i64 p.num, .i .i64 (p.den : Int)] := (get_new_old (by omega)).trans c1
  have d2 : (hB.new (.cells 2 [.i .i64 0, .i .i64 0])).get i2 = .cells 2 [.i .i64 q.num, .i .i64 (q.den : Int)] := (get_new_old (by omega)).trans c2
  have d3 : (hB.new (.cells 2 [.i .i64 0, .i .i64 0])).get hB.nx = .cells 2 [.i .i64 0, .i .i64 0] := get_new_same
  have GC := GB.trans (gC.low GB.nx)
  generalize hB.nx = i3 at *
  generalize hB.new (.cells 2 [.i .i64 0, .i .i64 0]) = hC at *
  have l1 : loadV hC (.p h.nx 0) one? = .ok (.i .i64 p.num) hC := load_p d1 rfl
  have l2 : loadV hC (.p h.nx 1) one? = .ok (.i .i64 (p.den : Int)) hC := load_p d1 rfl
  have l3 : loadV hC (.p i2 0) one? = .ok (.i .i64 q.num) hC := load_p d2 rfl
  have l4 : loadV hC (.p i2 1) one? = .ok (.i .i64 (q.den : Int)) hC := load_p d2 rfl
  simp (disch := omega) only [f104_r1, x_fadr, Nat.reduceEqDiff, ↓reduceIte, l1, l2, l3, l4, m1, m2, bz]
  refine (callP_0 (ef := f100) k100 rfl (f100_ret k107 hb1 hb2 hw2)).mono ?_
  rintro r h' ⟨rfl, g⟩
  have st := store2 (h := h') (id := i3) (x := .i .i64 (Rat.divInt (p.num * (q.den : Int)) ((p.den : Int) * q.num)).num) (y := .i .i64 ((Rat.divInt (p.num * (q.den : Int)) ((p.den : Int) * q.num)).den : Int)) ((g.old _ (by omega)).trans d3)
  have rd := read2 (h := h'.put i3 (.cells 2 [.i .i64 (Rat.divInt (p.num * (q.den : Int)) ((p.den : Int) * q.num)).num, .i .i64 ((Rat.divInt (p.num * (q.den : Int)) ((p.den : Int) * q.num)).den : Int)])) (id := i3) get_put_same
  have := g.nx
  unfold frL
  simp (disch := omega) only [f104_rs, Option.some.injEq, exists_eq_left', Nat.reduceEqDiff, ↓reduceIte, st, rd, bz]
  exact ⟨by rw [rat_div], (GC.trans (g.low (by omega))).trans (Grow.put (by omega) (by omega) _)⟩
theorem f105_ret (k100 : fs.get (.ofNat 100) = some f100) (k107 : fs.get (.ofNat 107) = some f107) (hb1 : (p.num * (q.den : Int) - q.num * (p.den : Int)).natAbs ≤ M63) (hb2 : ((p.den : Int) * (q.den : Int)).natAbs ≤ M63) (hb3 : (p.num * (q.den : Int)).natAbs ≤ M63) (hb4 : (q.num * (p.den : Int)).natAbs ≤ M63) : Ret fs f105 [.agg (frL p), .agg (frL q)] h fun r h' => r = .agg (frL (p - q)) ∧ Grow h.nx.nat h h' := by
  apply ret_of rfl
  show W fs none f105_c _ _ _
  unfold f105_c frL
  have gA := Grow.new (Nat.le_refl h.nx.nat) (.cells 2 [.i .i64 p.num, .i .i64 (p.den : Int)])
  have n1 := nx_new h (.cells 2 [.i .i64 p.num, .i .i64 (p.den : Int)])
  have b1 : (h.new (.cells 2 [.i .i64 p.num, .i .i64 (p.den : Int)])).get h.nx = .cells 2 [.i .i64 p.num, .i .i64 (p.den : Int)] := get_new_same
  have m3 : fw .i64 (p.num * (q.den : Int)) = p.num * (q.den : Int) := fw_63 hb3
  have m4 : fw .i64 (q.num * (p.den : Int)) = q.num * (p.den : Int) := fw_63 hb4
  have hw2 : (p.den : Int) * (q.den : Int) ≠ 0 := fun e => by rcases Int.mul_eq_zero.1 e with h | h; exact rat_den h; exact rat_den h
  have m1 : fw .i64 (p.num * (q.den : Int) - q.num * (p.den : Int)) = p.num * (q.den : Int) - q.num * (p.den : Int) := fw_63 hb1
  have m2 : fw .i64 ((p.den : Int) * (q.den : Int)) = (p.den : Int) * (q.den : Int) := fw_63 hb2
  simp (disch := omega) only [f105_r0, Nat.reduceEqDiff, ↓reduceIte, cells2, bz]
  generalize h.new (.cells 2 [.i .i64 p.num, .i .i64 (p.den : Int)]) = hA at *
  have gB := Grow.new (Nat.le_refl hA.nx.nat) (.cells 2 [.i .i64 q.num, .i .i64 (q.den : Int)])
  have n2 := nx_new hA (.cells 2 [.i .i64 q.num, .i .i64 (q.den : Int)])
  have c1 : (hA.new (.cells 2 [.i .i64 q.num, .i .i64 (q.den : Int)])).get h.nx = .cells 2 [.i .i64 p.num, .i .i64 (p.den : Int)] := (get_new_old (by omega)).trans b1
  have c2 : (hA.new (.cells 2 [.i .i64 q.num, .i .i64 (q.den : Int)])).get hA.nx = .cells 2 [.i .i64 q.num, .i .i64 (q.den : Int)] := get_new_same
  have hB2 : hA.nx.nat < (hA.new (.cells 2 [.i .i64 q.num, .i .i64 (q.den : Int)])).nx.nat := by omega
  have GB := gA.trans (gB.low gA.nx)
  generalize hA.nx = i2 at *
  generalize hA.new (.cells 2 [.i .i64 q.num, .i .i64 (q.den : Int)]) = hB at *
  have gC := Grow.new (Nat.le_refl hB.nx.nat) (.cells 2 [.i .i64 0, .i .i64 0])
  have n3 := nx_new hB (.cells 2 [.i .i64 0, .i .i64 0])
  have d1 : (hB.new (.cells 2 [.i .i64 0, .i .i64 0])).get h.nx = .cells 2 [.i .i64 p.num, .i .i64 (p.den : Int)] := (get_new_old (by omega)).trans c1
  have d2 : (hB.new (.cells 2 [.i .i64 0, .i .i64 0])).get i2 = .cells 2 [.i .i64 q.num, .i .i64 (q.den : Int)] := (get_new_old (by omega)).trans c2
  have d3 : (hB.new (.cells 2 [.i .i64 0, .i .i64 0])).get hB.nx = .cells 2 [.i .i64 0, .i .i64 0] := get_new_same
  have GC := GB.trans (gC.low GB.nx)
  generalize hB.nx = i3 at *
  generalize hB.new (.cells 2 [.i .i64 0, .i .i64 0]) = hC at *
  have l1 : loadV hC (.p h.nx 0) one? = .ok (.i .i64 p.num) hC := load_p d1 rfl
  have l2 : loadV hC (.p h.nx 1) one? = .ok (.i .i64 (p.den : Int)) hC := load_p d1 rfl
  have l3 : loadV hC (.p i2 0) one? = .ok (.i .i64 q.num) hC := load_p d2 rfl
  have l4 : loadV hC (.p i2 1) one? = .ok (.i .i64 (q.den : Int)) hC := load_p d2 rfl
  simp (disch := omega) only [f105_r1, x_fadr, Nat.reduceEqDiff, ↓reduceIte, l1, l2, l3, l4, m1, m2, m3, m4, bz]
  refine (callP_0 (ef := f100) k100 rfl (f100_ret k107 hb1 hb2 hw2)).mono ?_
  rintro r h' ⟨rfl, g⟩
  have st := store2 (h := h') (id := i3) (x := .i .i64 (Rat.divInt (p.num * (q.den : Int) - q.num * (p.den : Int)) ((p.den : Int) * (q.den : Int))).num) (y := .i .i64 ((Rat.divInt (p.num * (q.den : Int) - q.num * (p.den : Int)) ((p.den : Int) * (q.den : Int))).den : Int)) ((g.old _ (by omega)).trans d3)
  have rd := read2 (h := h'.put i3 (.cells 2 [.i .i64 (Rat.divInt (p.num * (q.den : Int) - q.num * (p.den : Int)) ((p.den : Int) * (q.den : Int))).num, .i .i64 ((Rat.divInt (p.num * (q.den : Int) - q.num * (p.den : Int)) ((p.den : Int) * (q.den : Int))).den : Int)])) (id := i3) get_put_same
  have := g.nx
  unfold frL
  simp (disch := omega) only [f105_rs, Option.some.injEq, exists_eq_left', Nat.reduceEqDiff, ↓reduceIte, st, rd, bz]
  exact ⟨by rw [rat_sub], (GC.trans (g.low (by omega))).trans (Grow.put (by omega) (by omega) _)⟩
theorem f52_ret (k83 : fs.get (.ofNat 83) = some f83) (ha : a.natAbs ≤ M63) (hb : b.natAbs ≤ M63) (h0 : 0 < b) : Ret fs f52 [.i .i64 a, .i .i64 b] h fun r h' => r = .agg (frL (Rat.divInt a b)) ∧ Grow h.nx.nat h h' := by
  apply ret_of rfl
  show W fs none f52_c _ _ _
  unfold f52_c
  have gA := Grow.new (Nat.le_refl h.nx.nat) (.cells 2 [.i .i64 0, .i .i64 0])
  have a1 : (h.new (.cells 2 [.i .i64 0, .i .i64 0])).get h.nx = .cells 2 [.i .i64 0, .i .i64 0] := get_new_same
  have n1 := nx_new h (.cells 2 [.i .i64 0, .i .i64 0])
  have e1 := fun h P => f83_eq (h := h) (P := P) k83 ha hb (.inr (by omega))
  have hg : Int.gcd a b ≠ 0 := fun e => by have := (Int.gcd_eq_zero_iff.1 e).2; omega
  have hr := fr_div (a := a) (b := b) (by omega)
  rw [if_neg (by omega)] at hr
  have hst := fun x y => store2 (x := x) (y := y) a1
  have d2 : decide ((Int.gcd a b : Int) = 0) = false := decide_eq_false (by omega)
  have q1 := tdiv63 (c := (Int.gcd a b : Int)) ha
  have q2 := tdiv63 (c := (Int.gcd a b : Int)) hb
  have rd := read2 (h := (h.new (.cells 2 [.i .i64 0, .i .i64 0])).put h.nx (.cells 2 [.i .i64 (a.tdiv (Int.gcd a b : Int)), .i .i64 (b.tdiv (Int.gcd a b : Int))])) (id := h.nx) get_put_same
  simp (disch := omega) only [f52_r0, f52_r1, f52_r2, f52_rs, xg_build, bin_quo, Option.some.injEq, exists_eq_left', Nat.reduceEqDiff, ↓reduceIte, e1, q1, q2, hst, rd, bz]
  exact ⟨by unfold frL; rw [hr.1, hr.2], gA.trans (Grow.put (Nat.le_refl _) (by omega) _)⟩
theorem gN {a b : Int} (h : b ≠ 0) : ((Int.gcd a b : Nat) : Int) ≠ 0 := fun e => h (Int.gcd_eq_zero_iff.1 (Int.natCast_eq_zero.1 e)).2
theorem den_pos {q : Rat} : (0 : Int) < (q.den : Int) := by have := q.den_nz; omega
end
end Go.Ev
namespace Go.Ev
open Go Go.RowKit
noncomputable def f62_r0 : List EOper := [oG 1 (.box 8 (tG 0)), oG 2 (.alloc 2 [(.i .i64 (.ofNat 0)), (.i .i64 (.ofNat 0))])]
noncomputable def f62_r1 : List EOper := [oG 3 (.iadr 4 2 (tG 1) (cG 0)), oG 4 (.ldn 2 (tG 3)), ⟨none, none, .st 2 (tG 2) (tG 4)⟩]
noncomputable def f62_c : EC := (.seq (.reg f62_r0) (.seq (.reg f62_r1) .ret))
noncomputable def f62 : EF := ⟨5, [.celln (.ofNat 2) 2], f62_c, none⟩
theorem f62_rs : f62.rs = [.celln (.ofNat 2) 2] := of_eq_true (eq_self _)
noncomputable def f93_r0 : List EOper := [oG 1 (.box 2 (tG 0)), oG 2 (.alloc 2 [(.i .i64 (.ofNat 0)), (.i .i64 (.ofNat 0))])]
noncomputable def f93_r1 : List EOper := [oG 3 (.fadr 0 (tG 1)), oG 4 (.ld (tG 3)), oG 5 (.fadr 1 (tG 1)), oG 6 (.ld (tG 5)), oG 7 (.build [(.i .i64 (.ofNat 0)), (.i .i64 (.ofNat 0))] [(0, 1, (tG 4)), (1, 1, (tG 6))]), ⟨none, none, .st 2 (tG 2) (tG 7)⟩]
noncomputable def f93_c : EC := (.seq (.reg f93_r0) (.seq (.reg f93_r1) .ret))
noncomputable def f93 : EF := ⟨8, [.celln (.ofNat 2) 2], f93_c, none⟩
theorem f93_rs : f93.rs = [.celln (.ofNat 2) 2] := of_eq_true (eq_self _)
noncomputable def f101_r0 : List EOper := [oG 2 (.alloc 8 [(.i .i64 (.ofNat 0)), (.i .i64 (.ofNat 0)), (.i .i64 (.ofNat 0)), (.i .i64 (.ofNat 0)), (.i .i64 (.ofNat 0)), (.i .i64 (.ofNat 0)), (.i .i64 (.ofNat 0)), (.i .i64 (.ofNat 0))])]
noncomputable def f101_r1 : List EOper := [oG 3 (.alloc 8 [(.i .i64 (.ofNat 0)), (.i .i64 (.ofNat 0)), (.i .i64 (.ofNat 0)), (.i .i64 (.ofNat 0)), (.i .i64 (.ofNat 0)), (.i .i64 (.ofNat 0)), (.i .i64 (.ofNat 0)), (.i .i64 (.ofNat 0))])]
noncomputable def f101_r2 : List EOper := [oG 5 (.mv (cG 0))]
noncomputable def f101_r3 : List EOper := [oG 6 (.bin .lss (tG 5) (cG 4))]
noncomputable def f101_r4 : List EOper := [oG 7 (.mv (tG 5)), oG 4 (.as (tG 7))]
noncomputable def f101_r5 : List EOper := [oG 8 (.mv (tG 4)), oG 9 (.mv (.c (.agg [(.i .i64 (.ofNat 0)), (.i .i64 (.ofNat 1))]))), oG 10 (.iadr 4 2 (tG 3) (tG 8)), ⟨none, none, .st 2 (tG 10) (tG 9)⟩]
noncomputable def f101_r6 : List EOper := [oG 11 (.bin .add (tG 5) (cG 1)), oG 5 (.mv (tG 11))]
noncomputable def f101_l0 : EC := (.seq (.reg f101_r3) (.seq (.cond (tG 6) .skip (.exit 0)) (.seq (.block 1 (.seq (.reg f101_r4) (.reg f101_r5))) (.reg f101_r6))))
noncomputable def f101_r7 : List EOper := [oG 12 (.slcA 4 2 (tG 3) none none), oG 13 (.mv (tG 0)), oG 14 (.cpy 2 (tG 12) (tG 13))]
noncomputable def f101_r8 : List EOper := [oG 15 (.ldn 8 (tG 3)), ⟨none, none, .st 8 (tG 2) (tG 15)⟩]
noncomputable def f101_c : EC := (.seq (.reg f101_r0) (.seq (.reg f101_r1) (.seq (.seq (.reg f101_r2) (.block 0 (.loop f101_l0))) (.seq (.reg f101_r7) (.seq (.reg f101_r8) .ret)))))
noncomputable def f101 : EF := ⟨16, [.celln (.ofNat 2) 8], f101_c, none⟩
theorem f101_rs : f101.rs = [.celln (.ofNat 2) 8] := of_eq_true (eq_self _)
noncomputable def f61_r0 : List EOper := [oG 4 (.as (cG 0))]
noncomputable def f61_r1 : List EOper := [oG 5 (.mv (tG 0)), oG 6 (.len (tG 5)), oG 7 (.bin .sub (tG 6) (cG 1)), oG 8 (.mv (tG 1)), oG 9 (.bin .sub (tG 7) (tG 8)), oG 10 (.bin .quo (tG 9) (cG 2)), oG 11 (.bin .add (tG 10) (cG 1)), oG 4 (.as (tG 11))]
noncomputable def f61_c : EC := (.seq (.reg f61_r0) (.seq (.reg f61_r1) .ret))
noncomputable def f61 : EF := ⟨12, [.tmp (.ofNat 4)], f61_c, none⟩
theorem f61_rs : f61.rs = [.tmp (.ofNat 4)] := of_eq_true (eq_self _)
section
variable {fs : T EF} {h : H} {v w u : V} {a b : Int} {p q : Rat} {R : Nat → Rat}
def rowE (R : Nat → Rat) : List V := [.i .i64 (R 0).num, .i .i64 ((R 0).den : Int), .i .i64 (R 1).num, .i .i64 ((R 1).den : Int), .i .i64 (R 2).num, .i .i64 ((R 2).den : Int), .i .i64 (R 3).num, .i .i64 ((R 3).den : Int)]
def frP (q : Rat) : Int × Int := (q.num, (q.den : Int))
theorem f93_ret : Ret fs f93 [.agg (frL q)] h fun r h' => r = .agg (frL q) ∧ Grow h.nx.nat h h' := by
  apply ret_of rfl
  show W fs none f93_c _ _ _
  unfold f93_c frL
  have gA := Grow.new (Nat.le_refl h.nx.nat) (.cells 2 [.i .i64 q.num, .i .i64 (q.den : Int)])
  have n1 := nx_new h (.cells 2 [.i .i64 q.num, .i .i64 (q.den : Int)])
  have b1 : (h.new (.cells 2 [.i .i64 q.num, .i .i64 (q.den : Int)])).get h.nx = .cells 2 [.i .i64 q.num, .i .i64 (q.den : Int)] := get_new_same
  simp (disch := omega) only [f93_r0, ↓reduceIte, cells2, bz]
  generalize h.new (.cells 2 [.i .i64 q.num, .i .i64 (q.den : Int)]) = hA at *
  have gC := Grow.new (Nat.le_refl hA.nx.nat) (.cells 2 [.i .i64 0, .i .i64 0])
  have n3 := nx_new hA (.cells 2 [.i .i64 0, .i .i64 0])
  have d1 : (hA.new (.cells 2 [.i .i64 0, .i .i64 0])).get h.nx = .cells 2 [.i .i64 q.num, .i .i64 (q.den : Int)] := (get_new_old (by omega)).trans b1
  have d3 : (hA.new (.cells 2 [.i .i64 0, .i .i64 0])).get hA.nx = .cells 2 [.i .i64 0, .i .i64 0] := get_new_same
  have GC := gA.trans (gC.low gA.nx)
  have l1 : loadV (hA.new (.cells 2 [.i .i64 0, .i .i64 0])) (.p h.nx 0) one? = .ok (.i .i64 q.num) _ := load_p d1 rfl
  have l2 : loadV (hA.new (.cells 2 [.i .i64 0, .i .i64 0])) (.p h.nx 1) one? = .ok (.i .i64 (q.den : Int)) _ := load_p d1 rfl
  have st := store2 (x := .i .i64 q.num) (y := .i .i64 (q.den : Int)) d3
  have rd := read2 (h := (hA.new (.cells 2 [.i .i64 0, .i .i64 0])).put hA.nx (.cells 2 [.i .i64 q.num, .i .i64 (q.den : Int)])) (id := hA.nx) get_put_same
  simp (disch := omega) only [f93_r1, f93_rs, x_build, x_fadr, Option.some.injEq, exists_eq_left', Nat.reduceEqDiff, ↓reduceIte, l1, l2, st, rd, bz]
  exact GC.trans (Grow.put (by omega) (by omega) _)
theorem cell8 {cs : List V} (hc : cs.length = 8) : cellsN 8 (.agg cs) = some cs := by
  show (bif Nat.beq (lenL cs) 8 then some cs else none) = _
  rw [lenL_eq, hc]; rfl
theorem f62_ret : Ret fs f62 [.agg (rowE R)] h fun r h' => r = .agg (frL (R 0)) ∧ Grow h.nx.nat h h' := by
  apply ret_of rfl
  show W fs none f62_c _ _ _
  unfold f62_c
  have hc8 : cellsN 8 (.agg (rowE R)) = some (rowE R) := cell8 rfl
  have gA := Grow.new (Nat.le_refl h.nx.nat) (.cells 8 (rowE R))
  have n1 := nx_new h (.cells 8 (rowE R))
  have b1 : (h.new (.cells 8 (rowE R))).get h.nx = .cells 8 (rowE R) := get_new_same
  simp (disch := omega) only [f62_r0, ↓reduceIte, hc8, bz]
  generalize h.new (.cells 8 (rowE R)) = hA at *
  have gC := Grow.new (Nat.le_refl hA.nx.nat) (.cells 2 [.i .i64 0, .i .i64 0])
  have n3 := nx_new hA (.cells 2 [.i .i64 0, .i .i64 0])
  have d1 : (hA.new (.cells 2 [.i .i64 0, .i .i64 0])).get h.nx = .cells 8 (rowE R) := (get_new_old (by omega)).trans b1
  have d3 : (hA.new (.cells 2 [.i .i64 0, .i .i64 0])).get hA.nx = .cells 2 [.i .i64 0, .i .i64 0] := get_new_same
  have GC := gA.trans (gC.low gA.nx)
  have l1 : loadV (hA.new (.cells 2 [.i .i64 0, .i .i64 0])) (.p h.nx 0) (many? 2) = .ok (.agg [.i .i64 (R 0).num, .i .i64 ((R 0).den : Int)]) _ := loadn_p d1 (by omega)
  have st := store2 (x := .i .i64 (R 0).num) (y := .i .i64 ((R 0).den : Int)) d3
  have rd := read2 (h := (hA.new (.cells 2 [.i .i64 0, .i .i64 0])).put hA.nx (.cells 2 [.i .i64 (R 0).num, .i .i64 ((R 0).den : Int)])) (id := hA.nx) get_put_same
  unfold frL
  have ix4_0 : ∀ {kk : IntKind} {f : Nat → RV}, idxV (.i kk 0) 4 f = f 0 := of_eq_true (eq_self _)
  simp (disch := omega) only [f62_r1, f62_rs, x_iadr, Option.some.injEq, exists_eq_left', Nat.reduceEqDiff, ↓reduceIte, ix4_0, l1, st, rd, bz]
  exact GC.trans (Grow.put (by omega) (by omega) _)
theorem f61_ret {L : List Int} {m : Nat} (hv : Sr iE h v L) (hm : m + 1 ≤ L.length) (hL : L.length ≤ 100) : Ret fs f61 [v, .i .i64 (m : Int)] h fun r h' => r = .i .i64 (((L.length - 1 - m) / 2 + 1 : Nat) : Int) ∧ h' = h := by
  apply ret_of rfl
  show W fs none f61_c _ _ _
  unfold f61_c
  have e1 := hv.len
  have e2 : fw .i64 ((L.length : Int) - 1) = ((L.length - 1 : Nat) : Int) := by rw [fw64 (by omega) (by omega)]; omega
  have e3 : fw .i64 (((L.length - 1 : Nat) : Int) - (m : Int)) = ((L.length - 1 - m : Nat) : Int) := by rw [fw64 (by omega) (by omega)]; omega
  have e4 : fw .i64 (((L.length - 1 - m : Nat) : Int).tdiv 2) = (((L.length - 1 - m) / 2 : Nat) : Int) := by
    rw [show ((L.length - 1 - m : Nat) : Int).tdiv 2 = (((L.length - 1 - m) / 2 : Nat) : Int) from rfl, fw64 (by omega) (by omega)]
  have e5 : fw .i64 ((((L.length - 1 - m) / 2 : Nat) : Int) + 1) = (((L.length - 1 - m) / 2 + 1 : Nat) : Int) := by rw [fw64 (by omega) (by omega)]; rfl
  simp (disch := omega) only [f61_r0, f61_r1, f61_rs, bin_quo, Option.some.injEq, exists_eq_left', Nat.reduceEqDiff, ↓reduceIte, e1, e2, e3, e4, e5, and_self, bz]
theorem Srk.addOf {n : Nat} {cs0 : List V} (hs : Srk 2 h v n cs0) : Go.Ev.addOf 2 h v = some (n, cs0) := by
  rcases hs with ⟨rfl, rfl, rfl⟩ | ⟨id, off, m, cs, rfl, hb, hl, hm, hx⟩
  · rfl
  · show (h.get id).onC none (fun len cs => bif Nat.beq 2 2 && Nat.ble (off + n * 2) len then some (n, takeN (n * 2) (dropN off cs)) else none) = _
    have e0 : (h.get id).onC none (fun len cs => bif Nat.beq 2 2 && Nat.ble (off + n * 2) len then some (n, takeN (n * 2) (dropN off cs)) else none) = (bif Nat.beq 2 2 && Nat.ble (off + n * 2) m then some (n, takeN (n * 2) (dropN off cs)) else none) := by
      rcases hb with hb | hb <;> rw [hb] <;> rfl
    rw [e0, show (Nat.beq 2 2 && Nat.ble (off + n * 2) m) = true by rw [Nat.beq_refl, Nat.ble_eq_true_of_le hm]; rfl, takeN_eq, dropN_eq, hx]
    rfl
def zr : Nat → List V
  | 0 => [.i .i64 0, .i .i64 0, .i .i64 0, .i .i64 0, .i .i64 0, .i .i64 0, .i .i64 0, .i .i64 0]
  | 1 => [.i .i64 0, .i .i64 1, .i .i64 0, .i .i64 0, .i .i64 0, .i .i64 0, .i .i64 0, .i .i64 0]
  | 2 => [.i .i64 0, .i .i64 1, .i .i64 0, .i .i64 1, .i .i64 0, .i .i64 0, .i .i64 0, .i .i64 0]
  | 3 => [.i .i64 0, .i .i64 1, .i .i64 0, .i .i64 1, .i .i64 0, .i .i64 1, .i .i64 0, .i .i64 0]
  | _ => [.i .i64 0, .i .i64 1, .i .i64 0, .i .i64 1, .i .i64 0, .i .i64 1, .i .i64 0, .i .i64 1]
theorem zr_st {i : Nat} {id : K} (hi : i < 4) (hb : h.get id = .cells 8 (zr i)) : storeV h 2 (.p id (0 + i * 2)) (.agg [.i .i64 0, .i .i64 1]) = .ok undefV (h.put id (.cells 8 (zr (i + 1)))) := by
  obtain rfl | rfl | rfl | rfl : i = 0 ∨ i = 1 ∨ i = 2 ∨ i = 3 := by omega
  all_goals
    rw [store_p hb (xs := [.i .i64 0, .i .i64 1]) rfl (by omega)]; rfl
theorem read8 {id : K} {us : List V} (hb : h.get id = .cells 8 us) (hu : us.length = 8) : readP h (.p id 0) (many? 8) = some (.agg us) := by
  show (h.get id).onC none (fun n cs => many? 8 cs n 0) = _
  rw [hb]
  show (bif Nat.ble (0 + 8) 8 then some (V.agg (takeN 8 (dropN 0 us))) else none) = _
  rw [takeN_eq, dropN_eq, List.drop_zero, List.take_of_length_le (by omega)]
  rfl
theorem load8 {id : K} {us : List V} (hb : h.get id = .cells 8 us) (hu : us.length = 8) : loadV h (.p id 0) (many? 8) = .ok (.agg us) h := by
  rw [loadn_p hb (by omega), takeN_eq, dropN_eq, List.drop_zero, List.take_of_length_le (by omega)]
theorem store8 {id : K} {cs us : List V} (hb : h.get id = .cells 8 cs) (hc : cs.length = 8) (hu : us.length = 8) : storeV h 8 (.p id 0) (.agg us) = .ok undefV (h.put id (.cells 8 us)) := by
  rw [store_p (m := 8) hb (cell8 hu) (by omega), setMany_eq _ _ _ (by omega), List.take_zero, hu, List.drop_eq_nil_of_le (by omega)]
  simp
theorem slcA4 {fr : Fr} {id : K} {cs : List V} (hb : h.get id = .cells 8 cs) : slcAV fr 4 2 (.p id 0) none none h = .ok (.sl id (0 + 0 * 2) (4 - 0) 2) h := by
  show (h.get id).onC .no (fun len _ => bif Nat.ble (0 + 4 * 2) len then (oGet (bound fr none 0) .no fun l => oGet (bound fr none 4) .no fun u => bif Nat.ble l u && Nat.ble u 4 then RV.ok (.sl id (0 + l * 2) (u - l) 2) h else .no) else .no) = _
  rw [hb]; rfl
theorem cpy_row {Q : List Rat} {id : K} (hQ : Q.length ≤ 4) (hb : h.get id = .cells 8 (zr 4)) (ha : addOf 2 h v = some ((Q.map frP).length, (Q.map frP).flatMap qE)) : ∃ n h', cpyV 2 h (.sl id (0 + 0 * 2) (4 - 0) 2) v = .ok (.i .i64 n) h' ∧ (h' = h ∨ ∃ x, h' = h.put id x) ∧ h'.get id = .cells 8 (rowE fun j => Q.getD j 0) := by
  have e0 : cpyV 2 h (.sl id (0 + 0 * 2) (4 - 0) 2) v = (bif Nat.beq (Nat.min (Q.map frP).length 4) 0 then RV.ok (.i .i64 (.ofNat 0)) h else RV.ok (.i .i64 (.ofNat (Nat.min (Q.map frP).length 4))) (h.put id (.cells 8 (setMany (zr 4) 0 (takeN (Nat.min (Q.map frP).length 4 * 2) ((Q.map frP).flatMap qE)))))) := by
    show oGet (addOf 2 h v) RV.no (fun p => bif Nat.beq (Nat.min p.1 4) 0 then RV.ok (.i .i64 (.ofNat 0)) h else (h.get id).onW .no fun len cs => bif Nat.beq 2 2 && Nat.ble (0 + 4 * 2) len then RV.ok (.i .i64 (.ofNat (Nat.min p.1 4))) (h.put id (.cells len (setMany cs 0 (takeN (Nat.min p.1 4 * 2) p.2)))) else .no) = _
    rw [ha, hb]; rfl
  rw [e0]
  match Q, hQ with
  | [], _ => exact ⟨_, h, rfl, .inl rfl, by rw [hb]; rfl⟩
  | [a], _ => exact ⟨_, _, rfl, .inr ⟨_, rfl⟩, by rw [get_put_same]; rfl⟩
  | [a, b], _ => exact ⟨_, _, rfl, .inr ⟨_, rfl⟩, by rw [get_put_same]; rfl⟩
  | [a, b, c], _ => exact ⟨_, _, rfl, .inr ⟨_, rfl⟩, by rw [get_put_same]; rfl⟩
  | [a, b, c, d], _ => exact ⟨_, _, rfl, .inr ⟨_, rfl⟩, by rw [get_put_same]; rfl⟩
def f101_I (h0 : H) (v : V) (b2 b3 : K) (i : Nat) (fr : Fr) (h1 : H) : Prop := i ≤ 4 ∧ Grow h0.nx.nat h0 h1 ∧ h1.get b2 = .cells 8 (zr 0) ∧ h1.get b3 = .cells 8 (zr i) ∧ b3.nat < h1.nx.nat ∧ fr.get (K.ofNat 0) = some (v) ∧ fr.get (K.ofNat 2) = some (.p b2 0) ∧ fr.get (K.ofNat 3) = some (.p b3 0) ∧ fr.get (K.ofNat 5) = some (.i .i64 (i : Int))
theorem f101_ret {Q : List Rat} (hQ : Q.length ≤ 4) (hv : Srp h v (Q.map frP)) (hc : HC h) : Ret fs f101 [v] h fun r h' => r = .agg (rowE fun j => Q.getD j 0) ∧ Grow h.nx.nat h h' := by
  apply ret_of rfl
  show W fs none f101_c _ _ _
  unfold f101_c
  have gA := Grow.new (Nat.le_refl h.nx.nat) (.cells 8 (zr 0))
  have n1 := nx_new h (.cells 8 (zr 0))
  have b1 : (h.new (.cells 8 (zr 0))).get h.nx = .cells 8 (zr 0) := get_new_same
  have hz : [V.i IntKind.i64 0, .i .i64 0, .i .i64 0, .i .i64 0, .i .i64 0, .i .i64 0, .i .i64 0, .i .i64 0] = zr 0 := rfl
  simp (disch := omega) only [f101_r0, f101_r1, f101_r2, hz, bz]
  generalize h.new (.cells 8 (zr 0)) = hA at *
  have gC := Grow.new (Nat.le_refl hA.nx.nat) (.cells 8 (zr 0))
  have n3 := nx_new hA (.cells 8 (zr 0))
  have d1 : (hA.new (.cells 8 (zr 0))).get h.nx = .cells 8 (zr 0) := (get_new_old (by omega)).trans b1
  have d3 : (hA.new (.cells 8 (zr 0))).get hA.nx = .cells 8 (zr 0) := get_new_same
  have GC := gA.trans (gC.low gA.nx)
  have l23 : h.nx.nat < hA.nx.nat := by omega
  generalize hA.nx = b3 at *
  generalize hA.new (.cells 8 (zr 0)) = hB at *
  refine W_loop (f101_I h v h.nx b3) (fun i => 4 - i) ?_ 0 ⟨by omega, GC, d1, d3, by omega, by simp (disch := omega) only [getK_set, Nat.reduceEqDiff, ↓reduceIte, and_self, Int.natCast_zero]⟩
  clear d1 d3 GC gC gA n1 n3 b1 hz hA hB
  rintro i fr h1 ⟨hi, hG, q2, q3, hn3, g0, g2, g3, g5⟩
  unfold f101_l0
  by_cases hlt : i < 4
  · have d1 : decide ((i : Int) < 4) = true := decide_eq_true (by omega)
    have e4 : fw .i64 ((i : Int) + 1) = ((i + 1 : Nat) : Int) := by rw [fw64 (by omega) (by omega)]; rfl
    have st := zr_st hlt q3
    simp (disch := omega) only [f101_r3, f101_r4, f101_r5, f101_r6, x_iadr, idx_n, of4, Nat.reduceEqDiff, ↓reduceIte, g3, g5, d1, st, e4, bz]
    exact ⟨i + 1, by omega, by omega, hG.trans (Grow.put (by omega) hn3 _), (get_put_other (fun e => by rw [e] at l23; omega)).trans q2, get_put_same, hn3, by simp (disch := omega) only [getK_set, Nat.reduceEqDiff, ↓reduceIte, g0, g2, g3, and_self]⟩
  · have d1 : decide ((i : Int) < 4) = false := decide_eq_false (by omega)
    obtain rfl : i = 4 := by omega
    have sl := fun fr => slcA4 (fr := fr) q3
    have hv1 : Srp h1 v (Q.map frP) := hv.grow hc hG
    have ha := Srk.addOf hv1
    obtain ⟨n, h2, c1, c2, c3⟩ := cpy_row hQ q3 ha
    have c4 : h2.get h.nx = .cells 8 (zr 0) ∧ Grow h.nx.nat h1 h2 := by
      rcases c2 with rfl | ⟨x, rfl⟩
      · exact ⟨q2, Grow.refl _ _⟩
      · exact ⟨(get_put_other (fun e => by rw [e] at l23; omega)).trans q2, Grow.put (by omega) hn3 _⟩
    have l8 := load8 c3 rfl
    have st := store8 (us := rowE fun j => Q.getD j 0) c4.1 rfl rfl
    have rd := read8 (h := h2.put h.nx (.cells 8 (rowE fun j => Q.getD j 0))) (id := h.nx) get_put_same rfl
    have := c4.2.nx
    simp (disch := omega) only [f101_r3, f101_r7, f101_r8, f101_rs, x_slcA, of4, Option.some.injEq, exists_eq_left', Nat.reduceEqDiff, ↓reduceIte, Bool.false_eq_true, x_cpy, g0, g2, g3, g5, d1, sl, c1, l8, st, rd, bz]
    exact (hG.trans c4.2).trans (Grow.put (Nat.le_refl _) (by omega) _)
end
end Go.Ev
namespace Go.Ev
open Go Go.RowKit
noncomputable def f90_r0 : List EOper := [oG 2 (.alloc 16 (List.replicate 16 (.i .i64 (.ofNat 0))))]
noncomputable def f90_r1 : List EOper := [oG 3 (.as (.c .sn))]
noncomputable def f90_r2 : List EOper := [oG 7 (.mv (.c (.agg [(.i .i64 (.ofNat 0)), (.i .i64 (.ofNat 1))]))), oG 8 (.bslice 1 2 [(.i .i64 (.ofNat 0)), (.i .i64 (.ofNat 0))] [(0, 2, (tG 7))]), oG 4 (.as (tG 8))]
noncomputable def f90_r3 : List EOper := [oG 9 (.mv (tG 0)), oG 10 (.len (tG 9)), oG 11 (.bin .sub (tG 10) (cG 1)), oG 5 (.as (tG 11))]
noncomputable def f90_r4 : List EOper := [oG 12 (.mv (tG 5)), oG 13 (.bin .geq (tG 12) (cG 0))]
noncomputable def f90_r5 : List EOper := [oG 16 (.mv (tG 3)), oG 17 (.mv (tG 0)), oG 18 (.mv (tG 5)), oG 19 (.iads 1 (tG 17) (tG 18)), oG 20 (.ld (tG 19)), oG 21 (.call (fG 100) [(tG 20), (cG 1)]), oG 22 (.bslice 1 2 [(.i .i64 (.ofNat 0)), (.i .i64 (.ofNat 0))] [(0, 2, (tG 21))]), oG 23 (.app 2 (tG 16) (tG 22)), oG 3 (.as (tG 23))]
noncomputable def f90_r6 : List EOper := [oG 14 (.mv (tG 5)), oG 15 (.bin .sub (tG 14) (cG 2)), oG 5 (.as (tG 15))]
noncomputable def f90_l0 : EC := (.seq (.seq (.reg f90_r4) (.cond (tG 13) .skip (.exit 0))) (.seq (.block 1 (.reg f90_r5)) (.reg f90_r6)))
noncomputable def f90_r7 : List EOper := [oG 24 (.mv (tG 0)), oG 25 (.len (tG 24)), oG 26 (.bin .sub (tG 25) (cG 2)), oG 6 (.as (tG 26))]
noncomputable def f90_r8 : List EOper := [oG 27 (.mv (tG 6)), oG 28 (.bin .geq (tG 27) (cG 0))]
noncomputable def f90_r9 : List EOper := [oG 31 (.mv (tG 4)), oG 32 (.mv (tG 0)), oG 33 (.mv (tG 6)), oG 34 (.iads 1 (tG 32) (tG 33)), oG 35 (.ld (tG 34)), oG 36 (.call (fG 100) [(tG 35), (cG 1)]), oG 37 (.bslice 1 2 [(.i .i64 (.ofNat 0)), (.i .i64 (.ofNat 0))] [(0, 2, (tG 36))]), oG 38 (.app 2 (tG 31) (tG 37)), oG 4 (.as (tG 38))]
noncomputable def f90_r10 : List EOper := [oG 29 (.mv (tG 6)), oG 30 (.bin .sub (tG 29) (cG 2)), oG 6 (.as (tG 30))]
noncomputable def f90_l1 : EC := (.seq (.seq (.reg f90_r8) (.cond (tG 28) .skip (.exit 2))) (.seq (.block 3 (.reg f90_r9)) (.reg f90_r10)))
noncomputable def f90_r11 : List EOper := [oG 39 (.mv (tG 4)), oG 40 (.call (fG 101) [(tG 39)]), oG 41 (.mv (tG 3)), oG 42 (.call (fG 101) [(tG 41)]), oG 43 (.build (List.replicate 16 (.i .i64 (.ofNat 0))) [(0, 8, (tG 40)), (8, 8, (tG 42))]), ⟨none, none, .st 16 (tG 2) (tG 43)⟩]
noncomputable def f90_c : EC := (.seq (.reg f90_r0) (.seq (.reg f90_r1) (.seq (.reg f90_r2) (.seq (.seq (.reg f90_r3) (.block 0 (.loop f90_l0))) (.seq (.seq (.reg f90_r7) (.block 2 (.loop f90_l1))) (.seq (.reg f90_r11) .ret))))))
noncomputable def f90 : EF := ⟨44, [.celln (.ofNat 2) 16], f90_c, none⟩
theorem f90_rs : f90.rs = [.celln (.ofNat 2) 16] := of_eq_true (eq_self _)
section
variable {fs : T EF} {h : H} {v w u : V} {a b : Int} {p q : Rat} {R : Nat → Rat} {A : List Int}
theorem Sk.srp {L : List (Int × Int)} (hs : Sk 2 qE h v L) : Srp h v L := by
  rcases hs with ⟨rfl, rfl⟩ | ⟨id, off, m, cs, rfl, hb, hl, hm, hx⟩
  · exact .inl ⟨rfl, rfl, rfl⟩
  · exact .inr ⟨id, off, m, cs, rfl, .inl hb, hl, hm, hx⟩
def dnL (A : List Int) (k t : Nat) : List Rat := (List.range t).map fun j => ((A.getD (k - 2 * j) 0 : Int) : Rat)
theorem dnL_len {k t : Nat} : (dnL A k t).length = t := by simp [dnL]
theorem dnL_succ {k t : Nat} : dnL A k (t + 1) = dnL A k t ++ [((A.getD (k - 2 * t) 0 : Int) : Rat)] := by simp [dnL, List.range_succ]
theorem one_div {x : Int} : Rat.divInt x 1 = (x : Rat) := by
  apply Rat.ext
  · rw [Rat.num_divInt]; simp
  · rw [Rat.den_divInt]; simp
theorem fill_q {fr : Fr} {x : EO} {z1 z2 : V} : fillE fr [z1, z2] [(0, 2, x)] = oGet (cellsN 2 (ev fr x)) none fun cs => some (setMany [z1, z2] 0 cs) := of_eq_true (eq_self _)
theorem set_q {z1 z2 a b : V} : setMany [z1, z2] 0 [a, b] = [a, b] := of_eq_true (eq_self _)
structure TwoS (h0 h1 : H) (b2 : K) (X : Blk) (u w : V) (LU LW : List (Int × Int)) : Prop where
  gr : Grow h0.nx.nat h0 h1
  bk : h1.get b2 = X
  bn : b2.nat < h1.nx.nat
  su : Sk 2 qE h1 u LU
  sw : Sk 2 qE h1 w LW
  ou : Own h0.nx.nat u
  ow : Own h0.nx.nat w
  bu : NotIn b2 u
  bw : NotIn b2 w
  uw : ∀ id off n sz, u = .sl id off n sz → NotIn id w
theorem TwoS.wu {h0 h1 : H} {b2 : K} {X : Blk} {LU LW : List (Int × Int)} (t : TwoS h0 h1 b2 X u w LU LW) : ∀ id off n sz, w = .sl id off n sz → NotIn id u := fun id off n sz e off' n' sz' e' => t.uw id off' n' sz' e' off n sz e
theorem TwoS.swap {h0 h1 : H} {b2 : K} {X : Blk} {LU LW : List (Int × Int)} (t : TwoS h0 h1 b2 X u w LU LW) : TwoS h0 h1 b2 X w u LW LU := ⟨t.gr, t.bk, t.bn, t.sw, t.su, t.ow, t.ou, t.bw, t.bu, t.wu⟩
theorem TwoS.grow {h0 h1 h2 : H} {b2 : K} {X : Blk} {LU LW : List (Int × Int)} (t : TwoS h0 h1 b2 X u w LU LW) (hc : HC h1) (g : Grow h1.nx.nat h1 h2) : TwoS h0 h2 b2 X u w LU LW := ⟨t.gr.trans (g.low t.gr.nx), (g.old _ t.bn).trans t.bk, Nat.lt_of_lt_of_le t.bn g.nx, t.su.grow hc g, t.sw.grow hc g, t.ou, t.ow, t.bu, t.bw, t.uw⟩
theorem TwoS.push {h0 h1 : H} {b2 : K} {X : Blk} {LU LW : List (Int × Int)} (t : TwoS h0 h1 b2 X u w LU LW) (hc : HC h1) (hn : LU.length < 16777216) (x : Int × Int) : ∃ u' h', appV 2 (h1.new (.cells (1 * 2) (qE x))) u (.sl h1.nx 0 1 2) = .ok u' h' ∧ TwoS h0 h' b2 X u' w (LU ++ [x]) LW := by
  obtain ⟨u', h', a1, a2, a3, a4, a5⟩ := Sk.push qE_len (by omega) (x := x) t.su t.ou t.gr.nx hc hn
  refine ⟨u', h', a1, t.gr.trans a4, (a5 _ t.bn t.bu).1.trans t.bk, Nat.lt_of_lt_of_le t.bn a4.nx, a2, t.sw.same fun id off n sz e => (a5 id (t.sw.lt hc _ _ _ _ e) (t.wu _ _ _ _ e)).1, a3, t.ow, (a5 _ t.bn t.bu).2, t.bw, fun id off n sz e off' n' sz' e' => (a5 id (t.sw.lt hc _ _ _ _ e') (t.wu _ _ _ _ e')).2 off n sz e⟩
theorem sm_nat {x : Int} (h : bigB x = false) : x.natAbs ≤ 30 := by
  unfold bigB at h
  rw [Bool.or_eq_false_iff, decide_eq_false_iff_not, decide_eq_false_iff_not] at h
  omega
theorem fill_16 {fr : Fr} {x y : EO} : fillE fr (List.replicate 16 (.i .i64 0)) [(0, 8, x), (8, 8, y)] = oGet (cellsN 8 (ev fr x)) none fun cs => oGet (cellsN 8 (ev fr y)) none fun ds => some (setMany (setMany (List.replicate 16 (.i .i64 0)) 0 cs) 8 ds) := of_eq_true (eq_self _)
theorem set_16 {R S : Nat → Rat} : setMany (setMany (List.replicate 16 (.i .i64 0)) 0 (rowE R)) 8 (rowE S) = rowE R ++ rowE S := rfl
theorem cell16 {cs : List V} (hc : cs.length = 16) : cellsN 16 (.agg cs) = some cs := by
  show (bif Nat.beq (lenL cs) 16 then some cs else none) = _
  rw [lenL_eq, hc]; rfl
theorem store16 {id : K} {cs us : List V} (hb : h.get id = .cells 16 cs) (hc : cs.length = 16) (hu : us.length = 16) : storeV h 16 (.p id 0) (.agg us) = .ok undefV (h.put id (.cells 16 us)) := by
  rw [store_p (m := 16) hb (cell16 hu) (by omega), setMany_eq _ _ _ (by omega), List.take_zero, hu, List.drop_eq_nil_of_le (by omega)]
  simp
theorem read16 {id : K} {us : List V} (hb : h.get id = .cells 16 us) (hu : us.length = 16) : readP h (.p id 0) (many? 16) = some (.agg us) := by
  show (h.get id).onC none (fun n cs => many? 16 cs n 0) = _
  rw [hb]
  show (bif Nat.ble (0 + 16) 16 then some (V.agg (takeN 16 (dropN 0 us))) else none) = _
  rw [takeN_eq, dropN_eq, List.drop_zero, List.take_of_length_le (by omega)]
  rfl
def f90_I (h0 : H) (v : V) (A : List Int) (b2 : K) (w : V) (t : Nat) (fr : Fr) (h1 : H) : Prop := t ≤ (A.length + 1) / 2 ∧ ∃ u, TwoS h0 h1 b2 (.cells 16 (List.replicate 16 (.i .i64 0))) u w ((dnL A (A.length - 1) t).map frP) [(0, 1)] ∧ fr.get (K.ofNat 0) = some (v) ∧ fr.get (K.ofNat 2) = some (.p b2 0) ∧ fr.get (K.ofNat 3) = some (u) ∧ fr.get (K.ofNat 4) = some (w) ∧ fr.get (K.ofNat 5) = some (.i .i64 ((A.length : Int) - 1 - 2 * (t : Int)))
def f90_J (h0 : H) (v : V) (A : List Int) (b2 : K) (u : V) (t : Nat) (fr : Fr) (h1 : H) : Prop := t ≤ A.length / 2 ∧ ∃ w, TwoS h0 h1 b2 (.cells 16 (List.replicate 16 (.i .i64 0))) u w ((dnL A (A.length - 1) ((A.length + 1) / 2)).map frP) (((0 : Rat) :: dnL A (A.length - 2) t).map frP) ∧ fr.get (K.ofNat 0) = some (v) ∧ fr.get (K.ofNat 2) = some (.p b2 0) ∧ fr.get (K.ofNat 3) = some (u) ∧ fr.get (K.ofNat 4) = some (w) ∧ fr.get (K.ofNat 6) = some (.i .i64 ((A.length : Int) - 2 - 2 * (t : Int)))
theorem sm_at {L : List Int} (h : smB L = true) (i : Nat) : bigB (L.getD i 0) = false := by
  unfold smB at h
  rw [Bool.not_eq_true', List.any_eq_false] at h
  by_cases hi : i < L.length
  · have := h _ (List.getElem_mem hi)
    rw [getD_lt hi]
    simpa using this
  · rw [List.getD_eq_getElem?_getD, List.getElem?_eq_none (by omega)]; rfl
theorem f90_ret (k100 : fs.get (.ofNat 100) = some f100) (k101 : fs.get (.ofNat 101) = some f101) (k107 : fs.get (.ofNat 107) = some f107) (hA1 : 1 ≤ A.length) (hA : A.length ≤ 6) (hs : smB A = true) (hv : Sr iE h v A) (hc : HC h) : Ret fs f90 [v] h fun r h' => r = .agg (rowE (fun j => ((0 : Rat) :: dnL A (A.length - 2) (A.length / 2)).getD j 0) ++ rowE (fun j => (dnL A (A.length - 1) ((A.length + 1) / 2)).getD j 0)) ∧ Grow h.nx.nat h h' := by
  apply ret_of rfl
  show W fs none f90_c _ _ _
  unfold f90_c
  have gA := Grow.new (Nat.le_refl h.nx.nat) (.cells 16 (List.replicate 16 (.i .i64 0)))
  have n1 := nx_new h (.cells 16 (List.replicate 16 (.i .i64 0)))
  have b1 : (h.new (.cells 16 (List.replicate 16 (.i .i64 0)))).get h.nx = .cells 16 (List.replicate 16 (.i .i64 0)) := get_new_same
  have el := hv.len
  have ei : fw .i64 ((A.length : Int) - 1) = (A.length : Int) - 1 := fw64 (by omega) (by omega)
  have ei2 : fw .i64 ((A.length : Int) - 2) = (A.length : Int) - 2 := fw64 (by omega) (by omega)
  simp (disch := omega) only [f90_r0, f90_r1, f90_r2, f90_r3, Nat.reduceEqDiff, ↓reduceIte, cells2, fill_q, set_q, el, ei, bz]
  generalize h.new (.cells 16 (List.replicate 16 (.i .i64 0))) = hA' at *
  have gB := Grow.new (Nat.le_refl hA'.nx.nat) (.cells (1 * 2) [.i .i64 0, .i .i64 1])
  have n2 := nx_new hA' (.cells (1 * 2) [.i .i64 0, .i .i64 1])
  have t0 : TwoS h (hA'.new (.cells (1 * 2) [.i .i64 0, .i .i64 1])) h.nx (.cells 16 (List.replicate 16 (.i .i64 0))) .sn (.sl hA'.nx 0 1 2) ((dnL A (A.length - 1) 0).map frP) [(0, 1)] := by
    refine ⟨gA.trans (gB.low gA.nx), (get_new_old (by omega)).trans b1, by omega, Sk.nil, .inr ⟨hA'.nx, 0, 2, _, rfl, get_new_same, rfl, by simp, rfl⟩, Own.sn, fun id off n sz e => by cases e; exact gA.nx, NotIn.sn, fun off n sz e => by have := congrArg K.nat (V.sl.inj e).1; omega, fun id off n sz e => by cases e⟩
  generalize V.sl hA'.nx 0 1 2 = w at *
  generalize hA'.new (.cells (1 * 2) [.i .i64 0, .i .i64 1]) = hB at *
  refine W_loop (f90_I h v A h.nx w) (fun t => (A.length + 1) / 2 - t) ?_ 0 ⟨by omega, .sn, t0, by simp (disch := omega) only [getK_set, Nat.reduceEqDiff, ↓reduceIte, and_self, Int.natCast_zero, Int.mul_zero, Int.sub_zero]⟩
  clear t0 gA gB n1 n2 b1 hB hA'
  rintro t fr h1 ⟨ht, u, T, g0, g2, g3, g4, g5⟩
  have hc1 := T.gr.hc hc
  have hv1 := hv.grow hc T.gr
  unfold f90_l0
  by_cases hlt : t < (A.length + 1) / 2
  · have d1 : decide ((A.length : Int) - 1 - 2 * (t : Int) ≥ 0) = true := decide_eq_true (by omega)
    have e0 : (A.length : Int) - 1 - 2 * (t : Int) = ((A.length - 1 - 2 * t : Nat) : Int) := by omega
    have e4 : fw .i64 ((A.length : Int) - 1 - 2 * (t : Int) - 2) = (A.length : Int) - 1 - 2 * ((t + 1 : Nat) : Int) := by rw [fw64 (by omega) (by omega)]; omega
    obtain ⟨p, p1, p2⟩ := hv1.at (A.length - 1 - 2 * t) (by omega)
    rw [← e0] at p1
    have p2 : loadV h1 p one? = .ok (.i .i64 (A.getD (A.length - 1 - 2 * t) 0)) h1 := by rw [getD_lt (by omega)]; exact p2
    have hb := sm_nat (sm_at hs (A.length - 1 - 2 * t))
    simp (disch := omega) only [f90_r4, f90_r5, Nat.reduceEqDiff, ↓reduceIte, g0, g3, g5, d1, p1, p2, bz]
    refine (callP_0 (ef := f100) k100 rfl (f100_ret k107 (by unfold M63; omega) (by unfold M63; decide) (by omega))).mono ?_
    rintro r h2 ⟨rfl, g⟩
    have T2 := T.grow hc1 g
    obtain ⟨u', h3, a1, T3⟩ := T2.push (g.hc hc1) (by simp [dnL]; omega) (frP (Rat.divInt (A.getD (A.length - 1 - 2 * t) 0) 1))
    rw [one_div] at a1 T3
    have hx : (dnL A (A.length - 1) t).map frP ++ [frP ((A.getD (A.length - 1 - 2 * t) 0 : Int) : Rat)] = (dnL A (A.length - 1) (t + 1)).map frP := by rw [dnL_succ, List.map_append]; rfl
    rw [hx] at T3
    rw [one_div]
    have hcell : cellsN 2 (.agg (frL ((A.getD (A.length - 1 - 2 * t) 0 : Int) : Rat))) = some (frL ((A.getD (A.length - 1 - 2 * t) 0 : Int) : Rat)) := rfl
    have hset : ∀ z1 z2, setMany [z1, z2] 0 (frL ((A.getD (A.length - 1 - 2 * t) 0 : Int) : Rat)) = frL ((A.getD (A.length - 1 - 2 * t) 0 : Int) : Rat) := fun _ _ => rfl
    have a1 : appV 2 (h2.new (.cells (1 * 2) (frL ((A.getD (A.length - 1 - 2 * t) 0 : Int) : Rat)))) u (.sl h2.nx 0 1 2) = .ok u' h3 := a1
    simp (disch := omega) only [f90_r6, Nat.reduceEqDiff, ↓reduceIte, g5, hcell, fill_q, hset, a1, e4, bz]
    exact ⟨t + 1, by omega, by omega, u', T3, by simp (disch := omega) only [getK_set, Nat.reduceEqDiff, ↓reduceIte, g0, g2, g4, and_self]⟩
  · have d1 : decide ((A.length : Int) - 1 - 2 * (t : Int) ≥ 0) = false := decide_eq_false (by omega)
    obtain rfl : t = (A.length + 1) / 2 := by omega
    have el1 := hv1.len
    simp (disch := omega) only [f90_r4, f90_r7, Nat.reduceEqDiff, ↓reduceIte, Bool.false_eq_true, g0, g5, d1, el1, ei2, bz]
    have T : TwoS h h1 h.nx (.cells 16 (List.replicate 16 (.i .i64 0))) u w ((dnL A (A.length - 1) ((A.length + 1) / 2)).map frP) (((0 : Rat) :: dnL A (A.length - 2) 0).map frP) := T
    refine W_loop (f90_J h v A h.nx u) (fun t => A.length / 2 - t) ?_ 0 ⟨by omega, w, T, by simp (disch := omega) only [getK_set, Nat.reduceEqDiff, ↓reduceIte, g0, g2, g3, g4, and_self, Int.natCast_zero, Int.mul_zero, Int.sub_zero]⟩
    clear T hv1 el1 hc1 d1 ht hlt g0 g2 g3 g4 g5
    rintro t fr h1 ⟨ht, w, T, g0, g2, g3, g4, g6⟩
    have hc1 := T.gr.hc hc
    have hv1 := hv.grow hc T.gr
    unfold f90_l1
    by_cases hlt : t < A.length / 2
    · have d1 : decide ((A.length : Int) - 2 - 2 * (t : Int) ≥ 0) = true := decide_eq_true (by omega)
      have e0 : (A.length : Int) - 2 - 2 * (t : Int) = ((A.length - 2 - 2 * t : Nat) : Int) := by omega
      have e4 : fw .i64 ((A.length : Int) - 2 - 2 * (t : Int) - 2) = (A.length : Int) - 2 - 2 * ((t + 1 : Nat) : Int) := by rw [fw64 (by omega) (by omega)]; omega
      obtain ⟨p, p1, p2⟩ := hv1.at (A.length - 2 - 2 * t) (by omega)
      rw [← e0] at p1
      have p2 : loadV h1 p one? = .ok (.i .i64 (A.getD (A.length - 2 - 2 * t) 0)) h1 := by rw [getD_lt (by omega)]; exact p2
      have hb := sm_nat (sm_at hs (A.length - 2 - 2 * t))
      simp (disch := omega) only [f90_r8, f90_r9, Nat.reduceEqDiff, ↓reduceIte, g0, g4, g6, d1, p1, p2, bz]
      refine (callP_0 (ef := f100) k100 rfl (f100_ret k107 (by unfold M63; omega) (by unfold M63; decide) (by omega))).mono ?_
      rintro r h2 ⟨rfl, g⟩
      have T2 := (T.grow hc1 g).swap
      obtain ⟨w', h3, a1, T3⟩ := T2.push (g.hc hc1) (by simp [dnL]; omega) (frP (Rat.divInt (A.getD (A.length - 2 - 2 * t) 0) 1))
      rw [one_div] at a1 T3
      have hx : ((0 : Rat) :: dnL A (A.length - 2) t).map frP ++ [frP ((A.getD (A.length - 2 - 2 * t) 0 : Int) : Rat)] = ((0 : Rat) :: dnL A (A.length - 2) (t + 1)).map frP := by rw [dnL_succ, List.map_cons, List.map_cons, List.map_append]; rfl
      rw [hx] at T3
      rw [one_div]
      have hcell : cellsN 2 (.agg (frL ((A.getD (A.length - 2 - 2 * t) 0 : Int) : Rat))) = some (frL ((A.getD (A.length - 2 - 2 * t) 0 : Int) : Rat)) := rfl
      have hset : ∀ z1 z2, setMany [z1, z2] 0 (frL ((A.getD (A.length - 2 - 2 * t) 0 : Int) : Rat)) = frL ((A.getD (A.length - 2 - 2 * t) 0 : Int) : Rat) := fun _ _ => rfl
      have a1 : appV 2 (h2.new (.cells (1 * 2) (frL ((A.getD (A.length - 2 - 2 * t) 0 : Int) : Rat)))) w (.sl h2.nx 0 1 2) = .ok w' h3 := a1
      simp (disch := omega) only [f90_r10, Nat.reduceEqDiff, ↓reduceIte, g6, hcell, fill_q, hset, a1, e4, bz]
      exact ⟨t + 1, by omega, by omega, w', T3.swap, by simp (disch := omega) only [getK_set, Nat.reduceEqDiff, ↓reduceIte, g0, g2, g3, and_self]⟩
    · have d1 : decide ((A.length : Int) - 2 - 2 * (t : Int) ≥ 0) = false := decide_eq_false (by omega)
      obtain rfl : t = A.length / 2 := by omega
      simp (disch := omega) only [f90_r8, f90_r11, Nat.reduceEqDiff, ↓reduceIte, Bool.false_eq_true, g4, g6, d1, bz]
      refine (callP_0 (ef := f101) k101 rfl (f101_ret (by simp [dnL]; omega) T.sw.srp hc1)).mono ?_
      rintro r h2 ⟨rfl, g⟩
      have T2 := T.grow hc1 g
      have hc2 := g.hc hc1
      simp (disch := omega) only [Nat.reduceEqDiff, ↓reduceIte, g3, bz]
      refine (callP_0 (ef := f101) k101 rfl (f101_ret (by simp [dnL]; omega) T2.su.srp hc2)).mono ?_
      rintro r h3 ⟨rfl, g'⟩
      have T3 := T2.grow hc2 g'
      have st := store16 (us := rowE (fun j => ((0 : Rat) :: dnL A (A.length - 2) (A.length / 2)).getD j 0) ++ rowE (fun j => (dnL A (A.length - 1) ((A.length + 1) / 2)).getD j 0)) T3.bk rfl rfl
      have rd := read16 (h := h3.put h.nx (.cells 16 (rowE (fun j => ((0 : Rat) :: dnL A (A.length - 2) (A.length / 2)).getD j 0) ++ rowE (fun j => (dnL A (A.length - 1) ((A.length + 1) / 2)).getD j 0)))) (id := h.nx) get_put_same rfl
      have c1 : cellsN 8 (.agg (rowE (fun j => ((0 : Rat) :: dnL A (A.length - 2) (A.length / 2)).getD j 0))) = some (rowE (fun j => ((0 : Rat) :: dnL A (A.length - 2) (A.length / 2)).getD j 0)) := cell8 rfl
      have c2 : cellsN 8 (.agg (rowE (fun j => (dnL A (A.length - 1) ((A.length + 1) / 2)).getD j 0))) = some (rowE (fun j => (dnL A (A.length - 1) ((A.length + 1) / 2)).getD j 0)) := cell8 rfl
      simp (disch := omega) only [f90_rs, x_build, Option.some.injEq, exists_eq_left', Nat.reduceEqDiff, ↓reduceIte, g2, fill_16, c1, c2, set_16, st, rd, bz]
      exact T3.gr.trans (Grow.put (Nat.le_refl _) T3.bn _)
end
end Go.Ev
namespace Go.Ev
open Go Go.RowKit
noncomputable def f92_r0 : List EOper := [oG 2 (.alloc 8 [(.i .i64 (.ofNat 0)), (.i .i64 (.ofNat 0)), (.i .i64 (.ofNat 0)), (.i .i64 (.ofNat 0)), (.i .i64 (.ofNat 0)), (.i .i64 (.ofNat 0)), (.i .i64 (.ofNat 0)), (.i .i64 (.ofNat 0))])]
noncomputable def f92_r1 : List EOper := [oG 6 (.call (fG 101) [(.c .sn)]), oG 3 (.alloc 8 [(.i .i64 (.ofNat 0)), (.i .i64 (.ofNat 0)), (.i .i64 (.ofNat 0)), (.i .i64 (.ofNat 0)), (.i .i64 (.ofNat 0)), (.i .i64 (.ofNat 0)), (.i .i64 (.ofNat 0)), (.i .i64 (.ofNat 0))]), ⟨none, none, .st 8 (tG 3) (tG 6)⟩]
noncomputable def f92_r2 : List EOper := [oG 7 (.mv (cG 0))]
noncomputable def f92_r3 : List EOper := [oG 8 (.bin .lss (tG 7) (cG 3))]
noncomputable def f92_r4 : List EOper := [oG 9 (.mv (tG 7)), oG 4 (.as (tG 9))]
noncomputable def f92_r5 : List Stage := [⟨[oG 10 (.mv (tG 0)), oG 11 (.mv (tG 4)), oG 12 (.bin .add (tG 11) (cG 1)), oG 13 (.nilck (tG 10)), oG 14 (.fadr 8 (tG 13)), oG 15 (.iadr 4 2 (tG 14) (tG 12)), oG 16 (.ldn 2 (tG 15)), oG 17 (.mv (tG 0)), oG 18 (.nilck (tG 17)), oG 19 (.fadr 0 (tG 18)), oG 20 (.ldn 8 (tG 19)), oG 23 (.mv (tG 0)), oG 24 (.nilck (tG 23)), oG 25 (.fadr 8 (tG 24)), oG 26 (.ldn 8 (tG 25)), oG 5 (.alloc 2 [(.i .i64 (.ofNat 0)), (.i .i64 (.ofNat 0))])], [], (some (oG 21 (.call (fG 62) [(tG 20)]))), [(.ofNat 5)]⟩, ⟨[], [oG 10 (.mv (tG 0)), oG 11 (.mv (tG 4)), oG 12 (.bin .add (tG 11) (cG 1)), oG 13 (.nilck (tG 10)), oG 14 (.fadr 8 (tG 13)), oG 15 (.iadr 4 2 (tG 14) (tG 12)), oG 16 (.ldn 2 (tG 15)), oG 23 (.mv (tG 0)), oG 24 (.nilck (tG 23)), oG 25 (.fadr 8 (tG 24)), oG 26 (.ldn 8 (tG 25)), oG 5 (.alloc 2 [(.i .i64 (.ofNat 0)), (.i .i64 (.ofNat 0))])], (some (oG 22 (.call (fG 103) [(tG 16), (tG 21)]))), []⟩, ⟨[], [oG 23 (.mv (tG 0)), oG 24 (.nilck (tG 23)), oG 25 (.fadr 8 (tG 24)), oG 26 (.ldn 8 (tG 25)), oG 5 (.alloc 2 [(.i .i64 (.ofNat 0)), (.i .i64 (.ofNat 0))])], (some (oG 27 (.call (fG 62) [(tG 26)]))), []⟩, ⟨[], [oG 5 (.alloc 2 [(.i .i64 (.ofNat 0)), (.i .i64 (.ofNat 0))])], (some (oG 28 (.call (fG 104) [(tG 22), (tG 27)]))), []⟩, ⟨[], [oG 5 (.alloc 2 [(.i .i64 (.ofNat 0)), (.i .i64 (.ofNat 0))])], (some ⟨none, none, .st 2 (tG 5) (tG 28)⟩), []⟩, ⟨[], [], none, []⟩]
noncomputable def f92_r6 : List Stage := [⟨[oG 29 (.mv (tG 4)), oG 30 (.mv (tG 0)), oG 31 (.mv (tG 4)), oG 32 (.bin .add (tG 31) (cG 1)), oG 33 (.nilck (tG 30)), oG 34 (.fadr 0 (tG 33)), oG 35 (.iadr 4 2 (tG 34) (tG 32)), oG 36 (.ldn 2 (tG 35)), oG 37 (.ldn 2 (tG 5))], [], (some (oG 38 (.call (fG 105) [(tG 36), (tG 37)]))), []⟩, ⟨[oG 39 (.iadr 4 2 (tG 3) (tG 29))], [oG 29 (.mv (tG 4))], (some ⟨none, none, .st 2 (tG 39) (tG 38)⟩), []⟩, ⟨[], [], none, []⟩]
noncomputable def f92_r7 : List EOper := [oG 40 (.bin .add (tG 7) (cG 1)), oG 7 (.mv (tG 40))]
noncomputable def f92_l0 : EC := (.seq (.reg f92_r3) (.seq (.cond (tG 8) .skip (.exit 0)) (.seq (.block 1 (.seq (.reg f92_r4) (.seq (.draw f92_r5) (.draw f92_r6)))) (.reg f92_r7))))
noncomputable def f92_r8 : List Stage := [⟨[oG 41 (.mv (tG 0)), oG 42 (.mv (tG 0)), oG 43 (.mv (tG 0)), oG 44 (.nilck (tG 43)), oG 45 (.fadr 8 (tG 44)), oG 46 (.ldn 8 (tG 45)), oG 47 (.ldn 8 (tG 3)), oG 48 (.nilck (tG 41)), oG 49 (.fadr 0 (tG 48))], [], (some ⟨none, none, .st 8 (tG 49) (tG 46)⟩), []⟩, ⟨[oG 50 (.nilck (tG 42)), oG 51 (.fadr 8 (tG 50))], [oG 42 (.mv (tG 0)), oG 47 (.ldn 8 (tG 3))], (some ⟨none, none, .st 8 (tG 51) (tG 47)⟩), []⟩, ⟨[], [], none, []⟩]
noncomputable def f92_r9 : List EOper := [oG 52 (.ldn 8 (tG 3)), ⟨none, none, .st 8 (tG 2) (tG 52)⟩]
noncomputable def f92_c : EC := (.seq (.reg f92_r0) (.seq (.reg f92_r1) (.seq (.seq (.reg f92_r2) (.block 0 (.loop f92_l0))) (.seq (.draw f92_r8) (.seq (.reg f92_r9) .ret)))))
noncomputable def f92 : EF := ⟨53, [.celln (.ofNat 2) 8], f92_c, none⟩
theorem f92_rs : f92.rs = [.celln (.ofNat 2) 8] := of_eq_true (eq_self _)
section
variable {fs : T EF} {h : H} {v w u : V} {B C : Nat → Rat}
structure Kpt (id : K) (h h' : H) : Prop where
  nx : h.nx.nat ≤ h'.nx.nat
  old : ∀ k : K, k.nat < h.nx.nat → k.nat ≠ id.nat → h'.get k = h.get k
  hc : HC h → HC h'
theorem Kpt.trans {id : K} {h h1 h2 : H} (a : Kpt id h h1) (b : Kpt id h1 h2) : Kpt id h h2 := ⟨Nat.le_trans a.nx b.nx, fun k hk hn => (b.old k (Nat.lt_of_lt_of_le hk a.nx) hn).trans (a.old k hk hn), fun hc => b.hc (a.hc hc)⟩
theorem Kpt.of {id : K} {h h1 : H} (g : Grow h.nx.nat h h1) : Kpt id h h1 := ⟨g.nx, fun k hk _ => g.old k hk, g.hc⟩
theorem Kpt.grow {id : K} {h h1 : H} (a : Kpt id h h1) {b : Nat} (hb : b ≤ h.nx.nat) (hi : b ≤ id.nat) : Grow b h h1 := ⟨a.nx, fun k hk => a.old k (Nat.lt_of_lt_of_le hk hb) (by omega), a.hc⟩
theorem Kpt.put {id : K} {h : H} (hid : id.nat < h.nx.nat) (x : Blk) : Kpt id h (h.put id x) := by
  have g : Grow id.nat h (h.put id x) := Grow.put (Nat.le_refl _) hid x
  exact ⟨g.nx, fun k _ hn => get_put_other (fun e => hn (by rw [e])), g.hc⟩
def nxR (B C : Nat → Rat) (j : Nat) : Rat := if j < 3 then B (j + 1) - C (j + 1) * B 0 / C 0 else 0
def nxP (B C : Nat → Rat) (i j : Nat) : Rat := if j < i then nxR B C j else 0
structure StpB (B C : Nat → Rat) : Prop where
  nz : (C 0).num ≠ 0
  m1 : ∀ j, j < 3 → ((C (j + 1)).num * (B 0).num).natAbs ≤ M63
  m2 : ∀ j, j < 3 → (((C (j + 1)).den : Int) * ((B 0).den : Int)).natAbs ≤ M63
  p1 : ∀ j, j < 3 → ((C (j + 1) * B 0).num * ((C 0).den : Int)).natAbs ≤ M63
  p2 : ∀ j, j < 3 → (((C (j + 1) * B 0).den : Int) * (C 0).num).natAbs ≤ M63
  s1 : ∀ j, j < 3 → ((B (j + 1)).num * ((C (j + 1) * B 0 / C 0).den : Int) - (C (j + 1) * B 0 / C 0).num * ((B (j + 1)).den : Int)).natAbs ≤ M63
  s2 : ∀ j, j < 3 → (((B (j + 1)).den : Int) * ((C (j + 1) * B 0 / C 0).den : Int)).natAbs ≤ M63
  s3 : ∀ j, j < 3 → ((B (j + 1)).num * ((C (j + 1) * B 0 / C 0).den : Int)).natAbs ≤ M63
  s4 : ∀ j, j < 3 → ((C (j + 1) * B 0 / C 0).num * ((B (j + 1)).den : Int)).natAbs ≤ M63
structure CallsF (fs : T EF) : Prop where
  c62 : fs.get (K.ofNat 62) = some f62
  c100 : fs.get (K.ofNat 100) = some f100
  c101 : fs.get (K.ofNat 101) = some f101
  c103 : fs.get (K.ofNat 103) = some f103
  c104 : fs.get (K.ofNat 104) = some f104
  c105 : fs.get (K.ofNat 105) = some f105
  c107 : fs.get (K.ofNat 107) = some f107
theorem beq_fr {q : Rat} : beqV (.agg (frL q)) (.agg (frL q)) = true := beq_2
theorem beq_row {R : Nat → Rat} : beqV (.agg (rowE R)) (.agg (rowE R)) = true := by
  have h1 : ∀ n : Int, beq1 (.i .i64 n) (.i .i64 n) = true := fun n => by
    show (IntKind.i64 == IntKind.i64 && ieq n n) = true
    rw [ieq_eq]; simp
  show (beq1 (.i .i64 (R 0).num) _ && (beq1 (.i .i64 ((R 0).den : Int)) _ && (beq1 (.i .i64 (R 1).num) _ && (beq1 (.i .i64 ((R 1).den : Int)) _ && (beq1 (.i .i64 (R 2).num) _ && (beq1 (.i .i64 ((R 2).den : Int)) _ && (beq1 (.i .i64 (R 3).num) _ && (beq1 (.i .i64 ((R 3).den : Int)) _ && true)))))))) = true
  simp only [h1, Bool.and_self]
theorem ld_j {X : H} {id : K} {j : Nat} (q : X.get id = .cells 16 (rowE B ++ rowE C)) (hj : j < 3) : loadV X (.p id (0 + 8 + (j + 1) * 2)) (many? 2) = .ok (.agg (frL (C (j + 1)))) X := by
  obtain rfl | rfl | rfl : j = 0 ∨ j = 1 ∨ j = 2 := by omega
  all_goals
    rw [loadn_p q (by omega)]; rfl
theorem ld_k {X : H} {id : K} {j : Nat} (q : X.get id = .cells 16 (rowE B ++ rowE C)) (hj : j < 3) : loadV X (.p id (0 + 0 + (j + 1) * 2)) (many? 2) = .ok (.agg (frL (B (j + 1)))) X := by
  obtain rfl | rfl | rfl : j = 0 ∨ j = 1 ∨ j = 2 := by omega
  all_goals
    rw [loadn_p q (by omega)]; rfl
theorem ld_B {X : H} {id : K} (q : X.get id = .cells 16 (rowE B ++ rowE C)) : loadV X (.p id (0 + 0)) (many? 8) = .ok (.agg (rowE B)) X := by rw [loadn_p q (by omega)]; rfl
theorem ld_C {X : H} {id : K} (q : X.get id = .cells 16 (rowE B ++ rowE C)) : loadV X (.p id (0 + 8)) (many? 8) = .ok (.agg (rowE C)) X := by rw [loadn_p q (by omega)]; rfl
theorem stay_alloc {fr : Fr} {k : K} {n : Nat} {zs : List V} : (stays fs goNo fr h ⟨some k, none, .alloc n zs⟩ = true) = (newOk h n zs (getV (fr.get k)) = true) := of_eq_true (eq_self _)
theorem nw2 {X : H} {i : K} (q : X.get i = .cells 2 [.i .i64 0, .i .i64 0]) : newOk X 2 [.i .i64 0, .i .i64 0] (.p i 0) = true := by
  show (Nat.beq 0 0 && (X.get i).onW false fun m cs => Nat.beq m 2 && beqL cs [.i .i64 0, .i .i64 0]) = true
  rw [q]; rfl
theorem row_st {X : H} {b3 : K} {i : Nat} (hi : i < 3) (q : X.get b3 = .cells 8 (rowE (nxP B C i))) : storeV X 2 (.p b3 (0 + i * 2)) (.agg (frL (nxR B C i))) = .ok undefV (X.put b3 (.cells 8 (rowE (nxP B C (i + 1))))) := by
  obtain rfl | rfl | rfl : i = 0 ∨ i = 1 ∨ i = 2 := by omega
  all_goals
    rw [store_p q (xs := frL _) rfl (by omega)]; rfl
theorem d16_a {X : H} {id : K} (q : X.get id = .cells 16 (rowE B ++ rowE C)) : storeV X 8 (.p id (0 + 0)) (.agg (rowE C)) = .ok undefV (X.put id (.cells 16 (rowE C ++ rowE C))) := by
  rw [store_p q (xs := rowE C) (cell8 rfl) (by omega)]; rfl
theorem d16_b {X : H} {id : K} {N : Nat → Rat} (q : X.get id = .cells 16 (rowE C ++ rowE C)) : storeV X 8 (.p id (0 + 8)) (.agg (rowE N)) = .ok undefV (X.put id (.cells 16 (rowE C ++ rowE N))) := by
  rw [store_p q (xs := rowE N) (cell8 rfl) (by omega)]; rfl
theorem row_end : rowE (nxP B C 3) = rowE (nxR B C) := rfl
def f92_I (h0 : H) (B C : Nat → Rat) (id b2 b3 : K) (i : Nat) (fr : Fr) (h1 : H) : Prop := i ≤ 3 ∧ Grow h0.nx.nat h0 h1 ∧ h1.get b2 = .cells 8 (zr 0) ∧ h1.get b3 = .cells 8 (rowE (nxP B C i)) ∧ b3.nat < h1.nx.nat ∧ fr.get (K.ofNat 0) = some (.p id 0) ∧ fr.get (K.ofNat 2) = some (.p b2 0) ∧ fr.get (K.ofNat 3) = some (.p b3 0) ∧ fr.get (K.ofNat 7) = some (.i .i64 (i : Int))
theorem f92_ret {id : K} (k : CallsF fs) (hb : h.get id = .cells 16 (rowE B ++ rowE C)) (hid : id.nat < h.nx.nat) (hS : StpB B C) (hc : HC h) : Ret fs f92 [.p id 0] h fun r h' => r = .agg (rowE (nxR B C)) ∧ Kpt id h h' ∧ h'.get id = .cells 16 (rowE C ++ rowE (nxR B C)) := by
  apply ret_of rfl
  show W fs none f92_c _ _ _
  unfold f92_c
  have gA := Grow.new (Nat.le_refl h.nx.nat) (.cells 8 (zr 0))
  have n1 := nx_new h (.cells 8 (zr 0))
  have b1 : (h.new (.cells 8 (zr 0))).get h.nx = .cells 8 (zr 0) := get_new_same
  have hz : [V.i IntKind.i64 0, .i .i64 0, .i .i64 0, .i .i64 0, .i .i64 0, .i .i64 0, .i .i64 0, .i .i64 0] = zr 0 := rfl
  simp (disch := omega) only [f92_r0, f92_r1, hz, bz]
  generalize h.new (.cells 8 (zr 0)) = hA at *
  refine (callP_0 (ef := f101) k.c101 rfl (f101_ret (Q := []) (by simp) (.inl ⟨rfl, rfl, rfl⟩) (gA.hc hc))).mono ?_
  rintro r h1 ⟨rfl, g1⟩
  have G1 := gA.trans (g1.low gA.nx)
  have c2 := (g1.old h.nx (by omega)).trans b1
  have hn1 := g1.nx
  have st := store8 (h := h1.new (.cells 8 (zr 0))) (id := h1.nx) (us := rowE (nxP B C 0)) get_new_same rfl rfl
  have e0 : rowE (fun j => ([] : List Rat).getD j 0) = rowE (nxP B C 0) := rfl
  have gB := (Grow.new (Nat.le_refl h1.nx.nat) (.cells 8 (zr 0))).trans (Grow.put (h := h1.new (.cells 8 (zr 0))) (k := h1.nx) (Nat.le_refl _) (by rw [nx_new]; omega) (.cells 8 (rowE (nxP B C 0))))
  have n2 : ((h1.new (.cells 8 (zr 0))).put h1.nx (.cells 8 (rowE (nxP B C 0)))).nx.nat = h1.nx.nat + 1 := by rw [nx_put, nx_new]
  have q3 : ((h1.new (.cells 8 (zr 0))).put h1.nx (.cells 8 (rowE (nxP B C 0)))).get h1.nx = .cells 8 (rowE (nxP B C 0)) := get_put_same
  simp (disch := omega) only [f92_r2, Nat.reduceEqDiff, ↓reduceIte, e0, st, bz]
  have G2 := G1.trans (gB.low G1.nx)
  have q2 := (gB.old h.nx (by omega)).trans c2
  have l23 : h.nx.nat < h1.nx.nat := by omega
  generalize h1.nx = b3 at *
  generalize (h1.new (.cells 8 (zr 0))).put b3 (.cells 8 (rowE (nxP B C 0))) = h2 at *
  refine W_loop (f92_I h B C id h.nx b3) (fun i => 3 - i) ?_ 0 ⟨by omega, G2, q2, q3, by omega, by simp (disch := omega) only [getK_set, Nat.reduceEqDiff, ↓reduceIte, and_self, Int.natCast_zero]⟩
  clear st q2 q3 G2 gB n2 c2 G1 g1 gA n1 b1 hz e0 hn1
  rintro i fr h4 ⟨hi, hG, q2, q3, hn3, g0, g2, g3, g7⟩
  have hc4 := hG.hc hc
  have qd := (hG.old id hid).trans hb
  unfold f92_l0
  by_cases hlt : i < 3
  · have d1 : decide ((i : Int) < 3) = true := decide_eq_true (by omega)
    have e4 : fw .i64 ((i : Int) + 1) = ((i + 1 : Nat) : Int) := by rw [fw64 (by omega) (by omega)]; rfl
    have lj := ld_j qd hlt
    have lB := ld_B qd
    have lC := ld_C qd
    simp (disch := omega) only [f92_r3, f92_r4, f92_r5, xg_fadr, xg_iadr, xg_nilck, idx_n, of3, Nat.reduceEqDiff, ↓reduceIte, xg_alloc, nn_p, g0, g7, d1, e4, lj, lB, lC, hc4.dead, bz]
    refine ⟨fresh_p (by simp (disch := omega) only [getK_set, ↓reduceIte]), ?_⟩
    have gN := Grow.new (Nat.le_refl h4.nx.nat) (.cells 2 [.i .i64 0, .i .i64 0])
    have n5 := nx_new h4 (.cells 2 [.i .i64 0, .i .i64 0])
    refine (callP_0 (ef := f62) k.c62 rfl f62_ret).mono ?_
    rintro r h5 ⟨rfl, g5⟩
    have G5 := gN.trans (g5.low gN.nx)
    have qd5 := (G5.old id (Nat.lt_of_lt_of_le hid hG.nx)).trans qd
    have lj5 := ld_j qd5 hlt
    have lC5 := ld_C qd5
    have i5 : h5.get h4.nx = .cells 2 [.i .i64 0, .i .i64 0] := (g5.old _ (by omega)).trans get_new_same
    have hc5 := G5.hc hc4
    have w5 := nw2 i5
    simp (disch := omega) only [stay_bin, beq_p, idx_n, Nat.reduceEqDiff, ↓reduceIte, nn_p, stay_iadr, stay_fadr, g0, e4, lj5, lC5, beq_fr, beq_row, stay_alloc, stay_nilck, w5, bz]
    refine (callP_0 (ef := f103) k.c103 rfl (f103_ret k.c100 k.c107 (hS.m1 i hlt) (hS.m2 i hlt))).mono ?_
    rintro r h6 ⟨rfl, g6⟩
    have G6 := G5.trans (g6.low G5.nx)
    have qd6 := (G6.old id (Nat.lt_of_lt_of_le hid hG.nx)).trans qd
    have lC6 := ld_C qd6
    have lt5 : h4.nx.nat < h5.nx.nat := by have := g5.nx; omega
    have i6 := (g6.old _ lt5).trans i5
    have w6 := nw2 i6
    simp (disch := omega) only [beq_p, Nat.reduceEqDiff, ↓reduceIte, nn_p, stay_fadr, g0, lC6, beq_row, stay_alloc, stay_nilck, w6, bz]
    refine (callP_0 (ef := f62) k.c62 rfl f62_ret).mono ?_
    rintro r h7 ⟨rfl, g7'⟩
    have G7 := G6.trans (g7'.low G6.nx)
    have i7 := (g7'.old _ (Nat.lt_of_lt_of_le lt5 g6.nx)).trans i6
    have w7 := nw2 i7
    simp (disch := omega) only [Nat.reduceEqDiff, ↓reduceIte, stay_alloc, w7, bz]
    refine (callP_0 (ef := f104) k.c104 rfl (f104_ret k.c100 k.c107 (hS.p1 i hlt) (hS.p2 i hlt) hS.nz)).mono ?_
    rintro r h8 ⟨rfl, g8⟩
    have G8 := G7.trans (g8.low G7.nx)
    have lt8 : h4.nx.nat < h8.nx.nat := Nat.lt_of_lt_of_le (Nat.lt_of_lt_of_le (Nat.lt_of_lt_of_le lt5 g6.nx) g7'.nx) g8.nx
    have i8 := (g8.old _ (Nat.lt_of_lt_of_le (Nat.lt_of_lt_of_le lt5 g6.nx) g7'.nx)).trans i7
    have w8 := nw2 i8
    have st8 : storeV h8 2 (.p h4.nx 0) (.agg (frL (C (i + 1) * B 0 / C 0))) = .ok undefV (h8.put h4.nx (.cells 2 (frL (C (i + 1) * B 0 / C 0)))) := store2 i8
    have G9 := G8.trans (Grow.put (Nat.le_refl _) lt8 (.cells 2 (frL (C (i + 1) * B 0 / C 0))))
    have i9 : (h8.put h4.nx (.cells 2 (frL (C (i + 1) * B 0 / C 0)))).get h4.nx = .cells 2 (frL (C (i + 1) * B 0 / C 0)) := get_put_same
    have lt9 : h4.nx.nat < (h8.put h4.nx (.cells 2 (frL (C (i + 1) * B 0 / C 0)))).nx.nat := lt8
    simp (disch := omega) only [Nat.reduceEqDiff, ↓reduceIte, stay_alloc, w8, st8, bz]
    generalize h8.put h4.nx (.cells 2 (frL (C (i + 1) * B 0 / C 0))) = h9 at *
    have qd9 := (G9.old id (Nat.lt_of_lt_of_le hid hG.nx)).trans qd
    have lk9 := ld_k qd9 hlt
    have l9 : loadV h9 (.p h4.nx 0) (many? 2) = .ok (.agg (frL (C (i + 1) * B 0 / C 0))) h9 := by rw [loadn_p i9 (by omega)]; rfl
    simp (disch := omega) only [f92_r6, xg_fadr, xg_iadr, xg_nilck, idx_n, Nat.reduceEqDiff, ↓reduceIte, nn_p, g0, e4, lk9, l9, bz]
    refine (callP_0 (ef := f105) k.c105 rfl (f105_ret k.c100 k.c107 (hS.s1 i hlt) (hS.s2 i hlt) (hS.s3 i hlt) (hS.s4 i hlt))).mono ?_
    rintro r h10 ⟨rfl, g10⟩
    have G10 := G9.trans (g10.low G9.nx)
    have q3' := (G10.old b3 hn3).trans q3
    have en : B (i + 1) - C (i + 1) * B 0 / C 0 = nxR B C i := by unfold nxR; rw [if_pos hlt]
    rw [en]
    have rs := row_st hlt q3'
    simp (disch := omega) only [f92_r7, xg_iadr, idx_n, Nat.reduceEqDiff, ↓reduceIte, g3, g7, e4, rs, bz]
    exact ⟨i + 1, by omega, by omega, (hG.trans (G10.low hG.nx)).trans (Grow.put (by omega) (Nat.lt_of_lt_of_le hn3 G10.nx) _), (get_put_other (fun e => by rw [e] at l23; omega)).trans ((G10.old h.nx (by omega)).trans q2), get_put_same, Nat.lt_of_lt_of_le hn3 G10.nx, by simp (disch := omega) only [getK_set, Nat.reduceEqDiff, ↓reduceIte, g0, g2, g3, and_self]⟩
  · have d1 : decide ((i : Int) < 3) = false := decide_eq_false (by omega)
    obtain rfl : i = 3 := by omega
    rw [row_end] at q3
    have lC := ld_C qd
    have l3 := load8 q3 rfl
    have ne3 : id ≠ b3 := fun e => by rw [e] at hid; omega
    have ne2 : id ≠ h.nx := fun e => by rw [e] at hid; omega
    have hid4 : id.nat < h4.nx.nat := Nat.lt_of_lt_of_le hid hG.nx
    have sa := d16_a qd
    have qa : (h4.put id (.cells 16 (rowE C ++ rowE C))).get id = .cells 16 (rowE C ++ rowE C) := get_put_same
    have sb := d16_b (N := nxR B C) qa
    have l3' : loadV (h4.put id (.cells 16 (rowE C ++ rowE C))) (.p b3 0) (many? 8) = .ok (.agg (rowE (nxR B C))) _ := load8 ((get_put_other (Ne.symm ne3)).trans q3) rfl
    have qb : ((h4.put id (.cells 16 (rowE C ++ rowE C))).put id (.cells 16 (rowE C ++ rowE (nxR B C)))).get id = .cells 16 (rowE C ++ rowE (nxR B C)) := get_put_same
    have l3'' : loadV ((h4.put id (.cells 16 (rowE C ++ rowE C))).put id (.cells 16 (rowE C ++ rowE (nxR B C)))) (.p b3 0) (many? 8) = .ok (.agg (rowE (nxR B C))) _ := load8 ((get_put_other (Ne.symm ne3)).trans ((get_put_other (Ne.symm ne3)).trans q3)) rfl
    have q2'' : ((h4.put id (.cells 16 (rowE C ++ rowE C))).put id (.cells 16 (rowE C ++ rowE (nxR B C)))).get h.nx = .cells 8 (zr 0) := (get_put_other (Ne.symm ne2)).trans ((get_put_other (Ne.symm ne2)).trans q2)
    have sc := store8 (us := rowE (nxR B C)) q2'' rfl rfl
    have rd := read8 (h := ((h4.put id (.cells 16 (rowE C ++ rowE C))).put id (.cells 16 (rowE C ++ rowE (nxR B C)))).put h.nx (.cells 8 (rowE (nxR B C)))) (id := h.nx) get_put_same rfl
    simp (disch := omega) only [f92_r3, f92_r8, f92_r9, f92_rs, xg_fadr, xg_nilck, beq_p, of3, Option.some.injEq, exists_eq_left', Nat.reduceEqDiff, ↓reduceIte, Bool.false_eq_true, nn_p, g0, g2, g3, g7, d1, lC, l3, sa, sb, l3', l3'', sc, rd, beq_row, bz]
    have K1 := (Kpt.of (id := id) hG).trans ((Kpt.put hid4 (.cells 16 (rowE C ++ rowE C))).trans (Kpt.put (h := h4.put id (.cells 16 (rowE C ++ rowE C))) hid4 (.cells 16 (rowE C ++ rowE (nxR B C)))))
    have : h.nx.nat < ((h4.put id (.cells 16 (rowE C ++ rowE C))).put id (.cells 16 (rowE C ++ rowE (nxR B C)))).nx.nat := by show h.nx.nat < h4.nx.nat; omega
    have gg := Grow.put (b := h.nx.nat) (Nat.le_refl _) this (.cells 8 (rowE (nxR B C)))
    exact ⟨⟨Nat.le_trans K1.nx gg.nx, fun k hk hn => (get_put_other (fun e => by rw [e] at hk; omega)).trans (K1.old k hk hn), fun hc => gg.hc (K1.hc hc)⟩, (get_put_other ne2).trans qb⟩
end
end Go.Ev
namespace Go.Ev
open Go Go.RowKit
noncomputable def f60_r0 : List EOper := [oG 2 (.box 8 (tG 0)), oG 4 (.as (.c .sn))]
noncomputable def f60_r1 : List EOper := [oG 8 (.mv (tG 1)), oG 9 (.mkslice 2 [(.i .i64 (.ofNat 0)), (.i .i64 (.ofNat 0))] (tG 8)), oG 5 (.as (tG 9))]
noncomputable def f60_r2 : List EOper := [oG 10 (.mv (tG 1)), oG 11 (.slcA 4 2 (tG 2) none (some (tG 10))), oG 12 (.len (tG 11)), oG 13 (.mv (cG 0))]
noncomputable def f60_r3 : List EOper := [oG 14 (.bin .lss (tG 13) (tG 12))]
noncomputable def f60_r4 : List EOper := [oG 15 (.mv (tG 13)), oG 16 (.iads 2 (tG 11) (tG 13)), oG 17 (.ldn 2 (tG 16)), oG 7 (.alloc 2 [(.i .i64 (.ofNat 0)), (.i .i64 (.ofNat 0))]), oG 6 (.as (tG 15)), ⟨none, none, .st 2 (tG 7) (tG 17)⟩]
noncomputable def f60_r5 : List EOper := [oG 18 (.mv (tG 5)), oG 19 (.mv (tG 6)), oG 20 (.ldn 2 (tG 7)), oG 21 (.call (fG 93) [(tG 20)]), oG 22 (.iads 2 (tG 18) (tG 19)), ⟨none, none, .st 2 (tG 22) (tG 21)⟩]
noncomputable def f60_r6 : List EOper := [oG 23 (.bin .add (tG 13) (cG 1)), oG 13 (.mv (tG 23))]
noncomputable def f60_l0 : EC := (.seq (.reg f60_r3) (.seq (.cond (tG 14) .skip (.exit 0)) (.seq (.block 1 (.seq (.reg f60_r4) (.reg f60_r5))) (.reg f60_r6))))
noncomputable def f60_r7 : List EOper := [oG 24 (.mv (tG 5)), oG 4 (.as (tG 24))]
noncomputable def f60_c : EC := (.seq (.reg f60_r0) (.seq (.reg f60_r1) (.seq (.seq (.reg f60_r2) (.block 0 (.loop f60_l0))) (.seq (.reg f60_r7) .ret))))
noncomputable def f60 : EF := ⟨25, [.tmp (.ofNat 4)], f60_c, none⟩
theorem f60_rs : f60.rs = [.tmp (.ofNat 4)] := of_eq_true (eq_self _)
section
variable {fs : T EF} {h : H} {v w u : V} {L : List (Int × Int)} {Ls : List (List (Int × Int))}
structure Srr (h : H) (v : V) (us : List V) (Ls : List (List (Int × Int))) : Prop where
  len : us.length = Ls.length
  out : Sr vE h v us
  inn : ∀ i (h1 : i < us.length) (h2 : i < Ls.length), Srp h us[i] Ls[i]
theorem Srr.grow {us : List V} {h' : H} (s : Srr h v us Ls) (hc : HC h) (g : Grow h.nx.nat h h') : Srr h' v us Ls := ⟨s.len, s.out.grow hc g, fun i h1 h2 => (s.inn i h1 h2).grow hc g⟩
theorem keq_pp {x y : Int} (hx : inR .i64 x = true) (hy : inR .i64 y = true) : keyEq (.many [some .i64, some .i64]) (.agg [.i .i64 x, .i .i64 y]) (.agg [.i .i64 x, .i .i64 y]) = some true := by
  rw [keyEq_2 hx hy hx hy]; simp
def rwL (R : Nat → Rat) (n : Nat) : List (Int × Int) := (List.range n).map fun j => frP (R j)
theorem rwL_len {R : Nat → Rat} {n : Nat} : (rwL R n).length = n := by simp [rwL]
def rwP (R : Nat → Rat) (n i : Nat) : List (Int × Int) := (List.range n).map fun j => if j < i then frP (R j) else (0, 0)
theorem rwP_len {R : Nat → Rat} {n i : Nat} : (rwP R n i).length = n := by simp [rwP]
theorem rwP_0 {R : Nat → Rat} {n : Nat} : rwP R n 0 = List.replicate n (0, 0) := by
  apply List.ext_getElem
  · simp [rwP]
  · intro i h1 h2; simp [rwP]
theorem rwP_end {R : Nat → Rat} {n : Nat} : rwP R n n = rwL R n := by
  apply List.ext_getElem
  · simp [rwP, rwL]
  · intro i h1 h2
    have : i < n := by rw [rwP_len] at h1; exact h1
    simp [rwP, rwL, this]
theorem rwP_set {R : Nat → Rat} {n j : Nat} : (rwP R n j).set j (frP (R j)) = rwP R n (j + 1) := by
  apply List.ext_getElem
  · simp [rwP]
  · intro i h1 h2
    rw [List.getElem_set]
    by_cases e : j = i
    · subst e
      rw [if_pos rfl]
      simp [rwP]
    · rw [if_neg e]
      simp only [rwP, List.getElem_map, List.getElem_range]
      by_cases e2 : i < j
      · rw [if_pos e2, if_pos (by omega)]
      · rw [if_neg e2, if_neg (by omega)]
noncomputable def slcT (id : K) (v : V) (h : H) : RV := (h.get id).onC .no (fun len _ => bif Nat.ble (0 + 4 * 2) len then (oGet (v.onI none fun _ n => nonneg n) .no fun u => bif Nat.ble 0 u && Nat.ble u 4 then RV.ok (.sl id (0 + 0 * 2) (u - 0) 2) h else .no) else .no)
theorem slcA_t {fr : Fr} {e : EO} {id : K} : slcAV fr 4 2 (.p id 0) none (some e) h = slcT id (ev fr e) h := of_eq_true (eq_self _)
theorem slcT_n {id : K} {cs : List V} {n : Nat} (hb : h.get id = .cells 8 cs) (hn : n ≤ 4) : slcT id (.i .i64 (n : Int)) h = .ok (.sl id (0 + 0 * 2) (n - 0) 2) h := by
  unfold slcT
  rw [hb]
  show (bif Nat.ble 0 n && Nat.ble n 4 then RV.ok (.sl id (0 + 0 * 2) (n - 0) 2) h else .no) = _
  rw [Nat.ble_eq_true_of_le hn, Nat.ble_eq_true_of_le (Nat.zero_le n)]; rfl
theorem row_srp {R : Nat → Rat} {id : K} {n : Nat} (hn : n ≤ 4) (hb : h.get id = .cells 8 (rowE R)) : Srp h (.sl id (0 + 0 * 2) (n - 0) 2) (rwL R n) := by
  refine .inr ⟨id, 0, 8, rowE R, by rw [rwL_len]; rfl, .inl hb, rfl, by rw [rwL_len]; omega, ?_⟩
  rw [rwL_len]
  obtain rfl | rfl | rfl | rfl | rfl : n = 0 ∨ n = 1 ∨ n = 2 ∨ n = 3 ∨ n = 4 := by omega
  all_goals rfl
def f60_I (h0 : H) (R : Nat → Rat) (n : Nat) (id : K) (o : V) (i : Nat) (fr : Fr) (h1 : H) : Prop := i ≤ n ∧ Grow h0.nx.nat h0 h1 ∧ h1.get id = .cells 8 (rowE R) ∧ Sk 2 qE h1 o (rwP R n i) ∧ fr.get (K.ofNat 5) = some (o) ∧ fr.get (K.ofNat 11) = some (.sl id (0 + 0 * 2) (n - 0) 2) ∧ fr.get (K.ofNat 12) = some (.i .i64 (n : Int)) ∧ fr.get (K.ofNat 13) = some (.i .i64 (i : Int))
theorem f60_ret {R : Nat → Rat} {n : Nat} (k93 : fs.get (.ofNat 93) = some f93) (hn : n ≤ 4) (hc : HC h) : Ret fs f60 [.agg (rowE R), .i .i64 (n : Int)] h fun r h' => Sk 2 qE h' r (rwL R n) ∧ Own h.nx.nat r ∧ Grow h.nx.nat h h' := by
  apply ret_of rfl
  show W fs none f60_c _ _ _
  unfold f60_c
  have hc8 : cellsN 8 (.agg (rowE R)) = some (rowE R) := cell8 rfl
  have gA := Grow.new (Nat.le_refl h.nx.nat) (.cells 8 (rowE R))
  have n1 := nx_new h (.cells 8 (rowE R))
  have b1 : (h.new (.cells 8 (rowE R))).get h.nx = .cells 8 (rowE R) := get_new_same
  have hmk := mks_p (h := h.new (.cells 8 (rowE R))) (k := .i64) (n := n) (by omega)
  have hsl := mksp_sl (h := h.new (.cells 8 (rowE R))) (n := n)
  have gB := Grow.new (Nat.le_refl (h.new (.cells 8 (rowE R))).nx.nat) (.cells (n * 2) (rep (qE (0, 0)) n))
  have b2 : ((h.new (.cells 8 (rowE R))).new (.cells (n * 2) (rep (qE (0, 0)) n))).get h.nx = .cells 8 (rowE R) := (get_new_old (by omega)).trans b1
  have es := slcT_n b2 hn
  have ll : ∀ h1, lenV (.sl h.nx (0 + 0 * 2) (n - 0) 2) h1 = .ok (.i .i64 (n : Int)) h1 := fun h1 => rfl
  simp (disch := omega) only [f60_r0, f60_r1, f60_r2, x_mks, x_slcA, Nat.reduceEqDiff, ↓reduceIte, hc8, hmk, slcA_t, es, ll, bz]
  rw [← rwP_0 (R := R)] at hsl
  have G2 := gA.trans (gB.low gA.nx)
  have oo : Own h.nx.nat (.sl (h.new (.cells 8 (rowE R))).nx 0 n 2) := fun id off n sz e => by cases e; exact gA.nx
  have ni : ∀ id off m sz, (V.sl (h.new (.cells 8 (rowE R))).nx 0 n 2) = .sl id off m sz → id ≠ h.nx := fun id off m sz e e2 => by
    have h1 := congrArg K.nat (V.sl.inj e).1
    rw [e2] at h1; omega
  generalize V.sl (h.new (.cells 8 (rowE R))).nx 0 n 2 = o at *
  generalize (h.new (.cells 8 (rowE R))).new (.cells (n * 2) (rep (qE (0, 0)) n)) = h2 at *
  refine W_loop (f60_I h R n h.nx o) (fun i => n - i) ?_ 0 ⟨by omega, G2, b2, hsl, by simp (disch := omega) only [getK_set, Nat.reduceEqDiff, ↓reduceIte, and_self, Int.natCast_zero]⟩
  clear hsl b2 es G2 gB hmk b1 n1 gA
  rintro i fr h1 ⟨hi, hG, q, sk, g5, g11, g12, g13⟩
  have hc1 := hG.hc hc
  unfold f60_l0
  by_cases hlt : i < n
  · have d1 : decide ((i : Int) < (n : Int)) = true := decide_eq_true (by omega)
    have e4 : fw .i64 ((i : Int) + 1) = ((i + 1 : Nat) : Int) := by rw [fw64 (by omega) (by omega)]; rfl
    have rs := row_srp hn q
    obtain ⟨id', p, p1, p2, _⟩ := rs.at2 (i := i) (by rw [rwL_len]; exact hlt)
    have eL : (rwL R n)[i]'(by rw [rwL_len]; exact hlt) = frP (R i) := by simp [rwL]
    rw [eL] at p2
    have p2 : loadV h1 (.p id' p) (many? 2) = .ok (.agg (frL (R i))) h1 := p2
    have gN := Grow.new (Nat.le_refl h1.nx.nat) (.cells 2 [.i .i64 0, .i .i64 0])
    have nN := nx_new h1 (.cells 2 [.i .i64 0, .i .i64 0])
    have st0 : storeV (h1.new (.cells 2 [.i .i64 0, .i .i64 0])) 2 (.p h1.nx 0) (.agg (frL (R i))) = .ok undefV ((h1.new (.cells 2 [.i .i64 0, .i .i64 0])).put h1.nx (.cells 2 (frL (R i)))) := store2 get_new_same
    have gM := gN.trans (Grow.put (k := h1.nx) (Nat.le_refl _) (by omega) (.cells 2 (frL (R i))))
    have i9 : ((h1.new (.cells 2 [.i .i64 0, .i .i64 0])).put h1.nx (.cells 2 (frL (R i)))).get h1.nx = .cells 2 (frL (R i)) := get_put_same
    have ld : loadV ((h1.new (.cells 2 [.i .i64 0, .i .i64 0])).put h1.nx (.cells 2 (frL (R i)))) (.p h1.nx 0) (many? 2) = .ok (.agg (frL (R i))) ((h1.new (.cells 2 [.i .i64 0, .i .i64 0])).put h1.nx (.cells 2 (frL (R i)))) := by rw [loadn_p i9 (by omega)]; rfl
    simp (disch := omega) only [f60_r3, f60_r4, f60_r5, Nat.reduceEqDiff, ↓reduceIte, g5, g11, g12, g13, d1, p1, p2, st0, ld, bz]
    refine (callP_0 (ef := f93) k93 rfl f93_ret).mono ?_
    rintro r h3 ⟨rfl, g3⟩
    have G3 := gM.trans (g3.low gM.nx)
    have hc3 := G3.hc hc1
    have sk3 := sk.grow hc1 G3
    obtain ⟨z, id, m, cs', z1, z2, z3, ⟨off, n', sz, z4⟩, z5⟩ := sk3.st2 (i := i) (by rw [rwP_len]; exact hlt) (x := frP (R i)) hc3
    rw [rwP_set] at z3
    have z2 : storeV h3 2 z (.agg (frL (R i))) = .ok undefV (h3.put id (.cells m cs')) := z2
    have qq : (h3.put id (.cells m cs')).get h.nx = .cells 8 (rowE R) := (get_put_other (Ne.symm (ni _ _ _ _ z4))).trans ((G3.old h.nx (hc1.cells q)).trans q)
    simp (disch := omega) only [f60_r6, Nat.reduceEqDiff, ↓reduceIte, g13, z1, z2, e4, bz]
    exact ⟨i + 1, by omega, by omega, (hG.trans (G3.low hG.nx)).trans (Grow.put (oo _ _ _ _ z4) z5 _), qq, z3, by simp (disch := omega) only [getK_set, Nat.reduceEqDiff, ↓reduceIte, g5, g11, g12, and_self]⟩
  · have d1 : decide ((i : Int) < (n : Int)) = false := decide_eq_false (by omega)
    obtain rfl : i = n := by omega
    rw [rwP_end] at sk
    simp (disch := omega) only [f60_r3, f60_r7, f60_rs, Option.some.injEq, exists_eq_left', Nat.reduceEqDiff, ↓reduceIte, Bool.false_eq_true, g5, g12, g13, d1, bz]
    exact ⟨sk, oo, hG⟩
end
end Go.Ev
namespace Go.Ev
open Go Go.RowKit
noncomputable def f102_r0 : List EOper := [oG 5 (.ldn 8 (tG 1)), oG 4 (.alloc 8 [(.i .i64 (.ofNat 0)), (.i .i64 (.ofNat 0)), (.i .i64 (.ofNat 0)), (.i .i64 (.ofNat 0)), (.i .i64 (.ofNat 0)), (.i .i64 (.ofNat 0)), (.i .i64 (.ofNat 0)), (.i .i64 (.ofNat 0))]), ⟨none, none, .st 8 (tG 4) (tG 5)⟩]
noncomputable def f102_r1 : List EOper := [oG 6 (.mv (tG 0)), oG 7 (.ldn 8 (tG 4)), oG 8 (.call (tG 6) [(tG 7)])]
noncomputable def f102_r2 : List EOper := [oG 11 (.ldn 8 (tG 4))]
noncomputable def f102_r3 : List EOper := [oG 4 (.alloc 8 [(.i .i64 (.ofNat 0)), (.i .i64 (.ofNat 0)), (.i .i64 (.ofNat 0)), (.i .i64 (.ofNat 0)), (.i .i64 (.ofNat 0)), (.i .i64 (.ofNat 0)), (.i .i64 (.ofNat 0)), (.i .i64 (.ofNat 0))]), ⟨none, none, .st 8 (tG 4) (tG 11)⟩]
noncomputable def f102_r4 : List EOper := [oG 9 (.ld (tG 2)), oG 10 (.call (tG 9) []), ⟨none, none, .st 8 (tG 4) (tG 10)⟩]
noncomputable def f102_l0 : EC := (.seq (.seq (.reg f102_r1) (.cond (tG 8) .skip (.exit 0))) (.seq (.block 1 .skip) (.seq (.seq (.reg f102_r2) (.reg f102_r3)) (.reg f102_r4))))
noncomputable def f102_c : EC := (.seq (.reg f102_r0) (.block 0 (.loop f102_l0)))
noncomputable def f102 : EF := ⟨12, [], f102_c, none⟩
theorem f102_rs : f102.rs = [] := of_eq_true (eq_self _)
noncomputable def f91_r0 : List EOper := [oG 2 (.box 8 (tG 0)), oG 3 (.box 1 (tG 1)), oG 4 (.as (.c .fnil))]
noncomputable def f91_r1 : List EOper := [oG 5 (.mkfn (.ofNat 102) [(tG 2), (tG 3)]), oG 4 (.as (tG 5))]
noncomputable def f91_c : EC := (.seq (.reg f91_r0) (.seq (.reg f91_r1) .ret))
noncomputable def f91 : EF := ⟨6, [.tmp (.ofNat 4)], f91_c, none⟩
theorem f91_rs : f91.rs = [.tmp (.ofNat 4)] := of_eq_true (eq_self _)
section
variable {fs : T EF} {h : H} {v w u : V}
theorem callP_bf {k : K} {ef : EF} {args fst : List V} {P : V → H → Prop} (hf : fs.get k = some ef) (hn : ef.nv = none) (hr : Ret fs ef (fst ++ args) h P) : CallP fs (.bf k fst []) args h P := by
  obtain ⟨n, v, h', e, hp⟩ := hr
  refine ⟨n, v, h', ?_, hp⟩
  show (oGet (fs.get k) RV.no fun ef => callE (eval fs n) ef (cat fst (cat args [])) h) = _
  rw [hf, cat_eq, cat_eq, List.append_nil]
  show oGet ef.nv (callF (eval fs n) ef (fst ++ args) h) _ = _
  rw [hn]; exact e
structure Dsc where
  bf : Nat → Rat
  re : Nat → Rat
noncomputable def Dsc.next (d : Dsc) : Dsc := ⟨d.re, nxR d.bf d.re⟩
noncomputable def Dsc.at (d : Dsc) : Nat → Dsc
  | 0 => d
  | n + 1 => (d.at n).next
def Dsc.blk (d : Dsc) : Blk := .cells 16 (rowE d.bf ++ rowE d.re)
structure NR (idd b1 b2 : K) (d0 d : Dsc) (h : H) : Prop where
  hd : h.get idd = d.blk
  h1 : h.get b1 = .cells 8 (rowE d0.re)
  h2 : h.get b2 = .cells 1 [.bf (K.ofNat 92) [.p idd 0] []]
  ld : idd.nat < h.nx.nat
  n1 : b1.nat ≠ idd.nat
  n2 : b2.nat ≠ idd.nat
  hc : HC h
def YieldsD (fs : T EF) (k : K) (idd b1 b2 : K) (d : Dsc) (n : Nat) : Prop :=
  ∀ (id : K) (I : Nat → H → Prop) (D : H → Prop) (h : H), (∀ i h1, I i h1 → NR idd b1 b2 d (d.at (i - 1)) h1) → I 0 h →
    (∀ i h1 h2, i ≤ n → I i h1 → Kpt idd h1 h2 → h2.get idd = (d.at i).blk → ∃ r h', Round fs id (.agg (rowE (d.at i).re)) h2 r h' ∧ (r = true → (i < n ∧ StpB (d.at i).bf (d.at i).re) ∧ I (i + 1) h' ∧ ∀ k : K, h1.nx.nat ≤ k.nat → k.nat < h2.nx.nat → h'.get k = h2.get k) ∧ (r = false → D h')) →
    CallP fs (.fn k [.p b1 0, .p b2 0]) [.yl id] h fun r h' => r = .tup [] ∧ D h'
def f102_I (id idd b1 b2 : K) (d : Dsc) (n : Nat) (I : Nat → H → Prop) (i : Nat) (fr : Fr) (h2 : H) : Prop := i ≤ n ∧ ∃ h1 b4, I i h1 ∧ Kpt idd h1 h2 ∧ h2.get idd = (d.at i).blk ∧ h2.get b4 = .cells 8 (rowE (d.at i).re) ∧ h1.nx.nat ≤ b4.nat ∧ b4.nat < h2.nx.nat ∧ fr.get (K.ofNat 0) = some (.yl id) ∧ fr.get (K.ofNat 1) = some (.p b1 0) ∧ fr.get (K.ofNat 2) = some (.p b2 0) ∧ fr.get (K.ofNat 4) = some (.p b4 0)
theorem rows_yield {d : Dsc} {n : Nat} {idd b1 b2 : K} (h102 : fs.get (K.ofNat 102) = some f102) (k92 : fs.get (K.ofNat 92) = some f92) (k : CallsF fs) : YieldsD fs (K.ofNat 102) idd b1 b2 d n := by
  intro id I D h hN hI round
  refine callP_of (ef := f102) h102 rfl ?_
  show Ret fs f102 [.yl id, .p b1 0, .p b2 0] h _
  apply ret_of rfl
  show W fs none f102_c _ _ _
  unfold f102_c
  have N0 := hN _ _ hI
  have l1 := load8 N0.h1 rfl
  have hz : [V.i IntKind.i64 0, .i .i64 0, .i .i64 0, .i .i64 0, .i .i64 0, .i .i64 0, .i .i64 0, .i .i64 0] = zr 0 := rfl
  have st := store8 (h := h.new (.cells 8 (zr 0))) (id := h.nx) (us := rowE d.re) get_new_same rfl rfl
  have gB := (Grow.new (Nat.le_refl h.nx.nat) (.cells 8 (zr 0))).trans (Grow.put (h := h.new (.cells 8 (zr 0))) (k := h.nx) (Nat.le_refl _) (by rw [nx_new]; omega) (.cells 8 (rowE d.re)))
  have n2 : ((h.new (.cells 8 (zr 0))).put h.nx (.cells 8 (rowE d.re))).nx.nat = h.nx.nat + 1 := by rw [nx_put, nx_new]
  have q4 : ((h.new (.cells 8 (zr 0))).put h.nx (.cells 8 (rowE d.re))).get h.nx = .cells 8 (rowE d.re) := get_put_same
  simp (disch := omega) only [f102_r0, frame_3, Nat.reduceEqDiff, ↓reduceIte, l1, hz, st, bz]
  refine W_loop (f102_I id idd b1 b2 d n I) (fun i => n - i) ?_ 0 ⟨Nat.zero_le _, h, h.nx, hI, Kpt.of gB, (gB.old _ N0.ld).trans N0.hd, q4, Nat.le_refl _, by omega, by simp (disch := omega) only [getK_set, Nat.reduceEqDiff, ↓reduceIte, and_self]⟩
  clear l1 st gB n2 q4 N0 hI
  rintro i fr h2 ⟨hi, h1, b4, hIi, hK, qd, q4, l4, l4', g0, g1, g2, g4⟩
  unfold f102_l0
  have ld4 := load8 q4 rfl
  obtain ⟨r, h3, ⟨m, hr⟩, r1, r2⟩ := round i h1 h2 hi hIi hK qd
  have e6 : ∀ P : V → H → Prop, P (.b r) h3 → CallP fs (.yl id) [.agg (rowE (d.at i).re)] h2 P := fun P hP => ⟨m, _, _, hr, hP⟩
  simp (disch := omega) only [f102_r1, Nat.reduceEqDiff, ↓reduceIte, g0, g4, ld4, bz]
  refine e6 _ ?_
  cases r with
  | false =>
    simp (disch := omega) only [f102_rs, retK_n, retV_0, Option.some.injEq, exists_eq_left', ↓reduceIte, Bool.false_eq_true, bz]
    exact r2 rfl
  | true =>
    obtain ⟨⟨hin, hS⟩, hI3, hk3⟩ := r1 rfl
    have N3 := hN _ _ hI3
    have hd3 : h3.get idd = (d.at i).blk := N3.hd
    have q43 := (hk3 b4 l4 l4').trans q4
    have ld43 := load8 q43 rfl
    have st := store8 (h := h3.new (.cells 8 (zr 0))) (id := h3.nx) (us := rowE (d.at i).re) get_new_same rfl rfl
    have gB := (Grow.new (Nat.le_refl h3.nx.nat) (.cells 8 (zr 0))).trans (Grow.put (h := h3.new (.cells 8 (zr 0))) (k := h3.nx) (Nat.le_refl _) (by rw [nx_new]; omega) (.cells 8 (rowE (d.at i).re)))
    have n4 : ((h3.new (.cells 8 (zr 0))).put h3.nx (.cells 8 (rowE (d.at i).re))).nx.nat = h3.nx.nat + 1 := by rw [nx_put, nx_new]
    have q5 : ((h3.new (.cells 8 (zr 0))).put h3.nx (.cells 8 (rowE (d.at i).re))).get h3.nx = .cells 8 (rowE (d.at i).re) := get_put_same
    have lb : loadV ((h3.new (.cells 8 (zr 0))).put h3.nx (.cells 8 (rowE (d.at i).re))) (.p b2 0) one? = .ok (.bf (K.ofNat 92) [.p idd 0] []) _ := load_p ((gB.old b2 (N3.hc.cells N3.h2)).trans N3.h2) rfl
    simp (disch := omega) only [f102_r2, f102_r3, f102_r4, Nat.reduceEqDiff, ↓reduceIte, g2, g4, ld43, hz, st, lb, bz]
    have ld := N3.ld
    have qd4 := (gB.old idd ld).trans hd3
    have hc4 := gB.hc N3.hc
    generalize (h3.new (.cells 8 (zr 0))).put h3.nx (.cells 8 (rowE (d.at i).re)) = h4 at *
    refine (callP_bf k92 rfl (f92_ret k qd4 (by omega) hS hc4)).mono ?_
    rintro r' h5 ⟨rfl, k5, qd5⟩
    have q55 := (k5.old h3.nx (by omega) (by omega)).trans q5
    have st5 := store8 (us := rowE (nxR (d.at i).bf (d.at i).re)) q55 rfl rfl
    have ne5 : idd ≠ h3.nx := fun e => by rw [e] at ld; omega
    simp (disch := omega) only [Nat.reduceEqDiff, ↓reduceIte, st5, bz]
    have l5 := k5.nx
    exact ⟨i + 1, by omega, by omega, h3, h3.nx, hI3, ⟨Nat.le_trans gB.nx k5.nx, fun k hk hn => (get_put_other (fun e => by rw [e] at hk; omega)).trans ((k5.old k (Nat.lt_of_lt_of_le hk gB.nx) hn).trans (gB.old k hk)), fun _ => (Grow.put (b := 0) (Nat.zero_le _) (by omega) _).hc (k5.hc hc4)⟩, (get_put_other ne5).trans qd5, get_put_same, Nat.le_refl _, by show h3.nx.nat < h5.nx.nat; omega, by simp (disch := omega) only [getK_set, Nat.reduceEqDiff, ↓reduceIte, g0, g1, g2, and_self]⟩
theorem W_rangeD {ro : Option K} {f : EO} {k : K} {p : K} {a c : EC} {fr : Fr} {Q : Ex → Fr → H → Prop} {idd b1 b2 : K} {d : Dsc} {n : Nat} (hro : roOk ro h = true) (hf : ev fr f = .fn k [.p b1 0, .p b2 0]) (hy : YieldsD fs k idd b1 b2 d n)
    (I : Nat → H → Prop) (D : Ex → H → Prop) (hne : h.nx.nat ≠ idd.nat) (hN : ∀ i h1, I i h1 → NR idd b1 b2 d (d.at (i - 1)) h1 ∧ h.nx.nat < h1.nx.nat) (hI0 : I 0 (h.new (rdyB fr [p] a c)))
    (step : ∀ i h1 h2, i ≤ n → I i h1 → Kpt idd h1 h2 → h2.get idd = (d.at i).blk → h2.get h.nx = rdyB fr [p] a c → W fs (some h.nx) a (rndA fs h.nx fr [p] a c (fun h3 => (i < n ∧ StpB (d.at i).bf (d.at i).re) ∧ I (i + 1) h3 ∧ ∀ k : K, h1.nx.nat ≤ k.nat → k.nat < h2.nx.nat → h3.get k = h2.get k) D) (fr.set p (.agg (rowE (d.at i).re))) h2)
    (brk : ∀ e h1, e ≠ .normal → D e h1 → Q e fr h1) : W fs ro (.rangeF f [p] a c) Q fr h := by
  have key := hy h.nx (fun i h1 => I i h1 ∧ h1.get h.nx = rdyB fr [p] a c) (fun h1 => ∃ e, e ≠ .normal ∧ D e (h1.put h.nx .dead) ∧ h1.get h.nx = .loop .done (some e) fr [p] a c) (h.new (rdyB fr [p] a c)) (fun i h1 hi => (hN i h1 hi.1).1) ⟨hI0, get_new_same⟩ ?_
  · obtain ⟨m, r, h1, hc, rfl, e, hne', hD, hb⟩ := key
    exact ⟨e, fr, _, Runs.range hro hf ⟨m, hc⟩ hb (.inr ⟨rfl, rfl⟩), brk e _ hne' hD⟩
  · rintro i h1 h2 hi ⟨hI, hb⟩ hK hd
    have hb2 : h2.get h.nx = rdyB fr [p] a c := (hK.old _ (hN _ _ hI).2 hne).trans hb
    obtain ⟨e1, fr1, h3, r1, rfl, hb3, hw⟩ := W_ok _ _ _ _ (step i h1 h2 hi hI hK hd hb2)
    obtain ⟨e2, fr2, h4, r2, hb4, hq⟩ := W_ok _ _ _ _ hw
    refine ⟨isNo e2, h4.put h.nx (afterR e2 fr [p] a c), round_of hb2 rfl r1 hb3 r2 hb4, fun he => ?_, fun he => ?_⟩
    · cases e2 <;> first | exact ⟨hq.1, ⟨hq.2.1, get_put_same⟩, hq.2.2⟩ | cases he
    · cases e2 with
      | normal => cases he
      | exit j => exact ⟨.exit j, by simp, by rw [H.put_put]; exact hq, get_put_same⟩
      | ret => exact ⟨.ret, by simp, by rw [H.put_put]; exact hq, get_put_same⟩
theorem f91_ret {R : Nat → Rat} {g : V} (hg : cellsN 1 g = some [g]) : Ret fs f91 [.agg (rowE R), g] h fun r h' => r = .fn (.ofNat 102) [.p h.nx 0, .p (h.new (.cells 8 (rowE R))).nx 0] ∧ h' = (h.new (.cells 8 (rowE R))).new (.cells 1 [g]) := by
  apply ret_of rfl
  show W fs none f91_c _ _ _
  unfold f91_c
  have hc8 : cellsN 8 (.agg (rowE R)) = some (rowE R) := cell8 rfl
  simp (disch := omega) only [f91_r0, f91_r1, f91_rs, x_mkfn, Option.some.injEq, exists_eq_left', Nat.reduceEqDiff, ↓reduceIte, hc8, hg, and_self, bz]
end
end Go.Ev
