/-
  Steady: halves, turned polynomials, of both., and what follows.
-/
import Derived.Test.YtlnkpocijfgikaaDoorPd
import Derived.Test.YtlnkpocijfgikaaDoorPe
namespace Go.Ev
open Go Go.RowKit
noncomputable def f89_r0 : List EOper := [oG 2 (.as (.c .sn))]
noncomputable def f89_r1 : List EOper := [oG 3 (.mv (tG 0)), oG 4 (.len (tG 3)), oG 5 (.bin .gtr (tG 4) (cG 0)), oG 6 (.mv (tG 5)), gG 7 6 true (.mv (tG 0)), gG 8 6 true (.mv (tG 0)), gG 9 6 true (.len (tG 8)), gG 10 6 true (.bin .sub (tG 9) (cG 1)), gG 11 6 true (.iads 1 (tG 7) (tG 10)), gG 12 6 true (.ld (tG 11)), gG 13 6 true (.bin .eql (tG 12) (cG 0)), oG 14 (.pick (tG 6) (tG 13) (.c (.b false)))]
noncomputable def f89_r2 : List EOper := [oG 15 (.mv (tG 0)), oG 16 (.mv (tG 0)), oG 17 (.len (tG 16)), oG 18 (.bin .sub (tG 17) (cG 1)), oG 19 (.slice 1 (tG 15) none (some (tG 18)) none), oG 0 (.as (tG 19))]
noncomputable def f89_l0 : EC := (.seq (.seq (.reg f89_r1) (.cond (tG 14) .skip (.exit 0))) (.block 1 (.reg f89_r2)))
noncomputable def f89_r3 : List EOper := [oG 20 (.mv (tG 0)), oG 2 (.as (tG 20))]
noncomputable def f89_c : EC := (.seq (.reg f89_r0) (.seq (.block 0 (.loop f89_l0)) (.seq (.reg f89_r3) .ret)))
noncomputable def f89 : EF := ⟨21, [.tmp (.ofNat 2)], f89_c, none⟩
theorem f89_rs : f89.rs = [.tmp (.ofNat 2)] := of_eq_true (eq_self _)
noncomputable def f58_r0 : List EOper := [oG 2 (.alloc 2 [.sn, .sn])]
noncomputable def f58_r1 : List EOper := [oG 3 (.alloc 2 [.sn, .sn])]
noncomputable def f58_r2 : List EOper := [oG 6 (.mv (tG 0)), oG 7 (.len (tG 6)), oG 8 (.mv (cG 0))]
noncomputable def f58_r3 : List EOper := [oG 9 (.bin .lss (tG 8) (tG 7))]
noncomputable def f58_r4 : List EOper := [oG 10 (.mv (tG 8)), oG 11 (.iads 1 (tG 6) (tG 8)), oG 12 (.ld (tG 11)), oG 4 (.as (tG 10)), oG 5 (.as (tG 12))]
noncomputable def f58_r5 : List EOper := [oG 13 (.mv (tG 4)), oG 14 (.bin .rem (tG 13) (cG 2)), oG 15 (.mv (tG 4)), oG 16 (.bin .rem (tG 15) (cG 2)), oG 17 (.iadr 2 1 (tG 3) (tG 16)), oG 18 (.ld (tG 17)), oG 19 (.mv (tG 5)), oG 20 (.bslice 1 1 [(.i .i64 (.ofNat 0))] [(0, 1, (tG 19))]), oG 21 (.app 1 (tG 18) (tG 20)), oG 22 (.iadr 2 1 (tG 3) (tG 14)), ⟨none, none, .st 1 (tG 22) (tG 21)⟩]
noncomputable def f58_r6 : List EOper := [oG 23 (.bin .add (tG 8) (cG 1)), oG 8 (.mv (tG 23))]
noncomputable def f58_l0 : EC := (.seq (.reg f58_r3) (.seq (.cond (tG 9) .skip (.exit 0)) (.seq (.block 1 (.seq (.reg f58_r4) (.reg f58_r5))) (.reg f58_r6))))
noncomputable def f58_r7 : List Stage := [⟨[oG 24 (.iadr 2 1 (tG 3) (cG 0)), oG 25 (.ld (tG 24)), oG 27 (.iadr 2 1 (tG 3) (cG 1)), oG 28 (.ld (tG 27))], [], (some (oG 26 (.call (fG 89) [(tG 25)]))), []⟩, ⟨[], [oG 27 (.iadr 2 1 (tG 3) (cG 1)), oG 28 (.ld (tG 27))], (some (oG 29 (.call (fG 89) [(tG 28)]))), []⟩, ⟨[oG 30 (.build [.sn, .sn] [(0, 1, (tG 26)), (1, 1, (tG 29))])], [], (some ⟨none, none, .st 2 (tG 2) (tG 30)⟩), []⟩, ⟨[], [], none, []⟩]
noncomputable def f58_c : EC := (.seq (.reg f58_r0) (.seq (.reg f58_r1) (.seq (.seq (.reg f58_r2) (.block 0 (.loop f58_l0))) (.seq (.draw f58_r7) .ret))))
noncomputable def f58 : EF := ⟨31, [.celln (.ofNat 2) 2], f58_c, none⟩
theorem f58_rs : f58.rs = [.celln (.ofNat 2) 2] := of_eq_true (eq_self _)
noncomputable def f18_r0 : List EOper := [oG 2 (.alloc 2 [.sn, .sn]), oG 3 (.as (cG 0))]
noncomputable def f18_r1 : List EOper := [oG 5 (.mv (tG 0)), oG 6 (.call (fG 14) [(tG 5)]), oG 4 (.as (tG 6))]
noncomputable def f18_r2 : List EOper := [oG 7 (.mv (tG 4)), oG 8 (.bin .neq (tG 7) (cG 0))]
noncomputable def f18_r3 : List EOper := [oG 9 (.build [.sn, .sn] []), oG 10 (.mv (tG 4)), ⟨none, none, .st 2 (tG 2) (tG 9)⟩, oG 3 (.as (tG 10))]
noncomputable def f18_r4 : List EOper := [oG 11 (.mv (tG 0)), oG 12 (.call (fG 58) [(tG 11)]), ⟨none, none, .st 2 (tG 2) (tG 12)⟩, oG 3 (.as (cG 0))]
noncomputable def f18_c : EC := (.seq (.reg f18_r0) (.seq (.seq (.reg f18_r1) (.seq (.reg f18_r2) (.cond (tG 8) (.seq (.reg f18_r3) .ret) .skip))) (.seq (.reg f18_r4) .ret)))
noncomputable def f18 : EF := ⟨13, [.celln (.ofNat 2) 2, .tmp (.ofNat 3)], f18_c, none⟩
theorem f18_rs : f18.rs = [.celln (.ofNat 2) 2, .tmp (.ofNat 3)] := of_eq_true (eq_self _)
noncomputable def f68_r0 : List EOper := [oG 2 (.as (.c .sn))]
noncomputable def f68_r1 : List EOper := [oG 4 (.mv (tG 0)), oG 5 (.len (tG 4)), oG 3 (.as (tG 5))]
noncomputable def f68_r2 : List EOper := [oG 6 (.mv (tG 3)), oG 7 (.bin .gtr (tG 6) (cG 0)), oG 8 (.mv (tG 7)), gG 9 8 true (.mv (tG 0)), gG 10 8 true (.mv (tG 3)), gG 11 8 true (.bin .sub (tG 10) (cG 1)), gG 12 8 true (.iads 1 (tG 9) (tG 11)), gG 13 8 true (.ld (tG 12)), gG 14 8 true (.bin .eql (tG 13) (cG 0)), oG 15 (.pick (tG 8) (tG 14) (.c (.b false)))]
noncomputable def f68_r3 : List EOper := [oG 16 (.mv (tG 3)), oG 17 (.bin .sub (tG 16) (cG 1)), oG 3 (.as (tG 17))]
noncomputable def f68_l0 : EC := (.seq (.seq (.reg f68_r2) (.cond (tG 15) .skip (.exit 0))) (.block 1 (.reg f68_r3)))
noncomputable def f68_r4 : List EOper := [oG 18 (.mv (tG 0)), oG 19 (.mv (tG 3)), oG 20 (.slice 1 (tG 18) none (some (tG 19)) none), oG 2 (.as (tG 20))]
noncomputable def f68_c : EC := (.seq (.reg f68_r0) (.seq (.reg f68_r1) (.seq (.block 0 (.loop f68_l0)) (.seq (.reg f68_r4) .ret))))
noncomputable def f68 : EF := ⟨21, [.tmp (.ofNat 2)], f68_c, none⟩
noncomputable def f26_r0 : List EOper := [oG 2 (.alloc 2 [.sn, .sn])]
noncomputable def f26_r1 : List EOper := [oG 3 (.alloc 2 [.sn, .sn])]
noncomputable def f26_r2 : List EOper := [oG 4 (.as (cG 0))]
noncomputable def f26_r3 : List EOper := [oG 6 (.mv (tG 4)), oG 7 (.mv (tG 0)), oG 8 (.len (tG 7)), oG 9 (.bin .lss (tG 6) (tG 8))]
noncomputable def f26_r4 : List EOper := [oG 12 (.mv (tG 4)), oG 13 (.bin .rem (tG 12) (cG 2)), oG 14 (.iadr 2 1 (tG 3) (tG 13)), oG 15 (.ld (tG 14)), oG 5 (.as (tG 15))]
noncomputable def f26_r5 : List EOper := [oG 16 (.mv (tG 4)), oG 17 (.bin .rem (tG 16) (cG 2)), oG 18 (.mv (tG 5)), oG 19 (.mv (tG 0)), oG 20 (.mv (tG 4)), oG 21 (.iads 1 (tG 19) (tG 20)), oG 22 (.ld (tG 21)), oG 23 (.bslice 1 1 [(.i .i64 (.ofNat 0))] [(0, 1, (tG 22))]), oG 24 (.app 1 (tG 18) (tG 23)), oG 25 (.iadr 2 1 (tG 3) (tG 17)), ⟨none, none, .st 1 (tG 25) (tG 24)⟩]
noncomputable def f26_r6 : List EOper := [oG 10 (.mv (tG 4)), oG 11 (.bin .add (tG 10) (cG 1)), oG 4 (.as (tG 11))]
noncomputable def f26_l0 : EC := (.seq (.seq (.reg f26_r3) (.cond (tG 9) .skip (.exit 0))) (.seq (.block 1 (.seq (.reg f26_r4) (.reg f26_r5))) (.reg f26_r6)))
noncomputable def f26_r7 : List Stage := [⟨[oG 26 (.iadr 2 1 (tG 3) (cG 0)), oG 27 (.ld (tG 26)), oG 29 (.iadr 2 1 (tG 3) (cG 1)), oG 30 (.ld (tG 29))], [], (some (oG 28 (.call (fG 68) [(tG 27)]))), []⟩, ⟨[], [oG 29 (.iadr 2 1 (tG 3) (cG 1)), oG 30 (.ld (tG 29))], (some (oG 31 (.call (fG 68) [(tG 30)]))), []⟩, ⟨[oG 32 (.build [.sn, .sn] [(0, 1, (tG 28)), (1, 1, (tG 31))])], [], (some ⟨none, none, .st 2 (tG 2) (tG 32)⟩), []⟩, ⟨[], [], none, []⟩]
noncomputable def f26_c : EC := (.seq (.reg f26_r0) (.seq (.reg f26_r1) (.seq (.seq (.reg f26_r2) (.block 0 (.loop f26_l0))) (.seq (.draw f26_r7) .ret))))
noncomputable def f26 : EF := ⟨33, [.celln (.ofNat 2) 2], f26_c, none⟩
noncomputable def f64_r0 : List EOper := [oG 2 (.as (.c .sn))]
noncomputable def f64_r1 : List EOper := [oG 3 (.mv (tG 0)), oG 4 (.isnil false (tG 3))]
noncomputable def f64_r2 : List EOper := [oG 2 (.as (.c .sn))]
noncomputable def f64_r3 : List EOper := [oG 5 (.bslice 0 1 [] []), oG 6 (.mv (tG 0)), oG 7 (.app 1 (tG 5) (tG 6)), oG 2 (.as (tG 7))]
noncomputable def f64_c : EC := (.seq (.reg f64_r0) (.seq (.seq (.reg f64_r1) (.cond (tG 4) (.seq (.reg f64_r2) .ret) .skip)) (.seq (.reg f64_r3) .ret)))
noncomputable def f64 : EF := ⟨8, [.tmp (.ofNat 2)], f64_c, none⟩
noncomputable def f65_r0 : List EOper := [oG 4 (.mv (tG 0)), oG 5 (.len (tG 4)), oG 6 (.bin .sub (tG 5) (cG 1)), oG 2 (.as (cG 0)), oG 3 (.as (tG 6))]
noncomputable def f65_r1 : List EOper := [oG 7 (.mv (tG 2)), oG 8 (.mv (tG 3)), oG 9 (.bin .lss (tG 7) (tG 8))]
noncomputable def f65_r2 : List Stage := [⟨[oG 14 (.mv (tG 0)), oG 15 (.mv (tG 2)), oG 16 (.mv (tG 0)), oG 17 (.mv (tG 3)), oG 18 (.mv (tG 0)), oG 19 (.mv (tG 3)), oG 20 (.iads 1 (tG 18) (tG 19)), oG 21 (.ld (tG 20)), oG 22 (.mv (tG 0)), oG 23 (.mv (tG 2)), oG 24 (.iads 1 (tG 22) (tG 23)), oG 25 (.ld (tG 24)), oG 26 (.iads 1 (tG 14) (tG 15))], [], (some ⟨none, none, .st 1 (tG 26) (tG 21)⟩), []⟩, ⟨[oG 27 (.iads 1 (tG 16) (tG 17))], [oG 16 (.mv (tG 0)), oG 17 (.mv (tG 3))], (some ⟨none, none, .st 1 (tG 27) (tG 25)⟩), []⟩, ⟨[], [], none, []⟩]
noncomputable def f65_r3 : List EOper := [oG 10 (.mv (tG 2)), oG 11 (.bin .add (tG 10) (cG 1)), oG 12 (.mv (tG 3)), oG 13 (.bin .sub (tG 12) (cG 1)), oG 2 (.as (tG 11)), oG 3 (.as (tG 13))]
noncomputable def f65_l0 : EC := (.seq (.seq (.reg f65_r1) (.cond (tG 9) .skip (.exit 0))) (.seq (.block 1 (.draw f65_r2)) (.reg f65_r3)))
noncomputable def f65_c : EC := (.seq (.reg f65_r0) (.block 0 (.loop f65_l0)))
noncomputable def f65 : EF := ⟨28, [], f65_c, none⟩
noncomputable def f22_r0 : List EOper := [oG 2 (.as (.c .sn)), oG 3 (.as (cG 0))]
noncomputable def f22_r1 : List EOper := [oG 6 (.mv (tG 0)), oG 7 (.call (fG 14) [(tG 6)]), oG 4 (.as (tG 7))]
noncomputable def f22_r2 : List EOper := [oG 8 (.mv (tG 4)), oG 9 (.bin .neq (tG 8) (cG 0))]
noncomputable def f22_r3 : List EOper := [oG 10 (.mv (tG 4)), oG 2 (.as (.c .sn)), oG 3 (.as (tG 10))]
noncomputable def f22_r4 : List EOper := [oG 11 (.mv (tG 0)), oG 12 (.iads 1 (tG 11) (cG 0)), oG 13 (.ld (tG 12)), oG 14 (.bin .eql (tG 13) (cG 0))]
noncomputable def f22_r5 : List EOper := [oG 2 (.as (.c .sn)), oG 3 (.as (cG 1))]
noncomputable def f22_r6 : List EOper := [oG 15 (.mv (tG 0)), oG 16 (.call (fG 64) [(tG 15)]), oG 5 (.as (tG 16))]
noncomputable def f22_r7 : List EOper := [oG 17 (.mv (tG 5)), oG 18 (.call (fG 65) [(tG 17)])]
noncomputable def f22_r8 : List EOper := [oG 19 (.mv (tG 5)), oG 2 (.as (tG 19)), oG 3 (.as (cG 0))]
noncomputable def f22_c : EC := (.seq (.reg f22_r0) (.seq (.seq (.reg f22_r1) (.seq (.reg f22_r2) (.cond (tG 9) (.seq (.reg f22_r3) .ret) .skip))) (.seq (.seq (.reg f22_r4) (.cond (tG 14) (.seq (.reg f22_r5) .ret) .skip)) (.seq (.reg f22_r6) (.seq (.reg f22_r7) (.seq (.reg f22_r8) .ret))))))
noncomputable def f22 : EF := ⟨20, [.tmp (.ofNat 2), .tmp (.ofNat 3)], f22_c, none⟩
theorem f22_rs : f22.rs = [.tmp (.ofNat 2), .tmp (.ofNat 3)] := of_eq_true (eq_self _)
noncomputable def f32_r0 : List EOper := [oG 2 (.as (.c .sn))]
noncomputable def f32_r1 : List EOper := [oG 3 (.as (.c .sn))]
noncomputable def f32_r2 : List EOper := [oG 5 (.mv (tG 0)), oG 6 (.len (tG 5)), oG 7 (.bin .sub (tG 6) (cG 1)), oG 4 (.as (tG 7))]
noncomputable def f32_r3 : List EOper := [oG 8 (.mv (tG 4)), oG 9 (.bin .geq (tG 8) (cG 0))]
noncomputable def f32_r4 : List EOper := [oG 12 (.mv (tG 3)), oG 13 (.mv (tG 0)), oG 14 (.mv (tG 4)), oG 15 (.iads 1 (tG 13) (tG 14)), oG 16 (.ld (tG 15)), oG 17 (.bslice 1 1 [(.i .i64 (.ofNat 0))] [(0, 1, (tG 16))]), oG 18 (.app 1 (tG 12) (tG 17)), oG 3 (.as (tG 18))]
noncomputable def f32_r5 : List EOper := [oG 10 (.mv (tG 4)), oG 11 (.bin .sub (tG 10) (cG 1)), oG 4 (.as (tG 11))]
noncomputable def f32_l0 : EC := (.seq (.seq (.reg f32_r3) (.cond (tG 9) .skip (.exit 0))) (.seq (.block 1 (.reg f32_r4)) (.reg f32_r5)))
noncomputable def f32_r6 : List EOper := [oG 19 (.mv (tG 3)), oG 2 (.as (tG 19))]
noncomputable def f32_c : EC := (.seq (.reg f32_r0) (.seq (.reg f32_r1) (.seq (.seq (.reg f32_r2) (.block 0 (.loop f32_l0))) (.seq (.reg f32_r6) .ret))))
noncomputable def f32 : EF := ⟨20, [.tmp (.ofNat 2)], f32_c, none⟩
section
variable {fs : T EF} {h : H} {v w : V} {A B L : List Int}
def f89_I (h0 : H) (v : V) (L : List Int) (j : Nat) (fr : Fr) (h1 : H) : Prop := j ≤ L.length ∧ h1 = h0 ∧ trN L L.length = trN L j ∧ ∃ u, Sr iE h0 u (L.take j) ∧ (∀ b, Own b v → Own b u) ∧ fr.get (K.ofNat 0) = some (u)
theorem f89_ret (hv : Sr iE h v L) (hL : L.length ≤ 1000) : Ret fs f89 [v] h fun r h' => Sr iE h r (trm L) ∧ (∀ b, Own b v → Own b r) ∧ h' = h := by
  apply ret_of rfl
  show W fs none f89_c _ _ _
  unfold f89_c
  simp (disch := omega) only [f89_r0, bz]
  refine W_loop (f89_I h v L) (fun j => j) ?_ L.length ⟨Nat.le_refl _, rfl, rfl, v, by rw [List.take_length]; exact hv, (fun _ h => h), by simp (disch := omega) only [getK_set, Nat.reduceEqDiff, ↓reduceIte]⟩
  rintro j fr h1 ⟨hj, rfl, hn, u, su, ou, g0⟩
  have hlen : (L.take j).length = j := by simp; omega
  have e1 : ∀ h, lenV u h = .ok (.i .i64 (j : Int)) h := fun h => by rw [su.len, hlen]
  unfold f89_l0
  have out : trN L L.length = j → Sr iE h1 u (trm L) := fun e => by unfold trm; rw [e]; exact su
  by_cases h0 : j = 0
  · have d1 : decide ((j : Int) > 0) = false := decide_eq_false (by omega)
    simp (disch := omega) only [f89_r1, f89_r3, f89_rs, Option.some.injEq, exists_eq_left', Nat.reduceEqDiff, ↓reduceIte, Bool.false_eq_true, g0, e1, d1, and_true, bz]
    exact ⟨out (by rw [hn, h0]; rfl), ou⟩
  · have d1 : decide ((j : Int) > 0) = true := decide_eq_true (by omega)
    have ei : (j : Int) - 1 = ((j - 1 : Nat) : Int) := by omega
    obtain ⟨p, p1, p2⟩ := su.at (j - 1) (by omega)
    have hx : (L.take j)[j - 1]'(by omega) = L.getD (j - 1) 0 := by rw [List.getElem_take, getD_lt (by omega)]
    have p2 : loadV h1 p one? = .ok (.i .i64 (L.getD (j - 1) 0)) h1 := by rw [← hx]; exact p2
    have hs : trN L j = if L.getD (j - 1) 0 = 0 then trN L (j - 1) else j := by
      obtain ⟨i, rfl⟩ : ∃ i, j = i + 1 := ⟨j - 1, by omega⟩
      rfl
    by_cases hz : L.getD (j - 1) 0 = 0
    · have d2 : decide (L.getD (j - 1) 0 = 0) = true := decide_eq_true hz
      rw [if_pos hz] at hs
      obtain ⟨u', q1, q2, q3, _⟩ := su.cut (lo := none) (hi := some (.i .i64 ((j - 1 : Nat) : Int))) (l := 0) (u := j - 1) bnd_none bnd_i (by omega) (by omega)
      rw [List.drop_zero, List.take_take, Nat.min_eq_left (by omega)] at q2
      simp (disch := omega) only [f89_r1, f89_r2, x_slice, sliceV_eq, Option.map_none, Option.map_some, Nat.reduceEqDiff, ↓reduceIte, g0, e1, d1, ei, fw64, p1, p2, d2, q1, bz]
      exact ⟨j - 1, by omega, by omega, rfl, by rw [hn, hs], u', q2, (fun b hb => q3 b (ou b hb)), by simp (disch := omega) only [getK_set, ↓reduceIte]⟩
    · have d2 : decide (L.getD (j - 1) 0 = 0) = false := decide_eq_false hz
      rw [if_neg hz] at hs
      simp (disch := omega) only [f89_r1, f89_r3, f89_rs, Option.some.injEq, exists_eq_left', Nat.reduceEqDiff, ↓reduceIte, Bool.false_eq_true, g0, e1, d1, ei, fw64, p1, p2, d2, and_true, bz]
      exact ⟨out (by rw [hn, hs]), ou⟩
structure HvI (h2 h1 : H) (id : K) (u0 u1 : V) (L0 L1 : List Int) : Prop where
  s0 : Sl iE h1 u0 L0
  s1 : Sl iE h1 u1 L1
  o0 : Own (id.nat + 1) u0
  o1 : Own (id.nat + 1) u1
  sep : ∀ k off n sz, u1 = .sl k off n sz → NotIn k u0
  gr : Grow id.nat h2 h1
  eb : h1.get id = .cells 2 [u0, u1]
  nx : id.nat + 1 ≤ h1.nx.nat
theorem HvI.ld0 {h2 h1 : H} {id : K} {u0 u1 : V} {L0 L1 : List Int} (t : HvI h2 h1 id u0 u1 L0 L1) : loadV h1 (.p id (0 + 0 * 1)) one? = .ok u0 h1 := load_p t.eb rfl
theorem HvI.ld1 {h2 h1 : H} {id : K} {u0 u1 : V} {L0 L1 : List Int} (t : HvI h2 h1 id u0 u1 L0 L1) : loadV h1 (.p id (0 + 1 * 1)) one? = .ok u1 h1 := load_p t.eb rfl
theorem HvI.push0 {h2 h1 : H} {id : K} {u0 u1 : V} {L0 L1 : List Int} (t : HvI h2 h1 id u0 u1 L0 L1) (hc : HC h1) (hn : L0.length < 16777216) (x : Int) :
    ∃ u0' h3, appV 1 (h1.new (.cells (1 * 1) [.i .i64 x])) u0 (.sl h1.nx 0 1 1) = .ok u0' h3 ∧ storeV h3 1 (.p id (0 + 0 * 1)) u0' = .ok undefV (h3.put id (.cells 2 [u0', u1])) ∧ HvI h2 (h3.put id (.cells 2 [u0', u1])) id u0' u1 (L0 ++ [x]) L1 := by
  obtain ⟨u0', h3, a1, a2, a3, a4, a5⟩ := Sl.push (e := iE) (x := x) (c := .i .i64 x) rfl t.s0 t.o0 t.nx hc hn
  have hid : h3.get id = .cells 2 [u0, u1] := (a4.old id (Nat.lt_succ_self _)).trans t.eb
  have ps := Nat.le_trans t.nx a4.nx
  have s1' : Sl iE h3 u1 L1 := t.s1.same fun k off n sz e => (a5 k (t.s1.lt hc _ _ _ _ e) (t.sep _ _ _ _ e)).1
  refine ⟨u0', h3, a1, by rw [store_p (m := 2) (cs := [u0, u1]) (xs := [u0']) hid a2.one (by omega)]; rfl, ⟨a2.put (a3.notIn (by omega)) _, s1'.put (t.o1.notIn (by omega)) _, a3, t.o1, fun k off n sz e => (a5 k (t.s1.lt hc _ _ _ _ e) (t.sep _ _ _ _ e)).2, (t.gr.trans (a4.low (by omega))).trans (Grow.put (Nat.le_refl _) (by omega) _), get_put_same, by rw [nx_put]; omega⟩⟩
theorem HvI.push1 {h2 h1 : H} {id : K} {u0 u1 : V} {L0 L1 : List Int} (t : HvI h2 h1 id u0 u1 L0 L1) (hc : HC h1) (hn : L1.length < 16777216) (x : Int) :
    ∃ u1' h3, appV 1 (h1.new (.cells (1 * 1) [.i .i64 x])) u1 (.sl h1.nx 0 1 1) = .ok u1' h3 ∧ storeV h3 1 (.p id (0 + 1 * 1)) u1' = .ok undefV (h3.put id (.cells 2 [u0, u1'])) ∧ HvI h2 (h3.put id (.cells 2 [u0, u1'])) id u0 u1' L0 (L1 ++ [x]) := by
  obtain ⟨u1', h3, a1, a2, a3, a4, a5⟩ := Sl.push (e := iE) (x := x) (c := .i .i64 x) rfl t.s1 t.o1 t.nx hc hn
  have hid : h3.get id = .cells 2 [u0, u1] := (a4.old id (Nat.lt_succ_self _)).trans t.eb
  have ps := Nat.le_trans t.nx a4.nx
  have sep' : ∀ k off n sz, u0 = .sl k off n sz → NotIn k u1 := fun k off n sz e off' n' sz' e' => t.sep k off' n' sz' e' off n sz e
  have s0' : Sl iE h3 u0 L0 := t.s0.same fun k off n sz e => (a5 k (t.s0.lt hc _ _ _ _ e) (sep' _ _ _ _ e)).1
  refine ⟨u1', h3, a1, by rw [store_p (m := 2) (cs := [u0, u1]) (xs := [u1']) hid a2.one (by omega)]; rfl, ⟨s0'.put (t.o0.notIn (by omega)) _, a2.put (a3.notIn (by omega)) _, t.o0, a3, fun k off n sz e off' n' sz' e' => (a5 k (t.s0.lt hc _ _ _ _ e') (sep' _ _ _ _ e')).2 off n sz e, (t.gr.trans (a4.low (by omega))).trans (Grow.put (Nat.le_refl _) (by omega) _), get_put_same, by rw [nx_put]; omega⟩⟩
def f58_I (h2 : H) (v : V) (idr id : K) (A : List Int) (j : Nat) (fr : Fr) (h1 : H) : Prop := j ≤ A.length ∧ ∃ u0 u1, HvI h2 h1 id u0 u1 (evL A j) (odL A j) ∧ fr.get (K.ofNat 2) = some (.p idr 0) ∧ fr.get (K.ofNat 3) = some (.p id 0) ∧ fr.get (K.ofNat 6) = some (v) ∧ fr.get (K.ofNat 7) = some (.i .i64 (A.length : Int)) ∧ fr.get (K.ofNat 8) = some (.i .i64 (j : Int))
theorem two_new (h : H) : Grow h.nx.nat h ((h.new (.cells 2 [.sn, .sn])).new (.cells 2 [.sn, .sn])) ∧ ((h.new (.cells 2 [.sn, .sn])).new (.cells 2 [.sn, .sn])).get h.nx = .cells 2 [.sn, .sn] ∧ ((h.new (.cells 2 [.sn, .sn])).new (.cells 2 [.sn, .sn])).get (h.new (.cells 2 [.sn, .sn])).nx = .cells 2 [.sn, .sn] ∧ (h.new (.cells 2 [.sn, .sn])).nx.nat = h.nx.nat + 1 ∧ ((h.new (.cells 2 [.sn, .sn])).new (.cells 2 [.sn, .sn])).nx.nat = h.nx.nat + 2 := by
  have n1 := nx_new h (.cells 2 [.sn, .sn])
  have n2 := nx_new (h.new (.cells 2 [.sn, .sn])) (.cells 2 [.sn, .sn])
  exact ⟨(Grow.new (Nat.le_refl _) _).trans (Grow.new (by omega) _), (get_new_old (by omega)).trans get_new_same, get_new_same, n1, by omega⟩
theorem HvI.end_ {h2 h1 : H} {id idr : K} {u0 u1 x0 x1 : V} {L0 L1 M0 M1 : List Int} (t : HvI h2 h1 id u0 u1 L0 L1) (hr : idr.nat < id.nat) (e : h2.get idr = .cells 2 [.sn, .sn]) (s0 : Sr iE h1 x0 M0) (s1 : Sr iE h1 x1 M1) (o0 : Own (id.nat + 1) x0) (o1 : Own (id.nat + 1) x1) :
    storeV h1 2 (.p idr 0) (.agg [x0, x1]) = .ok undefV (h1.put idr (.cells 2 [x0, x1])) ∧ readP (h1.put idr (.cells 2 [x0, x1])) (.p idr 0) (many? 2) = some (.agg [x0, x1]) ∧ Sr iE (h1.put idr (.cells 2 [x0, x1])) x0 M0 ∧ Sr iE (h1.put idr (.cells 2 [x0, x1])) x1 M1 ∧ Grow idr.nat h1 (h1.put idr (.cells 2 [x0, x1])) := by
  have ei : h1.get idr = .cells 2 [.sn, .sn] := (t.gr.old _ hr).trans e
  have hn := t.nx
  refine ⟨?_, ?_, s0.put (o0.notIn (by omega)) _, s1.put (o1.notIn (by omega)) _, Grow.put (Nat.le_refl _) (by omega) _⟩
  · rw [store_p (m := 2) (cs := [.sn, .sn]) (xs := [x0, x1]) ei rfl (by omega)]; rfl
  · show ((h1.put idr (.cells 2 [x0, x1])).get idr).onC none (fun n cs => many? 2 cs n 0) = _
    rw [get_put_same]; rfl
theorem f58_ret (k89 : fs.get (.ofNat 89) = some f89) (hA : A.length ≤ 100) (hv : Sr iE h v A) (hc : HC h) : Ret fs f58 [v] h fun r h' => ∃ x0 x1, r = .agg [x0, x1] ∧ Sr iE h' x0 (trm (evL A A.length)) ∧ Sr iE h' x1 (trm (odL A A.length)) ∧ Own h.nx.nat x0 ∧ Own h.nx.nat x1 ∧ Grow h.nx.nat h h' := by
  apply ret_of rfl
  show W fs none f58_c _ _ _
  unfold f58_c
  obtain ⟨gA, e1, e2, n1, n2⟩ := two_new h
  simp (disch := omega) only [f58_r0, f58_r1, f58_r2, Nat.reduceEqDiff, ↓reduceIte, hv.len, bz]
  generalize hidd : (h.new (.cells 2 [.sn, .sn])).nx = id at *
  generalize (h.new (.cells 2 [.sn, .sn])).new (.cells 2 [.sn, .sn]) = h2 at *
  refine W_loop (f58_I h2 v h.nx id A) (fun j => A.length - j) ?_ 0 ⟨Nat.zero_le _, .sn, .sn, ⟨Sl.nil, Sl.nil, Own.sn, Own.sn, (fun _ _ _ _ e => by cases e), Grow.refl _ _, e2, by omega⟩, by simp (disch := omega) only [getK_set, Nat.reduceEqDiff, ↓reduceIte, and_self, Int.natCast_zero]⟩
  rintro j fr h1 ⟨hj, u0, u1, t, g2, g3, g6, g7, g8⟩
  have hG := gA.trans (t.gr.low (by omega))
  have hc1 := hG.hc hc
  have hv1 := hv.grow hc hG
  unfold f58_l0
  by_cases hlt : j < A.length
  · have d1 : decide ((j : Int) < (A.length : Int)) = true := decide_eq_true (by omega)
    obtain ⟨p, p1, p2⟩ := hv1.at j hlt
    have p2 : loadV h1 p one? = .ok (.i .i64 (A.getD j 0)) h1 := by rw [getD_lt hlt]; exact p2
    have h20 : decide ((2 : Int) = 0) = false := rfl
    rcases Nat.mod_two_eq_zero_or_one j with hm | hm
    · have em : (j : Int).tmod 2 = 0 := by rw [show (2 : Int) = ((2 : Nat) : Int) from rfl, ← Int.ofNat_tmod, hm]; rfl
      obtain ⟨u0', h3, a1, a2, t'⟩ := t.push0 hc1 (by have := evL_le (A := A) (j := j); omega) (A.getD j 0)
      rw [← evL_s0 hm, show odL A j = odL A (j + 1) from (odL_s0 hm).symm] at t'
      simp (disch := omega) only [f58_r3, f58_r4, f58_r5, f58_r6, x_iadr, x_app, bin_rem, onP_p, Nat.reduceEqDiff, ↓reduceIte, ix2_0, g3, g6, g7, g8, d1, p1, p2, em, t.ld0, a1, a2, fw64, bz]
      exact ⟨j + 1, by omega, by omega, u0', u1, t', by simp (disch := omega) only [getK_set, Nat.reduceEqDiff, ↓reduceIte, g2, g3, g6, g7, and_self, Int.natCast_add, Int.natCast_one]⟩
    · have em : (j : Int).tmod 2 = 1 := by rw [show (2 : Int) = ((2 : Nat) : Int) from rfl, ← Int.ofNat_tmod, hm]; rfl
      obtain ⟨u1', h3, a1, a2, t'⟩ := t.push1 hc1 (by have := odL_le (A := A) (j := j); omega) (A.getD j 0)
      rw [← odL_s1 hm, show evL A j = evL A (j + 1) from (evL_s1 hm).symm] at t'
      simp (disch := omega) only [f58_r3, f58_r4, f58_r5, f58_r6, x_iadr, x_app, bin_rem, onP_p, Nat.reduceEqDiff, ↓reduceIte, ix2_1, g3, g6, g7, g8, d1, p1, p2, em, t.ld1, a1, a2, fw64, bz]
      exact ⟨j + 1, by omega, by omega, u0, u1', t', by simp (disch := omega) only [getK_set, Nat.reduceEqDiff, ↓reduceIte, g2, g3, g6, g7, and_self, Int.natCast_add, Int.natCast_one]⟩
  · have d1 : decide ((j : Int) < (A.length : Int)) = false := decide_eq_false (by omega)
    obtain rfl : j = A.length := by omega
    have l0 := evL_le (A := A) (j := A.length)
    have l1 := odL_le (A := A) (j := A.length)
    have b1 := t.s1.beq
    simp (disch := omega) only [f58_r3, f58_r7, w_draw, kg, xg_ld, xg_iadr, fresh_nil, onP_p, Nat.reduceEqDiff, ↓reduceIte, Bool.false_eq_true, ix2_0, ix2_1, g3, g7, g8, d1, t.ld0, t.ld1, bz]
    refine (callP_0 (ef := f89) k89 rfl (f89_ret t.s0.sr (by omega))).mono ?_
    rintro x0 h3 ⟨s0, o0, rfl⟩
    simp (disch := omega) only [fresh_nil, stay_cons, again_ok, stay_ld, beq_p, onP_p, Nat.reduceEqDiff, ↓reduceIte, stay_iadr, ix2_1, g3, t.ld1, b1, bz]
    refine (callP_0 (ef := f89) k89 rfl (f89_ret t.s1.sr (by omega))).mono ?_
    rintro x1 h3 ⟨s1, o1, rfl⟩
    obtain ⟨q1, q2, q3, q4, q5⟩ := t.end_ (idr := h.nx) (by omega) e1 s0 s1 (o0 _ t.o0) (o1 _ t.o1)
    have c0 : cellsN 1 x0 = some [x0] := s0.one
    have c1 : cellsN 1 x1 = some [x1] := s1.one
    simp (disch := omega) only [f58_rs, kg, xg_build, fresh_nil, stK_n, readRs_n, Option.some.injEq, exists_eq_left', Nat.reduceEqDiff, ↓reduceIte, fill_2, set_2, g2, c0, c1, q1, q2, bz]
    exact ⟨_, _, rfl, q3, q4, (o0 _ t.o0).low (by omega), (o1 _ t.o1).low (by omega), hG.trans q5⟩
structure CallsH (fs : T EF) : Prop extends CallsS fs where
  c89 : fs.get (K.ofNat 89) = some f89
  c68 : fs.get (K.ofNat 68) = some f68
  c58 : fs.get (K.ofNat 58) = some f58
  c64 : fs.get (K.ofNat 64) = some f64
  c65 : fs.get (K.ofNat 65) = some f65
theorem f18_ret (k : CallsH fs) (hA : plB A = true) (hv : Sr iE h v A) (hc : HC h) : Ret fs f18 [v] h fun r h' => ∃ x0 x1, r = .tup [.agg [x0, x1], .i .i64 0] ∧ Sr iE h' x0 (trm (evL A A.length)) ∧ Sr iE h' x1 (trm (odL A A.length)) ∧ Grow h.nx.nat h h' := by
  obtain ⟨l1, l2, _, _⟩ := plB_len hA
  apply ret_of rfl
  show W fs none f18_c _ _ _
  unfold f18_c
  have ca : ckI A = 0 := by unfold ckI; rw [if_pos hA]
  have gA := Grow.new (Nat.le_refl h.nx.nat) (.cells 2 [.sn, .sn])
  have n1 := nx_new h (.cells 2 [.sn, .sn])
  have e1 : (h.new (.cells 2 [.sn, .sn])).get h.nx = .cells 2 [.sn, .sn] := get_new_same
  have hcA := gA.hc hc
  have hvA := hv.grow hc gA
  have d0 : decide ((0 : Int) ≠ 0) = false := rfl
  simp (disch := omega) only [f18_r0, bz]
  generalize h.new (.cells 2 [.sn, .sn]) = hA0 at *
  have eA := fun P => f14_eq k.toCSm k.c54 k.c14 hvA (by omega) (P := P)
  simp (disch := omega) only [f18_r1, f18_r2, f18_r4, Nat.reduceEqDiff, ↓reduceIte, Bool.false_eq_true, eA, ca, d0, bz]
  refine (callP_0 (ef := f58) k.c58 rfl (f58_ret k.c89 (by omega) hvA hcA)).mono ?_
  rintro r h1 ⟨x0, x1, rfl, s0, s1, o0, o1, g1⟩
  have ei : h1.get h.nx = .cells 2 [.sn, .sn] := (g1.old _ (by omega)).trans e1
  have hlt : h.nx.nat < h1.nx.nat := by have := g1.nx; omega
  have st : storeV h1 2 (.p h.nx 0) (.agg [x0, x1]) = .ok undefV (h1.put h.nx (.cells 2 [x0, x1])) := by
    rw [store_p (m := 2) (cs := [.sn, .sn]) (xs := [x0, x1]) ei rfl (by omega)]; rfl
  have rd : readP (h1.put h.nx (.cells 2 [x0, x1])) (.p h.nx 0) (many? 2) = some (.agg [x0, x1]) := by
    show ((h1.put h.nx (.cells 2 [x0, x1])).get h.nx).onC none (fun n cs => many? 2 cs n 0) = _
    rw [get_put_same]; rfl
  simp (disch := omega) only [f18_rs, readRs_n, Option.some.injEq, exists_eq_left', Nat.reduceEqDiff, ↓reduceIte, st, rd, bz]
  exact ⟨x0, x1, rfl, s0.put (o0.notIn (by omega)) _, s1.put (o1.notIn (by omega)) _, (gA.trans (g1.low (by omega))).trans (Grow.put (Nat.le_refl _) hlt _)⟩
end
end Go.Ev
namespace Go.Ev
open Go Go.RowKit
section
variable {fs : T EF} {h : H} {v w : V} {A B L : List Int}
structure CallsTe (fs : T EF) : Prop extends CallsH fs where
  c25 : fs.get (K.ofNat 25) = some f25
  c15 : fs.get (K.ofNat 15) = some f15
  c16 : fs.get (K.ofNat 16) = some f16
  c17 : fs.get (K.ofNat 17) = some f17
  c18 : fs.get (K.ofNat 18) = some f18
  c22 : fs.get (K.ofNat 22) = some f22
  c26 : fs.get (K.ofNat 26) = some f26
  c28 : fs.get (K.ofNat 28) = some f28
  c29 : fs.get (K.ofNat 29) = some f29
  c31 : fs.get (K.ofNat 31) = some f31
  c32 : fs.get (K.ofNat 32) = some f32
  aw : ∀ (h : H) (P : V → H → Prop), CallP fs (.fn (K.ofNat 19) []) [] h P = P (.b true) h
theorem box2 {h : H} {x0 x1 : V} (c0 : cellsN 1 x0 = some [x0]) (c1 : cellsN 1 x1 = some [x1]) : storeV (h.new (.cells 2 [.sn, .sn])) 2 (.p h.nx 0) (.agg [x0, x1]) = .ok undefV ((h.new (.cells 2 [.sn, .sn])).put h.nx (.cells 2 [x0, x1])) ∧ Grow h.nx.nat h ((h.new (.cells 2 [.sn, .sn])).put h.nx (.cells 2 [x0, x1])) ∧ ((h.new (.cells 2 [.sn, .sn])).put h.nx (.cells 2 [x0, x1])).get h.nx = .cells 2 [x0, x1] ∧ ((h.new (.cells 2 [.sn, .sn])).put h.nx (.cells 2 [x0, x1])).nx.nat = h.nx.nat + 1 := by
  have n1 := nx_new h (.cells 2 [.sn, .sn])
  have _ := c0
  have _ := c1
  refine ⟨?_, (Grow.new (Nat.le_refl _) _).trans (Grow.put (Nat.le_refl _) (by omega) _), get_put_same, by rw [nx_put]; exact n1⟩
  rw [store_p (m := 2) (cs := [.sn, .sn]) (xs := [x0, x1]) get_new_same rfl (by omega)]; rfl
end
end Go.Ev
namespace Go.Ev
open Go Go.RowKit
noncomputable def f20_r0 : List EOper := [oG 2 (.as (.c .sn)), oG 3 (.as (cG 0))]
noncomputable def f20_r1 : List EOper := [oG 10 (.mv (tG 0)), oG 11 (.call (fG 14) [(tG 10)]), oG 4 (.as (tG 11))]
noncomputable def f20_r2 : List EOper := [oG 12 (.mv (tG 4)), oG 13 (.bin .neq (tG 12) (cG 0))]
noncomputable def f20_r3 : List EOper := [oG 14 (.mv (tG 4)), oG 2 (.as (.c .sn)), oG 3 (.as (tG 14))]
noncomputable def f20_r4 : List EOper := [oG 16 (.mv (tG 0)), oG 17 (.call (fG 59) [(tG 16)]), oG 15 (.mv (tG 17)), oG 18 (.ext (tG 15) 0), oG 19 (.ext (tG 15) 1), oG 5 (.as (tG 18)), oG 6 (.as (tG 19))]
noncomputable def f20_r5 : List EOper := [oG 20 (.mv (tG 6)), oG 21 (.not (tG 20))]
noncomputable def f20_r6 : List EOper := [oG 2 (.as (.c .sn)), oG 3 (.as (cG 4))]
noncomputable def f20_r7 : List EOper := [oG 22 (.mv (tG 5)), oG 23 (.len (tG 22)), oG 24 (.mkslice 1 [.sn] (tG 23)), oG 7 (.as (tG 24))]
noncomputable def f20_r8 : List EOper := [oG 25 (.mv (tG 5)), oG 26 (.len (tG 25)), oG 27 (.mv (cG 0))]
noncomputable def f20_r9 : List EOper := [oG 28 (.bin .lss (tG 27) (tG 26))]
noncomputable def f20_r10 : List EOper := [oG 29 (.mv (tG 27)), oG 30 (.iads 8 (tG 25) (tG 27)), oG 31 (.ldn 8 (tG 30)), oG 9 (.alloc 8 [(.i .i64 (.ofNat 0)), (.i .i64 (.ofNat 0)), (.i .i64 (.ofNat 0)), (.i .i64 (.ofNat 0)), (.i .i64 (.ofNat 0)), (.i .i64 (.ofNat 0)), (.i .i64 (.ofNat 0)), (.i .i64 (.ofNat 0))]), oG 8 (.as (tG 29)), ⟨none, none, .st 8 (tG 9) (tG 31)⟩]
noncomputable def f20_r11 : List Stage := [⟨[oG 32 (.mv (tG 7)), oG 33 (.mv (tG 8)), oG 34 (.ldn 8 (tG 9)), oG 35 (.mv (tG 0)), oG 36 (.mv (tG 8))], [], (some (oG 37 (.call (fG 61) [(tG 35), (tG 36)]))), []⟩, ⟨[], [oG 32 (.mv (tG 7)), oG 33 (.mv (tG 8)), oG 34 (.ldn 8 (tG 9))], (some (oG 38 (.call (fG 60) [(tG 34), (tG 37)]))), []⟩, ⟨[oG 39 (.iads 1 (tG 32) (tG 33))], [oG 32 (.mv (tG 7)), oG 33 (.mv (tG 8))], (some ⟨none, none, .st 1 (tG 39) (tG 38)⟩), []⟩, ⟨[], [], none, []⟩]
noncomputable def f20_r12 : List EOper := [oG 40 (.bin .add (tG 27) (cG 1)), oG 27 (.mv (tG 40))]
noncomputable def f20_l0 : EC := (.seq (.reg f20_r9) (.seq (.cond (tG 28) .skip (.exit 0)) (.seq (.block 1 (.seq (.reg f20_r10) (.draw f20_r11))) (.reg f20_r12))))
noncomputable def f20_r13 : List EOper := [oG 41 (.mv (tG 7)), oG 2 (.as (tG 41)), oG 3 (.as (cG 0))]
noncomputable def f20_c : EC := (.seq (.reg f20_r0) (.seq (.seq (.reg f20_r1) (.seq (.reg f20_r2) (.cond (tG 13) (.seq (.reg f20_r3) .ret) .skip))) (.seq (.reg f20_r4) (.seq (.seq (.reg f20_r5) (.cond (tG 21) (.seq (.reg f20_r6) .ret) .skip)) (.seq (.reg f20_r7) (.seq (.seq (.reg f20_r8) (.block 0 (.loop f20_l0))) (.seq (.reg f20_r13) .ret)))))))
noncomputable def f20 : EF := ⟨42, [.tmp (.ofNat 2), .tmp (.ofNat 3)], f20_c, none⟩
theorem f20_rs : f20.rs = [.tmp (.ofNat 2), .tmp (.ofNat 3)] := of_eq_true (eq_self _)
noncomputable def f21_r0 : List EOper := [oG 2 (.as (cG 0)), oG 3 (.as (cG 0))]
noncomputable def f21_r1 : List EOper := [oG 7 (.mv (tG 0)), oG 8 (.call (fG 14) [(tG 7)]), oG 4 (.as (tG 8))]
noncomputable def f21_r2 : List EOper := [oG 9 (.mv (tG 4)), oG 10 (.bin .neq (tG 9) (cG 0))]
noncomputable def f21_r3 : List EOper := [oG 11 (.mv (tG 4)), oG 2 (.as (cG 0)), oG 3 (.as (tG 11))]
noncomputable def f21_r4 : List EOper := [oG 13 (.mv (tG 0)), oG 14 (.call (fG 59) [(tG 13)]), oG 12 (.mv (tG 14)), oG 15 (.ext (tG 12) 0), oG 16 (.ext (tG 12) 1), oG 5 (.as (tG 15)), oG 6 (.as (tG 16))]
noncomputable def f21_r5 : List Stage := [⟨[oG 17 (.mv (tG 6)), oG 18 (.not (tG 17)), oG 19 (.mv (tG 18)), gG 20 19 false (.mv (tG 5)), gG 21 19 false (.mv (tG 0)), gG 22 19 false (.len (tG 21)), gG 23 19 false (.bin .sub (tG 22) (cG 1)), gG 24 19 false (.iads 8 (tG 20) (tG 23)), gG 25 19 false (.ldn 8 (tG 24)), gG 27 19 false (.mv (.c (.agg [(.i .i64 (.ofNat 0)), (.i .i64 (.ofNat 1))])))], [], (some (gG 26 19 false (.call (fG 62) [(tG 25)]))), []⟩, ⟨[gG 28 19 false (.eqk (.many [(some .i64), (some .i64)]) false (tG 26) (tG 27)), oG 29 (.pick (tG 19) (.c (.b true)) (tG 28))], [gG 27 19 false (.mv (.c (.agg [(.i .i64 (.ofNat 0)), (.i .i64 (.ofNat 1))])))], none, []⟩]
noncomputable def f21_r6 : List EOper := [oG 2 (.as (cG 0)), oG 3 (.as (cG 4))]
noncomputable def f21_r7 : List EOper := [oG 30 (.mv (tG 5)), oG 31 (.call (fG 63) [(tG 30)]), oG 2 (.as (tG 31)), oG 3 (.as (cG 0))]
noncomputable def f21_c : EC := (.seq (.reg f21_r0) (.seq (.seq (.reg f21_r1) (.seq (.reg f21_r2) (.cond (tG 10) (.seq (.reg f21_r3) .ret) .skip))) (.seq (.reg f21_r4) (.seq (.seq (.draw f21_r5) (.cond (tG 29) (.seq (.reg f21_r6) .ret) .skip)) (.seq (.reg f21_r7) .ret)))))
noncomputable def f21 : EF := ⟨32, [.tmp (.ofNat 2), .tmp (.ofNat 3)], f21_c, none⟩
theorem f21_rs : f21.rs = [.tmp (.ofNat 2), .tmp (.ofNat 3)] := of_eq_true (eq_self _)
noncomputable def f3_r0 : List EOper := [oG 2 (.as (.c (.b false)))]
noncomputable def f3_r1 : List EOper := [oG 25 (.mv (tG 0)), oG 26 (.call (fG 12) [(tG 25), (cG 8)]), oG 3 (.as (tG 26))]
noncomputable def f3_r2 : List EOper := [oG 4 (.as (cG 0))]
noncomputable def f3_r3 : List EOper := [oG 27 (.mv (tG 3)), oG 28 (.call (fG 13) [(tG 27)]), oG 29 (.not (tG 28))]
noncomputable def f3_r4 : List EOper := [oG 4 (.as (cG 90))]
noncomputable def f3_r5 : List EOper := [oG 30 (.mv (tG 3)), oG 31 (.call (fG 14) [(tG 30)]), oG 32 (.mv (tG 4)), oG 33 (.bin .neq (tG 31) (tG 32))]
noncomputable def f3_r6 : List EOper := [oG 2 (.as (.c (.b false)))]
noncomputable def f3_r7 : List EOper := [oG 35 (.mv (tG 3)), oG 36 (.call (fG 15) [(tG 35)]), oG 34 (.mv (tG 36)), oG 37 (.ext (tG 34) 0), oG 38 (.ext (tG 34) 1), oG 5 (.as (tG 37)), oG 6 (.as (tG 38))]
noncomputable def f3_r8 : List EOper := [oG 40 (.mv (tG 3)), oG 41 (.call (fG 16) [(tG 40)]), oG 39 (.mv (tG 41)), oG 42 (.ext (tG 39) 0), oG 43 (.ext (tG 39) 1), oG 7 (.as (tG 42)), oG 8 (.as (tG 43))]
noncomputable def f3_r9 : List EOper := [oG 45 (.mv (tG 3)), oG 46 (.call (fG 17) [(tG 45)]), oG 44 (.mv (tG 46)), oG 47 (.ext (tG 44) 0), oG 48 (.ext (tG 44) 1), oG 9 (.as (tG 47)), oG 10 (.as (tG 48))]
noncomputable def f3_r10 : List EOper := [oG 50 (.mv (tG 3)), oG 51 (.call (fG 18) [(tG 50)]), oG 49 (.mv (tG 51)), oG 52 (.ext (tG 49) 0), oG 53 (.ext (tG 49) 1), oG 11 (.alloc 2 [.sn, .sn]), ⟨none, none, .st 2 (tG 11) (tG 52)⟩, oG 12 (.as (tG 53))]
noncomputable def f3_r11 : List EOper := [oG 54 (.mv (tG 4)), oG 55 (.bin .eql (tG 54) (cG 0))]
noncomputable def f3_r12 : List EOper := [oG 56 (.mv (tG 6)), oG 57 (.bin .eql (tG 56) (cG 0)), oG 58 (.mv (tG 57)), gG 59 58 true (.mv (tG 8)), gG 60 58 true (.bin .eql (tG 59) (cG 0)), oG 61 (.pick (tG 58) (tG 60) (.c (.b false))), oG 62 (.mv (tG 61)), gG 63 62 true (.mv (tG 10)), gG 64 62 true (.bin .eql (tG 63) (cG 0)), oG 65 (.pick (tG 62) (tG 64) (.c (.b false))), oG 66 (.mv (tG 65)), gG 67 66 true (.mv (tG 12)), gG 68 66 true (.bin .eql (tG 67) (cG 0)), oG 69 (.pick (tG 66) (tG 68) (.c (.b false))), oG 70 (.mv (tG 69)), gG 71 70 true (.call (fG 19) []), oG 72 (.pick (tG 70) (tG 71) (.c (.b false))), oG 2 (.as (tG 72))]
noncomputable def f3_r13 : List EOper := [oG 74 (.mv (tG 3)), oG 75 (.call (fG 20) [(tG 74)]), oG 73 (.mv (tG 75)), oG 76 (.ext (tG 73) 0), oG 77 (.ext (tG 73) 1), oG 13 (.as (tG 76)), oG 14 (.as (tG 77))]
noncomputable def f3_r14 : List EOper := [oG 79 (.mv (tG 3)), oG 80 (.call (fG 21) [(tG 79)]), oG 78 (.mv (tG 80)), oG 81 (.ext (tG 78) 0), oG 82 (.ext (tG 78) 1), oG 15 (.as (tG 81)), oG 16 (.as (tG 82))]
noncomputable def f3_r15 : List EOper := [oG 84 (.mv (tG 3)), oG 85 (.call (fG 22) [(tG 84)]), oG 83 (.mv (tG 85)), oG 86 (.ext (tG 83) 0), oG 87 (.ext (tG 83) 1), oG 17 (.as (tG 86)), oG 18 (.as (tG 87))]
noncomputable def f3_r16 : List EOper := [oG 89 (.mv (tG 3)), oG 90 (.bslice 1 1 [(.i .i64 (.ofNat 0))] [(0, 1, (cG 1))]), oG 91 (.call (fG 23) [(tG 89), (tG 90)]), oG 88 (.mv (tG 91)), oG 92 (.ext (tG 88) 0), oG 93 (.ext (tG 88) 1), oG 19 (.as (tG 92)), oG 20 (.as (tG 93))]
noncomputable def f3_r17 : List EOper := [oG 95 (.bslice 1 1 [(.i .i64 (.ofNat 0))] [(0, 1, (cG 1))]), oG 96 (.mv (tG 3)), oG 97 (.call (fG 23) [(tG 95), (tG 96)]), oG 94 (.mv (tG 97)), oG 98 (.ext (tG 94) 0), oG 99 (.ext (tG 94) 1), oG 21 (.as (tG 98)), oG 22 (.as (tG 99))]
noncomputable def f3_r18 : List EOper := [oG 101 (.mv (tG 3)), oG 102 (.call (fG 24) [(tG 101)]), oG 100 (.mv (tG 102)), oG 103 (.ext (tG 100) 0), oG 104 (.ext (tG 100) 1), oG 23 (.as (tG 103)), oG 24 (.as (tG 104))]
noncomputable def f3_r19 : List EOper := [oG 105 (.mv (tG 6)), oG 106 (.mv (tG 4)), oG 107 (.bin .eql (tG 105) (tG 106)), oG 108 (.mv (tG 107)), gG 109 108 true (.mv (tG 8)), gG 110 108 true (.mv (tG 4)), gG 111 108 true (.bin .eql (tG 109) (tG 110)), oG 112 (.pick (tG 108) (tG 111) (.c (.b false))), oG 113 (.mv (tG 112)), gG 114 113 true (.mv (tG 10)), gG 115 113 true (.mv (tG 4)), gG 116 113 true (.bin .eql (tG 114) (tG 115)), oG 117 (.pick (tG 113) (tG 116) (.c (.b false))), oG 118 (.mv (tG 117)), gG 119 118 true (.mv (tG 12)), gG 120 118 true (.mv (tG 4)), gG 121 118 true (.bin .eql (tG 119) (tG 120)), oG 122 (.pick (tG 118) (tG 121) (.c (.b false))), oG 123 (.mv (tG 122)), gG 124 123 true (.mv (tG 14)), gG 125 123 true (.mv (tG 4)), gG 126 123 true (.bin .eql (tG 124) (tG 125)), oG 127 (.pick (tG 123) (tG 126) (.c (.b false))), oG 128 (.mv (tG 127)), gG 129 128 true (.mv (tG 16)), gG 130 128 true (.mv (tG 4)), gG 131 128 true (.bin .eql (tG 129) (tG 130)), oG 132 (.pick (tG 128) (tG 131) (.c (.b false))), oG 133 (.mv (tG 132)), gG 134 133 true (.mv (tG 18)), gG 135 133 true (.mv (tG 4)), gG 136 133 true (.bin .eql (tG 134) (tG 135)), oG 137 (.pick (tG 133) (tG 136) (.c (.b false))), oG 138 (.mv (tG 137)), gG 139 138 true (.mv (tG 20)), gG 140 138 true (.mv (tG 4)), gG 141 138 true (.bin .eql (tG 139) (tG 140)), oG 142 (.pick (tG 138) (tG 141) (.c (.b false))), oG 143 (.mv (tG 142)), gG 144 143 true (.mv (tG 22)), gG 145 143 true (.mv (tG 4)), gG 146 143 true (.bin .eql (tG 144) (tG 145)), oG 147 (.pick (tG 143) (tG 146) (.c (.b false))), oG 148 (.mv (tG 147)), gG 149 148 true (.mv (tG 24)), gG 150 148 true (.mv (tG 4)), gG 151 148 true (.bin .eql (tG 149) (tG 150)), oG 152 (.pick (tG 148) (tG 151) (.c (.b false))), oG 153 (.mv (tG 152)), gG 154 153 true (.mv (tG 5)), gG 155 153 true (.not (tG 154)), oG 156 (.pick (tG 153) (tG 155) (.c (.b false))), oG 157 (.mv (tG 156)), gG 158 157 true (.mv (tG 7)), gG 159 157 true (.not (tG 158)), oG 160 (.pick (tG 157) (tG 159) (.c (.b false))), oG 161 (.mv (tG 160)), gG 162 161 true (.mv (tG 15)), gG 163 161 true (.mv (tG 9)), gG 164 161 true (.len (tG 163)), gG 165 161 true (.bin .add (tG 162) (tG 164)), gG 166 161 true (.iadr 2 1 (tG 11) (cG 0)), gG 167 161 true (.ld (tG 166)), gG 168 161 true (.len (tG 167)), gG 169 161 true (.bin .add (tG 165) (tG 168)), gG 170 161 true (.iadr 2 1 (tG 11) (cG 1)), gG 171 161 true (.ld (tG 170)), gG 172 161 true (.len (tG 171)), gG 173 161 true (.bin .add (tG 169) (tG 172)), gG 174 161 true (.mv (tG 13)), gG 175 161 true (.len (tG 174)), gG 176 161 true (.bin .add (tG 173) (tG 175)), gG 177 161 true (.mv (tG 17)), gG 178 161 true (.len (tG 177)), gG 179 161 true (.bin .add (tG 176) (tG 178)), gG 180 161 true (.mv (tG 19)), gG 181 161 true (.len (tG 180)), gG 182 161 true (.bin .add (tG 179) (tG 181)), gG 183 161 true (.mv (tG 21)), gG 184 161 true (.len (tG 183)), gG 185 161 true (.bin .add (tG 182) (tG 184)), gG 186 161 true (.mv (tG 23)), gG 187 161 true (.len (tG 186)), gG 188 161 true (.bin .add (tG 185) (tG 187)), gG 189 161 true (.bin .eql (tG 188) (cG 0)), oG 190 (.pick (tG 161) (tG 189) (.c (.b false))), oG 191 (.mv (tG 190)), gG 192 191 true (.call (fG 19) []), oG 193 (.pick (tG 191) (tG 192) (.c (.b false))), oG 2 (.as (tG 193))]
noncomputable def f3_c : EC := (.seq (.reg f3_r0) (.seq (.reg f3_r1) (.seq (.reg f3_r2) (.seq (.seq (.reg f3_r3) (.cond (tG 29) (.reg f3_r4) .skip)) (.seq (.seq (.reg f3_r5) (.cond (tG 33) (.seq (.reg f3_r6) .ret) .skip)) (.seq (.reg f3_r7) (.seq (.reg f3_r8) (.seq (.reg f3_r9) (.seq (.reg f3_r10) (.seq (.seq (.reg f3_r11) (.cond (tG 55) (.seq (.reg f3_r12) .ret) .skip)) (.seq (.reg f3_r13) (.seq (.reg f3_r14) (.seq (.reg f3_r15) (.seq (.reg f3_r16) (.seq (.reg f3_r17) (.seq (.reg f3_r18) (.seq (.reg f3_r19) .ret)))))))))))))))))
noncomputable def f3 : EF := ⟨194, [.tmp (.ofNat 2)], f3_c, none⟩
theorem f3_rs : f3.rs = [.tmp (.ofNat 2)] := of_eq_true (eq_self _)
section
variable {fs : T EF} {h : H} {v w u : V} {A B L : List Int}
theorem ck90 (hA : plB A = false) : ckI A = 90 := by unfold ckI; rw [if_neg (by rw [hA]; exact Bool.false_ne_true)]
theorem n90 : decide ((90 : Int) ≠ 0) = true := rfl
theorem f15_e (k : CallsT fs) (hA : plB A = false) (hL : A.length ≤ 1000) (hv : Sr iE h v A) : Ret fs f15 [v] h fun r h' => r = .tup [.b false, .i .i64 90] ∧ h' = h := by
  apply ret_of rfl
  show W fs none f15_c _ _ _
  unfold f15_c
  have eA := fun P => f14_eq k.toCSm k.c54 k.c14 hv (by omega) (P := P)
  rw [ck90 hA] at eA
  simp (disch := omega) only [f15_r0, f15_r1, f15_r2, f15_r3, f15_rs, Option.some.injEq, exists_eq_left', Nat.reduceEqDiff, ↓reduceIte, eA, n90, and_self, bz]
theorem f16_e (k : CallsT fs) (hA : plB A = false) (hL : A.length ≤ 1000) (hv : Sr iE h v A) : Ret fs f16 [v] h fun r h' => r = .tup [.b false, .i .i64 90] ∧ h' = h := by
  apply ret_of rfl
  show W fs none f16_c _ _ _
  unfold f16_c
  have eA := fun P => f14_eq k.toCSm k.c54 k.c14 hv (by omega) (P := P)
  rw [ck90 hA] at eA
  simp (disch := omega) only [f16_r0, f16_r1, f16_r2, f16_r3, f16_rs, Option.some.injEq, exists_eq_left', Nat.reduceEqDiff, ↓reduceIte, eA, n90, and_self, bz]
theorem f17_e (k : CallsT fs) (hA : plB A = false) (hL : A.length ≤ 1000) (hv : Sr iE h v A) : Ret fs f17 [v] h fun r h' => r = .tup [.sn, .i .i64 90] ∧ h' = h := by
  apply ret_of rfl
  show W fs none f17_c _ _ _
  unfold f17_c
  have eA := fun P => f14_eq k.toCSm k.c54 k.c14 hv (by omega) (P := P)
  rw [ck90 hA] at eA
  simp (disch := omega) only [f17_r0, f17_r1, f17_r2, f17_r3, f17_rs, Option.some.injEq, exists_eq_left', Nat.reduceEqDiff, ↓reduceIte, eA, n90, and_self, bz]
theorem f18_e (k : CallsT fs) (hA : plB A = false) (hL : A.length ≤ 1000) (hv : Sr iE h v A) (hc : HC h) : Ret fs f18 [v] h fun r h' => r = .tup [.agg [.sn, .sn], .i .i64 90] ∧ Grow h.nx.nat h h' := by
  apply ret_of rfl
  show W fs none f18_c _ _ _
  unfold f18_c
  have gA := Grow.new (Nat.le_refl h.nx.nat) (.cells 2 [.sn, .sn])
  have eA := fun P => f14_eq k.toCSm k.c54 k.c14 (hv.grow hc gA) (by omega) (P := P)
  rw [ck90 hA] at eA
  obtain ⟨d1, d2, _, _⟩ := box2 (h := h) (x0 := .sn) (x1 := .sn) rfl rfl
  have rd : readP ((h.new (.cells 2 [.sn, .sn])).put h.nx (.cells 2 [.sn, .sn])) (.p h.nx 0) (many? 2) = some (.agg [.sn, .sn]) := by
    show (((h.new (.cells 2 [.sn, .sn])).put h.nx (.cells 2 [.sn, .sn])).get h.nx).onC none (fun n cs => many? 2 cs n 0) = _
    rw [get_put_same]; rfl
  simp (disch := omega) only [f18_r0, f18_r1, f18_r2, f18_r3, f18_rs, x_build, readRs_n, Option.some.injEq, exists_eq_left', Nat.reduceEqDiff, ↓reduceIte, fill_0, eA, n90, d1, rd, bz]
  exact d2
theorem f20_e (k : CallsT fs) (hA : plB A = false) (hL : A.length ≤ 1000) (hv : Sr iE h v A) : Ret fs f20 [v] h fun r h' => r = .tup [.sn, .i .i64 90] ∧ h' = h := by
  apply ret_of rfl
  show W fs none f20_c _ _ _
  unfold f20_c
  have eA := fun P => f14_eq k.toCSm k.c54 k.c14 hv (by omega) (P := P)
  rw [ck90 hA] at eA
  simp (disch := omega) only [f20_r0, f20_r1, f20_r2, f20_r3, f20_rs, Option.some.injEq, exists_eq_left', Nat.reduceEqDiff, ↓reduceIte, eA, n90, and_self, bz]
theorem f21_e (k : CallsT fs) (hA : plB A = false) (hL : A.length ≤ 1000) (hv : Sr iE h v A) : Ret fs f21 [v] h fun r h' => r = .tup [.i .i64 0, .i .i64 90] ∧ h' = h := by
  apply ret_of rfl
  show W fs none f21_c _ _ _
  unfold f21_c
  have eA := fun P => f14_eq k.toCSm k.c54 k.c14 hv (by omega) (P := P)
  rw [ck90 hA] at eA
  simp (disch := omega) only [f21_r0, f21_r1, f21_r2, f21_r3, f21_rs, Option.some.injEq, exists_eq_left', Nat.reduceEqDiff, ↓reduceIte, eA, n90, and_self, bz]
theorem f22_e (k : CallsT fs) (hA : plB A = false) (hL : A.length ≤ 1000) (hv : Sr iE h v A) : Ret fs f22 [v] h fun r h' => r = .tup [.sn, .i .i64 90] ∧ h' = h := by
  apply ret_of rfl
  show W fs none f22_c _ _ _
  unfold f22_c
  have eA := fun P => f14_eq k.toCSm k.c54 k.c14 hv (by omega) (P := P)
  rw [ck90 hA] at eA
  simp (disch := omega) only [f22_r0, f22_r1, f22_r2, f22_r3, f22_rs, Option.some.injEq, exists_eq_left', Nat.reduceEqDiff, ↓reduceIte, eA, n90, and_self, bz]
theorem f24_e (k : CallsT fs) (hA : plB A = false) (hL : A.length ≤ 1000) (hv : Sr iE h v A) : Ret fs f24 [v] h fun r h' => r = .tup [.sn, .i .i64 90] ∧ h' = h := by
  apply ret_of rfl
  show W fs none f24_c _ _ _
  unfold f24_c
  have eA := fun P => f14_eq k.toCSm k.c54 k.c14 hv (by omega) (P := P)
  rw [ck90 hA] at eA
  simp (disch := omega) only [f24_r0, f24_r1, f24_r2, f24_r3, f24_rs, Option.some.injEq, exists_eq_left', Nat.reduceEqDiff, ↓reduceIte, eA, n90, and_self, bz]
theorem f23_e (k : CallsT fs) (hA : A.length ≤ 1000) (hB : B.length ≤ 1000) (hE : (plB A = false) ∨ (plB A = true ∧ plB B = false)) (hv : Sr iE h v A) (hw : Sr iE h w B) : Ret fs f23 [v, w] h fun r h' => r = .tup [.sn, .i .i64 90] ∧ h' = h := by
  apply ret_of rfl
  show W fs none f23_c _ _ _
  unfold f23_c
  have c1 : cellsN 1 v = some [v] := hv.one
  have c2 : cellsN 1 w = some [w] := hw.one
  simp (disch := omega) only [f23_r0, f23_r1, x_build, Nat.reduceEqDiff, ↓reduceIte, fill_2, set_2, c1, c2, bz]
  refine W_loop (fun i fr h1 => f23_I h v w i fr h1 ∧ i ≤ 1 ∧ (1 ≤ i → plB A = true ∧ plB B = false)) (fun i => 2 - i) ?_ 0 ⟨⟨by omega, rfl, by simp (disch := omega) only [getK_set, Nat.reduceEqDiff, ↓reduceIte, and_self, Int.natCast_zero]⟩, by omega, fun e => absurd e (by omega)⟩
  rintro i fr h1 ⟨⟨_, rfl, g0, g1, g11, g12⟩, hi, hp⟩
  have eA := fun P => f14_eq k.toCSm k.c54 k.c14 hv (by omega) (P := P)
  have eB := fun P => f14_eq k.toCSm k.c54 k.c14 hw (by omega) (P := P)
  have i0 : ∀ h0 : H, ixV 2 1 false (.agg [v, w]) (.i .i64 0) h0 = .ok v h0 := fun _ => rfl
  have i1 : ∀ h0 : H, ixV 2 1 false (.agg [v, w]) (.i .i64 1) h0 = .ok w h0 := fun _ => rfl
  unfold f23_l0
  obtain rfl | rfl : i = 0 ∨ i = 1 := by omega
  · have d1 : decide ((0 : Int) < 2) = true := rfl
    have d2 : decide ((0 : Int) ≠ 0) = false := rfl
    rcases hE with hE | ⟨hE1, hE2⟩
    · rw [ck90 hE] at eA
      simp (disch := omega) only [f23_r2, f23_r3, f23_r4, f23_r5, f23_r6, f23_rs, atK_r, loopK_r, x_ix, Option.some.injEq, exists_eq_left', Nat.reduceEqDiff, ↓reduceIte, g11, g12, Int.natCast_zero, d1, i0, eA, n90, and_self, bz]
    · have ca : ckI A = 0 := by unfold ckI; rw [if_pos hE1]
      simp (disch := omega) only [f23_r2, f23_r3, f23_r4, f23_r5, f23_r7, x_ix, Nat.reduceEqDiff, ↓reduceIte, Bool.false_eq_true, g11, g12, Int.natCast_zero, d1, i0, eA, ca, d2, fw64, bz]
      exact ⟨1, by omega, ⟨by omega, rfl, by simp (disch := omega) only [getK_set, Nat.reduceEqDiff, ↓reduceIte, g0, g1, g11, and_self, Int.natCast_one, Int.zero_add]⟩, by omega, fun _ => ⟨hE1, hE2⟩⟩
  · obtain ⟨hE1, hE2⟩ := hp (Nat.le_refl _)
    have d1 : decide ((1 : Int) < 2) = true := rfl
    rw [ck90 hE2] at eB
    simp (disch := omega) only [f23_r2, f23_r3, f23_r4, f23_r5, f23_r6, f23_rs, atK_r, loopK_r, x_ix, Option.some.injEq, exists_eq_left', Nat.reduceEqDiff, ↓reduceIte, g11, g12, Int.natCast_one, d1, i1, eB, n90, and_self, bz]
structure CallsCh (fs : T EF) : Prop extends CallsTe fs where
  c12 : fs.get (K.ofNat 12) = some f12
  c13 : fs.get (K.ofNat 13) = some f13
  c20 : fs.get (K.ofNat 20) = some f20
  c21 : fs.get (K.ofNat 21) = some f21
  c23 : fs.get (K.ofNat 23) = some f23
  c24 : fs.get (K.ofNat 24) = some f24
set_option maxRecDepth 100000 in
theorem f3_ret (k : CallsCh fs) (hv : Sr iE h v L) (_ : L.length ≤ 9223372036854775807) (hc : HC h) : Ret fs f3 [v] h fun r h' => r = .b true ∧ Grow h.nx.nat h h' := by
  apply ret_of rfl
  show W fs none f3_c _ _ _
  unfold f3_c
  have q0 : decide ((0 : Int) ≠ 0) = false := rfl
  have q0' : decide ((0 : Int) = 0) = true := rfl
  have q9 : decide ((90 : Int) ≠ 90) = false := rfl
  have q9' : decide ((90 : Int) = 90) = true := rfl
  have q90 : decide ((90 : Int) = 0) = false := rfl
  simp (disch := omega) only [f3_r0, f3_r1, of8, Nat.reduceEqDiff, ↓reduceIte, bz]
  refine (callP_0 (ef := f12) k.c12 rfl (f12_ret (m := 8) hv hc (by omega))).mono ?_
  rintro a h1 ⟨sa, _, g1⟩
  have hc1 := g1.hc hc
  have hA : (L.take 8).length ≤ 8 := by simp; omega
  generalize L.take 8 = A at *
  have sa := sa.sr
  have e13 := fun P => callP_eq2 (P := P) (callP_0 (ef := f13) k.c13 rfl (f13_ret k.c53 sa (by omega)))
  have e14 := fun P => f14_eq k.toCSm k.c54 k.c14 sa (by omega) (P := P)
  cases hp : plB A with
  | true =>
    have ca : ckI A = 0 := by unfold ckI; rw [if_pos hp]
    rw [hp] at e13
    rw [ca] at e14
    simp (disch := omega) only [f3_r2, f3_r3, f3_r5, f3_r7, Nat.reduceEqDiff, ↓reduceIte, Bool.false_eq_true, Bool.not_true, e13, e14, q0, bz]
    refine (callP_0 (ef := f15) k.c15 rfl (f15_ret k.toCallsS hp sa hc1)).mono ?_
    rintro r h2 ⟨rfl, g2⟩
    have sa2 := sa.grow hc1 g2
    have hc2 := g2.hc hc1
    have G2 := g1.trans (g2.low g1.nx)
    simp (disch := omega) only [f3_r8, Nat.reduceEqDiff, ↓reduceIte, bz]
    refine (callP_0 (ef := f16) k.c16 rfl (f16_ret k.toCallsS hp sa2 hc2)).mono ?_
    rintro r h3 ⟨rfl, g3⟩
    have sa3 := sa2.grow hc2 g3
    have hc3 := g3.hc hc2
    have G3 := G2.trans (g3.low G2.nx)
    simp (disch := omega) only [f3_r9, Nat.reduceEqDiff, ↓reduceIte, bz]
    refine (callP_0 (ef := f17) k.c17 rfl (f17_ret k.toCallsS hp sa3 hc3)).mono ?_
    rintro r h4 ⟨m, rfl, sm4, g4⟩
    have sa4 := sa3.grow hc3 g4
    have hc4 := g4.hc hc3
    have G4 := G3.trans (g4.low G3.nx)
    have hm1 := sm4.sr.one
    simp (disch := omega) only [f3_r10, Nat.reduceEqDiff, ↓reduceIte, bz]
    refine (callP_0 (ef := f18) k.c18 rfl (f18_ret k.toCallsH hp sa4 hc4)).mono ?_
    rintro r h5 ⟨x0, x1, rfl, z0, z1, g5⟩
    have G5 := G4.trans (g5.low G4.nx)
    obtain ⟨d1, d2, d3, d4⟩ := box2 (h := h5) z0.one z1.one
    simp (disch := omega) only [f3_r11, f3_r12, f3_rs, Option.some.injEq, exists_eq_left', Nat.reduceEqDiff, ↓reduceIte, decide_eq_true_eq, d1, k.aw, bz]
    exact G5.trans (d2.low G5.nx)
  | false =>
    have hA' : A.length ≤ 1000 := by omega
    rw [hp] at e13
    rw [ck90 hp] at e14
    have e15 := fun P => callP_eq2 (P := P) (callP_0 (ef := f15) k.c15 rfl (f15_e k.toCallsT hp hA' sa))
    have e16 := fun P => callP_eq2 (P := P) (callP_0 (ef := f16) k.c16 rfl (f16_e k.toCallsT hp hA' sa))
    have e17 := fun P => callP_eq2 (P := P) (callP_0 (ef := f17) k.c17 rfl (f17_e k.toCallsT hp hA' sa))
    simp (disch := omega) only [f3_r2, f3_r3, f3_r4, f3_r5, f3_r7, f3_r8, f3_r9, f3_r10, Nat.reduceEqDiff, ↓reduceIte, Bool.false_eq_true, Bool.not_false, e13, e14, e15, e16, e17, of90, q9, bz]
    refine (callP_0 (ef := f18) k.c18 rfl (f18_e k.toCallsT hp hA' sa hc1)).mono ?_
    rintro r h2 ⟨rfl, g2⟩
    have hc2 := g2.hc hc1
    have G2 := g1.trans (g2.low g1.nx)
    obtain ⟨d1, d2, d3, d4⟩ := box2 (h := h2) (x0 := .sn) (x1 := .sn) rfl rfl
    have G3 := G2.trans (d2.low G2.nx)
    have sa3 := (sa.grow hc1 g2).grow hc2 d2
    simp (disch := omega) only [Nat.reduceEqDiff, ↓reduceIte, d1, bz]
    generalize (h2.new (.cells 2 [V.sn, V.sn])).put h2.nx (.cells 2 [.sn, .sn]) = h3 at *
    have hc3 := d2.hc hc2
    have e20 := fun P => callP_eq2 (P := P) (callP_0 (ef := f20) k.c20 rfl (f20_e k.toCallsT hp hA' sa3))
    have e21 := fun P => callP_eq2 (P := P) (callP_0 (ef := f21) k.c21 rfl (f21_e k.toCallsT hp hA' sa3))
    have e22 := fun P => callP_eq2 (P := P) (callP_0 (ef := f22) k.c22 rfl (f22_e k.toCallsT hp hA' sa3))
    have gl := Grow.new (Nat.le_refl h3.nx.nat) (.cells (1 * 1) [.i .i64 1])
    have sl := (Sl.lit (h := h3) (e := iE) (x := 1)).sr
    have sa4 := sa3.grow hc3 gl
    have e23 := fun P => callP_eq2 (P := P) (callP_0 (ef := f23) k.c23 rfl (f23_e k.toCallsT hA' (by simp) (.inl hp) sa4 sl))
    have b4 : (h3.new (.cells (1 * 1) [.i .i64 1])).get h2.nx = .cells 2 [.sn, .sn] := (gl.old _ (by omega)).trans d3
    have n4 := nx_new h3 (.cells (1 * 1) [.i .i64 1])
    have G4 := G3.trans (gl.low G3.nx)
    simp (disch := omega) only [f3_r11, f3_r13, f3_r14, f3_r15, f3_r16, Nat.reduceEqDiff, ↓reduceIte, Bool.false_eq_true, q90, e20, e21, e22, e23, bz]
    have hc4 := gl.hc hc3
    clear e20 e21 e22 e23 sl
    generalize h3.new (.cells (1 * 1) [.i .i64 1]) = h4 at *
    have gm := Grow.new (Nat.le_refl h4.nx.nat) (.cells (1 * 1) [.i .i64 1])
    have sl : Sr iE (h4.new (.cells (1 * 1) [.i .i64 1])) (.sl h4.nx 0 1 1) [1] := (Sl.lit (h := h4) (e := iE) (x := 1)).sr
    have sa5 := sa4.grow hc4 gm
    have e23 := fun P => callP_eq2 (P := P) (callP_0 (ef := f23) k.c23 rfl (f23_e k.toCallsT (A := [1]) (by simp) hA' (.inr ⟨rfl, hp⟩) sl sa5))
    have e24 := fun P => callP_eq2 (P := P) (callP_0 (ef := f24) k.c24 rfl (f24_e k.toCallsT hp hA' sa5))
    have b5 : (h4.new (.cells (1 * 1) [.i .i64 1])).get h2.nx = .cells 2 [.sn, .sn] := (gm.old _ (by omega)).trans b4
    have m0 : loadV (h4.new (.cells (1 * 1) [.i .i64 1])) (.p h2.nx 0) one? = .ok .sn _ := load_p b5 rfl
    have m1 : loadV (h4.new (.cells (1 * 1) [.i .i64 1])) (.p h2.nx 1) one? = .ok .sn _ := load_p b5 rfl
    have ll : ∀ h1, lenV .sn h1 = .ok (.i .i64 0) h1 := fun h1 => rfl
    have f00 : fw .i64 ((0 : Int) + 0) = 0 := rfl
    simp (disch := omega) only [f3_r17, f3_r18, Nat.reduceEqDiff, ↓reduceIte, e23, e24, bz]
    generalize hfr : T.set (K.ofNat 24) _ _ = fr
    have g4 : fr.get (K.ofNat 4) = some (.i .i64 90) := by rw [← hfr]; simp only [getK_set, Nat.reduceEqDiff, ↓reduceIte]
    have g5 : fr.get (K.ofNat 5) = some (.b false) := by rw [← hfr]; simp only [getK_set, Nat.reduceEqDiff, ↓reduceIte]
    have g6 : fr.get (K.ofNat 6) = some (.i .i64 90) := by rw [← hfr]; simp only [getK_set, Nat.reduceEqDiff, ↓reduceIte]
    have g7 : fr.get (K.ofNat 7) = some (.b false) := by rw [← hfr]; simp only [getK_set, Nat.reduceEqDiff, ↓reduceIte]
    have g8 : fr.get (K.ofNat 8) = some (.i .i64 90) := by rw [← hfr]; simp only [getK_set, Nat.reduceEqDiff, ↓reduceIte]
    have g9 : fr.get (K.ofNat 9) = some (.sn) := by rw [← hfr]; simp only [getK_set, Nat.reduceEqDiff, ↓reduceIte]
    have g10 : fr.get (K.ofNat 10) = some (.i .i64 90) := by rw [← hfr]; simp only [getK_set, Nat.reduceEqDiff, ↓reduceIte]
    have g11 : fr.get (K.ofNat 11) = some (.p h2.nx 0) := by rw [← hfr]; simp only [getK_set, Nat.reduceEqDiff, ↓reduceIte]
    have g12 : fr.get (K.ofNat 12) = some (.i .i64 90) := by rw [← hfr]; simp only [getK_set, Nat.reduceEqDiff, ↓reduceIte]
    have g13 : fr.get (K.ofNat 13) = some (.sn) := by rw [← hfr]; simp only [getK_set, Nat.reduceEqDiff, ↓reduceIte]
    have g14 : fr.get (K.ofNat 14) = some (.i .i64 90) := by rw [← hfr]; simp only [getK_set, Nat.reduceEqDiff, ↓reduceIte]
    have g15 : fr.get (K.ofNat 15) = some (.i .i64 0) := by rw [← hfr]; simp only [getK_set, Nat.reduceEqDiff, ↓reduceIte]
    have g16 : fr.get (K.ofNat 16) = some (.i .i64 90) := by rw [← hfr]; simp only [getK_set, Nat.reduceEqDiff, ↓reduceIte]
    have g17 : fr.get (K.ofNat 17) = some (.sn) := by rw [← hfr]; simp only [getK_set, Nat.reduceEqDiff, ↓reduceIte]
    have g18 : fr.get (K.ofNat 18) = some (.i .i64 90) := by rw [← hfr]; simp only [getK_set, Nat.reduceEqDiff, ↓reduceIte]
    have g19 : fr.get (K.ofNat 19) = some (.sn) := by rw [← hfr]; simp only [getK_set, Nat.reduceEqDiff, ↓reduceIte]
    have g20 : fr.get (K.ofNat 20) = some (.i .i64 90) := by rw [← hfr]; simp only [getK_set, Nat.reduceEqDiff, ↓reduceIte]
    have g21 : fr.get (K.ofNat 21) = some (.sn) := by rw [← hfr]; simp only [getK_set, Nat.reduceEqDiff, ↓reduceIte]
    have g22 : fr.get (K.ofNat 22) = some (.i .i64 90) := by rw [← hfr]; simp only [getK_set, Nat.reduceEqDiff, ↓reduceIte]
    have g23 : fr.get (K.ofNat 23) = some (.sn) := by rw [← hfr]; simp only [getK_set, Nat.reduceEqDiff, ↓reduceIte]
    have g24 : fr.get (K.ofNat 24) = some (.i .i64 90) := by rw [← hfr]; simp only [getK_set, ↓reduceIte]
    clear hfr
    simp (maxSteps := 5000000) (disch := omega) only [f3_r19, x_iadr, onP_p, Nat.reduceEqDiff, ↓reduceIte, decide_eq_true_eq, Bool.not_false, ix2_0, ix2_1, g4, g5, g6, g7, g8, g9, g10, g11, g12, g13, g14, g15, g16, g17, g18, g19, g20, g21, g22, g23, g24, m0, m1, ll, f00, k.aw, bz]
    simp (disch := omega) only [f3_rs, Option.some.injEq, exists_eq_left', ↓reduceIte, bz]
    exact G4.trans (gm.low G4.nx)
end
end Go.Ev
