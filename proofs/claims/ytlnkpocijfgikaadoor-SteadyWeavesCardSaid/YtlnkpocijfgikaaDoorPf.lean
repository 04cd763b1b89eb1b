/-
  Steady: halves, turned polynomials, of both., and what follows.
-/
import Derived.Test.YtlnkpocijfgikaaDoorPd
import Derived.Test.YtlnkpocijfgikaaDoorPe
namespace Go.Ev
open Go Go.RowKit
noncomputable def f89_r0 : List EOper := [oG 2 (.as (.c .sn))]
noncomputable def f89_r1 : List EOper := [oG 3 (.mv (tG 0)), oG 4 (.len (tG 3)), oG 5 (.bin .gtr (tG 4) (cG 0)), oG 6 (.mv (tG 5)), gG 7 6 true (.mv (tG 0)), gG 8 6 true (.mv (tG 0)), gG 9 6 true (.len (tG 8)), gG 10 6 true (.bin .sub (tG 9) (cG 1)), gG 11 6 true (.iads 1 (tG 7) (tG 10)), gG 12 6 true (.ld (tG 11)), gG 13 6 true (.bin .eql (tG 12) (cG 0)), oG 14 (.pick (tG 6) (tG 13) (.c (.b false)))]
noncomputable def f89_r2 : List EOper := [oG 15 (.mv (tG 0)), oG 16 (.mv (tG 0)), oG 17 (.len (tG 16)), oG 18 (.bin .sub (tG 17) (cG 1)), oG 19 (.slice 1 (tG 15) none (some (tG 18)) none), oG 0 (.as (tG 19))]
noncomputable def f89_l0 : EC := (.seq (.seq (.reg f89_r1) (.cond (tG 14) .skip (.exit 0))) (.block 1 (.reg f89_r2)))
noncomputable def f89_r3 : List EOper := [oG 20 (.mv (tG 0)), oG 2 (.as (tG 20))]
noncomputable def f89_c : EC := (.seq (.reg f89_r0) (.seq (.block 0 (.loop f89_l0)) (.seq (.reg f89_r3) .ret)))
noncomputable def f89 : EF := ⟨21, [.tmp (.ofNat 2)], f89_c, none⟩
theorem f89_rs : f89.rs = [.tmp (.ofNat 2)] := of_eq_true (eq_self _)
noncomputable def f58_r0 : List EOper := [oG 2 (.alloc 2 [.sn, .sn])]
noncomputable def f58_r1 : List EOper := [oG 3 (.alloc 2 [.sn, .sn])]
noncomputable def f58_r2 : List EOper := [oG 6 (.mv (tG 0)), oG 7 (.len (tG 6)), oG 8 (.mv (cG 0))]
noncomputable def f58_r3 : List EOper := [oG 9 (.bin .lss (tG 8) (tG 7))]
noncomputable def f58_r4 : List EOper := [oG 10 (.mv (tG 8)), oG 11 (.iads 1 (tG 6) (tG 8)), oG 12 (.ld (tG 11)), oG 4 (.as (tG 10)), oG 5 (.as (tG 12))]
noncomputable def f58_r5 : List EOper := [oG 13 (.mv (tG 4)), oG 14 (.bin .rem (tG 13) (cG 2)), oG 15 (.mv (tG 4)), oG 16 (.bin .rem (tG 15) (cG 2)), oG 17 (.iadr 2 1 (tG 3) (tG 16)), oG 18 (.ld (tG 17)), oG 19 (.mv (tG 5)), oG 20 (.bslice 1 1 [(.i .i64 (.ofNat 0))] [(0, 1, (tG 19))]), oG 21 (.app 1 (tG 18) (tG 20)), oG 22 (.iadr 2 1 (tG 3) (tG 14)), ⟨none, none, .st 1 (tG 22) (tG 21)⟩]
noncomputable def f58_r6 : List EOper := [oG 23 (.bin .add (tG 8) (cG 1)), oG 8 (.mv (tG 23))]
noncomputable def f58_l0 : EC := (.seq (.reg f58_r3) (.seq (.cond (tG 9) .skip (.exit 0)) (.seq (.block 1 (.seq (.reg f58_r4) (.reg f58_r5))) (.reg f58_r6))))
noncomputable def f58_r7 : List Stage := [⟨[oG 24 (.iadr 2 1 (tG 3) (cG 0)), oG 25 (.ld (tG 24)), oG 27 (.iadr 2 1 (tG 3) (cG 1)), oG 28 (.ld (tG 27))], [], (some (oG 26 (.call (fG 89) [(tG 25)]))), []⟩, ⟨[], [oG 27 (.iadr 2 1 (tG 3) (cG 1)), oG 28 (.ld (tG 27))], (some (oG 29 (.call (fG 89) [(tG 28)]))), []⟩, ⟨[oG 30 (.build [.sn, .sn] [(0, 1, (tG 26)), (1, 1, (tG 29))])], [], (some ⟨none, none, .st 2 (tG 2) (tG 30)⟩), []⟩, ⟨[], [], none, []⟩]
noncomputable def f58_c : EC := (.seq (.reg f58_r0) (.seq (.reg f58_r1) (.seq (.seq (.reg f58_r2) (.block 0 (.loop f58_l0))) (.seq (.draw f58_r7) .ret))))
noncomputable def f58 : EF := ⟨31, [.celln (.ofNat 2) 2], f58_c, none⟩
noncomputable def f68_r0 : List EOper := [oG 2 (.as (.c .sn))]
noncomputable def f68_r1 : List EOper := [oG 4 (.mv (tG 0)), oG 5 (.len (tG 4)), oG 3 (.as (tG 5))]
noncomputable def f68_r2 : List EOper := [oG 6 (.mv (tG 3)), oG 7 (.bin .gtr (tG 6) (cG 0)), oG 8 (.mv (tG 7)), gG 9 8 true (.mv (tG 0)), gG 10 8 true (.mv (tG 3)), gG 11 8 true (.bin .sub (tG 10) (cG 1)), gG 12 8 true (.iads 1 (tG 9) (tG 11)), gG 13 8 true (.ld (tG 12)), gG 14 8 true (.bin .eql (tG 13) (cG 0)), oG 15 (.pick (tG 8) (tG 14) (.c (.b false)))]
noncomputable def f68_r3 : List EOper := [oG 16 (.mv (tG 3)), oG 17 (.bin .sub (tG 16) (cG 1)), oG 3 (.as (tG 17))]
noncomputable def f68_l0 : EC := (.seq (.seq (.reg f68_r2) (.cond (tG 15) .skip (.exit 0))) (.block 1 (.reg f68_r3)))
noncomputable def f68_r4 : List EOper := [oG 18 (.mv (tG 0)), oG 19 (.mv (tG 3)), oG 20 (.slice 1 (tG 18) none (some (tG 19)) none), oG 2 (.as (tG 20))]
noncomputable def f68_c : EC := (.seq (.reg f68_r0) (.seq (.reg f68_r1) (.seq (.block 0 (.loop f68_l0)) (.seq (.reg f68_r4) .ret))))
noncomputable def f68 : EF := ⟨21, [.tmp (.ofNat 2)], f68_c, none⟩
theorem f68_rs : f68.rs = [.tmp (.ofNat 2)] := of_eq_true (eq_self _)
noncomputable def f26_r0 : List EOper := [oG 2 (.alloc 2 [.sn, .sn])]
noncomputable def f26_r1 : List EOper := [oG 3 (.alloc 2 [.sn, .sn])]
noncomputable def f26_r2 : List EOper := [oG 4 (.as (cG 0))]
noncomputable def f26_r3 : List EOper := [oG 6 (.mv (tG 4)), oG 7 (.mv (tG 0)), oG 8 (.len (tG 7)), oG 9 (.bin .lss (tG 6) (tG 8))]
noncomputable def f26_r4 : List EOper := [oG 12 (.mv (tG 4)), oG 13 (.bin .rem (tG 12) (cG 2)), oG 14 (.iadr 2 1 (tG 3) (tG 13)), oG 15 (.ld (tG 14)), oG 5 (.as (tG 15))]
noncomputable def f26_r5 : List EOper := [oG 16 (.mv (tG 4)), oG 17 (.bin .rem (tG 16) (cG 2)), oG 18 (.mv (tG 5)), oG 19 (.mv (tG 0)), oG 20 (.mv (tG 4)), oG 21 (.iads 1 (tG 19) (tG 20)), oG 22 (.ld (tG 21)), oG 23 (.bslice 1 1 [(.i .i64 (.ofNat 0))] [(0, 1, (tG 22))]), oG 24 (.app 1 (tG 18) (tG 23)), oG 25 (.iadr 2 1 (tG 3) (tG 17)), ⟨none, none, .st 1 (tG 25) (tG 24)⟩]
noncomputable def f26_r6 : List EOper := [oG 10 (.mv (tG 4)), oG 11 (.bin .add (tG 10) (cG 1)), oG 4 (.as (tG 11))]
noncomputable def f26_l0 : EC := (.seq (.seq (.reg f26_r3) (.cond (tG 9) .skip (.exit 0))) (.seq (.block 1 (.seq (.reg f26_r4) (.reg f26_r5))) (.reg f26_r6)))
noncomputable def f26_r7 : List Stage := [⟨[oG 26 (.iadr 2 1 (tG 3) (cG 0)), oG 27 (.ld (tG 26)), oG 29 (.iadr 2 1 (tG 3) (cG 1)), oG 30 (.ld (tG 29))], [], (some (oG 28 (.call (fG 68) [(tG 27)]))), []⟩, ⟨[], [oG 29 (.iadr 2 1 (tG 3) (cG 1)), oG 30 (.ld (tG 29))], (some (oG 31 (.call (fG 68) [(tG 30)]))), []⟩, ⟨[oG 32 (.build [.sn, .sn] [(0, 1, (tG 28)), (1, 1, (tG 31))])], [], (some ⟨none, none, .st 2 (tG 2) (tG 32)⟩), []⟩, ⟨[], [], none, []⟩]
noncomputable def f26_c : EC := (.seq (.reg f26_r0) (.seq (.reg f26_r1) (.seq (.seq (.reg f26_r2) (.block 0 (.loop f26_l0))) (.seq (.draw f26_r7) .ret))))
noncomputable def f26 : EF := ⟨33, [.celln (.ofNat 2) 2], f26_c, none⟩
theorem f26_rs : f26.rs = [.celln (.ofNat 2) 2] := of_eq_true (eq_self _)
noncomputable def f64_r0 : List EOper := [oG 2 (.as (.c .sn))]
noncomputable def f64_r1 : List EOper := [oG 3 (.mv (tG 0)), oG 4 (.isnil false (tG 3))]
noncomputable def f64_r2 : List EOper := [oG 2 (.as (.c .sn))]
noncomputable def f64_r3 : List EOper := [oG 5 (.bslice 0 1 [] []), oG 6 (.mv (tG 0)), oG 7 (.app 1 (tG 5) (tG 6)), oG 2 (.as (tG 7))]
noncomputable def f64_c : EC := (.seq (.reg f64_r0) (.seq (.seq (.reg f64_r1) (.cond (tG 4) (.seq (.reg f64_r2) .ret) .skip)) (.seq (.reg f64_r3) .ret)))
noncomputable def f64 : EF := ⟨8, [.tmp (.ofNat 2)], f64_c, none⟩
noncomputable def f65_r0 : List EOper := [oG 4 (.mv (tG 0)), oG 5 (.len (tG 4)), oG 6 (.bin .sub (tG 5) (cG 1)), oG 2 (.as (cG 0)), oG 3 (.as (tG 6))]
noncomputable def f65_r1 : List EOper := [oG 7 (.mv (tG 2)), oG 8 (.mv (tG 3)), oG 9 (.bin .lss (tG 7) (tG 8))]
noncomputable def f65_r2 : List Stage := [⟨[oG 14 (.mv (tG 0)), oG 15 (.mv (tG 2)), oG 16 (.mv (tG 0)), oG 17 (.mv (tG 3)), oG 18 (.mv (tG 0)), oG 19 (.mv (tG 3)), oG 20 (.iads 1 (tG 18) (tG 19)), oG 21 (.ld (tG 20)), oG 22 (.mv (tG 0)), oG 23 (.mv (tG 2)), oG 24 (.iads 1 (tG 22) (tG 23)), oG 25 (.ld (tG 24)), oG 26 (.iads 1 (tG 14) (tG 15))], [], (some ⟨none, none, .st 1 (tG 26) (tG 21)⟩), []⟩, ⟨[oG 27 (.iads 1 (tG 16) (tG 17))], [oG 16 (.mv (tG 0)), oG 17 (.mv (tG 3))], (some ⟨none, none, .st 1 (tG 27) (tG 25)⟩), []⟩, ⟨[], [], none, []⟩]
noncomputable def f65_r3 : List EOper := [oG 10 (.mv (tG 2)), oG 11 (.bin .add (tG 10) (cG 1)), oG 12 (.mv (tG 3)), oG 13 (.bin .sub (tG 12) (cG 1)), oG 2 (.as (tG 11)), oG 3 (.as (tG 13))]
noncomputable def f65_l0 : EC := (.seq (.seq (.reg f65_r1) (.cond (tG 9) .skip (.exit 0))) (.seq (.block 1 (.draw f65_r2)) (.reg f65_r3)))
noncomputable def f65_c : EC := (.seq (.reg f65_r0) (.block 0 (.loop f65_l0)))
noncomputable def f65 : EF := ⟨28, [], f65_c, none⟩
section
variable {fs : T EF} {h : H} {v w : V} {A B L : List Int}
def f89_I (h0 : H) (v : V) (L : List Int) (j : Nat) (fr : Fr) (h1 : H) : Prop := j ≤ L.length ∧ h1 = h0 ∧ trN L L.length = trN L j ∧ ∃ u, Sr iE h0 u (L.take j) ∧ (∀ b, Own b v → Own b u) ∧ fr.get (K.ofNat 0) = some (u)
theorem f89_ret (hv : Sr iE h v L) (hL : L.length ≤ 1000) : Ret fs f89 [v] h fun r h' => Sr iE h r (trm L) ∧ (∀ b, Own b v → Own b r) ∧ h' = h := by
  apply ret_of rfl
  show W fs none f89_c _ _ _
  unfold f89_c
  simp (disch := omega) only [f89_r0, bz]
  refine W_loop (f89_I h v L) (fun j => j) ?_ L.length ⟨Nat.le_refl _, rfl, rfl, v, by rw [List.take_length]; exact hv, (fun _ h => h), by simp (disch := omega) only [getK_set, Nat.reduceEqDiff, ↓reduceIte]⟩
  rintro j fr h1 ⟨hj, rfl, hn, u, su, ou, g0⟩
  have hlen : (L.take j).length = j := by simp; omega
  have e1 : ∀ h, lenV u h = .ok (.i .i64 (j : Int)) h := fun h => by rw [su.len, hlen]
  unfold f89_l0
  have out : trN L L.length = j → Sr iE h1 u (trm L) := fun e => by unfold trm; rw [e]; exact su
  by_cases h0 : j = 0
  · have d1 : decide ((j : Int) > 0) = false := decide_eq_false (by omega)
    simp (disch := omega) only [f89_r1, f89_r3, f89_rs, Option.some.injEq, exists_eq_left', Nat.reduceEqDiff, ↓reduceIte, Bool.false_eq_true, g0, e1, d1, and_true, bz]
    exact ⟨out (by rw [hn, h0]; rfl), ou⟩
  · have d1 : decide ((j : Int) > 0) = true := decide_eq_true (by omega)
    have ei : (j : Int) - 1 = ((j - 1 : Nat) : Int) := by omega
    obtain ⟨p, p1, p2⟩ := su.at (j - 1) (by omega)
    have hx : (L.take j)[j - 1]'(by omega) = L.getD (j - 1) 0 := by rw [List.getElem_take, getD_lt (by omega)]
    have p2 : loadV h1 p one? = .ok (.i .i64 (L.getD (j - 1) 0)) h1 := by rw [← hx]; exact p2
    have hs : trN L j = if L.getD (j - 1) 0 = 0 then trN L (j - 1) else j := by
      obtain ⟨i, rfl⟩ : ∃ i, j = i + 1 := ⟨j - 1, by omega⟩
      rfl
    by_cases hz : L.getD (j - 1) 0 = 0
    · have d2 : decide (L.getD (j - 1) 0 = 0) = true := decide_eq_true hz
      rw [if_pos hz] at hs
      obtain ⟨u', q1, q2, q3, _⟩ := su.cut (lo := none) (hi := some (.i .i64 ((j - 1 : Nat) : Int))) (l := 0) (u := j - 1) bnd_none bnd_i (by omega) (by omega)
      rw [List.drop_zero, List.take_take, Nat.min_eq_left (by omega)] at q2
      simp (disch := omega) only [f89_r1, f89_r2, x_slice, sliceV_eq, Option.map_none, Option.map_some, Nat.reduceEqDiff, ↓reduceIte, g0, e1, d1, ei, fw64, p1, p2, d2, q1, bz]
      exact ⟨j - 1, by omega, by omega, rfl, by rw [hn, hs], u', q2, (fun b hb => q3 b (ou b hb)), by simp (disch := omega) only [getK_set, ↓reduceIte]⟩
    · have d2 : decide (L.getD (j - 1) 0 = 0) = false := decide_eq_false hz
      rw [if_neg hz] at hs
      simp (disch := omega) only [f89_r1, f89_r3, f89_rs, Option.some.injEq, exists_eq_left', Nat.reduceEqDiff, ↓reduceIte, Bool.false_eq_true, g0, e1, d1, ei, fw64, p1, p2, d2, and_true, bz]
      exact ⟨out (by rw [hn, hs]), ou⟩
def f68_I (h0 : H) (v : V) (L : List Int) (j : Nat) (fr : Fr) (h1 : H) : Prop := j ≤ L.length ∧ h1 = h0 ∧ trN L L.length = trN L j ∧ fr.get (K.ofNat 0) = some (v) ∧ fr.get (K.ofNat 3) = some (.i .i64 (j : Int))
theorem f68_ret (hv : Sr iE h v L) (hL : L.length ≤ 1000) : Ret fs f68 [v] h fun r h' => Sr iE h r (trm L) ∧ (∀ b, Own b v → Own b r) ∧ h' = h := by
  apply ret_of rfl
  show W fs none f68_c _ _ _
  unfold f68_c
  have e1 := hv.len
  simp (disch := omega) only [f68_r0, f68_r1, Nat.reduceEqDiff, ↓reduceIte, e1, bz]
  refine W_loop (f68_I h v L) (fun j => j) ?_ L.length ⟨Nat.le_refl _, rfl, rfl, by simp (disch := omega) only [getK_set, Nat.reduceEqDiff, ↓reduceIte, and_self]⟩
  rintro j fr h1 ⟨hj, rfl, hn, g0, g3⟩
  unfold f68_l0
  have out : trN L L.length = j → ∃ u, (∀ h1, sliceB 1 v none (some (.i .i64 (j : Int))) none h1 = .ok u h1) ∧ Sr iE h1 u (trm L) ∧ ∀ b, Own b v → Own b u := fun e => by
    obtain ⟨u', q1, q2, q3, _⟩ := hv.cut (lo := none) (hi := some (.i .i64 (j : Int))) (l := 0) (u := j) bnd_none bnd_i (by omega) (by omega)
    rw [List.drop_zero] at q2
    exact ⟨u', q1, by unfold trm; rw [e]; exact q2, q3⟩
  by_cases h0 : j = 0
  · have d1 : decide ((j : Int) > 0) = false := decide_eq_false (by omega)
    obtain ⟨u, q1, q2, q3⟩ := out (by rw [hn, h0]; rfl)
    simp (disch := omega) only [f68_r2, f68_r4, f68_rs, x_slice, sliceV_eq, Option.map_none, Option.map_some, Option.some.injEq, exists_eq_left', Nat.reduceEqDiff, ↓reduceIte, Bool.false_eq_true, g0, g3, d1, q1, and_true, bz]
    exact ⟨q2, q3⟩
  · have d1 : decide ((j : Int) > 0) = true := decide_eq_true (by omega)
    have ei : (j : Int) - 1 = ((j - 1 : Nat) : Int) := by omega
    obtain ⟨p, p1, p2⟩ := hv.at (j - 1) (by omega)
    have p2 : loadV h1 p one? = .ok (.i .i64 (L.getD (j - 1) 0)) h1 := by rw [getD_lt (by omega)]; exact p2
    have hs : trN L j = if L.getD (j - 1) 0 = 0 then trN L (j - 1) else j := by
      obtain ⟨i, rfl⟩ : ∃ i, j = i + 1 := ⟨j - 1, by omega⟩
      rfl
    by_cases hz : L.getD (j - 1) 0 = 0
    · have d2 : decide (L.getD (j - 1) 0 = 0) = true := decide_eq_true hz
      rw [if_pos hz] at hs
      simp (disch := omega) only [f68_r2, f68_r3, Nat.reduceEqDiff, ↓reduceIte, g0, g3, d1, ei, fw64, p1, p2, d2, bz]
      exact ⟨j - 1, by omega, by omega, rfl, by rw [hn, hs], by simp (disch := omega) only [getK_set, Nat.reduceEqDiff, ↓reduceIte, g0, and_self]⟩
    · have d2 : decide (L.getD (j - 1) 0 = 0) = false := decide_eq_false hz
      rw [if_neg hz] at hs
      obtain ⟨u, q1, q2, q3⟩ := out (by rw [hn, hs])
      simp (disch := omega) only [f68_r2, f68_r4, f68_rs, x_slice, sliceV_eq, Option.map_none, Option.map_some, Option.some.injEq, exists_eq_left', Nat.reduceEqDiff, ↓reduceIte, Bool.false_eq_true, g0, g3, d1, ei, fw64, p1, p2, d2, q1, and_true, bz]
      exact ⟨q2, q3⟩
structure HvI (h2 h1 : H) (id : K) (u0 u1 : V) (L0 L1 : List Int) : Prop where
  s0 : Sl iE h1 u0 L0
  s1 : Sl iE h1 u1 L1
  o0 : Own (id.nat + 1) u0
  o1 : Own (id.nat + 1) u1
  sep : ∀ k off n sz, u1 = .sl k off n sz → NotIn k u0
  gr : Grow id.nat h2 h1
  eb : h1.get id = .cells 2 [u0, u1]
  nx : id.nat + 1 ≤ h1.nx.nat
theorem HvI.ld0 {h2 h1 : H} {id : K} {u0 u1 : V} {L0 L1 : List Int} (t : HvI h2 h1 id u0 u1 L0 L1) : loadV h1 (.p id (0 + 0 * 1)) one? = .ok u0 h1 := load_p t.eb rfl
theorem HvI.ld1 {h2 h1 : H} {id : K} {u0 u1 : V} {L0 L1 : List Int} (t : HvI h2 h1 id u0 u1 L0 L1) : loadV h1 (.p id (0 + 1 * 1)) one? = .ok u1 h1 := load_p t.eb rfl
theorem HvI.push0 {h2 h1 : H} {id : K} {u0 u1 : V} {L0 L1 : List Int} (t : HvI h2 h1 id u0 u1 L0 L1) (hc : HC h1) (hn : L0.length < 16777216) (x : Int) :
    ∃ u0' h3, appV 1 (h1.new (.cells (1 * 1) [.i .i64 x])) u0 (.sl h1.nx 0 1 1) = .ok u0' h3 ∧ storeV h3 1 (.p id (0 + 0 * 1)) u0' = .ok undefV (h3.put id (.cells 2 [u0', u1])) ∧ HvI h2 (h3.put id (.cells 2 [u0', u1])) id u0' u1 (L0 ++ [x]) L1 := by
  obtain ⟨u0', h3, a1, a2, a3, a4, a5⟩ := Sl.push (e := iE) (x := x) (c := .i .i64 x) rfl t.s0 t.o0 t.nx hc hn
  have hid : h3.get id = .cells 2 [u0, u1] := (a4.old id (Nat.lt_succ_self _)).trans t.eb
  have ps := Nat.le_trans t.nx a4.nx
  have s1' : Sl iE h3 u1 L1 := t.s1.same fun k off n sz e => (a5 k (t.s1.lt hc _ _ _ _ e) (t.sep _ _ _ _ e)).1
  refine ⟨u0', h3, a1, by rw [store_p (m := 2) (cs := [u0, u1]) (xs := [u0']) hid a2.one (by omega)]; rfl, ⟨a2.put (a3.notIn (by omega)) _, s1'.put (t.o1.notIn (by omega)) _, a3, t.o1, fun k off n sz e => (a5 k (t.s1.lt hc _ _ _ _ e) (t.sep _ _ _ _ e)).2, (t.gr.trans (a4.low (by omega))).trans (Grow.put (Nat.le_refl _) (by omega) _), get_put_same, by rw [nx_put]; omega⟩⟩
theorem HvI.push1 {h2 h1 : H} {id : K} {u0 u1 : V} {L0 L1 : List Int} (t : HvI h2 h1 id u0 u1 L0 L1) (hc : HC h1) (hn : L1.length < 16777216) (x : Int) :
    ∃ u1' h3, appV 1 (h1.new (.cells (1 * 1) [.i .i64 x])) u1 (.sl h1.nx 0 1 1) = .ok u1' h3 ∧ storeV h3 1 (.p id (0 + 1 * 1)) u1' = .ok undefV (h3.put id (.cells 2 [u0, u1'])) ∧ HvI h2 (h3.put id (.cells 2 [u0, u1'])) id u0 u1' L0 (L1 ++ [x]) := by
  obtain ⟨u1', h3, a1, a2, a3, a4, a5⟩ := Sl.push (e := iE) (x := x) (c := .i .i64 x) rfl t.s1 t.o1 t.nx hc hn
  have hid : h3.get id = .cells 2 [u0, u1] := (a4.old id (Nat.lt_succ_self _)).trans t.eb
  have ps := Nat.le_trans t.nx a4.nx
  have sep' : ∀ k off n sz, u0 = .sl k off n sz → NotIn k u1 := fun k off n sz e off' n' sz' e' => t.sep k off' n' sz' e' off n sz e
  have s0' : Sl iE h3 u0 L0 := t.s0.same fun k off n sz e => (a5 k (t.s0.lt hc _ _ _ _ e) (sep' _ _ _ _ e)).1
  refine ⟨u1', h3, a1, by rw [store_p (m := 2) (cs := [u0, u1]) (xs := [u1']) hid a2.one (by omega)]; rfl, ⟨s0'.put (t.o0.notIn (by omega)) _, a2.put (a3.notIn (by omega)) _, t.o0, a3, fun k off n sz e off' n' sz' e' => (a5 k (t.s0.lt hc _ _ _ _ e') (sep' _ _ _ _ e')).2 off n sz e, (t.gr.trans (a4.low (by omega))).trans (Grow.put (Nat.le_refl _) (by omega) _), get_put_same, by rw [nx_put]; omega⟩⟩
theorem two_new (h : H) : Grow h.nx.nat h ((h.new (.cells 2 [.sn, .sn])).new (.cells 2 [.sn, .sn])) ∧ ((h.new (.cells 2 [.sn, .sn])).new (.cells 2 [.sn, .sn])).get h.nx = .cells 2 [.sn, .sn] ∧ ((h.new (.cells 2 [.sn, .sn])).new (.cells 2 [.sn, .sn])).get (h.new (.cells 2 [.sn, .sn])).nx = .cells 2 [.sn, .sn] ∧ (h.new (.cells 2 [.sn, .sn])).nx.nat = h.nx.nat + 1 ∧ ((h.new (.cells 2 [.sn, .sn])).new (.cells 2 [.sn, .sn])).nx.nat = h.nx.nat + 2 := by
  have n1 := nx_new h (.cells 2 [.sn, .sn])
  have n2 := nx_new (h.new (.cells 2 [.sn, .sn])) (.cells 2 [.sn, .sn])
  exact ⟨(Grow.new (Nat.le_refl _) _).trans (Grow.new (by omega) _), (get_new_old (by omega)).trans get_new_same, get_new_same, n1, by omega⟩
theorem HvI.end_ {h2 h1 : H} {id idr : K} {u0 u1 x0 x1 : V} {L0 L1 M0 M1 : List Int} (t : HvI h2 h1 id u0 u1 L0 L1) (hr : idr.nat < id.nat) (e : h2.get idr = .cells 2 [.sn, .sn]) (s0 : Sr iE h1 x0 M0) (s1 : Sr iE h1 x1 M1) (o0 : Own (id.nat + 1) x0) (o1 : Own (id.nat + 1) x1) :
    storeV h1 2 (.p idr 0) (.agg [x0, x1]) = .ok undefV (h1.put idr (.cells 2 [x0, x1])) ∧ readP (h1.put idr (.cells 2 [x0, x1])) (.p idr 0) (many? 2) = some (.agg [x0, x1]) ∧ Sr iE (h1.put idr (.cells 2 [x0, x1])) x0 M0 ∧ Sr iE (h1.put idr (.cells 2 [x0, x1])) x1 M1 ∧ Grow idr.nat h1 (h1.put idr (.cells 2 [x0, x1])) := by
  have ei : h1.get idr = .cells 2 [.sn, .sn] := (t.gr.old _ hr).trans e
  have hn := t.nx
  refine ⟨?_, ?_, s0.put (o0.notIn (by omega)) _, s1.put (o1.notIn (by omega)) _, Grow.put (Nat.le_refl _) (by omega) _⟩
  · rw [store_p (m := 2) (cs := [.sn, .sn]) (xs := [x0, x1]) ei rfl (by omega)]; rfl
  · show ((h1.put idr (.cells 2 [x0, x1])).get idr).onC none (fun n cs => many? 2 cs n 0) = _
    rw [get_put_same]; rfl
def f26_I (h2 : H) (v : V) (idr id : K) (A : List Int) (j : Nat) (fr : Fr) (h1 : H) : Prop := j ≤ A.length ∧ ∃ u0 u1, HvI h2 h1 id u0 u1 (evL A j) (odL A j) ∧ fr.get (K.ofNat 0) = some (v) ∧ fr.get (K.ofNat 2) = some (.p idr 0) ∧ fr.get (K.ofNat 3) = some (.p id 0) ∧ fr.get (K.ofNat 4) = some (.i .i64 (j : Int))
theorem f26_ret (k68 : fs.get (.ofNat 68) = some f68) (hA : A.length ≤ 100) (hv : Sr iE h v A) (hc : HC h) : Ret fs f26 [v] h fun r h' => ∃ x0 x1, r = .agg [x0, x1] ∧ Sr iE h' x0 (trm (evL A A.length)) ∧ Sr iE h' x1 (trm (odL A A.length)) ∧ Own h.nx.nat x0 ∧ Own h.nx.nat x1 ∧ Grow h.nx.nat h h' := by
  apply ret_of rfl
  show W fs none f26_c _ _ _
  unfold f26_c
  obtain ⟨gA, e1, e2, n1, n2⟩ := two_new h
  simp (disch := omega) only [f26_r0, f26_r1, f26_r2, x_alloc, bz]
  generalize hidd : (h.new (.cells 2 [.sn, .sn])).nx = id at *
  generalize (h.new (.cells 2 [.sn, .sn])).new (.cells 2 [.sn, .sn]) = h2 at *
  refine W_loop (f26_I h2 v h.nx id A) (fun j => A.length - j) ?_ 0 ⟨Nat.zero_le _, .sn, .sn, ⟨Sl.nil, Sl.nil, Own.sn, Own.sn, (fun _ _ _ _ e => by cases e), Grow.refl _ _, e2, by omega⟩, by simp (disch := omega) only [getK_set, Nat.reduceEqDiff, ↓reduceIte, and_self, Int.natCast_zero]⟩
  rintro j fr h1 ⟨hj, u0, u1, t, g0, g2, g3, g4⟩
  have hG := gA.trans (t.gr.low (by omega))
  have hc1 := hG.hc hc
  have hv1 := hv.grow hc hG
  have hl := hv1.len
  unfold f26_l0
  by_cases hlt : j < A.length
  · have d1 : decide ((j : Int) < (A.length : Int)) = true := decide_eq_true (by omega)
    obtain ⟨p, p1, p2⟩ := hv1.at j hlt
    have p2 : loadV h1 p one? = .ok (.i .i64 (A.getD j 0)) h1 := by rw [getD_lt hlt]; exact p2
    have h20 : decide ((2 : Int) = 0) = false := rfl
    rcases Nat.mod_two_eq_zero_or_one j with hm | hm
    · have em : (j : Int).tmod 2 = 0 := by rw [show (2 : Int) = ((2 : Nat) : Int) from rfl, ← Int.ofNat_tmod, hm]; rfl
      obtain ⟨u0', h3, a1, a2, t'⟩ := t.push0 hc1 (by have := evL_le (A := A) (j := j); omega) (A.getD j 0)
      rw [← evL_s0 hm, show odL A j = odL A (j + 1) from (odL_s0 hm).symm] at t'
      simp (disch := omega) only [f26_r3, f26_r4, f26_r5, f26_r6, x_iadr, onP_p, Nat.reduceEqDiff, ↓reduceIte, ix2_0, g0, g3, g4, hl, d1, p1, p2, em, t.ld0, a1, a2, fw64, bz]
      exact ⟨j + 1, by omega, by omega, u0', u1, t', by simp (disch := omega) only [getK_set, Nat.reduceEqDiff, ↓reduceIte, g0, g2, g3, and_self, Int.natCast_add, Int.natCast_one]⟩
    · have em : (j : Int).tmod 2 = 1 := by rw [show (2 : Int) = ((2 : Nat) : Int) from rfl, ← Int.ofNat_tmod, hm]; rfl
      obtain ⟨u1', h3, a1, a2, t'⟩ := t.push1 hc1 (by have := odL_le (A := A) (j := j); omega) (A.getD j 0)
      rw [← odL_s1 hm, show evL A j = evL A (j + 1) from (evL_s1 hm).symm] at t'
      simp (disch := omega) only [f26_r3, f26_r4, f26_r5, f26_r6, x_iadr, onP_p, Nat.reduceEqDiff, ↓reduceIte, ix2_1, g0, g3, g4, hl, d1, p1, p2, em, t.ld1, a1, a2, fw64, bz]
      exact ⟨j + 1, by omega, by omega, u0, u1', t', by simp (disch := omega) only [getK_set, Nat.reduceEqDiff, ↓reduceIte, g0, g2, g3, and_self, Int.natCast_add, Int.natCast_one]⟩
  · have d1 : decide ((j : Int) < (A.length : Int)) = false := decide_eq_false (by omega)
    obtain rfl : j = A.length := by omega
    have l0 := evL_le (A := A) (j := A.length)
    have l1 := odL_le (A := A) (j := A.length)
    have b1 := t.s1.beq
    simp (disch := omega) only [f26_r3, f26_r7, xg_iadr, onP_p, Nat.reduceEqDiff, ↓reduceIte, Bool.false_eq_true, ix2_0, ix2_1, g0, g3, g4, hl, d1, t.ld0, t.ld1, bz]
    refine (callP_0 (ef := f68) k68 rfl (f68_ret t.s0.sr (by omega))).mono ?_
    rintro x0 h3 ⟨s0, o0, rfl⟩
    simp (disch := omega) only [stay_cons, again_ok, stay_ld, beq_p, onP_p, Nat.reduceEqDiff, ↓reduceIte, stay_iadr, ix2_1, g3, t.ld1, b1, bz]
    refine (callP_0 (ef := f68) k68 rfl (f68_ret t.s1.sr (by omega))).mono ?_
    rintro x1 h3 ⟨s1, o1, rfl⟩
    obtain ⟨q1, q2, q3, q4, q5⟩ := t.end_ (idr := h.nx) (by omega) e1 s0 s1 (o0 _ t.o0) (o1 _ t.o1)
    have c0 : cellsN 1 x0 = some [x0] := s0.one
    have c1 : cellsN 1 x1 = some [x1] := s1.one
    simp (disch := omega) only [f26_rs, xg_build, readRs_n, Option.some.injEq, exists_eq_left', Nat.reduceEqDiff, ↓reduceIte, fill_2, set_2, g2, c0, c1, q1, q2, bz]
    exact ⟨_, _, rfl, q3, q4, (o0 _ t.o0).low (by omega), (o1 _ t.o1).low (by omega), hG.trans q5⟩
structure CallsH (fs : T EF) : Prop extends CallsS fs where
  c89 : fs.get (K.ofNat 89) = some f89
  c68 : fs.get (K.ofNat 68) = some f68
  c58 : fs.get (K.ofNat 58) = some f58
  c64 : fs.get (K.ofNat 64) = some f64
  c65 : fs.get (K.ofNat 65) = some f65
end
end Go.Ev
namespace Go.Ev
open Go Go.RowKit
section
variable {fs : T EF} {h : H} {v w : V} {A B L : List Int}
theorem keq_b {x : Bool} : keyEq (.one none) (.b x) (.b x) = some true := by cases x <;> rfl
theorem box2 {h : H} {x0 x1 : V} (c0 : cellsN 1 x0 = some [x0]) (c1 : cellsN 1 x1 = some [x1]) : storeV (h.new (.cells 2 [.sn, .sn])) 2 (.p h.nx 0) (.agg [x0, x1]) = .ok undefV ((h.new (.cells 2 [.sn, .sn])).put h.nx (.cells 2 [x0, x1])) ∧ Grow h.nx.nat h ((h.new (.cells 2 [.sn, .sn])).put h.nx (.cells 2 [x0, x1])) ∧ ((h.new (.cells 2 [.sn, .sn])).put h.nx (.cells 2 [x0, x1])).get h.nx = .cells 2 [x0, x1] ∧ ((h.new (.cells 2 [.sn, .sn])).put h.nx (.cells 2 [x0, x1])).nx.nat = h.nx.nat + 1 := by
  have n1 := nx_new h (.cells 2 [.sn, .sn])
  have _ := c0
  have _ := c1
  refine ⟨?_, (Grow.new (Nat.le_refl _) _).trans (Grow.put (Nat.le_refl _) (by omega) _), get_put_same, by rw [nx_put]; exact n1⟩
  rw [store_p (m := 2) (cs := [.sn, .sn]) (xs := [x0, x1]) get_new_same rfl (by omega)]; rfl
end
end Go.Ev
namespace Go.Ev
open Go Go.RowKit
def wvA (E O : List Int) (i j : Nat) : List Int := (List.range 6).map fun m => if m % 2 = 0 then (if m / 2 < i then E.getD (m / 2) 0 else 0) else (if m / 2 < j then O.getD (m / 2) 0 else 0)
theorem wvA_len {E O : List Int} {i j : Nat} : (wvA E O i j).length = 6 := by simp [wvA]
theorem wvA_at {E O : List Int} {i j m : Nat} (hm : m < (wvA E O i j).length) : (wvA E O i j)[m] = if m % 2 = 0 then (if m / 2 < i then E.getD (m / 2) 0 else 0) else (if m / 2 < j then O.getD (m / 2) 0 else 0) := by simp [wvA]
theorem wvA_0 {E O : List Int} : wvA E O 0 0 = List.replicate 6 0 := by
  apply List.ext_getElem
  · simp [wvA]
  · intro m h1 h2
    rw [wvA_at, List.getElem_replicate, if_neg (show ¬ m / 2 < 0 by omega)]
    split <;> rfl
theorem wvA_e {E O : List Int} {i j : Nat} (_hi : i < 3) (hl : i < E.length) : (wvA E O i j).set (2 * i) E[i] = wvA E O (i + 1) j := by
  apply List.ext_getElem
  · simp [wvA]
  · intro m h1 h2
    rw [List.getElem_set, wvA_at]
    split
    · rename_i e
      subst e
      rw [wvA_at, if_pos (by omega), if_pos (by omega), show 2 * i / 2 = i by omega, getD_lt hl]
    · rename_i e
      rw [wvA_at]
      by_cases h : m % 2 = 0
      · rw [if_pos h, if_pos h]
        by_cases h3 : m / 2 < i
        · rw [if_pos h3, if_pos (by omega)]
        · rw [if_neg h3, if_neg (by omega)]
      · rw [if_neg h, if_neg h]
theorem wvA_o {E O : List Int} {i j : Nat} (_hj : j < 3) (hl : j < O.length) : (wvA E O i j).set (2 * j + 1) O[j] = wvA E O i (j + 1) := by
  apply List.ext_getElem
  · simp [wvA]
  · intro m h1 h2
    rw [List.getElem_set, wvA_at]
    split
    · rename_i e
      subst e
      rw [wvA_at, if_neg (by omega), if_pos (by omega), show (2 * j + 1) / 2 = j by omega, getD_lt hl]
    · rename_i e
      rw [wvA_at]
      by_cases h : m % 2 = 0
      · rw [if_pos h, if_pos h]
      · rw [if_neg h, if_neg h]
        by_cases h3 : m / 2 < j
        · rw [if_pos h3, if_pos (by omega)]
        · rw [if_neg h3, if_neg (by omega)]
def wvL (E O : List Int) : List Int := [E.getD 0 0, O.getD 0 0, E.getD 1 0, O.getD 1 0, E.getD 2 0, O.getD 2 0]
theorem wvA_end {E O : List Int} : wvA E O E.length O.length = wvL E O := by
  have e : ∀ (L : List Int) (k : Nat), (if k < L.length then L.getD k 0 else 0) = L.getD k 0 := fun L k => by
    split
    · rfl
    · rename_i h; rw [getD_ge (by omega)]
  have : wvA E O E.length O.length = (List.range 6).map fun m => if m % 2 = 0 then E.getD (m / 2) 0 else O.getD (m / 2) 0 := by
    unfold wvA
    apply List.map_congr_left
    intro m _
    rw [e, e]
  rw [this]; rfl
theorem trN_last {L : List Int} : ∀ {k : Nat}, 0 < trN L k → L.getD (trN L k - 1) 0 ≠ 0
  | 0, h => absurd h (by simp [trN])
  | k + 1, h => by
    unfold trN at h ⊢
    split
    · rename_i e; rw [if_pos e] at h; exact trN_last h
    · rename_i e; exact e
theorem trm_len {L : List Int} : (trm L).length = trN L L.length := by
  unfold trm
  have := trN_le (L := L) (k := L.length)
  simp; omega
theorem trm_last {L : List Int} (h : 0 < (trm L).length) : (trm L).getD ((trm L).length - 1) 0 ≠ 0 := by
  have hl := trm_len (L := L)
  have h0 := trN_le (L := L) (k := L.length)
  have := trN_last (L := L) (k := L.length) (by omega)
  rw [getD_lt (by omega)]
  unfold trm
  rw [List.getElem_take, ← getD_lt]
  have e : (List.take (trN L L.length) L).length - 1 = trN L L.length - 1 := by simp; omega
  rw [e]; exact this
theorem getD_mem {L : List Int} {i : Nat} : L.getD i 0 ∈ L ∨ L.getD i 0 = 0 := by
  by_cases h : i < L.length
  · rw [getD_lt h]; exact .inl (List.getElem_mem h)
  · rw [getD_ge (by omega)]; exact .inr rfl
end Go.Ev
namespace Go.Ev
open Go Go.RowKit
noncomputable def f77_r0 : List EOper := [oG 4 (.as (.c .sn))]
noncomputable def f77_r1 : List EOper := [oG 10 (.mkslice 1 [(.i .i64 (.ofNat 0))] (cG 6)), oG 5 (.as (tG 10))]
noncomputable def f77_r2 : List EOper := [oG 11 (.mv (tG 0)), oG 12 (.len (tG 11)), oG 13 (.mv (cG 0))]
noncomputable def f77_r3 : List EOper := [oG 14 (.bin .lss (tG 13) (tG 12))]
noncomputable def f77_r4 : List EOper := [oG 15 (.mv (tG 13)), oG 16 (.iads 1 (tG 11) (tG 13)), oG 17 (.ld (tG 16)), oG 6 (.as (tG 15)), oG 7 (.as (tG 17))]
noncomputable def f77_r5 : List EOper := [oG 18 (.mv (tG 5)), oG 19 (.mv (tG 6)), oG 20 (.bin .mul (cG 2) (tG 19)), oG 21 (.mv (tG 7)), oG 22 (.iads 1 (tG 18) (tG 20)), ⟨none, none, .st 1 (tG 22) (tG 21)⟩]
noncomputable def f77_r6 : List EOper := [oG 23 (.bin .add (tG 13) (cG 1)), oG 13 (.mv (tG 23))]
noncomputable def f77_l0 : EC := (.seq (.reg f77_r3) (.seq (.cond (tG 14) .skip (.exit 0)) (.seq (.block 1 (.seq (.reg f77_r4) (.reg f77_r5))) (.reg f77_r6))))
noncomputable def f77_r7 : List EOper := [oG 24 (.mv (tG 1)), oG 25 (.len (tG 24)), oG 26 (.mv (cG 0))]
noncomputable def f77_r8 : List EOper := [oG 27 (.bin .lss (tG 26) (tG 25))]
noncomputable def f77_r9 : List EOper := [oG 28 (.mv (tG 26)), oG 29 (.iads 1 (tG 24) (tG 26)), oG 30 (.ld (tG 29)), oG 8 (.as (tG 28)), oG 9 (.as (tG 30))]
noncomputable def f77_r10 : List EOper := [oG 31 (.mv (tG 5)), oG 32 (.mv (tG 8)), oG 33 (.bin .mul (cG 2) (tG 32)), oG 34 (.bin .add (tG 33) (cG 1)), oG 35 (.mv (tG 9)), oG 36 (.iads 1 (tG 31) (tG 34)), ⟨none, none, .st 1 (tG 36) (tG 35)⟩]
noncomputable def f77_r11 : List EOper := [oG 37 (.bin .add (tG 26) (cG 1)), oG 26 (.mv (tG 37))]
noncomputable def f77_l1 : EC := (.seq (.reg f77_r8) (.seq (.cond (tG 27) .skip (.exit 2)) (.seq (.block 3 (.seq (.reg f77_r9) (.reg f77_r10))) (.reg f77_r11))))
noncomputable def f77_r12 : List EOper := [oG 38 (.mv (tG 5)), oG 39 (.call (fG 89) [(tG 38)]), oG 4 (.as (tG 39))]
noncomputable def f77_c : EC := (.seq (.reg f77_r0) (.seq (.reg f77_r1) (.seq (.seq (.reg f77_r2) (.block 0 (.loop f77_l0))) (.seq (.seq (.reg f77_r7) (.block 2 (.loop f77_l1))) (.seq (.reg f77_r12) .ret)))))
noncomputable def f77 : EF := ⟨40, [.tmp (.ofNat 4)], f77_c, none⟩
theorem f77_rs : f77.rs = [.tmp (.ofNat 4)] := of_eq_true (eq_self _)
noncomputable def f78_r0 : List EOper := [oG 4 (.as (.c .sn))]
noncomputable def f78_r1 : List EOper := [oG 5 (.as (.c .sn))]
noncomputable def f78_r2 : List EOper := [oG 6 (.as (cG 0))]
noncomputable def f78_r3 : List EOper := [oG 7 (.mv (tG 6)), oG 8 (.bin .lss (tG 7) (cG 3))]
noncomputable def f78_r4 : List EOper := [oG 11 (.mv (tG 5)), oG 12 (.mv (tG 0)), oG 13 (.mv (tG 6)), oG 14 (.call (fG 70) [(tG 12), (tG 13)]), oG 15 (.mv (tG 1)), oG 16 (.mv (tG 6)), oG 17 (.call (fG 70) [(tG 15), (tG 16)]), oG 18 (.bslice 2 1 [(.i .i64 (.ofNat 0)), (.i .i64 (.ofNat 0))] [(0, 1, (tG 14)), (1, 1, (tG 17))]), oG 19 (.app 1 (tG 11) (tG 18)), oG 5 (.as (tG 19))]
noncomputable def f78_r5 : List EOper := [oG 9 (.mv (tG 6)), oG 10 (.bin .add (tG 9) (cG 1)), oG 6 (.as (tG 10))]
noncomputable def f78_l0 : EC := (.seq (.seq (.reg f78_r3) (.cond (tG 8) .skip (.exit 0))) (.seq (.block 1 (.reg f78_r4)) (.reg f78_r5)))
noncomputable def f78_r6 : List EOper := [oG 20 (.mv (tG 5)), oG 21 (.call (fG 68) [(tG 20)]), oG 4 (.as (tG 21))]
noncomputable def f78_c : EC := (.seq (.reg f78_r0) (.seq (.reg f78_r1) (.seq (.seq (.reg f78_r2) (.block 0 (.loop f78_l0))) (.seq (.reg f78_r6) .ret))))
noncomputable def f78 : EF := ⟨22, [.tmp (.ofNat 4)], f78_c, none⟩
theorem f78_rs : f78.rs = [.tmp (.ofNat 4)] := of_eq_true (eq_self _)
noncomputable def f76_r0 : List EOper := [oG 2 (.as (.c (.b false)))]
noncomputable def f76_r1 : List EOper := [oG 3 (.mv (tG 0)), oG 4 (.len (tG 3)), oG 5 (.bin .leq (tG 4) (cG 3)), oG 6 (.mv (tG 5)), gG 7 6 true (.mv (tG 0)), gG 8 6 true (.call (fG 84) [(tG 7)]), oG 9 (.pick (tG 6) (tG 8) (.c (.b false))), oG 2 (.as (tG 9))]
noncomputable def f76_c : EC := (.seq (.reg f76_r0) (.seq (.reg f76_r1) .ret))
noncomputable def f76 : EF := ⟨10, [.tmp (.ofNat 2)], f76_c, none⟩
theorem f76_rs : f76.rs = [.tmp (.ofNat 2)] := of_eq_true (eq_self _)
noncomputable def f37_r0 : List EOper := [oG 2 (.as (.c (.b false)))]
noncomputable def f37_r1 : List EOper := [oG 3 (.mv (tG 0)), oG 4 (.len (tG 3)), oG 5 (.bin .leq (tG 4) (cG 3)), oG 6 (.mv (tG 5)), gG 7 6 true (.mv (tG 0)), gG 8 6 true (.call (fG 53) [(tG 7)]), oG 9 (.pick (tG 6) (tG 8) (.c (.b false))), oG 2 (.as (tG 9))]
noncomputable def f37_c : EC := (.seq (.reg f37_r0) (.seq (.reg f37_r1) .ret))
noncomputable def f37 : EF := ⟨10, [.tmp (.ofNat 2)], f37_c, none⟩
theorem f37_rs : f37.rs = [.tmp (.ofNat 2)] := of_eq_true (eq_self _)
noncomputable def f36_r0 : List EOper := [oG 4 (.as (.c (.b false))), oG 5 (.as (cG 0))]
noncomputable def f36_r1 : List EOper := [oG 7 (.mv (tG 0)), oG 8 (.call (fG 76) [(tG 7)]), oG 9 (.not (tG 8)), oG 10 (.mv (tG 9)), gG 11 10 false (.mv (tG 1)), gG 12 10 false (.call (fG 76) [(tG 11)]), gG 13 10 false (.not (tG 12)), oG 14 (.pick (tG 10) (.c (.b true)) (tG 13))]
noncomputable def f36_r2 : List EOper := [oG 4 (.as (.c (.b false))), oG 5 (.as (cG 1))]
noncomputable def f36_r3 : List EOper := [oG 15 (.mv (tG 0)), oG 16 (.mv (tG 1)), oG 17 (.call (fG 77) [(tG 15), (tG 16)]), oG 6 (.as (tG 17))]
noncomputable def f36_r4 : List EOper := [oG 18 (.mv (tG 6)), oG 19 (.call (fG 54) [(tG 18)]), oG 20 (.mv (tG 19)), gG 21 20 true (.mv (tG 6)), gG 22 20 true (.mv (tG 6)), gG 23 20 true (.len (tG 22)), gG 24 20 true (.bin .sub (tG 23) (cG 1)), gG 25 20 true (.iads 1 (tG 21) (tG 24)), gG 26 20 true (.ld (tG 25)), gG 27 20 true (.bin .gtr (tG 26) (cG 0)), oG 28 (.pick (tG 20) (tG 27) (.c (.b false))), oG 29 (.mv (tG 28)), gG 30 29 true (.mv (tG 6)), gG 31 29 true (.call (fG 55) [(tG 30)]), oG 32 (.pick (tG 29) (tG 31) (.c (.b false))), oG 4 (.as (tG 32)), oG 5 (.as (cG 0))]
noncomputable def f36_c : EC := (.seq (.reg f36_r0) (.seq (.seq (.reg f36_r1) (.cond (tG 14) (.seq (.reg f36_r2) .ret) .skip)) (.seq (.reg f36_r3) (.seq (.reg f36_r4) .ret))))
noncomputable def f36 : EF := ⟨33, [.tmp (.ofNat 4), .tmp (.ofNat 5)], f36_c, none⟩
theorem f36_rs : f36.rs = [.tmp (.ofNat 4), .tmp (.ofNat 5)] := of_eq_true (eq_self _)
noncomputable def f38_r0 : List EOper := [oG 4 (.as (.c (.b false)))]
noncomputable def f38_r1 : List EOper := [oG 6 (.mv (tG 0)), oG 7 (.mv (tG 1)), oG 8 (.call (fG 78) [(tG 6), (tG 7)]), oG 5 (.as (tG 8))]
noncomputable def f38_r2 : List EOper := [oG 9 (.mv (tG 5)), oG 10 (.len (tG 9)), oG 11 (.bin .gtr (tG 10) (cG 0)), oG 12 (.mv (tG 11)), gG 13 12 true (.mv (tG 5)), gG 14 12 true (.mv (tG 5)), gG 15 12 true (.len (tG 14)), gG 16 12 true (.bin .sub (tG 15) (cG 1)), gG 17 12 true (.iads 1 (tG 13) (tG 16)), gG 18 12 true (.ld (tG 17)), gG 19 12 true (.bin .gtr (tG 18) (cG 0)), oG 20 (.pick (tG 12) (tG 19) (.c (.b false))), oG 21 (.mv (tG 20)), gG 22 21 true (.mv (tG 5)), gG 23 21 true (.call (fG 27) [(tG 22)]), oG 24 (.pick (tG 21) (tG 23) (.c (.b false))), oG 4 (.as (tG 24))]
noncomputable def f38_c : EC := (.seq (.reg f38_r0) (.seq (.reg f38_r1) (.seq (.reg f38_r2) .ret)))
noncomputable def f38 : EF := ⟨25, [.tmp (.ofNat 4)], f38_c, none⟩
theorem f38_rs : f38.rs = [.tmp (.ofNat 4)] := of_eq_true (eq_self _)
noncomputable def f39_r0 : List EOper := [oG 2 (.as (.c .sn))]
noncomputable def f39_r1 : List EOper := [oG 8 (.bslice 1 1 [(.i .i64 (.ofNat 0))] [(0, 1, (cG 1))]), oG 3 (.as (tG 8))]
noncomputable def f39_r2 : List EOper := [oG 4 (.as (cG 0))]
noncomputable def f39_r3 : List EOper := [oG 9 (.mv (tG 4)), oG 10 (.mv (tG 0)), oG 11 (.len (tG 10)), oG 12 (.bin .lss (tG 9) (tG 11)), oG 13 (.mv (tG 12)), gG 14 13 true (.mv (tG 4)), gG 15 13 true (.bin .lss (tG 14) (cG 5)), oG 16 (.pick (tG 13) (tG 15) (.c (.b false)))]
noncomputable def f39_r4 : List EOper := [oG 19 (.mv (tG 0)), oG 20 (.mv (tG 4)), oG 21 (.iads 1 (tG 19) (tG 20)), oG 22 (.ld (tG 21)), oG 23 (.conv .u64 (tG 22)), oG 24 (.bin .rem (tG 23) (.c (.i .u64 (.ofNat 3)))), oG 25 (.conv .i64 (tG 24)), oG 26 (.bin .add (cG 1) (tG 25)), oG 27 (.bslice 2 1 [(.i .i64 (.ofNat 0)), (.i .i64 (.ofNat 0))] [(0, 1, (tG 26)), (1, 1, (cG 1))]), oG 5 (.as (tG 27))]
noncomputable def f39_r5 : List EOper := [oG 28 (.mv (tG 0)), oG 29 (.mv (tG 4)), oG 30 (.iads 1 (tG 28) (tG 29)), oG 31 (.ld (tG 30)), oG 32 (.bin .rem (tG 31) (cG 2)), oG 33 (.bin .eql (tG 32) (cG 0))]
noncomputable def f39_r6 : List EOper := [oG 34 (.mv (tG 0)), oG 35 (.mv (tG 4)), oG 36 (.iads 1 (tG 34) (tG 35)), oG 37 (.ld (tG 36)), oG 38 (.conv .u64 (tG 37)), oG 39 (.bin .rem (tG 38) (.c (.i .u64 (.ofNat 2)))), oG 40 (.conv .i64 (tG 39)), oG 41 (.bin .add (cG 1) (tG 40)), oG 42 (.bslice 3 1 [(.i .i64 (.ofNat 0)), (.i .i64 (.ofNat 0)), (.i .i64 (.ofNat 0))] [(0, 1, (tG 41)), (1, 1, (cG 1)), (2, 1, (cG 1))]), oG 5 (.as (tG 42))]
noncomputable def f39_r7 : List EOper := [oG 44 (.mv (tG 3)), oG 45 (.mv (tG 5)), oG 46 (.call (fG 40) [(tG 44), (tG 45)]), oG 43 (.mv (tG 46)), oG 47 (.ext (tG 43) 0), oG 48 (.ext (tG 43) 1), oG 6 (.as (tG 47)), oG 7 (.as (tG 48))]
noncomputable def f39_r8 : List EOper := [oG 49 (.mv (tG 7))]
noncomputable def f39_r9 : List EOper := [oG 50 (.mv (tG 6)), oG 3 (.as (tG 50))]
noncomputable def f39_r10 : List EOper := [oG 17 (.mv (tG 4)), oG 18 (.bin .add (tG 17) (cG 1)), oG 4 (.as (tG 18))]
noncomputable def f39_l0 : EC := (.seq (.seq (.reg f39_r3) (.cond (tG 16) .skip (.exit 0))) (.seq (.block 1 (.seq (.reg f39_r4) (.seq (.seq (.reg f39_r5) (.cond (tG 33) (.reg f39_r6) .skip)) (.seq (.reg f39_r7) (.seq (.reg f39_r8) (.cond (tG 49) (.reg f39_r9) .skip)))))) (.reg f39_r10)))
noncomputable def f39_r11 : List EOper := [oG 51 (.mv (tG 3)), oG 2 (.as (tG 51))]
noncomputable def f39_c : EC := (.seq (.reg f39_r0) (.seq (.reg f39_r1) (.seq (.seq (.reg f39_r2) (.block 0 (.loop f39_l0))) (.seq (.reg f39_r11) .ret))))
noncomputable def f39 : EF := ⟨52, [.tmp (.ofNat 2)], f39_c, none⟩
theorem f39_rs : f39.rs = [.tmp (.ofNat 2)] := of_eq_true (eq_self _)
section
variable {fs : T EF} {h : H} {v w : V} {A B L E O : List Int}
def f77_I (h : H) (v w o : V) (E O : List Int) (i : Nat) (fr : Fr) (h1 : H) : Prop := i ≤ E.length ∧ Grow h.nx.nat h h1 ∧ Sl iE h1 o (wvA E O i 0) ∧ fr.get (K.ofNat 0) = some (v) ∧ fr.get (K.ofNat 1) = some (w) ∧ fr.get (K.ofNat 5) = some (o) ∧ fr.get (K.ofNat 11) = some (v) ∧ fr.get (K.ofNat 12) = some (.i .i64 (E.length : Int)) ∧ fr.get (K.ofNat 13) = some (.i .i64 (i : Int))
def f77_J (h : H) (w o : V) (E O : List Int) (j : Nat) (fr : Fr) (h1 : H) : Prop := j ≤ O.length ∧ Grow h.nx.nat h h1 ∧ Sl iE h1 o (wvA E O E.length j) ∧ fr.get (K.ofNat 5) = some (o) ∧ fr.get (K.ofNat 24) = some (w) ∧ fr.get (K.ofNat 25) = some (.i .i64 (O.length : Int)) ∧ fr.get (K.ofNat 26) = some (.i .i64 (j : Int))
theorem f77_ret (k89 : fs.get (.ofNat 89) = some f89) (hE : E.length ≤ 3) (hO : O.length ≤ 3) (hv : Sr iE h v E) (hw : Sr iE h w O) (hc : HC h) : Ret fs f77 [v, w] h fun r h' => Sr iE h' r (trm (wvL E O)) ∧ Grow h.nx.nat h h' := by
  apply ret_of rfl
  show W fs none f77_c _ _ _
  unfold f77_c
  have hmk := mks_ints (h := h) (k := .i64) (n := 6) (by omega)
  have hmk : mksV 1 [.i .i64 0] h (.i .i64 6) = .ok (.sl h.nx 0 6 1) (h.new (.cells (6 * 1) (rep [.i .i64 0] 6))) := hmk
  have hsl := mks_sl (h := h) (n := 6)
  have gA := Grow.new (Nat.le_refl h.nx.nat) (.cells (6 * 1) (rep [.i .i64 0] 6))
  simp (disch := omega) only [f77_r0, f77_r1, f77_r2, x_mks, Nat.reduceEqDiff, ↓reduceIte, hmk, hv.len, bz]
  generalize h.new (.cells (6 * 1) (rep [.i .i64 0] 6)) = h0 at *
  have ho0 : Own h.nx.nat (.sl h.nx 0 6 1) := fun id off n sz e => by cases e; exact Nat.le_refl _
  generalize V.sl h.nx 0 6 1 = o at *
  rw [← wvA_0 (E := E) (O := O)] at hsl
  refine W_loop (f77_I h v w o E O) (fun i => E.length - i) ?_ 0 ⟨Nat.zero_le _, gA, hsl, by simp (disch := omega) only [getK_set, Nat.reduceEqDiff, ↓reduceIte, and_self, Int.natCast_zero]⟩
  rintro i fr h1 ⟨hi, hG, hs, g0, g1, g5, g11, g12, g13⟩
  have hc1 := hG.hc hc
  have hv1 := hv.grow hc hG
  unfold f77_l0
  by_cases hlt : i < E.length
  · have d1 : decide ((i : Int) < (E.length : Int)) = true := decide_eq_true (by omega)
    obtain ⟨p, p1, p2⟩ := hv1.at i hlt
    have p2 : loadV h1 p one? = .ok (.i .i64 E[i]) h1 := p2
    obtain ⟨p', id, m, cs', a1, a2, a3, ⟨off, n', sz, a4⟩, a5⟩ := hs.st (i := 2 * i) (by rw [wvA_len]; omega) (x := E[i]) (c := .i .i64 E[i]) rfl rfl hc1
    rw [wvA_e (by omega) hlt] at a3
    have e2 : fw .i64 (2 * (i : Int)) = ((2 * i : Nat) : Int) := by rw [fw64 (by omega) (by omega)]; omega
    have e1 : fw .i64 ((i : Int) + 1) = ((i + 1 : Nat) : Int) := by rw [fw64 (by omega) (by omega)]; rfl
    simp (disch := omega) only [f77_r3, f77_r4, f77_r5, f77_r6, Nat.reduceEqDiff, ↓reduceIte, g5, g11, g12, g13, d1, p1, p2, e2, e1, a1, a2, bz]
    exact ⟨i + 1, by omega, by omega, hG.trans (Grow.put (ho0 _ _ _ _ a4) a5 _), a3, by simp (disch := omega) only [getK_set, Nat.reduceEqDiff, ↓reduceIte, g0, g1, g5, g11, g12, and_self]⟩
  · have d1 : decide ((i : Int) < (E.length : Int)) = false := decide_eq_false (by omega)
    obtain rfl : i = E.length := by omega
    simp (disch := omega) only [f77_r3, f77_r7, Nat.reduceEqDiff, ↓reduceIte, Bool.false_eq_true, g1, g12, g13, d1, (hw.grow hc hG).len, bz]
    refine W_loop (f77_J h w o E O) (fun j => O.length - j) ?_ 0 ⟨Nat.zero_le _, hG, hs, by simp (disch := omega) only [getK_set, Nat.reduceEqDiff, ↓reduceIte, g5, and_self, Int.natCast_zero]⟩
    clear g0 g1 g5 g11 g12 g13 hs hG hc1 hv1 d1 fr h1
    rintro j fr h1 ⟨hj, hG, hs, g5, g24, g25, g26⟩
    have hc1 := hG.hc hc
    have hw1 := hw.grow hc hG
    unfold f77_l1
    by_cases hlt : j < O.length
    · have d1 : decide ((j : Int) < (O.length : Int)) = true := decide_eq_true (by omega)
      obtain ⟨p, p1, p2⟩ := hw1.at j hlt
      have p2 : loadV h1 p one? = .ok (.i .i64 O[j]) h1 := p2
      obtain ⟨p', id, m, cs', a1, a2, a3, ⟨off, n', sz, a4⟩, a5⟩ := hs.st (i := 2 * j + 1) (by rw [wvA_len]; omega) (x := O[j]) (c := .i .i64 O[j]) rfl rfl hc1
      rw [wvA_o (by omega) hlt] at a3
      have e2 : fw .i64 (2 * (j : Int)) = 2 * (j : Int) := fw64 (by omega) (by omega)
      have e3 : fw .i64 (2 * (j : Int) + 1) = ((2 * j + 1 : Nat) : Int) := by rw [fw64 (by omega) (by omega)]; omega
      have e1 : fw .i64 ((j : Int) + 1) = ((j + 1 : Nat) : Int) := by rw [fw64 (by omega) (by omega)]; rfl
      simp (disch := omega) only [f77_r8, f77_r9, f77_r10, f77_r11, Nat.reduceEqDiff, ↓reduceIte, g5, g24, g25, g26, d1, p1, p2, e2, e3, e1, a1, a2, bz]
      exact ⟨j + 1, by omega, by omega, hG.trans (Grow.put (ho0 _ _ _ _ a4) a5 _), a3, by simp (disch := omega) only [getK_set, Nat.reduceEqDiff, ↓reduceIte, g5, g24, g25, and_self]⟩
    · have d1 : decide ((j : Int) < (O.length : Int)) = false := decide_eq_false (by omega)
      obtain rfl : j = O.length := by omega
      rw [wvA_end] at hs
      simp (disch := omega) only [f77_r8, f77_r12, Nat.reduceEqDiff, ↓reduceIte, Bool.false_eq_true, g5, g25, g26, d1, bz]
      refine (callP_0 (ef := f89) k89 rfl (f89_ret hs.sr (by simp [wvL]))).mono ?_
      rintro r h2 ⟨s2, _, rfl⟩
      simp (disch := omega) only [f77_rs, Option.some.injEq, exists_eq_left', ↓reduceIte, bz]
      exact ⟨s2, hG⟩
theorem atN_nat {i : Nat} : atN A (i : Int) = A.getD i 0 := by
  unfold atN
  by_cases h : i < A.length
  · rw [if_neg (by omega), Int.toNat_natCast]
  · rw [if_pos (.inr (by omega)), getD_ge (by omega)]
def wvP (E O : List Int) (i : Nat) : List Int := (wvL E O).take (2 * i)
theorem wvP_succ {i : Nat} (hi : i < 3) : wvP E O (i + 1) = wvP E O i ++ [E.getD i 0, O.getD i 0] := by
  obtain rfl | rfl | rfl : i = 0 ∨ i = 1 ∨ i = 2 := by omega
  · rfl
  · rfl
  · rfl
def f78_I (h : H) (v w : V) (E O : List Int) (i : Nat) (fr : Fr) (h1 : H) : Prop := i ≤ 3 ∧ Grow h.nx.nat h h1 ∧ ∃ u, Sl iE h1 u (wvP E O i) ∧ Own h.nx.nat u ∧ fr.get (K.ofNat 0) = some (v) ∧ fr.get (K.ofNat 1) = some (w) ∧ fr.get (K.ofNat 5) = some (u) ∧ fr.get (K.ofNat 6) = some (.i .i64 (i : Int))
theorem f78_ret (k70 : fs.get (.ofNat 70) = some f70) (k68 : fs.get (.ofNat 68) = some f68) (hv : Sr iE h v E) (hw : Sr iE h w O) (hc : HC h) : Ret fs f78 [v, w] h fun r h' => Sr iE h' r (trm (wvL E O)) ∧ Grow h.nx.nat h h' := by
  apply ret_of rfl
  show W fs none f78_c _ _ _
  unfold f78_c
  simp (disch := omega) only [f78_r0, f78_r1, f78_r2, bz]
  refine W_loop (f78_I h v w E O) (fun i => 3 - i) ?_ 0 ⟨Nat.zero_le _, Grow.refl _ _, .sn, Sl.nil, Own.sn, by simp (disch := omega) only [getK_set, Nat.reduceEqDiff, ↓reduceIte, and_self, Int.natCast_zero]⟩
  rintro i fr h1 ⟨hi, hG, u, su, ou, g0, g1, g5, g6⟩
  have hc1 := hG.hc hc
  have hv1 := hv.grow hc hG
  have hw1 := hw.grow hc hG
  unfold f78_l0
  by_cases hlt : i < 3
  · have d1 : decide ((i : Int) < 3) = true := decide_eq_true (by omega)
    have e1 := fun P => callP_eq2 (P := P) (callP_0 (args := [v, .i .i64 (i : Int)]) k70 rfl (f70_ret (x := (i : Int)) hv1))
    have e2 := fun P => callP_eq2 (P := P) (callP_0 (args := [w, .i .i64 (i : Int)]) k70 rfl (f70_ret (x := (i : Int)) hw1))
    rw [atN_nat] at e1 e2
    have g2 := Grow.new (Nat.le_refl h1.nx.nat) (.cells (2 * 1) [.i .i64 (E.getD i 0), .i .i64 (O.getD i 0)])
    have hwl : (wvP E O i).length ≤ 6 := by unfold wvP; rw [List.length_take]; exact Nat.min_le_right _ _
    obtain ⟨u', h3, a1, a2, a3, a4, _⟩ := Sl.app (e := iE) (b := h.nx.nat) (su.grow hc1 g2) ou (Nat.le_trans hG.nx g2.nx) (lit2 (h := h1) (x := E.getD i 0) (y := O.getD i 0)) (g2.hc hc1) (by simp; omega)
    rw [← wvP_succ hlt] at a2
    have e3 : fw .i64 ((i : Int) + 1) = ((i + 1 : Nat) : Int) := by rw [fw64 (by omega) (by omega)]; rfl
    have a1 : appV 1 (h1.new (.cells (2 * 1) [.i .i64 (E.getD i 0), .i .i64 (O.getD i 0)])) u (.sl h1.nx 0 2 1) = .ok u' h3 := a1
    generalize E.getD i 0 = x at *
    generalize O.getD i 0 = y at *
    simp (disch := omega) only [f78_r3, f78_r4, f78_r5, Nat.reduceEqDiff, ↓reduceIte, fill_2, set_2, g0, g1, g5, g6, d1, e1, e2, e3, a1, bz]
    exact ⟨i + 1, by omega, by omega, (hG.trans (g2.low hG.nx)).trans a4, u', a2, a3, by simp (disch := omega) only [getK_set, Nat.reduceEqDiff, ↓reduceIte, g0, g1, and_self]⟩
  · have d1 : decide ((i : Int) < 3) = false := decide_eq_false (by omega)
    obtain rfl : i = 3 := by omega
    have su : Sl iE h1 u (wvL E O) := su
    simp (disch := omega) only [f78_r3, f78_r6, Nat.reduceEqDiff, ↓reduceIte, Bool.false_eq_true, g5, g6, d1, bz]
    refine (callP_0 (ef := f68) k68 rfl (f68_ret su.sr (by simp [wvL]))).mono ?_
    rintro r h2 ⟨s2, _, rfl⟩
    simp (disch := omega) only [f78_rs, Option.some.injEq, exists_eq_left', ↓reduceIte, bz]
    exact ⟨s2, hG⟩
def hfB (L : List Int) : Bool := decide (L.length ≤ 3) && smB L
theorem f76_eq (k : CSm fs) (h76 : fs.get (.ofNat 76) = some f76) (hv : Sr iE h v L) (hL : L.length ≤ 1000) {P : V → H → Prop} : CallP fs (.fn (.ofNat 76) []) [v] h P = P (.b (hfB L)) h := by
  refine callP_eq2 (callP_0 h76 rfl ?_)
  apply ret_of rfl
  show W fs none f76_c _ _ _
  unfold f76_c hfB
  have e1 := hv.len
  have e2 := fun P => f84_eq k hv (by omega) (P := P)
  by_cases h1 : L.length ≤ 3
  · have d1 : decide ((L.length : Int) ≤ 3) = true := decide_eq_true (by omega)
    have b1 : decide (L.length ≤ 3) = true := decide_eq_true h1
    simp (disch := omega) only [f76_r0, f76_r1, f76_rs, Option.some.injEq, exists_eq_left', Nat.reduceEqDiff, ↓reduceIte, e1, e2, d1, b1, Bool.true_and, and_self, bz]
  · have d1 : decide ((L.length : Int) ≤ 3) = false := decide_eq_false (by omega)
    have b1 : decide (L.length ≤ 3) = false := decide_eq_false h1
    simp (disch := omega) only [f76_r0, f76_r1, f76_rs, Option.some.injEq, exists_eq_left', Nat.reduceEqDiff, ↓reduceIte, Bool.false_eq_true, e1, d1, b1, Bool.false_and, and_self, bz]
theorem f37_eq (h53 : fs.get (.ofNat 53) = some f53) (h37 : fs.get (.ofNat 37) = some f37) (hv : Sr iE h v L) (hL : L.length ≤ 1000) {P : V → H → Prop} : CallP fs (.fn (.ofNat 37) []) [v] h P = P (.b (hfB L)) h := by
  refine callP_eq2 (callP_0 h37 rfl ?_)
  apply ret_of rfl
  show W fs none f37_c _ _ _
  unfold f37_c hfB
  have e1 := hv.len
  have e2 := fun P => f53_eq h53 hv (by omega) (P := P)
  by_cases h1 : L.length ≤ 3
  · have d1 : decide ((L.length : Int) ≤ 3) = true := decide_eq_true (by omega)
    have b1 : decide (L.length ≤ 3) = true := decide_eq_true h1
    simp (disch := omega) only [f37_r0, f37_r1, f37_rs, Option.some.injEq, exists_eq_left', Nat.reduceEqDiff, ↓reduceIte, e1, e2, d1, b1, Bool.true_and, and_self, bz]
  · have d1 : decide ((L.length : Int) ≤ 3) = false := decide_eq_false (by omega)
    have b1 : decide (L.length ≤ 3) = false := decide_eq_false h1
    simp (disch := omega) only [f37_r0, f37_r1, f37_rs, Option.some.injEq, exists_eq_left', Nat.reduceEqDiff, ↓reduceIte, Bool.false_eq_true, e1, d1, b1, Bool.false_and, and_self, bz]
def wvB (E O : List Int) : Bool := decide ((trm (wvL E O)).length > 0) && (decide ((trm (wvL E O)).getD ((trm (wvL E O)).length - 1) 0 > 0) && stB (trm (wvL E O)))
theorem big0 : bigB 0 = false := rfl
theorem sm_get {L : List Int} (h : smB L = true) (i : Nat) : bigB (L.getD i 0) = false := by
  unfold smB at h
  rw [Bool.not_eq_true', List.any_eq_false] at h
  rcases getD_mem (L := L) (i := i) with hm | hm
  · have := h _ hm
    simpa using this
  · rw [hm]; exact big0
theorem wv_pl (hE : smB E = true) (hO : smB O = true) : plB (trm (wvL E O)) = decide ((trm (wvL E O)).length > 0) := by
  have hl : (trm (wvL E O)).length ≤ 6 := by rw [trm_len]; exact trN_le
  by_cases h0 : (trm (wvL E O)).length > 0
  · have hs : smB (trm (wvL E O)) = true := by
      unfold smB
      rw [Bool.not_eq_true', List.any_eq_false]
      intro x hx
      have hx := List.mem_of_mem_take hx
      have : bigB x = false := by
        unfold wvL at hx
        simp only [List.mem_cons, List.not_mem_nil, or_false] at hx
        rcases hx with rfl | rfl | rfl | rfl | rfl | rfl <;> first | exact sm_get hE _ | exact sm_get hO _
      rw [this]; simp
    unfold plB
    rw [hs, decide_eq_true (show 1 ≤ (trm (wvL E O)).length by omega), decide_eq_true hl, decide_eq_true (trm_last h0), decide_eq_true h0]; rfl
  · unfold plB
    rw [decide_eq_false (show ¬ 1 ≤ (trm (wvL E O)).length by omega), decide_eq_false h0]; rfl
structure CallsW (fs : T EF) : Prop extends CallsH fs where
  c76 : fs.get (K.ofNat 76) = some f76
  c77 : fs.get (K.ofNat 77) = some f77
  c78 : fs.get (K.ofNat 78) = some f78
theorem f36_ret (k : CallsW fs) (hE : E.length ≤ 1000) (hO : O.length ≤ 1000) (hv : Sr iE h v E) (hw : Sr iE h w O) (hc : HC h) : Ret fs f36 [v, w] h fun r h' => r = (if hfB E = true ∧ hfB O = true then .tup [.b (wvB E O), .i .i64 0] else .tup [.b false, .i .i64 1]) ∧ Grow h.nx.nat h h' := by
  apply ret_of rfl
  show W fs none f36_c _ _ _
  unfold f36_c
  have e1 := fun P => f76_eq k.toCSm k.c76 hv hE (P := P)
  have e2 := fun P => f76_eq k.toCSm k.c76 hw hO (P := P)
  cases hb1 : hfB E with
  | false =>
    simp (disch := omega) only [f36_r0, f36_r1, f36_r2, f36_rs, Option.some.injEq, exists_eq_left', Nat.reduceEqDiff, ↓reduceIte, Bool.false_eq_true, Bool.not_true, Bool.not_false, e1, hb1, false_and, bz]
    exact Grow.refl _ _
  | true =>
    cases hb2 : hfB O with
    | false =>
      simp (disch := omega) only [f36_r0, f36_r1, f36_r2, f36_rs, Option.some.injEq, exists_eq_left', Nat.reduceEqDiff, ↓reduceIte, Bool.false_eq_true, Bool.not_true, Bool.not_false, e1, e2, hb1, hb2, and_false, bz]
      exact Grow.refl _ _
    | true =>
      have hb1' := hb1
      have hb2' := hb2
      unfold hfB at hb1' hb2'
      rw [Bool.and_eq_true, decide_eq_true_eq] at hb1' hb2'
      simp (disch := omega) only [f36_r0, f36_r1, f36_r3, Nat.reduceEqDiff, ↓reduceIte, Bool.false_eq_true, Bool.not_true, Bool.not_false, e1, e2, hb1, hb2, and_self, bz]
      refine (callP_0 (ef := f77) k.c77 rfl (f77_ret k.c89 hb1'.1 hb2'.1 hv hw hc)).mono ?_
      rintro a h1 ⟨sa, g1⟩
      have hl : (trm (wvL E O)).length ≤ 6 := by rw [trm_len]; exact trN_le
      have e54 := fun P => f54_eq k.toCSm k.c54 sa (by omega) (P := P)
      have hpl := wv_pl hb1'.2 hb2'.2
      rw [hpl] at e54
      unfold wvB
      generalize trm (wvL E O) = M at *
      have el := sa.len
      by_cases h0 : M.length > 0
      · have d1 : decide (M.length > 0) = true := decide_eq_true h0
        rw [d1] at e54
        have ei : (M.length : Int) - 1 = ((M.length - 1 : Nat) : Int) := by omega
        obtain ⟨p, p1, p2⟩ := sa.at (M.length - 1) (by omega)
        have p2 : loadV h1 p one? = .ok (.i .i64 (M.getD (M.length - 1) 0)) h1 := by rw [getD_lt (by omega)]; exact p2
        cases h2 : decide (M.getD (M.length - 1) 0 > 0) with
        | false =>
          simp (disch := omega) only [f36_r4, f36_rs, Option.some.injEq, exists_eq_left', Nat.reduceEqDiff, ↓reduceIte, Bool.false_eq_true, e54, el, ei, fw64, p1, p2, h2, d1, Bool.true_and, Bool.false_and, bz]
          exact g1
        | true =>
          simp (disch := omega) only [f36_r4, Nat.reduceEqDiff, ↓reduceIte, e54, el, ei, fw64, p1, p2, h2, d1, Bool.true_and, bz]
          refine (callP_0 (ef := f55) k.c55 rfl (f55_ret k.toCallsS (by omega) (by omega) sa (g1.hc hc))).mono ?_
          rintro r h3 ⟨rfl, g3⟩
          simp (disch := omega) only [f36_rs, Option.some.injEq, exists_eq_left', Nat.reduceEqDiff, ↓reduceIte, bz]
          exact g1.trans (g3.low g1.nx)
      · have d1 : decide (M.length > 0) = false := decide_eq_false h0
        rw [d1] at e54
        simp (disch := omega) only [f36_r4, f36_rs, Option.some.injEq, exists_eq_left', Nat.reduceEqDiff, ↓reduceIte, Bool.false_eq_true, e54, d1, Bool.false_and, bz]
        exact g1
theorem f38_ret (k : CallsW fs) (hv : Sr iE h v E) (hw : Sr iE h w O) (hc : HC h) : Ret fs f38 [v, w] h fun r h' => r = .b (wvB E O) ∧ Grow h.nx.nat h h' := by
  apply ret_of rfl
  show W fs none f38_c _ _ _
  unfold f38_c
  simp (disch := omega) only [f38_r0, f38_r1, Nat.reduceEqDiff, ↓reduceIte, bz]
  refine (callP_0 (ef := f78) k.c78 rfl (f78_ret k.c70 k.c68 hv hw hc)).mono ?_
  rintro a h1 ⟨sa, g1⟩
  have hl : (trm (wvL E O)).length ≤ 6 := by rw [trm_len]; exact trN_le
  unfold wvB
  generalize trm (wvL E O) = M at *
  have el := sa.len
  by_cases h0 : M.length > 0
  · have d1 : decide (M.length > 0) = true := decide_eq_true h0
    have d1' : decide ((M.length : Int) > 0) = true := decide_eq_true (by omega)
    have ei : (M.length : Int) - 1 = ((M.length - 1 : Nat) : Int) := by omega
    obtain ⟨p, p1, p2⟩ := sa.at (M.length - 1) (by omega)
    have p2 : loadV h1 p one? = .ok (.i .i64 (M.getD (M.length - 1) 0)) h1 := by rw [getD_lt (by omega)]; exact p2
    cases h2 : decide (M.getD (M.length - 1) 0 > 0) with
    | false =>
      simp (disch := omega) only [f38_r2, f38_rs, Option.some.injEq, exists_eq_left', Nat.reduceEqDiff, ↓reduceIte, Bool.false_eq_true, el, d1', ei, fw64, p1, p2, h2, d1, Bool.true_and, Bool.false_and, bz]
      exact g1
    | true =>
      simp (disch := omega) only [f38_r2, Nat.reduceEqDiff, ↓reduceIte, el, d1', ei, fw64, p1, p2, h2, d1, Bool.true_and, bz]
      refine (callP_0 (ef := f27) k.c27 rfl (f27_ret k.toCallsS (by omega) (by omega) sa (g1.hc hc))).mono ?_
      rintro r h3 ⟨rfl, g3⟩
      simp (disch := omega) only [f38_rs, Option.some.injEq, exists_eq_left', Nat.reduceEqDiff, ↓reduceIte, bz]
      exact g1.trans (g3.low g1.nx)
  · have d1 : decide (M.length > 0) = false := decide_eq_false h0
    have d1' : decide ((M.length : Int) > 0) = false := decide_eq_false (by omega)
    simp (disch := omega) only [f38_r2, f38_rs, Option.some.injEq, exists_eq_left', Nat.reduceEqDiff, ↓reduceIte, Bool.false_eq_true, el, d1', d1, Bool.false_and, bz]
    exact g1
end
end Go.Ev
namespace Go.Ev
open Go Go.RowKit

noncomputable def f6_r0 : List EOper := [oG 6 (.as (.c (.b false)))]
noncomputable def f6_r1 : List EOper := [oG 13 (.mv (tG 0)), oG 14 (.call (fG 12) [(tG 13), (cG 5)]), oG 15 (.mv (tG 1)), oG 16 (.call (fG 12) [(tG 15), (cG 5)]), oG 7 (.as (tG 14)), oG 8 (.as (tG 16))]
noncomputable def f6_r2 : List EOper := [oG 9 (.as (cG 0))]
noncomputable def f6_r3 : List EOper := [oG 17 (.mv (tG 9)), oG 18 (.bin .lss (tG 17) (cG 3))]
noncomputable def f6_r4 : List EOper := [oG 22 (.mv (tG 7)), oG 23 (.mv (tG 8)), oG 24 (.call (fG 36) [(tG 22), (tG 23)]), oG 21 (.mv (tG 24)), oG 25 (.ext (tG 21) 0), oG 26 (.ext (tG 21) 1), oG 10 (.as (tG 25)), oG 11 (.as (tG 26))]
noncomputable def f6_r5 : List EOper := [oG 27 (.mv (tG 7)), oG 28 (.call (fG 37) [(tG 27)]), oG 29 (.not (tG 28)), oG 30 (.mv (tG 29)), gG 31 30 false (.mv (tG 8)), gG 32 30 false (.call (fG 37) [(tG 31)]), gG 33 30 false (.not (tG 32)), oG 34 (.pick (tG 30) (.c (.b true)) (tG 33))]
noncomputable def f6_r6 : List EOper := [oG 35 (.mv (tG 11)), oG 36 (.bin .neq (tG 35) (cG 1)), oG 37 (.mv (tG 36)), gG 38 37 false (.mv (tG 10)), oG 39 (.pick (tG 37) (.c (.b true)) (tG 38))]
noncomputable def f6_r7 : List EOper := [oG 6 (.as (.c (.b false)))]
noncomputable def f6_r8 : List EOper := [oG 40 (.mv (tG 11)), oG 41 (.bin .neq (tG 40) (cG 0)), oG 42 (.mv (tG 41)), gG 43 42 false (.mv (tG 10)), gG 44 42 false (.mv (tG 7)), gG 45 42 false (.mv (tG 8)), gG 46 42 false (.call (fG 38) [(tG 44), (tG 45)]), gG 47 42 false (.eqk (.one none) true (tG 43) (tG 46)), oG 48 (.pick (tG 42) (.c (.b true)) (tG 47))]
noncomputable def f6_r9 : List EOper := [oG 6 (.as (.c (.b false)))]
noncomputable def f6_r10 : List EOper := [oG 49 (.mv (tG 2)), oG 50 (.call (fG 25) [(tG 49)]), oG 51 (.call (fG 26) [(tG 50)]), oG 12 (.alloc 2 [.sn, .sn]), ⟨none, none, .st 2 (tG 12) (tG 51)⟩]
noncomputable def f6_r11 : List EOper := [oG 52 (.mv (tG 9)), oG 53 (.bin .eql (tG 52) (cG 1))]
noncomputable def f6_r12 : List EOper := [oG 54 (.mv (tG 2)), oG 55 (.call (fG 39) [(tG 54)]), oG 56 (.call (fG 26) [(tG 55)]), ⟨none, none, .st 2 (tG 12) (tG 56)⟩]
noncomputable def f6_r13 : List Stage := [⟨[oG 57 (.iadr 2 1 (tG 12) (cG 0)), oG 58 (.ld (tG 57)), oG 59 (.iadr 2 1 (tG 12) (cG 1)), oG 60 (.ld (tG 59))], [], (some (oG 7 (.as (tG 58)))), []⟩, ⟨[], [oG 59 (.iadr 2 1 (tG 12) (cG 1)), oG 60 (.ld (tG 59))], (some (oG 8 (.as (tG 60)))), []⟩, ⟨[], [], none, []⟩]
noncomputable def f6_r14 : List EOper := [oG 19 (.mv (tG 9)), oG 20 (.bin .add (tG 19) (cG 1)), oG 9 (.as (tG 20))]
noncomputable def f6_l0 : EC := (.seq (.seq (.reg f6_r3) (.cond (tG 18) .skip (.exit 0))) (.seq (.block 1 (.seq (.reg f6_r4) (.seq (.seq (.reg f6_r5) (.cond (tG 34) (.seq (.reg f6_r6) (.cond (tG 39) (.seq (.reg f6_r7) .ret) .skip)) (.seq (.reg f6_r8) (.cond (tG 48) (.seq (.reg f6_r9) .ret) .skip)))) (.seq (.reg f6_r10) (.seq (.seq (.reg f6_r11) (.cond (tG 53) (.reg f6_r12) .skip)) (.draw f6_r13)))))) (.reg f6_r14)))
noncomputable def f6_r15 : List EOper := [oG 61 (.call (fG 19) []), oG 6 (.as (tG 61))]
noncomputable def f6_c : EC := (.seq (.reg f6_r0) (.seq (.reg f6_r1) (.seq (.seq (.reg f6_r2) (.block 0 (.loop f6_l0))) (.seq (.reg f6_r15) .ret))))
noncomputable def f6 : EF := ⟨62, [.tmp (.ofNat 6)], f6_c, none⟩
theorem f6_rs : f6.rs = [.tmp (.ofNat 6)] := of_eq_true (eq_self _)
section
variable {fs : T EF} {h : H} {v w : V} {A B L : List Int}
theorem fill_3 {fr : Fr} {x y z : EO} {z1 z2 z3 : V} : fillE fr [z1, z2, z3] [(0, 1, x), (1, 1, y), (2, 1, z)] = oGet (cellsN 1 (ev fr x)) none fun cs => oGet (cellsN 1 (ev fr y)) none fun ds => oGet (cellsN 1 (ev fr z)) none fun es => some (setMany (setMany (setMany [z1, z2, z3] 0 cs) 1 ds) 2 es) := of_eq_true (eq_self _)
theorem set_3 {z1 z2 z3 a b c : V} : setMany (setMany (setMany [z1, z2, z3] 0 [a]) 1 [b]) 2 [c] = [a, b, c] := of_eq_true (eq_self _)
theorem lit3 {h : H} {x y z : Int} : Sl iE (h.new (.cells (3 * 1) [.i .i64 x, .i .i64 y, .i .i64 z])) (.sl h.nx 0 3 1) [x, y, z] := by
  refine .inr ⟨h.nx, 0, 3 * 1, _, rfl, get_new_same, rfl, by simp, fun i hi => ?_⟩
  obtain rfl | rfl | rfl : i = 0 ∨ i = 1 ∨ i = 2 := by have : i < 3 := hi; omega
  · rfl
  · rfl
  · rfl
def f39_I (h : H) (v : V) (i : Nat) (fr : Fr) (h1 : H) : Prop := i ≤ 5 ∧ Grow h.nx.nat h h1 ∧ ∃ u G, Sl iE h1 u G ∧ 1 ≤ G.length ∧ G.length ≤ 6 ∧ fr.get (K.ofNat 0) = some (v) ∧ fr.get (K.ofNat 3) = some (u) ∧ fr.get (K.ofNat 4) = some (.i .i64 (i : Int))
theorem f39_ret (k : CallsT fs) (k40 : fs.get (.ofNat 40) = some f40) (hv : Sr iE h v L) (hc : HC h) : Ret fs f39 [v] h fun r h' => ∃ G, Sl iE h' r G ∧ 1 ≤ G.length ∧ G.length ≤ 6 ∧ Grow h.nx.nat h h' := by
  apply ret_of rfl
  show W fs none f39_c _ _ _
  unfold f39_c
  have g0 := Grow.new (Nat.le_refl h.nx.nat) (.cells (1 * 1) [.i .i64 1])
  have l0 := lit1 (h := h) (x := 1)
  simp (disch := omega) only [f39_r0, f39_r1, f39_r2, ↓reduceIte, bz]
  refine W_loop (f39_I h v) (fun i => 5 - i) ?_ 0 ⟨by omega, g0, _, [1], l0, by simp, by simp, by simp (disch := omega) only [getK_set, Nat.reduceEqDiff, ↓reduceIte, and_self, Int.natCast_zero]⟩
  clear g0 l0
  rintro i fr h1 ⟨hi, hG, u, G, su, l1, l6, g0, g3, g4⟩
  have hc1 := hG.hc hc
  have hv1 := hv.grow hc hG
  have e1 := hv1.len
  unfold f39_l0
  have out : ∀ fr : Fr, fr.get (K.ofNat 3) = some u → W fs none (.seq (.reg f39_r11) .ret) (retK f39 fun r h' => ∃ G, Sl iE h' r G ∧ 1 ≤ G.length ∧ G.length ≤ 6 ∧ Grow h.nx.nat h h') fr h1 := by
    clear g0 g3 g4 fr
    intro fr g3
    simp (disch := omega) only [f39_r11, f39_rs, Option.some.injEq, exists_eq_left', ↓reduceIte, g3, bz]
    exact ⟨G, su, l1, l6, hG⟩
  by_cases hlt : i < L.length
  · have d1 : decide ((i : Int) < (L.length : Int)) = true := decide_eq_true (by omega)
    by_cases h5 : i < 5
    · have d2 : decide ((i : Int) < 5) = true := decide_eq_true (by omega)
      obtain ⟨p, p1, p2⟩ := hv1.at i hlt
      have p2 : loadV h1 p one? = .ok (.i .i64 L[i]) h1 := p2
      have d3 : decide ((3 : Int) = 0) = false := rfl
      have d4 : decide ((2 : Int) = 0) = false := rfl
      have e4 : fw .i64 ((i : Int) + 1) = ((i + 1 : Nat) : Int) := by rw [fw64 (by omega) (by omega)]; rfl
      have g3l := Grow.new (Nat.le_refl h1.nx.nat) (.cells (2 * 1) [.i .i64 (fw .i64 (1 + fw .i64 ((fw .u64 L[i]).tmod 3))), .i .i64 1])
      have l2 := lit2 (h := h1) (x := fw .i64 (1 + fw .i64 ((fw .u64 L[i]).tmod 3))) (y := 1)
      have hv2 := hv1.grow hc1 g3l
      obtain ⟨q, q1, q2⟩ := hv2.at i hlt
      obtain rfl : p = q := (RV.ok.inj ((p1 .i64 h1).symm.trans (q1 .i64 h1))).1
      have q2 : loadV (h1.new (.cells (2 * 1) [.i .i64 (fw .i64 (1 + fw .i64 ((fw .u64 L[i]).tmod 3))), .i .i64 1])) p one? = .ok (.i .i64 L[i]) _ := q2
      have fin : ∀ {Q : Ex → Fr → H → Prop} {fr : Fr} {h2 : H} {b : V} {B : List Int}, Grow h1.nx.nat h1 h2 → Sl iE h2 b B → 1 ≤ B.length → B.length ≤ 3 → fr.get (K.ofNat 0) = some (v) ∧ fr.get (K.ofNat 3) = some (u) ∧ fr.get (K.ofNat 4) = some (.i .i64 (i : Int)) ∧ fr.get (K.ofNat 5) = some (b) → (∀ fr h3 u' G', Grow h.nx.nat h h3 → Sl iE h3 u' G' → 1 ≤ G'.length → G'.length ≤ 6 → fr.get (K.ofNat 0) = some (v) ∧ fr.get (K.ofNat 3) = some (u') ∧ fr.get (K.ofNat 4) = some (.i .i64 (i : Int)) → Q .normal fr h3) → W fs none (.seq (.reg f39_r7) (.seq (.reg f39_r8) (.cond (.t (K.ofNat 49)) (.reg f39_r9) .skip))) Q fr h2 := by
        rintro Q fr h2 b B gB sB b1 b3 ⟨g0, g3, g4, g5⟩ hQ
        have su2 := su.grow hc1 gB
        simp (disch := omega) only [f39_r7, Nat.reduceEqDiff, ↓reduceIte, g3, g5, bz]
        refine (callP_0 (ef := f40) k40 rfl (f40_ret k ⟨l1, by omega⟩ ⟨b1, by omega⟩ su2.sr sB.sr (gB.hc hc1))).mono ?_
        rintro r h3 ⟨u', rfl, su', _, g'⟩
        have G3 := hG.trans ((gB.trans (g'.low gB.nx)).low hG.nx)
        cases hp : prB (prd G B) with
        | false =>
          simp (disch := omega) only [f39_r8, x_ext, onTup_t, nth0, nth1, Nat.reduceEqDiff, ↓reduceIte, Bool.false_eq_true, bz]
          exact hQ _ h3 u G G3 (su2.grow (gB.hc hc1) g') l1 l6 (by simp (disch := omega) only [getK_set, Nat.reduceEqDiff, ↓reduceIte, g0, g3, g4, and_self])
        | true =>
          simp (disch := omega) only [f39_r8, f39_r9, x_ext, onTup_t, nth0, nth1, Nat.reduceEqDiff, ↓reduceIte, bz]
          have hl := prd_len (A := G) (B := B)
          have h6 : (prd G B).length ≤ 6 := by
            unfold prB at hp
            rw [Bool.and_eq_true, decide_eq_true_eq] at hp
            exact hp.1
          exact hQ _ h3 u' (prd G B) G3 su' (by omega) h6 (by simp (disch := omega) only [getK_set, Nat.reduceEqDiff, ↓reduceIte, g0, g4, and_self])
      simp only [w_seq, w_reg] at fin
      by_cases h2 : L[i].tmod 2 = 0
      · have d5 : decide (L[i].tmod 2 = 0) = true := decide_eq_true h2
        have gg := g3l.trans ((Grow.new (Nat.le_refl _) (.cells (3 * 1) [.i .i64 (fw .i64 (1 + fw .i64 ((fw .u64 L[i]).tmod 2))), .i .i64 1, .i .i64 1])).low g3l.nx)
        simp (disch := omega) only [f39_r3, f39_r4, f39_r5, f39_r6, x_conv, Nat.reduceEqDiff, ↓reduceIte, fill_2, set_2, of5, g0, g4, e1, d1, d2, p1, p2, q2, d5, fill_3, set_3, bz]
        refine fin gg lit3 (by simp) (by simp) (by simp (disch := omega) only [getK_set, Nat.reduceEqDiff, ↓reduceIte, g0, g3, g4, and_self]) ?_
        rintro fr h3 u' G' G3 s' l1' l6' ⟨g0, g3, g4⟩
        simp (disch := omega) only [f39_r10, ↓reduceIte, g4, e4, bz]
        exact ⟨i + 1, by omega, by omega, G3, u', G', s', l1', l6', by simp (disch := omega) only [getK_set, Nat.reduceEqDiff, ↓reduceIte, g0, g3, and_self]⟩
      · have d5 : decide (L[i].tmod 2 = 0) = false := decide_eq_false h2
        simp (disch := omega) only [f39_r3, f39_r4, f39_r5, x_conv, Nat.reduceEqDiff, ↓reduceIte, Bool.false_eq_true, fill_2, set_2, of5, g0, g4, e1, d1, d2, p1, p2, q2, d5, bz]
        refine fin g3l l2 (by simp) (by simp) (by simp (disch := omega) only [getK_set, Nat.reduceEqDiff, ↓reduceIte, g0, g3, g4, and_self]) ?_
        rintro fr h3 u' G' G3 s' l1' l6' ⟨g0, g3, g4⟩
        simp (disch := omega) only [f39_r10, ↓reduceIte, g4, e4, bz]
        exact ⟨i + 1, by omega, by omega, G3, u', G', s', l1', l6', by simp (disch := omega) only [getK_set, Nat.reduceEqDiff, ↓reduceIte, g0, g3, and_self]⟩
    · have d2 : decide ((i : Int) < 5) = false := decide_eq_false (by omega)
      simp (disch := omega) only [f39_r3, Nat.reduceEqDiff, ↓reduceIte, Bool.false_eq_true, of5, g0, g4, e1, d1, d2, bz]
      exact out _ (by simp (disch := omega) only [getK_set, Nat.reduceEqDiff, ↓reduceIte, g3])
  · have d1 : decide ((i : Int) < (L.length : Int)) = false := decide_eq_false (by omega)
    simp (disch := omega) only [f39_r3, Nat.reduceEqDiff, ↓reduceIte, Bool.false_eq_true, of5, g0, g4, e1, d1, bz]
    exact out _ (by simp (disch := omega) only [getK_set, Nat.reduceEqDiff, ↓reduceIte, g3])
structure CallsWe (fs : T EF) : Prop extends CallsW fs where
  c12 : fs.get (K.ofNat 12) = some f12
  c25 : fs.get (K.ofNat 25) = some f25
  c26 : fs.get (K.ofNat 26) = some f26
  c36 : fs.get (K.ofNat 36) = some f36
  c37 : fs.get (K.ofNat 37) = some f37
  c38 : fs.get (K.ofNat 38) = some f38
  c39 : fs.get (K.ofNat 39) = some f39
  c40 : fs.get (K.ofNat 40) = some f40
  aw : ∀ (h : H) (P : V → H → Prop), CallP fs (.fn (K.ofNat 19) []) [] h P = P (.b true) h
theorem tr_ev : (trm (evL A A.length)).length ≤ A.length := by rw [trm_len]; exact Nat.le_trans trN_le evL_le
theorem tr_od : (trm (odL A A.length)).length ≤ A.length := by rw [trm_len]; exact Nat.le_trans trN_le odL_le
theorem f6_new {Q : Ex → Fr → H → Prop} {u : V} {n : Nat} {h1 : H} {fr : Fr} (k : CallsWe fs) (hu : Sr iE h1 u L) (hc : HC h1) (g : fr.get (.ofNat 2) = some (u) ∧ fr.get (.ofNat 9) = some (.i .i64 (n : Int)) )
    (hq : ∀ x y X Y fr' h', X.length ≤ 1000 → Y.length ≤ 1000 → Sr iE h' x X → Sr iE h' y Y → Grow h1.nx.nat h1 h' → fr'.get (K.ofNat 2) = some u → fr'.get (K.ofNat 9) = some (.i .i64 (n : Int)) → fr'.get (K.ofNat 7) = some x → fr'.get (K.ofNat 8) = some y → Q .normal fr' h') : W fs none (.seq (.reg f6_r10) (.seq (.seq (.reg f6_r11) (.cond (.t (K.ofNat 53)) (.reg f6_r12) .skip)) (.draw f6_r13))) Q fr h1 := by
  obtain ⟨g2, g9⟩ := g
  simp (disch := omega) only [f6_r10, ↓reduceIte, g2, bz]
  refine (callP_0 (ef := f25) k.c25 rfl (f25_ret hu hc)).mono ?_
  rintro a h2 ⟨A, sA, oA, pA, gA⟩
  obtain ⟨l1, l2, l3, _⟩ := plB_len pA
  have hc2 := gA.hc hc
  simp (disch := omega) only [↓reduceIte, bz]
  refine (callP_0 (ef := f26) k.c26 rfl (f26_ret k.c68 (by omega) sA.sr hc2)).mono ?_
  rintro r h3 ⟨y0, y1, rfl, z03, z13, _, _, g3⟩
  have hc3 := g3.hc hc2
  have G3 := gA.trans (g3.low gA.nx)
  obtain ⟨d1, d2, d3, d4⟩ := box2 (h := h3) z03.one z13.one
  have ed : decide ((n : Int) = 1) = decide (n = 1) := by congr 1; exact propext ⟨fun h => by omega, fun h => by omega⟩
  have hu4 := (hu.grow hc G3).grow hc3 d2
  have z04 := z03.grow hc3 d2
  have z14 := z13.grow hc3 d2
  have hc4 := d2.hc hc3
  have G4 := G3.trans (d2.low G3.nx)
  have hA1 := tr_ev (A := A)
  have hA2 := tr_od (A := A)
  clear sA oA pA l3 gA g3 hc2 hu hc
  -- the slots' end
  have fin : ∀ {fr : Fr} {h5 : H} {x y : V} {X Y : List Int}, h5.get h3.nx = .cells 2 [x, y] → X.length ≤ 1000 → Y.length ≤ 1000 → Sr iE h5 x X → Sr iE h5 y Y → Grow h1.nx.nat h1 h5 → fr.get (K.ofNat 2) = some (u) ∧ fr.get (K.ofNat 9) = some (.i .i64 (n : Int)) ∧ fr.get (K.ofNat 12) = some (.p h3.nx 0) → W fs none (.draw f6_r13) Q fr h5 := by
    rintro fr h5 x y X Y hb hX hY sx sy g5 ⟨g2, g9, g12⟩
    have p0 : loadV h5 (.p h3.nx 0) one? = .ok x h5 := load_p hb rfl
    have p1 : loadV h5 (.p h3.nx 1) one? = .ok y h5 := load_p hb rfl
    simp (disch := omega) only [f6_r13, xg_iadr, stay_cons, again_ok, stay_ld, beq_p, onP_p, Nat.reduceEqDiff, ↓reduceIte, stay_iadr, ix2_0, ix2_1, g12, p0, p1, bz]
    exact ⟨⟨sy.beq, trivial⟩, hq x y X Y _ h5 hX hY sx sy g5 (by simp (disch := omega) only [getK_set, Nat.reduceEqDiff, ↓reduceIte, g2]) (by simp (disch := omega) only [getK_set, Nat.reduceEqDiff, ↓reduceIte, g9]) (by simp (disch := omega) only [getK_set, Nat.reduceEqDiff, ↓reduceIte]) (by simp (disch := omega) only [getK_set, ↓reduceIte])⟩
  simp only [w_draw] at fin
  by_cases h1' : n = 1
  · have ed : decide ((n : Int) = 1) = true := decide_eq_true (by omega)
    have hid : (h3.nx).nat < ((h3.new (Blk.cells 2 [V.sn, V.sn])).put h3.nx (Blk.cells 2 [y0, y1])).nx.nat := by omega
    simp (disch := omega) only [f6_r11, f6_r12, x_alloc, Nat.reduceEqDiff, ↓reduceIte, g2, g9, d1, ed, bz]
    generalize (h3.new (Blk.cells 2 [V.sn, V.sn])).put h3.nx (Blk.cells 2 [y0, y1]) = h4 at *
    refine (callP_0 (ef := f39) k.c39 rfl (f39_ret k.toCallsT k.c40 hu4 hc4)).mono ?_
    rintro b h5 ⟨B, sB, b1, b6, g5⟩
    have hc5 := g5.hc hc4
    have q5 : h5.get h3.nx = .cells 2 [y0, y1] := (g5.old _ hid).trans d3
    simp (disch := omega) only [↓reduceIte, bz]
    refine (callP_0 (ef := f26) k.c26 rfl (f26_ret k.c68 (by omega) sB.sr hc5)).mono ?_
    rintro r h6 ⟨z0, z1, rfl, s0, s1, o0, o1, g6⟩
    have hid5 : (h3.nx).nat < h5.nx.nat := Nat.lt_of_lt_of_le hid g5.nx
    have q6 : h6.get h3.nx = .cells 2 [y0, y1] := (g6.old _ hid5).trans q5
    have st : storeV h6 2 (.p h3.nx 0) (.agg [z0, z1]) = .ok undefV (h6.put h3.nx (.cells 2 [z0, z1])) := by
      have _ := s0.one
      have _ := s1.one
      rw [store_p (m := 2) (cs := [y0, y1]) (xs := [z0, z1]) q6 rfl (by omega)]; rfl
    have hB1 := tr_ev (A := B)
    have hB2 := tr_od (A := B)
    have G5 := G4.trans (g5.low G4.nx)
    have G6 := G5.trans (g6.low G5.nx)
    simp (disch := omega) only [Nat.reduceEqDiff, ↓reduceIte, st, bz]
    exact fin get_put_same (by omega) (by omega) (s0.put (o0.notIn hid5) _) (s1.put (o1.notIn hid5) _) (G6.trans (Grow.put G3.nx (Nat.lt_of_lt_of_le hid5 g6.nx) _)) (by simp (disch := omega) only [getK_set, Nat.reduceEqDiff, ↓reduceIte, g2, g9, and_self])
  · have ed : decide ((n : Int) = 1) = false := decide_eq_false (by omega)
    simp (disch := omega) only [f6_r11, x_alloc, Nat.reduceEqDiff, ↓reduceIte, Bool.false_eq_true, g9, d1, ed, bz]
    exact fin d3 (by omega) (by omega) z04 z14 G4 (by simp (disch := omega) only [getK_set, Nat.reduceEqDiff, ↓reduceIte, g2, g9, and_self])
def f6_I (h : H) (u : V) (n : Nat) (fr : Fr) (h1 : H) : Prop := n ≤ 3 ∧ Grow h.nx.nat h h1 ∧ ∃ x y X Y, X.length ≤ 1000 ∧ Y.length ≤ 1000 ∧ Sr iE h1 x X ∧ Sr iE h1 y Y ∧ fr.get (K.ofNat 2) = some (u) ∧ fr.get (K.ofNat 7) = some (x) ∧ fr.get (K.ofNat 8) = some (y) ∧ fr.get (K.ofNat 9) = some (.i .i64 (n : Int))
theorem f6_ret {u : V} (k : CallsWe fs) (hv : Sr iE h v A) (hw : Sr iE h w B) (hu : Sr iE h u L) (_ : A.length ≤ 9223372036854775807) (_ : B.length ≤ 9223372036854775807) (_ : L.length ≤ 9223372036854775807) (hc : HC h) : Ret fs f6 [v, w, u] h fun r h' => r = .b true ∧ Grow h.nx.nat h h' := by
  apply ret_of rfl
  show W fs none f6_c _ _ _
  unfold f6_c
  simp (disch := omega) only [f6_r0, f6_r1, frame_3, Nat.reduceEqDiff, ↓reduceIte, of5, bz]
  refine (callP_0 (ef := f12) k.c12 rfl (f12_ret (m := 5) hv hc (by omega))).mono ?_
  rintro x h1 ⟨sx, _, g1⟩
  have hc1 := g1.hc hc
  simp (disch := omega) only [Nat.reduceEqDiff, ↓reduceIte, bz]
  refine (callP_0 (ef := f12) k.c12 rfl (f12_ret (m := 5) (hw.grow hc g1) hc1 (by omega))).mono ?_
  rintro y h2 ⟨sy, _, g2⟩
  have hc2 := g2.hc hc1
  have G2 := g1.trans (g2.low g1.nx)
  simp (disch := omega) only [f6_r2, Nat.reduceEqDiff, ↓reduceIte, bz]
  refine W_loop (f6_I h u) (fun n => 3 - n) ?_ 0 ⟨by omega, G2, x, y, A.take 5, B.take 5, by simp; omega, by simp; omega, (sx.grow hc1 g2).sr, sy.sr, by simp (disch := omega) only [getK_set, Nat.reduceEqDiff, ↓reduceIte, and_self, Int.natCast_zero]⟩
  clear sx sy g1 g2 hc1 hc2 G2
  rintro n fr h1 ⟨hn, hG, x, y, X, Y, lX, lY, sx, sy, g2, g7, g8, g9⟩
  have hc1 := hG.hc hc
  unfold f6_l0
  by_cases h3 : n < 3
  · have d1 : decide ((n : Int) < 3) = true := decide_eq_true (by omega)
    have e4 : fw .i64 ((n : Int) + 1) = ((n + 1 : Nat) : Int) := by rw [fw64 (by omega) (by omega)]; rfl
    simp (disch := omega) only [f6_r3, f6_r4, Nat.reduceEqDiff, ↓reduceIte, g7, g8, g9, d1, bz]
    refine (callP_0 (ef := f36) k.c36 rfl (f36_ret k.toCallsW lX lY sx sy hc1)).mono ?_
    rintro r h2 ⟨rfl, g2'⟩
    have sx2 := sx.grow hc1 g2'
    have sy2 := sy.grow hc1 g2'
    have hc2 := g2'.hc hc1
    have G2 := hG.trans (g2'.low hG.nx)
    have q1 := fun P => f37_eq k.c53 k.c37 sx2 lX (P := P)
    have q2 := fun P => f37_eq k.c53 k.c37 sy2 lY (P := P)
    have q0 : decide ((0 : Int) ≠ 0) = false := rfl
    have q11 : decide ((1 : Int) ≠ 1) = false := rfl
    by_cases hb : hfB X = true ∧ hfB Y = true
    · obtain ⟨b1, b2⟩ := hb
      rw [b1] at q1
      rw [b2] at q2
      simp (disch := omega) only [f6_r5, f6_r8, x_ext, bin_neq, onTup_t, nth0, nth1, Nat.reduceEqDiff, ↓reduceIte, Bool.false_eq_true, Bool.not_true, Bool.not_false, g7, g8, b1, b2, and_self, q1, q2, q0, bz]
      refine (callP_0 (ef := f38) k.c38 rfl (f38_ret k.toCallsW sx2 sy2 hc2)).mono ?_
      rintro r h3' ⟨rfl, g3⟩
      simp (disch := omega) only [x_eqk, Nat.reduceEqDiff, ↓reduceIte, Bool.false_eq_true, Bool.not_true, Bool.not_false, keq_b, cond_true, bz]
      refine f6_new (n := n) k ((hu.grow hc G2).grow hc2 g3) (g3.hc hc2) (by simp (disch := omega) only [getK_set, Nat.reduceEqDiff, ↓reduceIte, g2, g9, and_self]) ?_
      intro x y X Y fr' h4 lX lY sx sy g g2 g9 g7 g8
      simp (disch := omega) only [f6_r14, ↓reduceIte, g9, e4, bz]
      exact ⟨n + 1, by omega, by omega, (G2.trans (g3.low G2.nx)).trans (g.low (Nat.le_trans G2.nx g3.nx)), x, y, X, Y, lX, lY, sx, sy, by simp (disch := omega) only [getK_set, Nat.reduceEqDiff, ↓reduceIte, g2, g7, g8, and_self]⟩
    · have er : (if hfB X = true ∧ hfB Y = true then V.tup [.b (wvB X Y), .i .i64 0] else .tup [.b false, .i .i64 1]) = .tup [.b false, .i .i64 1] := if_neg hb
      rw [er]
      cases b1 : hfB X with
      | false =>
        rw [b1] at q1
        simp (disch := omega) only [f6_r5, f6_r6, x_ext, bin_neq, onTup_t, nth0, nth1, Nat.reduceEqDiff, ↓reduceIte, Bool.false_eq_true, Bool.not_true, Bool.not_false, g7, q1, q11, bz]
        refine f6_new (n := n) k (hu.grow hc G2) hc2 (by simp (disch := omega) only [getK_set, Nat.reduceEqDiff, ↓reduceIte, g2, g9, and_self]) ?_
        intro x y X Y fr' h4 lX lY sx sy g g2 g9 g7 g8
        simp (disch := omega) only [f6_r14, ↓reduceIte, g9, e4, bz]
        exact ⟨n + 1, by omega, by omega, G2.trans (g.low G2.nx), x, y, X, Y, lX, lY, sx, sy, by simp (disch := omega) only [getK_set, Nat.reduceEqDiff, ↓reduceIte, g2, g7, g8, and_self]⟩
      | true =>
        have b2 : hfB Y = false := by
          cases h : hfB Y with
          | false => rfl
          | true => exact absurd ⟨b1, h⟩ hb
        rw [b1] at q1
        rw [b2] at q2
        simp (disch := omega) only [f6_r5, f6_r6, x_ext, bin_neq, onTup_t, nth0, nth1, Nat.reduceEqDiff, ↓reduceIte, Bool.false_eq_true, Bool.not_true, Bool.not_false, g7, g8, q1, q2, q11, bz]
        refine f6_new (n := n) k (hu.grow hc G2) hc2 (by simp (disch := omega) only [getK_set, Nat.reduceEqDiff, ↓reduceIte, g2, g9, and_self]) ?_
        intro x y X Y fr' h4 lX lY sx sy g g2 g9 g7 g8
        simp (disch := omega) only [f6_r14, ↓reduceIte, g9, e4, bz]
        exact ⟨n + 1, by omega, by omega, G2.trans (g.low G2.nx), x, y, X, Y, lX, lY, sx, sy, by simp (disch := omega) only [getK_set, Nat.reduceEqDiff, ↓reduceIte, g2, g7, g8, and_self]⟩
  · have d1 : decide ((n : Int) < 3) = false := decide_eq_false (by omega)
    simp (disch := omega) only [f6_r3, f6_r15, f6_rs, Option.some.injEq, exists_eq_left', ↓reduceIte, Bool.false_eq_true, g9, d1, k.aw, bz]
    exact hG
end
end Go.Ev
