/-
  Orders: the reference's Lines, Drawn, Common., and what follows.
-/
import Derived.Test.YtdmnejhjlmeodaaPe
import Derived.Test.YtdmnejhjlmeodaaPh
import Derived.Test.YtdmnejhjlmeodaaPg
namespace Go.Ev
open Go Go.RowKit
noncomputable def f67_r0 : List EOper := [oG 6 (.as (.c (.b false)))]
noncomputable def f67_r1 : List EOper := [oG 7 (.as (cG 0))]
noncomputable def f67_r2 : List EOper := [oG 8 (.mv (tG 7)), oG 9 (.mv (tG 0)), oG 10 (.len (tG 9)), oG 11 (.bin .lss (tG 8) (tG 10))]
noncomputable def f67_r3 : List EOper := [oG 14 (.mv (tG 0)), oG 15 (.mv (tG 7)), oG 16 (.iads 1 (tG 14) (tG 15)), oG 17 (.ld (tG 16)), oG 18 (.mv (tG 1)), oG 19 (.bin .eql (tG 17) (tG 18))]
noncomputable def f67_r4 : List EOper := [oG 6 (.as (.c (.b true)))]
noncomputable def f67_r5 : List EOper := [oG 20 (.mv (tG 0)), oG 21 (.mv (tG 7)), oG 22 (.iads 1 (tG 20) (tG 21)), oG 23 (.ld (tG 22)), oG 24 (.mv (tG 2)), oG 25 (.bin .eql (tG 23) (tG 24))]
noncomputable def f67_r6 : List EOper := [oG 6 (.as (.c (.b false)))]
noncomputable def f67_r7 : List EOper := [oG 12 (.mv (tG 7)), oG 13 (.bin .add (tG 12) (cG 1)), oG 7 (.as (tG 13))]
noncomputable def f67_l0 : EC := (.seq (.seq (.reg f67_r2) (.cond (tG 11) .skip (.exit 0))) (.seq (.block 1 (.seq (.seq (.reg f67_r3) (.cond (tG 19) (.seq (.reg f67_r4) .ret) .skip)) (.seq (.reg f67_r5) (.cond (tG 25) (.seq (.reg f67_r6) .ret) .skip)))) (.reg f67_r7)))
noncomputable def f67_r8 : List EOper := [oG 6 (.as (.c (.b false)))]
noncomputable def f67_c : EC := (.seq (.reg f67_r0) (.seq (.seq (.reg f67_r1) (.block 0 (.loop f67_l0))) (.seq (.reg f67_r8) .ret)))
noncomputable def f67 : EF := ⟨26, [.tmp (.ofNat 6)], f67_c, none⟩
theorem f67_rs : f67.rs = [.tmp (.ofNat 6)] := of_eq_true (eq_self _)
noncomputable def f34_r0 : List EOper := [oG 3 (.box 2 (tG 1)), oG 4 (.as (.c (.b false)))]
noncomputable def f34_r1 : List EOper := [oG 5 (.as (cG 0))]
noncomputable def f34_r2 : List EOper := [oG 9 (.mv (tG 5)), oG 10 (.bin .lss (tG 9) (cG 2))]
noncomputable def f34_r3 : List EOper := [oG 6 (.as (cG 0))]
noncomputable def f34_r4 : List EOper := [oG 7 (.as (cG 0))]
noncomputable def f34_r5 : List EOper := [oG 13 (.mv (tG 7)), oG 14 (.mv (tG 5)), oG 15 (.iadr 2 1 (tG 3) (tG 14)), oG 16 (.ld (tG 15)), oG 17 (.len (tG 16)), oG 18 (.bin .lss (tG 13) (tG 17))]
noncomputable def f34_r6 : List EOper := [oG 21 (.mv (tG 5)), oG 22 (.iadr 2 1 (tG 3) (tG 21)), oG 23 (.ld (tG 22)), oG 24 (.mv (tG 7)), oG 25 (.iads 1 (tG 23) (tG 24)), oG 26 (.ld (tG 25)), oG 8 (.as (tG 26))]
noncomputable def f34_r7 : List EOper := [oG 27 (.mv (tG 8)), oG 28 (.bin .lss (tG 27) (cG 0)), oG 29 (.mv (tG 28)), gG 30 29 false (.mv (tG 8)), gG 31 29 false (.mv (tG 0)), gG 32 29 false (.bin .geq (tG 30) (tG 31)), oG 33 (.pick (tG 29) (.c (.b true)) (tG 32)), oG 34 (.mv (tG 33)), gG 35 34 false (.mv (tG 6)), gG 36 34 false (.mv (tG 8)), gG 37 34 false (.bin .shr (tG 35) (tG 36)), gG 38 34 false (.bin .rem (tG 37) (cG 2)), gG 39 34 false (.bin .eql (tG 38) (cG 1)), oG 40 (.pick (tG 34) (.c (.b true)) (tG 39))]
noncomputable def f34_r8 : List EOper := [oG 4 (.as (.c (.b false)))]
noncomputable def f34_r9 : List EOper := [oG 41 (.mv (tG 6)), oG 42 (.mv (tG 8)), oG 43 (.bin .shl (cG 1) (tG 42)), oG 44 (.bin .or (tG 41) (tG 43)), oG 6 (.as (tG 44))]
noncomputable def f34_r10 : List EOper := [oG 19 (.mv (tG 7)), oG 20 (.bin .add (tG 19) (cG 1)), oG 7 (.as (tG 20))]
noncomputable def f34_l0 : EC := (.seq (.seq (.reg f34_r5) (.cond (tG 18) .skip (.exit 2))) (.seq (.block 3 (.seq (.reg f34_r6) (.seq (.seq (.reg f34_r7) (.cond (tG 40) (.seq (.reg f34_r8) .ret) .skip)) (.reg f34_r9)))) (.reg f34_r10)))
noncomputable def f34_r11 : List EOper := [oG 45 (.mv (tG 5)), oG 46 (.iadr 2 1 (tG 3) (tG 45)), oG 47 (.ld (tG 46)), oG 48 (.len (tG 47)), oG 49 (.mv (tG 0)), oG 50 (.bin .neq (tG 48) (tG 49))]
noncomputable def f34_r12 : List EOper := [oG 4 (.as (.c (.b false)))]
noncomputable def f34_r13 : List EOper := [oG 11 (.mv (tG 5)), oG 12 (.bin .add (tG 11) (cG 1)), oG 5 (.as (tG 12))]
noncomputable def f34_l1 : EC := (.seq (.seq (.reg f34_r2) (.cond (tG 10) .skip (.exit 0))) (.seq (.block 1 (.seq (.reg f34_r3) (.seq (.seq (.reg f34_r4) (.block 2 (.loop f34_l0))) (.seq (.reg f34_r11) (.cond (tG 50) (.seq (.reg f34_r12) .ret) .skip))))) (.reg f34_r13)))
noncomputable def f34_r14 : List EOper := [oG 51 (.mv (tG 0)), oG 52 (.bin .geq (tG 51) (cG 1)), oG 53 (.mv (tG 52)), gG 54 53 true (.mv (tG 0)), gG 55 53 true (.bin .leq (tG 54) (cG 7)), oG 56 (.pick (tG 53) (tG 55) (.c (.b false))), oG 4 (.as (tG 56))]
noncomputable def f34_c : EC := (.seq (.reg f34_r0) (.seq (.seq (.reg f34_r1) (.block 0 (.loop f34_l1))) (.seq (.reg f34_r14) .ret)))
noncomputable def f34 : EF := ⟨57, [.tmp (.ofNat 4)], f34_c, none⟩
theorem f34_rs : f34.rs = [.tmp (.ofNat 4)] := of_eq_true (eq_self _)
noncomputable def f35_r0 : List EOper := [oG 3 (.box 2 (tG 1)), oG 4 (.as (.c .sn))]
noncomputable def f35_r1 : List EOper := [oG 5 (.as (.c .sn))]
noncomputable def f35_r2 : List EOper := [oG 6 (.as (cG 0))]
noncomputable def f35_r3 : List EOper := [oG 8 (.mv (tG 6)), oG 9 (.mv (tG 0)), oG 10 (.bin .lss (tG 8) (tG 9))]
noncomputable def f35_r4 : List EOper := [oG 13 (.mv (tG 6)), oG 14 (.bin .add (tG 13) (cG 1)), oG 7 (.as (tG 14))]
noncomputable def f35_r5 : List EOper := [oG 15 (.mv (tG 7)), oG 16 (.mv (tG 0)), oG 17 (.bin .lss (tG 15) (tG 16))]
noncomputable def f35_r6 : List Stage := [⟨[oG 20 (.iadr 2 1 (tG 3) (cG 0)), oG 21 (.ld (tG 20)), oG 22 (.mv (tG 6)), oG 23 (.mv (tG 7)), oG 25 (.iadr 2 1 (tG 3) (cG 1)), oG 26 (.ld (tG 25)), oG 27 (.mv (tG 6)), oG 28 (.mv (tG 7))], [], (some (oG 24 (.call (fG 67) [(tG 21), (tG 22), (tG 23)]))), []⟩, ⟨[], [oG 25 (.iadr 2 1 (tG 3) (cG 1)), oG 26 (.ld (tG 25)), oG 27 (.mv (tG 6)), oG 28 (.mv (tG 7))], (some (oG 29 (.call (fG 67) [(tG 26), (tG 27), (tG 28)]))), []⟩, ⟨[oG 30 (.eqk (.one none) true (tG 24) (tG 29))], [], none, []⟩]
noncomputable def f35_r7 : List EOper := [oG 31 (.mv (tG 5)), oG 32 (.mv (tG 6)), oG 33 (.mv (tG 7)), oG 34 (.build [(.i .i64 (.ofNat 0)), (.i .i64 (.ofNat 0))] [(0, 1, (tG 32)), (1, 1, (tG 33))]), oG 35 (.bslice 1 2 [(.i .i64 (.ofNat 0)), (.i .i64 (.ofNat 0))] [(0, 2, (tG 34))]), oG 36 (.app 2 (tG 31) (tG 35)), oG 5 (.as (tG 36))]
noncomputable def f35_r8 : List EOper := [oG 18 (.mv (tG 7)), oG 19 (.bin .add (tG 18) (cG 1)), oG 7 (.as (tG 19))]
noncomputable def f35_l0 : EC := (.seq (.seq (.reg f35_r5) (.cond (tG 17) .skip (.exit 2))) (.seq (.block 3 (.seq (.draw f35_r6) (.cond (tG 30) (.reg f35_r7) .skip))) (.reg f35_r8)))
noncomputable def f35_r9 : List EOper := [oG 11 (.mv (tG 6)), oG 12 (.bin .add (tG 11) (cG 1)), oG 6 (.as (tG 12))]
noncomputable def f35_l1 : EC := (.seq (.seq (.reg f35_r3) (.cond (tG 10) .skip (.exit 0))) (.seq (.block 1 (.seq (.reg f35_r4) (.block 2 (.loop f35_l0)))) (.reg f35_r9)))
noncomputable def f35_r10 : List EOper := [oG 37 (.mv (tG 5)), oG 4 (.as (tG 37))]
noncomputable def f35_c : EC := (.seq (.reg f35_r0) (.seq (.reg f35_r1) (.seq (.seq (.reg f35_r2) (.block 0 (.loop f35_l1))) (.seq (.reg f35_r10) .ret))))
noncomputable def f35 : EF := ⟨38, [.tmp (.ofNat 4)], f35_c, none⟩
theorem f35_rs : f35.rs = [.tmp (.ofNat 4)] := of_eq_true (eq_self _)
noncomputable def f38_r0 : List EOper := [oG 3 (.box 2 (tG 1)), oG 4 (.as (.c .sn))]
noncomputable def f38_r1 : List EOper := [oG 5 (.as (.c .sn))]
noncomputable def f38_r2 : List EOper := [oG 6 (.as (cG 0))]
noncomputable def f38_r3 : List EOper := [oG 8 (.mv (tG 6)), oG 9 (.mv (tG 0)), oG 10 (.bin .lss (tG 8) (tG 9))]
noncomputable def f38_r4 : List EOper := [oG 7 (.as (cG 0))]
noncomputable def f38_r5 : List EOper := [oG 13 (.mv (tG 7)), oG 14 (.mv (tG 0)), oG 15 (.bin .lss (tG 13) (tG 14))]
noncomputable def f38_r6 : List EOper := [oG 18 (.mv (tG 6)), oG 19 (.mv (tG 7)), oG 20 (.bin .neq (tG 18) (tG 19)), oG 21 (.mv (tG 20)), gG 22 21 true (.iadr 2 1 (tG 3) (cG 0)), gG 23 21 true (.ld (tG 22)), gG 24 21 true (.mv (tG 6)), gG 25 21 true (.mv (tG 7)), gG 26 21 true (.call (fG 67) [(tG 23), (tG 24), (tG 25)]), oG 27 (.pick (tG 21) (tG 26) (.c (.b false))), oG 28 (.mv (tG 27)), gG 29 28 true (.iadr 2 1 (tG 3) (cG 1)), gG 30 28 true (.ld (tG 29)), gG 31 28 true (.mv (tG 6)), gG 32 28 true (.mv (tG 7)), gG 33 28 true (.call (fG 67) [(tG 30), (tG 31), (tG 32)]), oG 34 (.pick (tG 28) (tG 33) (.c (.b false)))]
noncomputable def f38_r7 : List EOper := [oG 35 (.mv (tG 5)), oG 36 (.mv (tG 6)), oG 37 (.mv (tG 7)), oG 38 (.build [(.i .i64 (.ofNat 0)), (.i .i64 (.ofNat 0))] [(0, 1, (tG 36)), (1, 1, (tG 37))]), oG 39 (.bslice 1 2 [(.i .i64 (.ofNat 0)), (.i .i64 (.ofNat 0))] [(0, 2, (tG 38))]), oG 40 (.app 2 (tG 35) (tG 39)), oG 5 (.as (tG 40))]
noncomputable def f38_r8 : List EOper := [oG 16 (.mv (tG 7)), oG 17 (.bin .add (tG 16) (cG 1)), oG 7 (.as (tG 17))]
noncomputable def f38_l0 : EC := (.seq (.seq (.reg f38_r5) (.cond (tG 15) .skip (.exit 2))) (.seq (.block 3 (.seq (.reg f38_r6) (.cond (tG 34) (.reg f38_r7) .skip))) (.reg f38_r8)))
noncomputable def f38_r9 : List EOper := [oG 11 (.mv (tG 6)), oG 12 (.bin .add (tG 11) (cG 1)), oG 6 (.as (tG 12))]
noncomputable def f38_l1 : EC := (.seq (.seq (.reg f38_r3) (.cond (tG 10) .skip (.exit 0))) (.seq (.block 1 (.seq (.reg f38_r4) (.block 2 (.loop f38_l0)))) (.reg f38_r9)))
noncomputable def f38_r10 : List EOper := [oG 41 (.mv (tG 5)), oG 4 (.as (tG 41))]
noncomputable def f38_c : EC := (.seq (.reg f38_r0) (.seq (.reg f38_r1) (.seq (.seq (.reg f38_r2) (.block 0 (.loop f38_l1))) (.seq (.reg f38_r10) .ret))))
noncomputable def f38 : EF := ⟨42, [.tmp (.ofNat 4)], f38_c, none⟩
theorem f38_rs : f38.rs = [.tmp (.ofNat 4)] := of_eq_true (eq_self _)
section
variable {fs : T EF} {h h' : H}
def Rx (h : H) (v : V) (L : List Int) : Prop := ∃ v0, Sr iE h v0 L ∧ (∀ h1, lenV v h1 = .ok (.i .i64 (L.length : Int)) h1) ∧ (∀ y h1, iadsV 1 v y h1 = iadsV 1 v0 y h1) ∧ (∀ hi h1, sliceB 1 v none hi none h1 = sliceB 1 v0 none hi none h1) ∧ beqV v v = true ∧ cellsN 1 v = some [v]
theorem Sr.rx {v : V} {L : List Int} (s : Sr iE h v L) : Rx h v L := ⟨v, s, s.len, fun _ _ => rfl, fun _ _ => rfl, s.beq, s.one⟩
theorem Rx.len {v : V} {L : List Int} (s : Rx h v L) (h1 : H) : lenV v h1 = .ok (.i .i64 (L.length : Int)) h1 := by obtain ⟨_, _, e, _⟩ := s; exact e h1
theorem Rx.at {v : V} {L : List Int} (s : Rx h v L) (i : Nat) (hi : i < L.length) : ∃ p, (∀ k h1, iadsV 1 v (.i k (i : Int)) h1 = .ok p h1) ∧ loadV h p one? = .ok (iE L[i]) h := by
  obtain ⟨_, s0, _, e, _⟩ := s
  obtain ⟨p, p1, p2⟩ := s0.at i hi
  exact ⟨p, fun k h1 => (e _ _).trans (p1 k h1), p2⟩
theorem Rx.grow {v : V} {L : List Int} (s : Rx h v L) (hc : HC h) (hG : Grow h.nx.nat h h') : Rx h' v L := by
  obtain ⟨v0, s0, e⟩ := s
  exact ⟨v0, s0.grow hc hG, e⟩
theorem Rx.beq {v : V} {L : List Int} (s : Rx h v L) : beqV v v = true := by obtain ⟨_, _, _, _, _, e, _⟩ := s; exact e
theorem Rx.one {v : V} {L : List Int} (s : Rx h v L) : cellsN 1 v = some [v] := by obtain ⟨_, _, _, _, _, _, e⟩ := s; exact e
theorem Sr.cutX {v : V} {L : List Int} (hs : Sr iE h v L) {m : Nat} (hm : m ≤ L.length) :
    ∃ v', (∀ k k' h1, sliceB 1 v none (some (.i k (m : Int))) (some (.i k' (m : Int))) h1 = .ok v' h1) ∧ Rx h v' (L.take m) := by
  rcases hs with ⟨rfl, rfl⟩ | ⟨id, off, mm, cs, rfl, hb, hll, hmm, hx⟩
  · have hu0 : m = 0 := by simpa using hm
    subst hu0
    exact ⟨.sn, fun _ _ _ => rfl, (Sr.rx (L := []) (.inl ⟨rfl, rfl⟩))⟩
  · have hl : (L.take m).length = m := by simp; omega
    refine ⟨.slt id off m 1, fun k k' h1 => ?_, .sl id off m 1, .inr ⟨id, off, mm, cs, by rw [hl], hb, hll, by rw [hl]; omega, fun i hi => ?_⟩, fun h1 => by rw [hl]; rfl, fun _ _ => rfl, fun _ _ => rfl, ?_, rfl⟩
    · show (bif Nat.beq 1 1 then cutV id off L.length 1 h1 0 m (some m) else RV.no) = _
      rw [Nat.beq_refl]
      show cutV id off L.length 1 h1 0 m (some m) = _
      unfold cutV
      rw [Nat.ble_eq_true_of_le (Nat.zero_le m), Nat.ble_eq_true_of_le hm]
      show (bif true && (Nat.ble m m && Nat.ble m L.length) then RV.ok (bif Nat.beq m m then V.slt id (off + 0 * 1) (m - 0) 1 else _) h1 else RV.no) = _
      rw [Nat.ble_eq_true_of_le (Nat.le_refl m), Nat.ble_eq_true_of_le hm, Nat.beq_refl]
      show RV.ok (V.slt id (off + 0 * 1) (m - 0) 1) h1 = _
      rw [Nat.zero_mul, Nat.add_zero, Nat.sub_zero]
    · rw [hl] at hi
      rw [hx i (by omega)]; simp
    · show (K.beq id id && Nat.beq off off && Nat.beq m m && Nat.beq 1 1) = true
      rw [K.beq_refl, Nat.beq_same, Nat.beq_same]; rfl
def befL : List Int → Int → Int → Bool
  | [], _, _ => false
  | x :: X, a, b => if x = a then true else if x = b then false else befL X a b
theorem befL_c {x a b : Int} {X : List Int} : befL (x :: X) a b = if x = a then true else if x = b then false else befL X a b := rfl
theorem befL_iff {a b : Int} (hab : a ≠ b) : ∀ {X : List Int}, befL X a b = true ↔ ∃ i : Nat, X[i]? = some a ∧ ∀ t, t < i → X[t]? ≠ some b
  | [] => by simp [befL]
  | x :: X => by
    unfold befL
    by_cases h1 : x = a
    · rw [if_pos h1]
      exact ⟨fun _ => ⟨0, by simp [h1], fun t ht => by omega⟩, fun _ => rfl⟩
    · rw [if_neg h1]
      by_cases h2 : x = b
      · rw [if_pos h2]
        constructor
        · intro h; cases h
        · rintro ⟨i, q1, q2⟩
          cases i with
          | zero => simp at q1; exact absurd q1 h1
          | succ i => exact absurd (by simp [h2]) (q2 0 (by omega))
      · rw [if_neg h2, befL_iff hab (X := X)]
        constructor
        · rintro ⟨i, q1, q2⟩
          refine ⟨i + 1, by simpa using q1, fun t ht => ?_⟩
          cases t with
          | zero => simp; exact h2
          | succ t => simp; exact q2 t (by omega)
        · rintro ⟨i, q1, q2⟩
          cases i with
          | zero => simp at q1; exact absurd q1 h1
          | succ i => exact ⟨i, by simpa using q1, fun t ht => by have := q2 (t + 1) (by omega); simpa using this⟩
theorem befL_bf {n : Nat} {X : List Int} (k : lnOk n X) {a b : Nat} (_ha : a < n) (hb : b < n) (hab : a ≠ b) : befL X (a : Int) (b : Int) = bfT X X.length a b := by
  rw [Bool.eq_iff_iff, befL_iff (by omega), bfT_iff]
  constructor
  · rintro ⟨i, q1, q2⟩
    obtain ⟨j, hj⟩ := nodup_fill k hb
    refine ⟨j, i, get_lt hj, ?_, hj, q1⟩
    refine Classical.byContradiction fun hn => ?_
    by_cases e : i = j
    · subst e; rw [q1] at hj; have := Option.some.inj hj; omega
    · exact q2 j (by omega) hj
  · rintro ⟨j, t, _, q1, q2, q3⟩
    exact ⟨t, q3, fun s hs e => by have := k.uniq q2 e; omega⟩
def f67_I (h0 : H) (v : V) (X : List Int) (a b : Int) (i : Nat) (fr : Fr) (h1 : H) : Prop := i ≤ X.length ∧ h1 = h0 ∧ befL X a b = befL (X.drop i) a b ∧ fr.get (K.ofNat 0) = some (v) ∧ fr.get (K.ofNat 1) = some (.i .i64 a) ∧ fr.get (K.ofNat 2) = some (.i .i64 b) ∧ fr.get (K.ofNat 7) = some (.i .i64 (i : Int))
theorem f67_ret {v : V} {X : List Int} {a b : Int} (hv : Rx h v X) (hX : X.length ≤ 1000000) : Ret fs f67 [v, .i .i64 a, .i .i64 b] h fun r h' => r = .b (befL X a b) ∧ h' = h := by
  apply ret_of rfl
  show W fs none f67_c _ _ _
  unfold f67_c
  have hlen := hv.len
  simp (disch := omega) only [f67_r0, f67_r1, bz]
  refine W_loop (f67_I h v X a b) (fun i => X.length - i) ?_ 0 ⟨by omega, rfl, rfl, by simp (disch := omega) only [getK_set, Nat.reduceEqDiff, ↓reduceIte, and_self, Int.natCast_zero]⟩
  rintro i fr h1 ⟨hi, rfl, hb, g0, g1, g2, g7⟩
  unfold f67_l0
  by_cases hlt : i < X.length
  · have d0 : decide ((i : Int) < (X.length : Int)) = true := decide_eq_true (by omega)
    obtain ⟨p, p1, p2⟩ := hv.at i hlt
    have p2 : loadV h1 p one? = .ok (.i .i64 X[i]) h1 := p2
    have hdr : X.drop i = X[i] :: X.drop (i + 1) := List.drop_eq_getElem_cons hlt
    rw [hdr, befL_c] at hb
    by_cases e1 : X[i] = a
    · have d1 : decide (X[i] = a) = true := decide_eq_true e1
      rw [if_pos e1] at hb
      simp (disch := omega) only [f67_r2, f67_r3, f67_r4, f67_rs, Option.some.injEq, exists_eq_left', Nat.reduceEqDiff, ↓reduceIte, g0, g1, g7, hlen, d0, p1, p2, d1, and_true, bz]
      rw [hb]
    · have d1 : decide (X[i] = a) = false := decide_eq_false e1
      rw [if_neg e1] at hb
      by_cases e2 : X[i] = b
      · have d2 : decide (X[i] = b) = true := decide_eq_true e2
        rw [if_pos e2] at hb
        simp (disch := omega) only [f67_r2, f67_r3, f67_r5, f67_r6, f67_rs, Option.some.injEq, exists_eq_left', Nat.reduceEqDiff, ↓reduceIte, Bool.false_eq_true, g0, g1, g2, g7, hlen, d0, p1, p2, d1, d2, and_true, bz]
        rw [hb]
      · have d2 : decide (X[i] = b) = false := decide_eq_false e2
        rw [if_neg e2] at hb
        simp (disch := omega) only [f67_r2, f67_r3, f67_r5, f67_r7, Nat.reduceEqDiff, ↓reduceIte, Bool.false_eq_true, g0, g1, g2, g7, hlen, d0, p1, p2, d1, d2, bz]
        exact ⟨i + 1, by omega, by omega, rfl, hb, by simp (disch := omega) only [getK_set, Nat.reduceEqDiff, ↓reduceIte, g0, g1, g2, and_self, Int.natCast_add, Int.natCast_one]⟩
  · have d0 : decide ((i : Int) < (X.length : Int)) = false := decide_eq_false (by omega)
    rw [List.drop_eq_nil_of_le (by omega)] at hb
    simp (disch := omega) only [f67_r2, f67_r8, f67_rs, Option.some.injEq, exists_eq_left', Nat.reduceEqDiff, ↓reduceIte, Bool.false_eq_true, g0, g7, hlen, d0, and_true, bz]
    rw [hb]; rfl
theorem bit_o {m x : Nat} (hx : x ≤ 6) : binV .shr (.i .i64 (m : Int)) (.i .i64 (x : Int)) = some (.i .i64 ((m / 2 ^ x : Nat) : Int)) ∧ ((m / 2 ^ x : Nat) : Int).tmod 2 = ((m / 2 ^ x % 2 : Nat) : Int) ∧ decide (((m / 2 ^ x % 2 : Nat) : Int) = 1) = m.testBit x ∧ binV .shl (.i .i64 1) (.i .i64 (x : Int)) = some (.i .i64 ((2 ^ x : Nat) : Int)) ∧ 2 ^ x ≤ 64 := by
  have hp : 2 ^ x ≤ 2 ^ 6 := Nat.pow_le_pow_right (by omega) hx
  have hp2' : 2 ^ 6 = 64 := by decide
  refine ⟨by rw [bin_shr, show min x (IntKind.bits .i64) = x by show min x 64 = x; omega], rfl, ?_, ?_, by omega⟩
  · rw [Nat.testBit_eq_decide_div_mod_eq]
    congr 1
    apply propext
    omega
  · rw [bin_shl (by omega), show min ((x : Int).toNat) (IntKind.bits .i64) = x by show min ((x : Int).toNat) 64 = x; omega, Int.one_mul]
    have hz : (2 : Int) ^ x = ((2 ^ x : Nat) : Int) := by rw [Int.natCast_pow]; rfl
    rw [hz, fw64 (by have : (0 : Int) ≤ ((2 ^ x : Nat) : Int) := Int.natCast_nonneg _; omega) (by omega)]
structure Met7 (Z : List Int) (i m : Nat) : Prop where
  lt : m < 128
  bit : ∀ a : Nat, m.testBit a = true ↔ ∃ t, t < i ∧ Z[t]? = some (a : Int)
theorem Met7.add {Z : List Int} {i m x : Nat} (k : Met7 Z i m) (hx : x < 7) (hi : Z[i]? = some (x : Int)) : Met7 Z (i + 1) (m ||| 2 ^ x) := by
  refine ⟨?_, fun a => ?_⟩
  · have h1 : 2 ^ x < 2 ^ 7 := Nat.pow_lt_pow_right (by omega) hx
    exact Nat.or_lt_two_pow (n := 7) k.lt h1
  · rw [Nat.testBit_or, Bool.or_eq_true, k.bit, Nat.testBit_two_pow, decide_eq_true_eq]
    constructor
    · rintro (⟨t, h1, h2⟩ | rfl)
      · exact ⟨t, by omega, h2⟩
      · exact ⟨i, by omega, hi⟩
    · rintro ⟨t, h1, h2⟩
      by_cases e : t = i
      · subst e
        rw [hi] at h2
        have := Option.some.inj h2
        exact .inr (by omega)
      · exact .inl ⟨t, by omega, h2⟩
def f34_I (h0 : H) (id : K) (n : Nat) (X Y : List Int) (kk : Nat) (fr : Fr) (h1 : H) : Prop := kk ≤ 2 ∧ (1 ≤ kk → lnOk n X) ∧ (2 ≤ kk → lnOk n Y) ∧ h1 = h0 ∧ fr.get (K.ofNat 0) = some (.i .i64 (n : Int)) ∧ fr.get (K.ofNat 3) = some (.p id 0) ∧ fr.get (K.ofNat 5) = some (.i .i64 (kk : Int))
def f34_J (h0 : H) (id : K) (n : Nat) (Z : List Int) (kk : Nat) (i : Nat) (fr : Fr) (h1 : H) : Prop := i ≤ Z.length ∧ OkT n Z i ∧ ∃ m, Met7 Z i m ∧ h1 = h0 ∧ fr.get (K.ofNat 0) = some (.i .i64 (n : Int)) ∧ fr.get (K.ofNat 3) = some (.p id 0) ∧ fr.get (K.ofNat 5) = some (.i .i64 (kk : Int)) ∧ fr.get (K.ofNat 6) = some (.i .i64 (m : Int)) ∧ fr.get (K.ofNat 7) = some (.i .i64 (i : Int))
theorem f34_ret {n : Nat} {v w : V} {X Y : List Int} (hn1 : 1 ≤ n) (hn7 : n ≤ 7) (hv : Rx h v X) (hw : Rx h w Y) (hX : X.length ≤ 1000000) (hY : Y.length ≤ 1000000) (hc : HC h) : Ret fs f34 [.i .i64 (n : Int), .agg [v, w]] h fun r h' => ∃ b, r = .b b ∧ (b = true ↔ lnOk n X ∧ lnOk n Y) ∧ Grow h.nx.nat h h' := by
  apply ret_of rfl
  show W fs none f34_c _ _ _
  unfold f34_c
  have cvw : cellsN 2 (.agg [v, w]) = some [v, w] := rfl
  have g1_ : Grow h.nx.nat h (h.new (.cells 2 [v, w])) := Grow.new (Nat.le_refl _) _
  have e1 : (h.new (.cells 2 [v, w])).get h.nx = .cells 2 [v, w] := get_new_same
  simp (disch := omega) only [f34_r0, f34_r1, ↓reduceIte, cvw, bz]
  generalize h.new (.cells 2 [v, w]) = h1 at *
  have hv1 := hv.grow hc g1_
  have hw1 := hw.grow hc g1_
  refine W_loop (f34_I h1 h.nx n X Y) (fun kk => 2 - kk) ?_ 0 ⟨by omega, fun h => by omega, fun h => by omega, rfl, by simp (disch := omega) only [getK_set, Nat.reduceEqDiff, ↓reduceIte, and_self, Int.natCast_zero]⟩
  rintro kk fr h2 ⟨hkk, oX, oY, rfl, g0, g3, g5⟩
  unfold f34_l1
  by_cases hk : kk < 2
  · have d0 : decide ((kk : Int) < 2) = true := decide_eq_true (by omega)
    obtain ⟨z, Z, hz, hZl, lz, hno, hyes⟩ : ∃ z Z, Rx h2 z Z ∧ Z.length ≤ 1000000 ∧ loadV h2 (.p h.nx (0 + kk * 1)) one? = .ok z h2 ∧ (¬ lnOk n Z → ¬ (lnOk n X ∧ lnOk n Y)) ∧ (lnOk n Z → (1 ≤ kk + 1 → lnOk n X) ∧ (2 ≤ kk + 1 → lnOk n Y)) := by
      by_cases e : kk = 0
      · subst e; exact ⟨v, X, hv1, hX, load_p e1 rfl, fun h h2 => h h2.1, fun h => ⟨fun _ => h, fun h => by omega⟩⟩
      · have : kk = 1 := by omega
        subst this; exact ⟨w, Y, hw1, hY, load_p e1 rfl, fun h h2 => h h2.2, fun h => ⟨fun _ => oX (by omega), fun _ => h⟩⟩
    have zlen := hz.len
    simp (disch := omega) only [f34_r2, f34_r3, f34_r4, ↓reduceIte, g5, d0, bz]
    refine W_loop (f34_J h2 h.nx n Z kk) (fun i => Z.length - i) ?_ 0 ⟨by omega, ⟨fun j hj => by omega, fun j t _ hj => by omega⟩, 0, ⟨by omega, fun a => by simp⟩, rfl, by simp (disch := omega) only [getK_set, Nat.reduceEqDiff, ↓reduceIte, g0, g3, g5, and_self, Int.natCast_zero]⟩
    clear g0 g3 g5 fr
    rintro i fr h3 ⟨hi, hok, m, hm, rfl, g0, g3, g5, g6, g7⟩
    unfold f34_l0
    by_cases hlt : i < Z.length
    · have d1 : decide ((i : Int) < (Z.length : Int)) = true := decide_eq_true (by omega)
      obtain ⟨p, p1, p2⟩ := hz.at i hlt
      obtain ⟨x, hx⟩ : ∃ x, Z[i] = x := ⟨_, rfl⟩
      rw [hx] at p2
      have p2 : loadV h3 p one? = .ok (.i .i64 x) h3 := p2
      have hXi : Z[i]? = some x := by rw [List.getElem?_eq_getElem hlt, hx]
      by_cases hx0 : x < 0
      · have d2 : decide (x < 0) = true := decide_eq_true hx0
        simp (disch := omega) only [f34_r5, f34_r6, f34_r7, f34_r8, f34_rs, Option.some.injEq, exists_eq_left', Nat.reduceEqDiff, ↓reduceIte, Bool.false_eq_true, Bool.not_true, g3, g5, g7, lz, zlen, d1, p1, p2, d2, bz]
        refine ⟨false, rfl, ⟨(fun h => by cases h), fun h => absurd h (hno fun h => ?_)⟩, g1_⟩
        obtain ⟨a, _, e⟩ := h.2.lt i hlt
        rw [hXi] at e; have := Option.some.inj e; omega
      · have d2 : decide (x < 0) = false := decide_eq_false hx0
        by_cases hxn : (n : Int) ≤ x
        · have d3 : decide ((n : Int) ≤ x) = true := decide_eq_true hxn
          simp (disch := omega) only [f34_r5, f34_r6, f34_r7, f34_r8, f34_rs, Option.some.injEq, exists_eq_left', Nat.reduceEqDiff, ↓reduceIte, Bool.false_eq_true, Bool.not_true, Bool.not_false, g0, g3, g5, g7, lz, zlen, d1, p1, p2, d2, d3, bz]
          refine ⟨false, rfl, ⟨(fun h => by cases h), fun h => absurd h (hno fun h => ?_)⟩, g1_⟩
          obtain ⟨a, _, e⟩ := h.2.lt i hlt
          rw [hXi] at e; have := Option.some.inj e; omega
        · have d3 : decide ((n : Int) ≤ x) = false := decide_eq_false hxn
          obtain ⟨y, rfl⟩ : ∃ y : Nat, x = (y : Int) := ⟨x.toNat, by omega⟩
          have hy7 : y < 7 := by omega
          obtain ⟨b1, b2, b3, b4, b5⟩ := bit_o (m := m) (x := y) (by omega)
          have hr2 : ∀ a, binV .rem (.i .i64 a) (.i .i64 2) = some (.i .i64 (a.tmod 2)) := fun a => bin_rem (by omega)
          have hmt := hm.lt
          cases hb : m.testBit y with
          | true =>
            rw [hb] at b3
            simp (disch := omega) only [f34_r5, f34_r6, f34_r7, f34_r8, f34_rs, Option.some.injEq, exists_eq_left', Nat.reduceEqDiff, ↓reduceIte, Bool.false_eq_true, Bool.not_false, g0, g3, g5, g6, g7, lz, zlen, d1, p1, p2, d2, d3, b1, hr2, b2, b3, bz]
            refine ⟨false, rfl, ⟨(fun h => by cases h), fun h => absurd h (hno fun h => ?_)⟩, g1_⟩
            obtain ⟨t, h1, h2⟩ := (hm.bit y).1 hb
            exact h.2.nd i t h1 hlt (by rw [hXi, h2])
          | false =>
            rw [hb] at b3
            have hor : binV .or (.i .i64 (m : Int)) (.i .i64 ((2 ^ y : Nat) : Int)) = some (.i .i64 ((m ||| 2 ^ y : Nat) : Int)) := bin_or (by show m ≤ 9223372036854775807; omega) (by show 2 ^ y ≤ 9223372036854775807; omega)
            have hok' : OkT n Z (i + 1) := by
              refine ⟨fun j hj => ?_, fun j t htj hj e => ?_⟩
              · by_cases e : j = i
                · subst e; exact ⟨y, by omega, hXi⟩
                · exact hok.lt j (by omega)
              · by_cases e2 : j = i
                · subst e2
                  have := (hm.bit y).2 ⟨t, htj, by rw [← e, hXi]⟩
                  rw [hb] at this; cases this
                · exact hok.nd j t htj (by omega) e
            simp (disch := omega) only [f34_r5, f34_r6, f34_r7, f34_r9, f34_r10, Nat.reduceEqDiff, ↓reduceIte, Bool.false_eq_true, Bool.not_false, g0, g3, g5, g6, g7, lz, zlen, d1, p1, p2, d2, d3, b1, hr2, b2, b3, b4, hor, bz]
            exact ⟨i + 1, by omega, by omega, hok', _, hm.add hy7 hXi, rfl, by simp (disch := omega) only [getK_set, Nat.reduceEqDiff, ↓reduceIte, g0, g3, g5, and_self, Int.natCast_add, Int.natCast_one]⟩
    · have d1 : decide ((i : Int) < (Z.length : Int)) = false := decide_eq_false (by omega)
      have ei : i = Z.length := by omega
      by_cases hZn : Z.length = n
      · have d2 : decide ((Z.length : Int) ≠ (n : Int)) = false := decide_eq_false (by omega)
        obtain ⟨q1, q2⟩ := hyes ⟨hZn, by rw [ei] at hok; exact hok⟩
        simp (disch := omega) only [f34_r5, f34_r11, f34_r13, Nat.reduceEqDiff, ↓reduceIte, Bool.false_eq_true, g0, g3, g5, g7, lz, zlen, d1, d2, bz]
        exact ⟨kk + 1, by omega, by omega, q1, q2, rfl, by simp (disch := omega) only [getK_set, Nat.reduceEqDiff, ↓reduceIte, g0, g3, and_self, Int.natCast_add, Int.natCast_one]⟩
      · have d2 : decide ((Z.length : Int) ≠ (n : Int)) = true := decide_eq_true (by omega)
        simp (disch := omega) only [f34_r5, f34_r11, f34_r12, f34_rs, Option.some.injEq, exists_eq_left', Nat.reduceEqDiff, ↓reduceIte, Bool.false_eq_true, g0, g3, g5, g7, lz, zlen, d1, d2, bz]
        exact ⟨false, rfl, ⟨(fun h => by cases h), fun h => absurd h (hno fun h => hZn h.1)⟩, g1_⟩
  · have d0 : decide ((kk : Int) < 2) = false := decide_eq_false (by omega)
    have d1 : decide (1 ≤ (n : Int)) = true := decide_eq_true (by omega)
    have d2 : decide ((n : Int) ≤ 7) = true := decide_eq_true (by omega)
    simp (disch := omega) only [f34_r2, f34_r14, f34_rs, bin_leq, Option.some.injEq, exists_eq_left', Nat.reduceEqDiff, ↓reduceIte, Bool.false_eq_true, g0, g5, d0, d1, d2, bz]
    exact ⟨true, rfl, ⟨fun _ => ⟨oX (by omega), oY (by omega)⟩, fun _ => rfl⟩, g1_⟩
/-! ### Drawn -/
def dwR (n : Nat) (X Y : List Int) (a b : Nat) : Bool := decide (a < b ∧ b < n) && (befL X a b != befL Y a b)
def f35_A (h0 : H) (n : Nat) (id : K) (G : Nat → Nat → Bool) (a : Nat) (fr : Fr) (h1 : H) : Prop := a ≤ n ∧ ∃ u, Sk 2 qE h1 u (arP G (7 * a)) ∧ Own h0.nx.nat u ∧ Grow h0.nx.nat h0 h1 ∧ fr.get (K.ofNat 0) = some (.i .i64 (n : Int)) ∧ fr.get (K.ofNat 3) = some (.p id 0) ∧ fr.get (K.ofNat 5) = some (u) ∧ fr.get (K.ofNat 6) = some (.i .i64 (a : Int))
def f35_B (h0 : H) (n : Nat) (id : K) (G : Nat → Nat → Bool) (a : Nat) (b : Nat) (fr : Fr) (h1 : H) : Prop := a + 1 ≤ b ∧ b ≤ n ∧ ∃ u, Sk 2 qE h1 u (arP G (7 * a + b)) ∧ Own h0.nx.nat u ∧ Grow h0.nx.nat h0 h1 ∧ fr.get (K.ofNat 0) = some (.i .i64 (n : Int)) ∧ fr.get (K.ofNat 3) = some (.p id 0) ∧ fr.get (K.ofNat 5) = some (u) ∧ fr.get (K.ofNat 6) = some (.i .i64 (a : Int)) ∧ fr.get (K.ofNat 7) = some (.i .i64 (b : Int))
theorem f35_ret {n : Nat} {v w : V} {X Y : List Int} (h67 : fs.get (.ofNat 67) = some f67) (hn7 : n ≤ 7) (hv : Rx h v X) (hw : Rx h w Y) (hX : X.length ≤ 1000000) (hY : Y.length ≤ 1000000) (hc : HC h) : Ret fs f35 [.i .i64 (n : Int), .agg [v, w]] h fun r h' => Sk 2 qE h' r (arI (dwR n X Y)) ∧ Own h.nx.nat r ∧ Grow h.nx.nat h h' := by
  have up : ∀ a b, dwR n X Y a b = true → a < b ∧ b < n := fun a b h => by
    unfold dwR at h
    rw [Bool.and_eq_true, decide_eq_true_eq] at h
    exact h.1
  apply ret_of rfl
  show W fs none f35_c _ _ _
  unfold f35_c
  have cvw : cellsN 2 (.agg [v, w]) = some [v, w] := rfl
  have n1 := nx_new h (.cells 2 [v, w])
  have g1_ : Grow h.nx.nat h (h.new (.cells 2 [v, w])) := Grow.new (Nat.le_refl _) _
  have e1 : (h.new (.cells 2 [v, w])).get h.nx = .cells 2 [v, w] := get_new_same
  simp (disch := omega) only [f35_r0, f35_r1, f35_r2, ↓reduceIte, cvw, bz]
  generalize h.new (.cells 2 [v, w]) = h0 at *
  have hc0 := g1_.hc hc
  have hv0 := hv.grow hc g1_
  have hw0 := hw.grow hc g1_
  refine W_loop (f35_A h0 n h.nx (dwR n X Y)) (fun a => n - a) ?_ 0 ⟨by omega, .sn, Sk.nil, Own.sn, Grow.refl _ _, by simp (disch := omega) only [getK_set, Nat.reduceEqDiff, ↓reduceIte, and_self, Int.natCast_zero]⟩
  rintro a fr h1 ⟨ha, u, hs, ho, hG, g0, g3, g5, g6⟩
  unfold f35_l1
  by_cases hlt : a < n
  · have d0 : decide ((a : Int) < (n : Int)) = true := decide_eq_true (by omega)
    have e0 : arP (dwR n X Y) (7 * a + (a + 1)) = arP (dwR n X Y) (7 * a) := by
      have := arP_skip (g := dwR n X Y) (a := a) (b := 0) (c := a + 1) (by omega) (by omega) (fun d _ hd => by
        cases e : dwR n X Y a d with
        | false => rfl
        | true => have := (up _ _ e).1; omega)
      rw [this, Nat.add_zero]
    simp (disch := omega) only [f35_r3, f35_r4, Nat.reduceEqDiff, ↓reduceIte, g0, g6, d0, bz]
    refine W_loop (f35_B h0 n h.nx (dwR n X Y) a) (fun b => n + 1 - b) ?_ (a + 1) ⟨by omega, by omega, u, by rw [e0]; exact hs, ho, hG, by simp (disch := omega) only [getK_set, Nat.reduceEqDiff, ↓reduceIte, g0, g3, g5, g6, and_self, Int.natCast_add, Int.natCast_one]⟩
    clear hs ho hG g0 g3 g5 g6 fr
    rintro b fr h2 ⟨hab, hb, u, hs, ho, hG, g0, g3, g5, g6, g7⟩
    have hc2 := hG.hc hc0
    have hv2 := hv0.grow hc0 hG
    have hw2 := hw0.grow hc0 hG
    unfold f35_l0
    by_cases hlt2 : b < n
    · have d1 : decide ((b : Int) < (n : Int)) = true := decide_eq_true (by omega)
      have hsu := arP_succ (g := dwR n X Y) (a := a) (b := b) (by omega)
      have e2 := (hG.old h.nx (by omega)).trans e1
      have l0 := ld20 e2
      have l1 := ld21 e2
      have bw := hw2.beq
      simp (disch := omega) only [f35_r5, f35_r6, Nat.reduceEqDiff, ↓reduceIte, g0, g3, g6, g7, d1, l0, l1, bz]
      refine (callP_0 (ef := f67) h67 rfl (f67_ret (a := (a : Int)) (b := (b : Int)) hv2 hX)).mono ?_
      rintro r h3 ⟨rfl, rfl⟩
      simp (disch := omega) only [stay_ld, beq_p, Nat.reduceEqDiff, ↓reduceIte, stay_iadr, g3, g6, g7, l1, bw, bz]
      refine (callP_0 (ef := f67) h67 rfl (f67_ret (a := (a : Int)) (b := (b : Int)) hw2 hY)).mono ?_
      rintro r h3 ⟨rfl, rfl⟩
      have kq : ∀ p q : Bool, keyEq (.one none) (.b p) (.b q) = some (p == q) := fun p q => by cases p <;> cases q <;> rfl
      have hne : dwR n X Y a b = (befL X a b != befL Y a b) := by unfold dwR; rw [decide_eq_true (show a < b ∧ b < n by omega)]; rfl
      rw [hne] at hsu
      cases hr : befL X a b == befL Y a b with
      | true =>
        rw [if_neg (by simp at hr; rw [hr]; simp), List.append_nil] at hsu
        simp (disch := omega) only [f35_r8, Nat.reduceEqDiff, ↓reduceIte, Bool.false_eq_true, Bool.not_true, g7, kq, hr, cond_true, bz]
        exact ⟨b + 1, by omega, by omega, by omega, u, by rw [hsu]; exact hs, ho, hG, by simp (disch := omega) only [getK_set, Nat.reduceEqDiff, ↓reduceIte, g0, g3, g5, g6, and_self, Int.natCast_add, Int.natCast_one]⟩
      | false =>
        rw [if_pos (by simp at hr; simp; exact hr)] at hsu
        have hl := arP_len (g := dwR n X Y) (i := 7 * a + b)
        obtain ⟨u', h4, a1, s1, o1, gr1, _⟩ := Sk.push qE_len (by omega) (x := ((a : Int), (b : Int))) hs ho hG.nx hc2 (by omega)
        have a1' : appV 2 (h3.new (.cells (1 * 2) [.i .i64 (a : Int), .i .i64 (b : Int)])) u (.sl h3.nx 0 1 2) = .ok u' h4 := a1
        have cp : cellsN 2 (.agg [.i .i64 (a : Int), .i .i64 (b : Int)]) = some [.i .i64 (a : Int), .i .i64 (b : Int)] := rfl
        have sp : setMany [V.i .i64 0, V.i .i64 0] 0 [V.i .i64 (a : Int), V.i .i64 (b : Int)] = [V.i .i64 (a : Int), V.i .i64 (b : Int)] := rfl
        simp (disch := omega) only [f35_r7, f35_r8, Nat.reduceEqDiff, ↓reduceIte, Bool.not_false, g5, g6, g7, kq, hr, cond_true, fill_c, cp, sp, a1', bz]
        exact ⟨b + 1, by omega, by omega, by omega, u', by rw [hsu]; exact s1, o1, hG.trans gr1, by simp (disch := omega) only [getK_set, Nat.reduceEqDiff, ↓reduceIte, g0, g3, g6, and_self, Int.natCast_add, Int.natCast_one]⟩
    · have d1 : decide ((b : Int) < (n : Int)) = false := decide_eq_false (by omega)
      have eb : b = n := by omega
      have e1 : arP (dwR n X Y) (7 * (a + 1)) = arP (dwR n X Y) (7 * a + b) := arP_row (by omega) (fun d hd _ => by
        cases e : dwR n X Y a d with
        | false => rfl
        | true => have := (up _ _ e).2; omega)
      simp (disch := omega) only [f35_r5, f35_r9, Nat.reduceEqDiff, ↓reduceIte, Bool.false_eq_true, g0, g6, g7, d1, bz]
      exact ⟨a + 1, by omega, by omega, u, by rw [e1]; exact hs, ho, hG, by simp (disch := omega) only [getK_set, Nat.reduceEqDiff, ↓reduceIte, g0, g3, g5, and_self, Int.natCast_add, Int.natCast_one]⟩
  · have d0 : decide ((a : Int) < (n : Int)) = false := decide_eq_false (by omega)
    have ea : a = n := by omega
    have e1 : arP (dwR n X Y) (7 * a) = arI (dwR n X Y) := arP_end (by omega) (fun x d hx _ hd => by
      cases e : dwR n X Y x d with
      | false => rfl
      | true => have := up _ _ e; omega)
    rw [e1] at hs
    simp (disch := omega) only [f35_r3, f35_r10, f35_rs, Option.some.injEq, exists_eq_left', Nat.reduceEqDiff, ↓reduceIte, Bool.false_eq_true, g0, g5, g6, d0, bz]
    exact ⟨hs, ho.low (by omega), g1_.trans (hG.low (by omega))⟩
/-! ### Common -/
def cmN (n : Nat) (X Y : List Int) (a b : Nat) : Bool := decide (a < n ∧ b < n ∧ a ≠ b) && (befL X a b && befL Y a b)
def f38_B (h0 : H) (n : Nat) (id : K) (G : Nat → Nat → Bool) (a : Nat) (b : Nat) (fr : Fr) (h1 : H) : Prop := b ≤ n ∧ ∃ u, Sk 2 qE h1 u (arP G (7 * a + b)) ∧ Own h0.nx.nat u ∧ Grow h0.nx.nat h0 h1 ∧ fr.get (K.ofNat 0) = some (.i .i64 (n : Int)) ∧ fr.get (K.ofNat 3) = some (.p id 0) ∧ fr.get (K.ofNat 5) = some (u) ∧ fr.get (K.ofNat 6) = some (.i .i64 (a : Int)) ∧ fr.get (K.ofNat 7) = some (.i .i64 (b : Int))
theorem f38_ret {n : Nat} {v w : V} {X Y : List Int} (h67 : fs.get (.ofNat 67) = some f67) (hn7 : n ≤ 7) (hv : Rx h v X) (hw : Rx h w Y) (hX : X.length ≤ 1000000) (hY : Y.length ≤ 1000000) (hc : HC h) : Ret fs f38 [.i .i64 (n : Int), .agg [v, w]] h fun r h' => Sk 2 qE h' r (arI (cmN n X Y)) ∧ Own h.nx.nat r ∧ Grow h.nx.nat h h' := by
  have up : ∀ a b, cmN n X Y a b = true → a < n ∧ b < n := fun a b h => by
    unfold cmN at h
    rw [Bool.and_eq_true, decide_eq_true_eq] at h
    exact ⟨h.1.1, h.1.2.1⟩
  apply ret_of rfl
  show W fs none f38_c _ _ _
  unfold f38_c
  have cvw : cellsN 2 (.agg [v, w]) = some [v, w] := rfl
  have n1 := nx_new h (.cells 2 [v, w])
  have g1_ : Grow h.nx.nat h (h.new (.cells 2 [v, w])) := Grow.new (Nat.le_refl _) _
  have e1 : (h.new (.cells 2 [v, w])).get h.nx = .cells 2 [v, w] := get_new_same
  simp (disch := omega) only [f38_r0, f38_r1, f38_r2, ↓reduceIte, cvw, bz]
  generalize h.new (.cells 2 [v, w]) = h0 at *
  have hc0 := g1_.hc hc
  have hv0 := hv.grow hc g1_
  have hw0 := hw.grow hc g1_
  refine W_loop (f35_A h0 n h.nx (cmN n X Y)) (fun a => n - a) ?_ 0 ⟨by omega, .sn, Sk.nil, Own.sn, Grow.refl _ _, by simp (disch := omega) only [getK_set, Nat.reduceEqDiff, ↓reduceIte, and_self, Int.natCast_zero]⟩
  rintro a fr h1 ⟨ha, u, hs, ho, hG, g0, g3, g5, g6⟩
  unfold f38_l1
  by_cases hlt : a < n
  · have d0 : decide ((a : Int) < (n : Int)) = true := decide_eq_true (by omega)
    simp (disch := omega) only [f38_r3, f38_r4, Nat.reduceEqDiff, ↓reduceIte, g0, g6, d0, bz]
    refine W_loop (f38_B h0 n h.nx (cmN n X Y) a) (fun b => n + 1 - b) ?_ 0 ⟨by omega, u, by rw [Nat.add_zero]; exact hs, ho, hG, by simp (disch := omega) only [getK_set, Nat.reduceEqDiff, ↓reduceIte, g0, g3, g5, g6, and_self, Int.natCast_zero]⟩
    clear hs ho hG g0 g3 g5 g6 fr
    rintro b fr h2 ⟨hb, u, hs, ho, hG, g0, g3, g5, g6, g7⟩
    have hc2 := hG.hc hc0
    have hv2 := hv0.grow hc0 hG
    have hw2 := hw0.grow hc0 hG
    unfold f38_l0
    by_cases hlt2 : b < n
    · have d1 : decide ((b : Int) < (n : Int)) = true := decide_eq_true (by omega)
      have hsu := arP_succ (g := cmN n X Y) (a := a) (b := b) (by omega)
      have e2 := (hG.old h.nx (by omega)).trans e1
      have l0 := ld20 e2
      have l1 := ld21 e2
      have no : cmN n X Y a b = false → arP (cmN n X Y) (7 * a + (b + 1)) = arP (cmN n X Y) (7 * a + b) := fun h => by rw [hsu, h]; simp
      by_cases hab : a = b
      · have d2 : decide ((a : Int) ≠ (b : Int)) = false := decide_eq_false (by omega)
        have hno := no (by unfold cmN; rw [decide_eq_false (fun h => h.2.2 hab)]; rfl)
        simp (disch := omega) only [f38_r5, f38_r6, f38_r8, Nat.reduceEqDiff, ↓reduceIte, Bool.false_eq_true, g0, g6, g7, d1, d2, bz]
        exact ⟨b + 1, by omega, by omega, u, by rw [hno]; exact hs, ho, hG, by simp (disch := omega) only [getK_set, Nat.reduceEqDiff, ↓reduceIte, g0, g3, g5, g6, and_self, Int.natCast_add, Int.natCast_one]⟩
      · have d2 : decide ((a : Int) ≠ (b : Int)) = true := decide_eq_true (by omega)
        have hcm : cmN n X Y a b = (befL X a b && befL Y a b) := by unfold cmN; rw [decide_eq_true (show a < n ∧ b < n ∧ a ≠ b from ⟨hlt, hlt2, hab⟩)]; rfl
        simp (disch := omega) only [f38_r5, f38_r6, Nat.reduceEqDiff, ↓reduceIte, g0, g3, g6, g7, d1, d2, l0, bz]
        refine (callP_0 (ef := f67) h67 rfl (f67_ret (a := (a : Int)) (b := (b : Int)) hv2 hX)).mono ?_
        rintro r h3 ⟨rfl, rfl⟩
        cases hx : befL X a b with
        | false =>
          have hno := no (by rw [hcm, hx]; rfl)
          simp (disch := omega) only [f38_r8, Nat.reduceEqDiff, ↓reduceIte, Bool.false_eq_true, g7, bz]
          exact ⟨b + 1, by omega, by omega, u, by rw [hno]; exact hs, ho, hG, by simp (disch := omega) only [getK_set, Nat.reduceEqDiff, ↓reduceIte, g0, g3, g5, g6, and_self, Int.natCast_add, Int.natCast_one]⟩
        | true =>
          simp (disch := omega) only [Nat.reduceEqDiff, ↓reduceIte, g3, g6, g7, l1, bz]
          refine (callP_0 (ef := f67) h67 rfl (f67_ret (a := (a : Int)) (b := (b : Int)) hw2 hY)).mono ?_
          rintro r h3 ⟨rfl, rfl⟩
          cases hy : befL Y a b with
          | false =>
            have hno := no (by rw [hcm, hx, hy]; rfl)
            simp (disch := omega) only [f38_r8, Nat.reduceEqDiff, ↓reduceIte, Bool.false_eq_true, g7, bz]
            exact ⟨b + 1, by omega, by omega, u, by rw [hno]; exact hs, ho, hG, by simp (disch := omega) only [getK_set, Nat.reduceEqDiff, ↓reduceIte, g0, g3, g5, g6, and_self, Int.natCast_add, Int.natCast_one]⟩
          | true =>
            rw [hcm, hx, hy, Bool.and_self, if_pos rfl] at hsu
            have hl := arP_len (g := cmN n X Y) (i := 7 * a + b)
            obtain ⟨u', h4, a1, s1, o1, gr1, _⟩ := Sk.push qE_len (by omega) (x := ((a : Int), (b : Int))) hs ho hG.nx hc2 (by omega)
            have a1' : appV 2 (h3.new (.cells (1 * 2) [.i .i64 (a : Int), .i .i64 (b : Int)])) u (.sl h3.nx 0 1 2) = .ok u' h4 := a1
            have cp : cellsN 2 (.agg [.i .i64 (a : Int), .i .i64 (b : Int)]) = some [.i .i64 (a : Int), .i .i64 (b : Int)] := rfl
            have sp : setMany [V.i .i64 0, V.i .i64 0] 0 [V.i .i64 (a : Int), V.i .i64 (b : Int)] = [V.i .i64 (a : Int), V.i .i64 (b : Int)] := rfl
            simp (disch := omega) only [f38_r7, f38_r8, Nat.reduceEqDiff, ↓reduceIte, g5, g6, g7, fill_c, cp, sp, a1', bz]
            exact ⟨b + 1, by omega, by omega, u', by rw [hsu]; exact s1, o1, hG.trans gr1, by simp (disch := omega) only [getK_set, Nat.reduceEqDiff, ↓reduceIte, g0, g3, g6, and_self, Int.natCast_add, Int.natCast_one]⟩
    · have d1 : decide ((b : Int) < (n : Int)) = false := decide_eq_false (by omega)
      have eb : b = n := by omega
      have e1 : arP (cmN n X Y) (7 * (a + 1)) = arP (cmN n X Y) (7 * a + b) := arP_row (by omega) (fun d hd _ => by
        cases e : cmN n X Y a d with
        | false => rfl
        | true => have := (up _ _ e).2; omega)
      simp (disch := omega) only [f38_r5, f38_r9, Nat.reduceEqDiff, ↓reduceIte, Bool.false_eq_true, g0, g6, g7, d1, bz]
      exact ⟨a + 1, by omega, by omega, u, by rw [e1]; exact hs, ho, hG, by simp (disch := omega) only [getK_set, Nat.reduceEqDiff, ↓reduceIte, g0, g3, g5, and_self, Int.natCast_add, Int.natCast_one]⟩
  · have d0 : decide ((a : Int) < (n : Int)) = false := decide_eq_false (by omega)
    have ea : a = n := by omega
    have e1 : arP (cmN n X Y) (7 * a) = arI (cmN n X Y) := arP_end (by omega) (fun x d hx _ hd => by
      cases e : cmN n X Y x d with
      | false => rfl
      | true => have := up _ _ e; omega)
    rw [e1] at hs
    simp (disch := omega) only [f38_r3, f38_r10, f38_rs, Option.some.injEq, exists_eq_left', Nat.reduceEqDiff, ↓reduceIte, Bool.false_eq_true, g0, g5, g6, d0, bz]
    exact ⟨hs, ho.low (by omega), g1_.trans (hG.low (by omega))⟩
end
end Go.Ev
namespace Go.Ev
open Go Go.RowKit
def stopI (lt : Int → Int → Bool) (x : Int) (P : List Int) : Nat → Nat
  | 0 => 0
  | j + 1 => bif lt x (P.getD j 0) then stopI lt x P j else j + 1
def insR (lt : Int → Int → Bool) (x : Int) (P : List Int) : List Int := P.take (stopI lt x P P.length) ++ x :: P.drop (stopI lt x P P.length)
def srtR (lt : Int → Int → Bool) (S : List Int) : List Int := S.foldl (fun P x => insR lt x P) []
theorem stopI_le {lt : Int → Int → Bool} {x : Int} {P : List Int} : ∀ j, stopI lt x P j ≤ j
  | 0 => Nat.le_refl _
  | j + 1 => by
    unfold stopI
    cases lt x (P.getD j 0) with
    | true => have := stopI_le (lt := lt) (x := x) (P := P) j; show stopI lt x P j ≤ _; omega
    | false => exact Nat.le_refl _
theorem stopI_ge {lt : Int → Int → Bool} {x : Int} {P : List Int} : ∀ j i, stopI lt x P j ≤ i → i < j → lt x (P.getD i 0) = true
  | 0, i, _, h => by omega
  | j + 1, i, h1, h2 => by
    unfold stopI at h1
    cases e : lt x (P.getD j 0) with
    | true =>
      rw [e] at h1
      by_cases h : i = j
      · rw [h, e]
      · exact stopI_ge j i h1 (by omega)
    | false => rw [e] at h1; have h1 : j + 1 ≤ i := h1; omega
theorem stopI_lt {lt : Int → Int → Bool} {x : Int} {P : List Int} : ∀ j k, stopI lt x P j = k + 1 → lt x (P.getD k 0) = false
  | 0, k, h => by unfold stopI at h; omega
  | j + 1, k, h => by
    unfold stopI at h
    cases e : lt x (P.getD j 0) with
    | true => rw [e] at h; exact stopI_lt j k h
    | false => rw [e] at h; have h : j + 1 = k + 1 := h; rw [← e]; congr 3; omega
theorem insR_perm {lt : Int → Int → Bool} {x : Int} {P : List Int} : (insR lt x P).Perm (x :: P) := by
  unfold insR
  refine List.perm_middle.trans ?_
  rw [List.take_append_drop]
theorem srtR_aux {lt : Int → Int → Bool} : ∀ (S P : List Int), (S.foldl (fun P x => insR lt x P) P).Perm (P ++ S)
  | [], P => by simp
  | x :: S, P => by
    refine (srtR_aux S (insR lt x P)).trans ?_
    have h1 : (insR lt x P ++ S).Perm ((x :: P) ++ S) := insR_perm.append_right S
    refine h1.trans ?_
    exact List.perm_middle.symm
theorem srtR_perm {lt : Int → Int → Bool} {S : List Int} : (srtR lt S).Perm S := srtR_aux S []
theorem srtR_snoc {lt : Int → Int → Bool} {S : List Int} {x : Int} : srtR lt (S ++ [x]) = insR lt x (srtR lt S) := by unfold srtR; rw [List.foldl_append]; rfl
theorem srtR_len {lt : Int → Int → Bool} {S : List Int} : (srtR lt S).length = S.length := srtR_perm.length_eq
structure LtO (lt : Int → Int → Bool) (D : Int → Prop) : Prop where
  tot : ∀ x y, D x → D y → x ≠ y → lt x y = true ∨ lt y x = true
  tr : ∀ x y z, D x → D y → D z → lt x y = true → lt y z = true → lt x z = true
theorem insR_srt {lt : Int → Int → Bool} {D : Int → Prop} (o : LtO lt D) {x : Int} {P : List Int} (hx : D x) (hP : ∀ y ∈ P, D y) (hn : x ∉ P) (hs : P.Pairwise fun a b => lt a b = true) : (insR lt x P).Pairwise fun a b => lt a b = true := by
  have hk := stopI_le (lt := lt) (x := x) (P := P) P.length
  have gd : ∀ i (hi : i < P.length), P.getD i 0 = P[i] := fun i hi => by rw [List.getD_eq_getElem?_getD, List.getElem?_eq_getElem hi]; rfl
  have hge : ∀ y ∈ P.drop (stopI lt x P P.length), lt x y = true := fun y hy => by
    obtain ⟨j, hj, rfl⟩ := List.getElem_of_mem hy
    rw [List.length_drop] at hj
    rw [List.getElem_drop, ← gd _ (by omega)]
    exact stopI_ge P.length _ (by omega) (by omega)
  have hlt : ∀ y ∈ P.take (stopI lt x P P.length), lt y x = true := fun y hy => by
    obtain ⟨j, hj, rfl⟩ := List.getElem_of_mem hy
    rw [List.length_take] at hj
    rw [List.getElem_take]
    obtain ⟨k, hk'⟩ : ∃ k, stopI lt x P P.length = k + 1 := ⟨stopI lt x P P.length - 1, by omega⟩
    have hkl : k < P.length := by omega
    have h1 := stopI_lt P.length k hk'
    rw [gd _ hkl] at h1
    have hm : P[k] ∈ P := List.getElem_mem _
    have h2 : lt P[k] x = true := by
      rcases o.tot x P[k] hx (hP _ hm) (fun e => hn (by rw [e]; exact hm)) with h | h
      · rw [h] at h1; cases h1
      · exact h
    by_cases e : j = k
    · subst e; exact h2
    · exact o.tr _ _ _ (hP _ (List.getElem_mem _)) (hP _ hm) hx (List.pairwise_iff_getElem.1 hs j k (by omega) hkl (by omega)) h2
  unfold insR
  rw [List.pairwise_append]
  refine ⟨hs.sublist (List.take_sublist _ _), List.pairwise_cons.2 ⟨hge, hs.sublist (List.drop_sublist _ _)⟩, fun a ha b hb => ?_⟩
  rcases List.mem_cons.1 hb with rfl | hb
  · exact hlt a ha
  · exact o.tr _ x _ (hP _ (List.mem_of_mem_take ha)) hx (hP _ (List.mem_of_mem_drop hb)) (hlt a ha) (hge b hb)
theorem srtR_srt_aux {lt : Int → Int → Bool} {D : Int → Prop} (o : LtO lt D) : ∀ (S P : List Int), (∀ y ∈ P ++ S, D y) → (P ++ S).Nodup → (P.Pairwise fun a b => lt a b = true) → (S.foldl (fun P x => insR lt x P) P).Pairwise fun a b => lt a b = true
  | [], P, _, _, h => h
  | x :: S, P, hD, hn, h => by
    have hp : (insR lt x P ++ S).Perm (P ++ x :: S) := (insR_perm.append_right S).trans List.perm_middle.symm
    refine srtR_srt_aux o S (insR lt x P) (fun y hy => hD y (hp.mem_iff.1 hy)) (hp.nodup_iff.2 hn) (insR_srt o (hD x (by simp)) (fun y hy => hD y (by simp [hy])) ?_ h)
    rw [List.nodup_append] at hn
    exact fun hx => hn.2.2 x hx x (by simp) rfl
theorem srtR_srt {lt : Int → Int → Bool} {D : Int → Prop} (o : LtO lt D) {S : List Int} (hD : ∀ y ∈ S, D y) (hn : S.Nodup) : (srtR lt S).Pairwise fun a b => lt a b = true := srtR_srt_aux o S [] hD hn .nil
end Go.Ev
namespace Go.Ev
open Go Go.RowKit
noncomputable def f105_r0 : List EOper := [oG 5 (.as (.c (.b false)))]
noncomputable def f105_r1 : List EOper := [oG 6 (.mv (tG 0)), oG 7 (.mv (tG 1)), oG 8 (.iadr 7 7 (tG 2) (tG 6)), oG 9 (.iadr 7 1 (tG 8) (tG 7)), oG 10 (.ld (tG 9)), oG 5 (.as (tG 10))]
noncomputable def f105_c : EC := (.seq (.reg f105_r0) (.seq (.reg f105_r1) .ret))
noncomputable def f105 : EF := ⟨11, [.tmp (.ofNat 5)], f105_c, none⟩
theorem f105_rs : f105.rs = [.tmp (.ofNat 5)] := of_eq_true (eq_self _)
noncomputable def f110_r0 : List EOper := [oG 5 (.as (cG 0))]
noncomputable def f110_r1 : List EOper := [oG 7 (.ld (tG 2)), oG 8 (.mv (tG 0)), oG 9 (.mv (tG 1)), oG 10 (.call (tG 7) [(tG 8), (tG 9)]), oG 6 (.as (tG 10))]
noncomputable def f110_r2 : List EOper := [oG 5 (.as (.c (.i .i64 (.negSucc 0))))]
noncomputable def f110_r3 : List EOper := [oG 12 (.ld (tG 2)), oG 13 (.mv (tG 1)), oG 14 (.mv (tG 0)), oG 15 (.call (tG 12) [(tG 13), (tG 14)]), oG 11 (.as (tG 15))]
noncomputable def f110_r4 : List EOper := [oG 5 (.as (cG 1))]
noncomputable def f110_r5 : List EOper := [oG 5 (.as (cG 0))]
noncomputable def f110_c : EC := (.seq (.reg f110_r0) (.seq (.block 0 (.seq (.reg f110_r1) (.cond (tG 6) (.seq (.reg f110_r2) .ret) (.seq (.reg f110_r3) (.cond (tG 11) (.seq (.reg f110_r4) .ret) .skip))))) (.seq (.reg f110_r5) .ret)))
noncomputable def f110 : EF := ⟨16, [.tmp (.ofNat 5)], f110_c, none⟩
theorem f110_rs : f110.rs = [.tmp (.ofNat 5)] := of_eq_true (eq_self _)
noncomputable def f128_r0 : List EOper := [oG 10 (.mv (tG 1)), oG 11 (.bin .add (tG 10) (cG 1)), oG 8 (.as (tG 11))]
noncomputable def f128_r1 : List EOper := [oG 12 (.mv (tG 8)), oG 13 (.mv (tG 2)), oG 14 (.bin .lss (tG 12) (tG 13))]
noncomputable def f128_r2 : List EOper := [oG 17 (.mv (tG 8)), oG 9 (.as (tG 17))]
noncomputable def f128_r3 : List Stage := [⟨[oG 18 (.mv (tG 9)), oG 19 (.mv (tG 1)), oG 20 (.bin .gtr (tG 18) (tG 19)), oG 21 (.mv (tG 20)), gG 22 21 true (.mv (tG 3)), gG 23 21 true (.mv (tG 0)), gG 24 21 true (.mv (tG 9)), gG 25 21 true (.iads 1 (tG 23) (tG 24)), gG 26 21 true (.ld (tG 25)), gG 27 21 true (.mv (tG 0)), gG 28 21 true (.mv (tG 9)), gG 29 21 true (.bin .sub (tG 28) (cG 1)), gG 30 21 true (.iads 1 (tG 27) (tG 29)), gG 31 21 true (.ld (tG 30))], [], (some (gG 32 21 true (.call (tG 22) [(tG 26), (tG 31)]))), []⟩, ⟨[gG 33 21 true (.bin .lss (tG 32) (cG 0)), oG 34 (.pick (tG 21) (tG 33) (.c (.b false)))], [], none, []⟩]
noncomputable def f128_r4 : List Stage := [⟨[oG 37 (.mv (tG 0)), oG 38 (.mv (tG 9)), oG 39 (.mv (tG 0)), oG 40 (.mv (tG 9)), oG 41 (.bin .sub (tG 40) (cG 1)), oG 42 (.mv (tG 0)), oG 43 (.mv (tG 9)), oG 44 (.bin .sub (tG 43) (cG 1)), oG 45 (.iads 1 (tG 42) (tG 44)), oG 46 (.ld (tG 45)), oG 47 (.mv (tG 0)), oG 48 (.mv (tG 9)), oG 49 (.iads 1 (tG 47) (tG 48)), oG 50 (.ld (tG 49)), oG 51 (.iads 1 (tG 37) (tG 38))], [], (some ⟨none, none, .st 1 (tG 51) (tG 46)⟩), []⟩, ⟨[oG 52 (.iads 1 (tG 39) (tG 41))], [oG 39 (.mv (tG 0)), oG 40 (.mv (tG 9)), oG 41 (.bin .sub (tG 40) (cG 1))], (some ⟨none, none, .st 1 (tG 52) (tG 50)⟩), []⟩, ⟨[], [], none, []⟩]
noncomputable def f128_r5 : List EOper := [oG 35 (.mv (tG 9)), oG 36 (.bin .sub (tG 35) (cG 1)), oG 9 (.as (tG 36))]
noncomputable def f128_l0 : EC := (.seq (.seq (.draw f128_r3) (.cond (tG 34) .skip (.exit 2))) (.seq (.block 3 (.draw f128_r4)) (.reg f128_r5)))
noncomputable def f128_r6 : List EOper := [oG 15 (.mv (tG 8)), oG 16 (.bin .add (tG 15) (cG 1)), oG 8 (.as (tG 16))]
noncomputable def f128_l1 : EC := (.seq (.seq (.reg f128_r1) (.cond (tG 14) .skip (.exit 0))) (.seq (.block 1 (.seq (.reg f128_r2) (.block 2 (.loop f128_l0)))) (.reg f128_r6)))
noncomputable def f128_c : EC := (.seq (.reg f128_r0) (.block 0 (.loop f128_l1)))
noncomputable def f128 : EF := ⟨53, [], f128_c, none⟩
theorem f128_rs : f128.rs = [] := of_eq_true (eq_self _)
noncomputable def f120_r0 : List EOper := [oG 2 (.as (cG 0))]
noncomputable def f120_r1 : List EOper := [oG 3 (.mv (tG 0)), oG 4 (.bin .geq (tG 3) (.c (.i .u64 (.ofNat 4294967296))))]
noncomputable def f120_r2 : List EOper := [oG 5 (.mv (tG 0)), oG 6 (.bin .shr (tG 5) (.c (.i .u64 (.ofNat 32)))), oG 0 (.as (tG 6))]
noncomputable def f120_r3 : List EOper := [oG 2 (.as (cG 32))]
noncomputable def f120_r4 : List EOper := [oG 7 (.mv (tG 0)), oG 8 (.bin .geq (tG 7) (.c (.i .u64 (.ofNat 65536))))]
noncomputable def f120_r5 : List EOper := [oG 9 (.mv (tG 0)), oG 10 (.bin .shr (tG 9) (.c (.i .u64 (.ofNat 16)))), oG 0 (.as (tG 10))]
noncomputable def f120_r6 : List EOper := [oG 11 (.mv (tG 2)), oG 12 (.bin .add (tG 11) (cG 16)), oG 2 (.as (tG 12))]
noncomputable def f120_r7 : List EOper := [oG 13 (.mv (tG 0)), oG 14 (.bin .geq (tG 13) (.c (.i .u64 (.ofNat 256))))]
noncomputable def f120_r8 : List EOper := [oG 15 (.mv (tG 0)), oG 16 (.bin .shr (tG 15) (.c (.i .u64 (.ofNat 8)))), oG 0 (.as (tG 16))]
noncomputable def f120_r9 : List EOper := [oG 17 (.mv (tG 2)), oG 18 (.bin .add (tG 17) (cG 8)), oG 2 (.as (tG 18))]
noncomputable def f120_r10 : List EOper := [oG 19 (.mv (tG 2)), oG 20 (.mv (tG 0)), oG 21 (.conv .u8 (tG 20)), oG 22 (.pr .sidx (.c (.s ⟨#[0, 1, 2, 2, 3, 3, 3, 3, 4, 4, 4, 4, 4, 4, 4, 4, 5, 5, 5, 5, 5, 5, 5, 5, 5, 5, 5, 5, 5, 5, 5, 5, 6, 6, 6, 6, 6, 6, 6, 6, 6, 6, 6, 6, 6, 6, 6, 6, 6, 6, 6, 6, 6, 6, 6, 6, 6, 6, 6, 6, 6, 6, 6, 6, 7, 7, 7, 7, 7, 7, 7, 7, 7, 7, 7, 7, 7, 7, 7, 7, 7, 7, 7, 7, 7, 7, 7, 7, 7, 7, 7, 7, 7, 7, 7, 7, 7, 7, 7, 7, 7, 7, 7, 7, 7, 7, 7, 7, 7, 7, 7, 7, 7, 7, 7, 7, 7, 7, 7, 7, 7, 7, 7, 7, 7, 7, 7, 7, 8, 8, 8, 8, 8, 8, 8, 8, 8, 8, 8, 8, 8, 8, 8, 8, 8, 8, 8, 8, 8, 8, 8, 8, 8, 8, 8, 8, 8, 8, 8, 8, 8, 8, 8, 8, 8, 8, 8, 8, 8, 8, 8, 8, 8, 8, 8, 8, 8, 8, 8, 8, 8, 8, 8, 8, 8, 8, 8, 8, 8, 8, 8, 8, 8, 8, 8, 8, 8, 8, 8, 8, 8, 8, 8, 8, 8, 8, 8, 8, 8, 8, 8, 8, 8, 8, 8, 8, 8, 8, 8, 8, 8, 8, 8, 8, 8, 8, 8, 8, 8, 8, 8, 8, 8, 8, 8, 8, 8, 8, 8, 8, 8, 8, 8, 8, 8, 8, 8, 8, 8, 8, 8, 8, 8, 8, 8, 8]⟩)) (tG 21)), oG 23 (.conv .i64 (tG 22)), oG 24 (.bin .add (tG 19) (tG 23)), oG 2 (.as (tG 24))]
noncomputable def f120_c : EC := (.seq (.reg f120_r0) (.seq (.seq (.reg f120_r1) (.cond (tG 4) (.seq (.reg f120_r2) (.reg f120_r3)) .skip)) (.seq (.seq (.reg f120_r4) (.cond (tG 8) (.seq (.reg f120_r5) (.reg f120_r6)) .skip)) (.seq (.seq (.reg f120_r7) (.cond (tG 14) (.seq (.reg f120_r8) (.reg f120_r9)) .skip)) (.seq (.reg f120_r10) .ret)))))
noncomputable def f120 : EF := ⟨25, [.tmp (.ofNat 2)], f120_c, none⟩
noncomputable def f107_r0 : List EOper := [oG 2 (.as (cG 0))]
noncomputable def f107_r1 : List EOper := [oG 3 (.mv (tG 0)), oG 4 (.conv .u32 (tG 3)), oG 5 (.call (fG 119) [(tG 4)]), oG 2 (.as (tG 5))]
noncomputable def f107_r2 : List EOper := [oG 6 (.mv (tG 0)), oG 7 (.call (fG 120) [(tG 6)]), oG 2 (.as (tG 7))]
noncomputable def f107_c : EC := (.seq (.reg f107_r0) (.seq (.cond (.c (.b false)) (.seq (.reg f107_r1) .ret) .skip) (.seq (.reg f107_r2) .ret)))
noncomputable def f107 : EF := ⟨8, [.tmp (.ofNat 2)], f107_c, none⟩
theorem f107_rs : f107.rs = [.tmp (.ofNat 2)] := of_eq_true (eq_self _)
noncomputable def f122_r0 : List EOper := [oG 10 (.as (.c (.b true)))]
noncomputable def f122_r1 : List EOper := [oG 11 (.as (.c (.b true)))]
noncomputable def f122_r2 : List EOper := [oG 21 (.mv (tG 2)), oG 22 (.mv (tG 1)), oG 23 (.bin .sub (tG 21) (tG 22)), oG 12 (.as (tG 23))]
noncomputable def f122_r3 : List EOper := [oG 24 (.mv (tG 12)), oG 25 (.bin .leq (tG 24) (cG 12))]
noncomputable def f122_r4 : List EOper := [oG 26 (.mv (tG 0)), oG 27 (.mv (tG 1)), oG 28 (.mv (tG 2)), oG 29 (.mv (tG 4)), oG 30 (.call (fG 128) [(tG 26), (tG 27), (tG 28), (tG 29)])]
noncomputable def f122_r5 : List EOper := [oG 31 (.mv (tG 3)), oG 32 (.bin .eql (tG 31) (cG 0))]
noncomputable def f122_r6 : List EOper := [oG 33 (.mv (tG 0)), oG 34 (.mv (tG 1)), oG 35 (.mv (tG 2)), oG 36 (.mv (tG 4)), oG 37 (.call (fG 129) [(tG 33), (tG 34), (tG 35), (tG 36)])]
noncomputable def f122_r7 : List EOper := [oG 38 (.mv (tG 10)), oG 39 (.not (tG 38))]
noncomputable def f122_r8 : List EOper := [oG 40 (.mv (tG 0)), oG 41 (.mv (tG 1)), oG 42 (.mv (tG 2)), oG 43 (.mv (tG 4)), oG 44 (.call (fG 130) [(tG 40), (tG 41), (tG 42), (tG 43)])]
noncomputable def f122_r9 : List EOper := [oG 45 (.mv (tG 3)), oG 46 (.bin .sub (tG 45) (cG 1)), oG 3 (.as (tG 46))]
noncomputable def f122_r10 : List EOper := [oG 48 (.mv (tG 0)), oG 49 (.mv (tG 1)), oG 50 (.mv (tG 2)), oG 51 (.mv (tG 4)), oG 52 (.call (fG 131) [(tG 48), (tG 49), (tG 50), (tG 51)]), oG 47 (.mv (tG 52)), oG 53 (.ext (tG 47) 0), oG 54 (.ext (tG 47) 1), oG 13 (.as (tG 53)), oG 14 (.as (tG 54))]
noncomputable def f122_r11 : List EOper := [oG 55 (.mv (tG 14)), oG 56 (.bin .eql (tG 55) (cG 2))]
noncomputable def f122_r12 : List EOper := [oG 57 (.mv (tG 0)), oG 58 (.mv (tG 1)), oG 59 (.mv (tG 2)), oG 60 (.mv (tG 4)), oG 61 (.call (fG 132) [(tG 57), (tG 58), (tG 59), (tG 60)])]
noncomputable def f122_r13 : List EOper := [oG 62 (.mv (tG 2)), oG 63 (.bin .sub (tG 62) (cG 1)), oG 64 (.mv (tG 13)), oG 65 (.mv (tG 1)), oG 66 (.bin .sub (tG 64) (tG 65)), oG 67 (.bin .sub (tG 63) (tG 66)), oG 13 (.as (tG 67))]
noncomputable def f122_r14 : List EOper := [oG 14 (.as (cG 1))]
noncomputable def f122_r15 : List EOper := [oG 68 (.mv (tG 10)), oG 69 (.mv (tG 68)), gG 70 69 true (.mv (tG 11)), oG 71 (.pick (tG 69) (tG 70) (.c (.b false))), oG 72 (.mv (tG 71)), gG 73 72 true (.mv (tG 14)), gG 74 72 true (.bin .eql (tG 73) (cG 1)), oG 75 (.pick (tG 72) (tG 74) (.c (.b false)))]
noncomputable def f122_r16 : List EOper := [oG 76 (.mv (tG 0)), oG 77 (.mv (tG 1)), oG 78 (.mv (tG 2)), oG 79 (.mv (tG 4)), oG 80 (.call (fG 133) [(tG 76), (tG 77), (tG 78), (tG 79)])]
noncomputable def f122_r17 : List Stage := [⟨[oG 81 (.mv (tG 1)), oG 82 (.bin .gtr (tG 81) (cG 0)), oG 83 (.mv (tG 82)), gG 84 83 true (.mv (tG 4)), gG 85 83 true (.mv (tG 0)), gG 86 83 true (.mv (tG 1)), gG 87 83 true (.bin .sub (tG 86) (cG 1)), gG 88 83 true (.iads 1 (tG 85) (tG 87)), gG 89 83 true (.ld (tG 88)), gG 90 83 true (.mv (tG 0)), gG 91 83 true (.mv (tG 13)), gG 92 83 true (.iads 1 (tG 90) (tG 91)), gG 93 83 true (.ld (tG 92))], [], (some (gG 94 83 true (.call (tG 84) [(tG 89), (tG 93)]))), []⟩, ⟨[gG 95 83 true (.bin .lss (tG 94) (cG 0)), gG 96 83 true (.not (tG 95)), oG 97 (.pick (tG 83) (tG 96) (.c (.b false)))], [], none, []⟩]
noncomputable def f122_r18 : List EOper := [oG 98 (.mv (tG 0)), oG 99 (.mv (tG 1)), oG 100 (.mv (tG 2)), oG 101 (.mv (tG 13)), oG 102 (.mv (tG 4)), oG 103 (.call (fG 134) [(tG 98), (tG 99), (tG 100), (tG 101), (tG 102)]), oG 15 (.as (tG 103))]
noncomputable def f122_r19 : List EOper := [oG 104 (.mv (tG 15)), oG 1 (.as (tG 104))]
noncomputable def f122_r20 : List EOper := [oG 106 (.mv (tG 0)), oG 107 (.mv (tG 1)), oG 108 (.mv (tG 2)), oG 109 (.mv (tG 13)), oG 110 (.mv (tG 4)), oG 111 (.call (fG 135) [(tG 106), (tG 107), (tG 108), (tG 109), (tG 110)]), oG 105 (.mv (tG 111)), oG 112 (.ext (tG 105) 0), oG 113 (.ext (tG 105) 1), oG 16 (.as (tG 112)), oG 17 (.as (tG 113))]
noncomputable def f122_r21 : List EOper := [oG 114 (.mv (tG 17)), oG 11 (.as (tG 114))]
noncomputable def f122_r22 : List EOper := [oG 115 (.mv (tG 16)), oG 116 (.mv (tG 1)), oG 117 (.bin .sub (tG 115) (tG 116)), oG 118 (.mv (tG 2)), oG 119 (.mv (tG 16)), oG 120 (.bin .sub (tG 118) (tG 119)), oG 18 (.as (tG 117)), oG 19 (.as (tG 120))]
noncomputable def f122_r23 : List EOper := [oG 121 (.mv (tG 12)), oG 122 (.bin .quo (tG 121) (cG 8)), oG 20 (.as (tG 122))]
noncomputable def f122_r24 : List EOper := [oG 123 (.mv (tG 18)), oG 124 (.mv (tG 19)), oG 125 (.bin .lss (tG 123) (tG 124))]
noncomputable def f122_r25 : List EOper := [oG 126 (.mv (tG 18)), oG 127 (.mv (tG 20)), oG 128 (.bin .geq (tG 126) (tG 127)), oG 10 (.as (tG 128))]
noncomputable def f122_r26 : List EOper := [oG 129 (.mv (tG 0)), oG 130 (.mv (tG 1)), oG 131 (.mv (tG 16)), oG 132 (.mv (tG 3)), oG 133 (.mv (tG 4)), oG 134 (.call (fG 122) [(tG 129), (tG 130), (tG 131), (tG 132), (tG 133)])]
noncomputable def f122_r27 : List EOper := [oG 135 (.mv (tG 16)), oG 136 (.bin .add (tG 135) (cG 1)), oG 1 (.as (tG 136))]
noncomputable def f122_r28 : List EOper := [oG 137 (.mv (tG 19)), oG 138 (.mv (tG 20)), oG 139 (.bin .geq (tG 137) (tG 138)), oG 10 (.as (tG 139))]
noncomputable def f122_r29 : List EOper := [oG 140 (.mv (tG 0)), oG 141 (.mv (tG 16)), oG 142 (.bin .add (tG 141) (cG 1)), oG 143 (.mv (tG 2)), oG 144 (.mv (tG 3)), oG 145 (.mv (tG 4)), oG 146 (.call (fG 122) [(tG 140), (tG 142), (tG 143), (tG 144), (tG 145)])]
noncomputable def f122_r30 : List EOper := [oG 147 (.mv (tG 16)), oG 2 (.as (tG 147))]
noncomputable def f122_l0 : EC := (.block 1 (.seq (.reg f122_r2) (.seq (.seq (.reg f122_r3) (.cond (tG 25) (.seq (.reg f122_r4) .ret) .skip)) (.seq (.seq (.reg f122_r5) (.cond (tG 32) (.seq (.reg f122_r6) .ret) .skip)) (.seq (.seq (.reg f122_r7) (.cond (tG 39) (.seq (.reg f122_r8) (.reg f122_r9)) .skip)) (.seq (.reg f122_r10) (.seq (.seq (.reg f122_r11) (.cond (tG 56) (.seq (.reg f122_r12) (.seq (.reg f122_r13) (.reg f122_r14))) .skip)) (.seq (.seq (.reg f122_r15) (.cond (tG 75) (.seq (.reg f122_r16) (.cond (tG 80) .ret .skip)) .skip)) (.seq (.seq (.draw f122_r17) (.cond (tG 97) (.seq (.reg f122_r18) (.seq (.reg f122_r19) (.exit 1))) .skip)) (.seq (.reg f122_r20) (.seq (.reg f122_r21) (.seq (.reg f122_r22) (.seq (.reg f122_r23) (.seq (.reg f122_r24) (.cond (tG 125) (.seq (.reg f122_r25) (.seq (.reg f122_r26) (.reg f122_r27))) (.seq (.reg f122_r28) (.seq (.reg f122_r29) (.reg f122_r30))))))))))))))))))
noncomputable def f122_c : EC := (.seq (.reg f122_r0) (.seq (.reg f122_r1) (.block 0 (.loop f122_l0))))
noncomputable def f122 : EF := ⟨148, [], f122_c, none⟩
theorem f122_rs : f122.rs = [] := of_eq_true (eq_self _)
noncomputable def f109_r0 : List EOper := [oG 5 (.mv (tG 0)), oG 6 (.len (tG 5)), oG 4 (.as (tG 6))]
noncomputable def f109_r1 : List EOper := [oG 7 (.mv (tG 0)), oG 8 (.mv (tG 4)), oG 9 (.mv (tG 4)), oG 10 (.conv .u64 (tG 9)), oG 11 (.call (fG 107) [(tG 10)]), oG 12 (.mv (tG 1)), oG 13 (.call (fG 122) [(tG 7), (cG 0), (tG 8), (tG 11), (tG 12)])]
noncomputable def f109_c : EC := (.seq (.reg f109_r0) (.reg f109_r1))
noncomputable def f109 : EF := ⟨14, [], f109_c, none⟩
theorem f109_rs : f109.rs = [] := of_eq_true (eq_self _)
noncomputable def f104_r0 : List EOper := [oG 3 (.box 1 (tG 1))]
noncomputable def f104_r1 : List EOper := [oG 4 (.mv (tG 0)), oG 5 (.mkfn (.ofNat 110) [(tG 3)]), oG 6 (.call (fG 109) [(tG 4), (tG 5)])]
noncomputable def f104_c : EC := (.seq (.reg f104_r0) (.reg f104_r1))
noncomputable def f104 : EF := ⟨7, [], f104_c, none⟩
theorem f104_rs : f104.rs = [] := of_eq_true (eq_self _)
noncomputable def f93_r0 : List EOper := [oG 3 (.box 49 (tG 1)), oG 4 (.as (.c .sn))]
noncomputable def f93_r1 : List EOper := [oG 7 (.mv (tG 0)), oG 8 (.mkslice 1 [(.i .i64 (.ofNat 0))] (tG 7)), oG 5 (.as (tG 8))]
noncomputable def f93_r2 : List EOper := [oG 9 (.mv (tG 0)), oG 10 (.mv (cG 0))]
noncomputable def f93_r3 : List EOper := [oG 11 (.bin .lss (tG 10) (tG 9))]
noncomputable def f93_r4 : List EOper := [oG 12 (.mv (tG 10)), oG 6 (.as (tG 12))]
noncomputable def f93_r5 : List EOper := [oG 13 (.mv (tG 5)), oG 14 (.mv (tG 6)), oG 15 (.mv (tG 6)), oG 16 (.iads 1 (tG 13) (tG 14)), ⟨none, none, .st 1 (tG 16) (tG 15)⟩]
noncomputable def f93_r6 : List EOper := [oG 17 (.bin .add (tG 10) (cG 1)), oG 10 (.mv (tG 17))]
noncomputable def f93_l0 : EC := (.seq (.reg f93_r3) (.seq (.cond (tG 11) .skip (.exit 0)) (.seq (.block 1 (.seq (.reg f93_r4) (.reg f93_r5))) (.reg f93_r6))))
noncomputable def f93_r7 : List EOper := [oG 18 (.mv (tG 5)), oG 19 (.mkfn (.ofNat 105) [(tG 3)]), oG 20 (.call (fG 104) [(tG 18), (tG 19)])]
noncomputable def f93_r8 : List EOper := [oG 21 (.mv (tG 5)), oG 4 (.as (tG 21))]
noncomputable def f93_c : EC := (.seq (.reg f93_r0) (.seq (.reg f93_r1) (.seq (.seq (.reg f93_r2) (.block 0 (.loop f93_l0))) (.seq (.reg f93_r7) (.seq (.reg f93_r8) .ret)))))
noncomputable def f93 : EF := ⟨22, [.tmp (.ofNat 4)], f93_c, none⟩
theorem f93_rs : f93.rs = [.tmp (.ofNat 4)] := of_eq_true (eq_self _)
structure OnlyO (v : V) (h h' : H) : Prop where
  nx : h'.nx = h.nx
  old : ∀ id, NotIn id v → h'.get id = h.get id
theorem OnlyO.refl {v : V} {h : H} : OnlyO v h h := ⟨rfl, fun _ _ => rfl⟩
theorem OnlyO.hc {v : V} {h h' : H} (o : OnlyO v h h') (hc : HC h) (hv : ∀ id off n sz, v = .sl id off n sz → id.nat < h.nx.nat) : HC h' := fun id hid => by
  rw [o.nx] at hid
  rw [o.old id (fun off n sz e => by have := hv _ _ _ _ e; omega)]
  exact hc id hid
theorem OnlyO.put {v : V} {h h' : H} {id : K} {x : Blk} (o : OnlyO v h h') (hv : ∃ off n sz, v = .sl id off n sz) : OnlyO v h (h'.put id x) := ⟨o.nx, fun id' hn => by
  obtain ⟨off, n, sz, e⟩ := hv
  rw [get_put_other (fun q => hn off n sz (by rw [q]; exact e))]
  exact o.old id' hn⟩
theorem OnlyO.grow {v : V} {h h' : H} {b : Nat} (o : OnlyO v h h') (ho : Own b v) (hv : ∀ id off n sz, v = .sl id off n sz → id.nat < h.nx.nat) : Grow b h h' := ⟨by rw [o.nx]; exact Nat.le_refl _, fun id hi => o.old id (ho.notIn hi), fun hc => o.hc hc hv⟩
theorem swap_o {p x : Int} {B : List Int} : ∀ {A : List Int}, ((A ++ p :: x :: B).set (A.length + 1) p).set A.length x = A ++ x :: p :: B
  | [] => rfl
  | a :: A => by simp
def ltR (L : List Bool) (x y : Int) : Bool := rat L x.toNat y.toNat
def cmR (L : List Bool) (x y : Nat) : Int := if rat L x y = true then -1 else if rat L y x = true then 1 else 0
def All7 (S : List Int) : Prop := ∀ x ∈ S, ∃ a : Nat, a < 7 ∧ x = (a : Int)
structure SoE (L : List Bool) (idr idb : K) (h : H) : Prop where
  er : h.get idr = rC L
  eb : h.get idb = .cells 1 [.fn (K.ofNat 105) [.p idr 0]]
structure CallsSo (fs : T EF) : Prop where
  c105 : fs.get (K.ofNat 105) = some f105
  c110 : fs.get (K.ofNat 110) = some f110
  c128 : fs.get (K.ofNat 128) = some f128
  c120 : fs.get (K.ofNat 120) = some f120
  c107 : fs.get (K.ofNat 107) = some f107
  c122 : fs.get (K.ofNat 122) = some f122
  c109 : fs.get (K.ofNat 109) = some f109
  c104 : fs.get (K.ofNat 104) = some f104
section
variable {fs : T EF} {h : H} {v : V} {S : List Int} {L : List Bool} {idr idb : K}
theorem f105_ret {x y : Nat} (hL : L.length = 49) (hx : x < 7) (hy : y < 7) (er : h.get idr = rC L) : Ret fs f105 [.i .i64 (x : Int), .i .i64 (y : Int), .p idr 0] h fun r h' => r = .b (rat L x y) ∧ h' = h := by
  apply ret_of rfl
  show W fs none f105_c _ _ _
  unfold f105_c
  have l := rC_ld hx hy hL er
  simp (disch := omega) only [f105_r0, f105_r1, f105_rs, Option.some.injEq, exists_eq_left', Nat.reduceEqDiff, ↓reduceIte, l, and_self, bz]
theorem f110_ret {x y : Nat} (k : CallsSo fs) (hL : L.length = 49) (hx : x < 7) (hy : y < 7) (e : SoE L idr idb h) : Ret fs f110 [.i .i64 (x : Int), .i .i64 (y : Int), .p idb 0] h fun r h' => r = .i .i64 (cmR L x y) ∧ h' = h := by
  apply ret_of rfl
  show W fs none f110_c _ _ _
  unfold f110_c
  have l := load_p (off := 0) e.eb (show nth [V.fn (K.ofNat 105) [.p idr 0]] 0 = some _ from rfl)
  unfold cmR
  simp (disch := omega) only [f110_r0, f110_r1, Nat.reduceEqDiff, ↓reduceIte, l, bz]
  refine (callP_of (ef := f105) (args := [.i .i64 (x : Int), .i .i64 (y : Int)]) (caps := [.p idr 0]) k.c105 rfl (f105_ret hL hx hy e.er)).mono ?_
  rintro r h1 ⟨rfl, rfl⟩
  cases h1_ : rat L x y with
  | true =>
    simp (disch := omega) only [f110_r2, f110_rs, Option.some.injEq, exists_eq_left', ↓reduceIte, bz]
    exact ⟨rfl, trivial⟩
  | false =>
    simp (disch := omega) only [f110_r3, Nat.reduceEqDiff, ↓reduceIte, Bool.false_eq_true, l, bz]
    refine (callP_of (ef := f105) (args := [.i .i64 (y : Int), .i .i64 (x : Int)]) (caps := [.p idr 0]) k.c105 rfl (f105_ret hL hy hx e.er)).mono ?_
    rintro r h1 ⟨rfl, rfl⟩
    cases h2_ : rat L y x with
    | true => simp (disch := omega) only [f110_r4, f110_rs, Option.some.injEq, exists_eq_left', ↓reduceIte, and_self, bz]
    | false => simp (disch := omega) only [f110_r5, f110_rs, Option.some.injEq, exists_eq_left', ↓reduceIte, Bool.false_eq_true, and_self, Bool.false_eq_true, bz]
def f128_I (h : H) (v c : V) (L : List Bool) (S : List Int) (i : Nat) (fr : Fr) (h1 : H) : Prop := 1 ≤ i ∧ i ≤ S.length ∧ OnlyO v h h1 ∧ Sl iE h1 v (srtR (ltR L) (S.take i) ++ S.drop i) ∧ fr.get (K.ofNat 0) = some (v) ∧ fr.get (K.ofNat 1) = some (.i .i64 0) ∧ fr.get (K.ofNat 2) = some (.i .i64 (S.length : Int)) ∧ fr.get (K.ofNat 3) = some (c) ∧ fr.get (K.ofNat 8) = some (.i .i64 (i : Int))
def f128_J (h : H) (v c : V) (L : List Bool) (S P R : List Int) (x : Int) (i j : Nat) (fr : Fr) (h1 : H) : Prop := j ≤ i ∧ OnlyO v h h1 ∧ Sl iE h1 v ((P.take j ++ x :: P.drop j) ++ R) ∧ stopI (ltR L) x P P.length = stopI (ltR L) x P j ∧ fr.get (K.ofNat 0) = some (v) ∧ fr.get (K.ofNat 1) = some (.i .i64 0) ∧ fr.get (K.ofNat 2) = some (.i .i64 (S.length : Int)) ∧ fr.get (K.ofNat 3) = some (c) ∧ fr.get (K.ofNat 8) = some (.i .i64 (i : Int)) ∧ fr.get (K.ofNat 9) = some (.i .i64 (j : Int))
theorem f128_ret (k : CallsSo fs) (hL : L.length = 49) (hv : Sl iE h v S) (hS : S.length ≤ 1000) (h1 : 1 ≤ S.length) (h7 : All7 S) (e : SoE L idr idb h) (nr : NotIn idr v) (nb : NotIn idb v) (hc : HC h) : Ret fs f128 [v, .i .i64 0, .i .i64 (S.length : Int), .fn (.ofNat 110) [.p idb 0]] h fun r h' => r = .tup [] ∧ Sl iE h' v (srtR (ltR L) S) ∧ OnlyO v h h' := by
  have hlt0 := hv.lt hc
  apply ret_of rfl
  show W fs none f128_c _ _ _
  unfold f128_c
  simp (disch := omega) only [f128_r0, frame_4, Nat.reduceEqDiff, ↓reduceIte, bz]
  refine W_loop (f128_I h v (.fn (K.ofNat 110) [.p idb 0]) L S) (fun i => S.length - i) ?_ 1 ⟨by omega, h1, OnlyO.refl, ?_, by simp (disch := omega) only [getK_set, Nat.reduceEqDiff, ↓reduceIte, and_self, Int.natCast_one, Int.zero_add]⟩
  · rintro i fr h2 ⟨hi0, hi, hO, hs, g0, g1, g2, g3, g8⟩
    unfold f128_l1
    by_cases hlt : i < S.length
    · have d0 : decide ((i : Int) < (S.length : Int)) = true := decide_eq_true (by omega)
      have hP : (srtR (ltR L) (S.take i)).length = i := by rw [srtR_len]; simp; omega
      have hsn : srtR (ltR L) (S.take (i + 1)) = insR (ltR L) S[i] (srtR (ltR L) (S.take i)) := by rw [List.take_succ_eq_append_getElem hlt, srtR_snoc]
      have hdr : S.drop i = S[i] :: S.drop (i + 1) := List.drop_eq_getElem_cons hlt
      have hx7 := h7 S[i] (List.getElem_mem _)
      have hP7 : All7 (srtR (ltR L) (S.take i)) := fun y hy => h7 y (List.mem_of_mem_take (srtR_perm.mem_iff.1 hy))
      generalize S[i] = x at *
      generalize srtR (ltR L) (S.take i) = P at *
      generalize hRe : S.drop (i + 1) = R at *
      obtain ⟨xn, hxn, hxe⟩ := hx7
      simp (disch := omega) only [f128_r1, f128_r2, Nat.reduceEqDiff, ↓reduceIte, g2, g8, d0, bz]
      refine W_loop (f128_J h v (.fn (K.ofNat 110) [.p idb 0]) L S P R x i) (fun j => j) ?_ i ⟨Nat.le_refl _, hO, by rw [List.take_of_length_le (by omega), List.drop_eq_nil_of_le (by omega), List.append_assoc]; rw [hdr] at hs; exact hs, by rw [hP], by simp (disch := omega) only [getK_set, Nat.reduceEqDiff, ↓reduceIte, g0, g1, g2, g3, g8, and_self]⟩
      clear hs hO g0 g1 g2 g3 g8 fr
      rintro j fr h3 ⟨hj, hO, hs, hB, g0, g1, g2, g3, g8, g9⟩
      have fin : stopI (ltR L) x P j = j → Sl iE h3 v (srtR (ltR L) (S.take (i + 1)) ++ R) := fun q => by
        rw [hsn]; unfold insR; rw [hB, q]; exact hs
      unfold f128_l0
      rcases j with _ | j
      · have d1 : decide ((0 : Int) > 0) = false := rfl
        simp (disch := omega) only [f128_r3, f128_r6, Nat.reduceEqDiff, ↓reduceIte, Bool.false_eq_true, g1, g8, g9, Int.natCast_zero, d1, bz]
        exact ⟨i + 1, by omega, by omega, by omega, hO, by rw [hRe]; exact fin rfl, by simp (disch := omega) only [getK_set, Nat.reduceEqDiff, ↓reduceIte, g0, g1, g2, g3, and_self, Int.natCast_add, Int.natCast_one]⟩
      · have d1 : decide (((j + 1 : Nat) : Int) > 0) = true := decide_eq_true (by omega)
        have hj1 : ((j + 1 : Nat) : Int) - 1 = (j : Int) := by omega
        have hjP : j < P.length := by omega
        have htk : P.take (j + 1) = P.take j ++ [P[j]] := List.take_succ_eq_append_getElem hjP
        have hdj : P.drop j = P[j] :: P.drop (j + 1) := List.drop_eq_getElem_cons hjP
        have hgd : P.getD j 0 = P[j] := by rw [List.getD_eq_getElem?_getD, List.getElem?_eq_getElem hjP]; rfl
        have hst : stopI (ltR L) x P (j + 1) = bif ltR L x P[j] then stopI (ltR L) x P j else j + 1 := by rw [← hgd]; rfl
        have hA : (P.take j).length = j := by simp; omega
        have hp7 := hP7 P[j] (List.getElem_mem _)
        rw [htk] at hs
        have hs' : Sl iE h3 v (P.take j ++ P[j] :: x :: (P.drop (j + 1) ++ R)) := by rw [List.append_assoc (P.take j), List.append_assoc (P.take j)] at hs; exact hs
        have hTe : P.take (j + 1) = P.take j ++ [P[j]] := htk
        generalize P[j] = p at *
        generalize hAe : P.take j = A at *
        generalize hBe : P.drop (j + 1) = B at *
        obtain ⟨pn, hpn, hpe⟩ := hp7
        have hlen : (A ++ p :: x :: (B ++ R)).length = A.length + (B ++ R).length + 2 := by simp; omega
        obtain ⟨p1, a1, a2⟩ := hs'.at (j + 1) (by omega)
        obtain ⟨p0, b1, b2⟩ := hs'.at j (by omega)
        have x1 : (A ++ p :: x :: (B ++ R))[j + 1]'(by omega) = x := by simp [← hA]
        have x0 : (A ++ p :: x :: (B ++ R))[j]'(by omega) = p := by simp [← hA]
        rw [x1] at a2
        rw [x0] at b2
        have e3 : SoE L idr idb h3 := ⟨(hO.old _ nr).trans e.er, (hO.old _ nb).trans e.eb⟩
        have hcall := callP_of (fs := fs) (h := h3) (ef := f110) (args := [.i .i64 (xn : Int), .i .i64 (pn : Int)]) (caps := [.p idb 0]) k.c110 rfl (f110_ret k hL hxn hpn e3)
        rw [← hxe, ← hpe] at hcall
        have hltx : ltR L x p = rat L xn pn := by unfold ltR; rw [hxe, hpe]; rfl
        have hc3 := hO.hc hc hlt0
        cases d2 : rat L xn pn with
        | false =>
          have dc : decide (cmR L xn pn < 0) = false := by
            unfold cmR; rw [d2, if_neg (by simp)]
            split <;> rfl
          rw [hltx, d2] at hst
          simp (disch := omega) only [f128_r3, Nat.reduceEqDiff, ↓reduceIte, g0, g1, g3, g9, d1, hj1, a1, a2, b1, b2, iE, bz]
          refine hcall.mono ?_
          rintro r h4 ⟨rfl, rfl⟩
          simp (disch := omega) only [f128_r6, Nat.reduceEqDiff, ↓reduceIte, Bool.false_eq_true, g8, dc, bz]
          exact ⟨i + 1, by omega, by omega, by omega, hO, by rw [hRe]; exact fin hst, by simp (disch := omega) only [getK_set, Nat.reduceEqDiff, ↓reduceIte, g0, g1, g2, g3, and_self, Int.natCast_add, Int.natCast_one]⟩
        | true =>
          have dc : decide (cmR L xn pn < 0) = true := by
            unfold cmR; rw [d2, if_pos rfl]; rfl
          rw [hltx, d2] at hst
          obtain ⟨p1', id, m, cs', z1, z2, z3, ⟨off, nn, sz, z4⟩, z5⟩ := hs'.st (i := j + 1) (by omega) (x := p) (c := .i .i64 p) rfl rfl hc3
          obtain rfl : p1 = p1' := by have := (a1 .i64 h3).symm.trans (z1 .i64 h3); injection this
          have hc4 := (hO.put (x := .cells m cs') ⟨_, _, _, z4⟩).hc hc hlt0
          obtain ⟨p0', id2, m2, cs2, y1, y2, y3, y4, y5⟩ := z3.st (i := j) (by simp; omega) (x := x) (c := .i .i64 x) rfl rfl hc4
          obtain rfl : p0 = p0' := by have := (b1 .i64 h3).symm.trans (y1 .i64 h3); injection this
          have hsw : ((A ++ p :: x :: (B ++ R)).set (j + 1) p).set j x = (A ++ x :: (p :: B)) ++ R := by
            have := swap_o (p := p) (x := x) (B := B ++ R) (A := A)
            rw [hA] at this
            rw [this]; simp
          rw [hsw] at y3
          have hvb := hs.beq
          simp (disch := omega) only [f128_r3, Nat.reduceEqDiff, ↓reduceIte, g0, g1, g3, g9, d1, hj1, a1, a2, b1, b2, iE, bz]
          refine hcall.mono ?_
          rintro r h4 ⟨rfl, rfl⟩
          simp (disch := omega) only [f128_r4, f128_r5, stay_bin, Nat.reduceEqDiff, ↓reduceIte, g0, g9, dc, hj1, a1, a2, b1, b2, z2, y2, hvb, iE, bz]
          refine ⟨j, by omega, by omega, (hO.put ⟨_, _, _, z4⟩).put y4, ?_, by rw [hB]; exact hst, by simp (disch := omega) only [getK_set, Nat.reduceEqDiff, ↓reduceIte, g0, g1, g2, g3, g8, and_self]⟩
          rw [hAe, hdj]; exact y3
    · have d0 : decide ((i : Int) < (S.length : Int)) = false := decide_eq_false (by omega)
      have ei : i = S.length := by omega
      rw [ei, List.take_length, List.drop_length, List.append_nil] at hs
      simp (disch := omega) only [f128_r1, f128_rs, retK_n, Option.some.injEq, exists_eq_left', Nat.reduceEqDiff, ↓reduceIte, Bool.false_eq_true, g2, g8, d0, bz]
      exact ⟨hs, hO⟩
  · have : S.take 1 = [S[0]] := by rw [List.take_succ_eq_append_getElem (by omega)]; simp
    rw [this, show srtR (ltR L) [S[0]] = [S[0]] from rfl, ← this, List.take_append_drop]; exact hv
theorem f120_ret {n : Nat} (hn : n ≤ 12) : Ret fs f120 [.i .u64 (n : Int)] h fun r h' => (∃ b, r = .i .i64 b) ∧ h' = h := by
  rcases (show n = 0 ∨ n = 1 ∨ n = 2 ∨ n = 3 ∨ n = 4 ∨ n = 5 ∨ n = 6 ∨ n = 7 ∨ n = 8 ∨ n = 9 ∨ n = 10 ∨ n = 11 ∨ n = 12 by omega) with rfl | rfl | rfl | rfl | rfl | rfl | rfl | rfl | rfl | rfl | rfl | rfl | rfl <;> exact ⟨20, _, _, rfl, ⟨_, rfl⟩, rfl⟩
theorem f107_ret {n : Nat} (k : CallsSo fs) (hn : n ≤ 12) : Ret fs f107 [.i .u64 (n : Int)] h fun r h' => (∃ b, r = .i .i64 b) ∧ h' = h := by
  apply ret_of rfl
  show W fs none f107_c _ _ _
  unfold f107_c
  simp (disch := omega) only [f107_r0, f107_r2, Nat.reduceEqDiff, ↓reduceIte, Bool.false_eq_true, bz]
  refine (callP_0 (ef := f120) k.c120 rfl (f120_ret hn)).mono ?_
  rintro r h1 ⟨⟨b, rfl⟩, rfl⟩
  simp (disch := omega) only [f107_rs, Option.some.injEq, exists_eq_left', ↓reduceIte, and_true, bz]
  exact ⟨b, rfl⟩
theorem f122_ret {b : Int} (k : CallsSo fs) (hL : L.length = 49) (hv : Sl iE h v S) (hS : S.length ≤ 12) (h1 : 1 ≤ S.length) (h7 : All7 S) (e : SoE L idr idb h) (nr : NotIn idr v) (nb : NotIn idb v) (hc : HC h) : Ret fs f122 [v, .i .i64 0, .i .i64 (S.length : Int), .i .i64 b, .fn (.ofNat 110) [.p idb 0]] h fun r h' => r = .tup [] ∧ Sl iE h' v (srtR (ltR L) S) ∧ OnlyO v h h' := by
  apply ret_of rfl
  show W fs none f122_c _ _ _
  unfold f122_c
  have d0 : decide ((S.length : Int) ≤ 12) = true := decide_eq_true (by omega)
  have e0 : (S.length : Int) - 0 = (S.length : Int) := Int.sub_zero _
  simp (disch := omega) only [f122_r0, f122_r1, frame_5, bz]
  refine W_loop (fun (_ : Unit) fr h1 => h1 = h ∧ fr.get (K.ofNat 0) = some (v) ∧ fr.get (K.ofNat 1) = some (.i .i64 0) ∧ fr.get (K.ofNat 2) = some (.i .i64 (S.length : Int)) ∧ fr.get (K.ofNat 4) = some (.fn (K.ofNat 110) [.p idb 0])) (fun _ => 0) ?_ () ⟨rfl, by simp (disch := omega) only [getK_set, Nat.reduceEqDiff, ↓reduceIte, and_self]⟩
  rintro _ fr h2 ⟨rfl, g0, g1, g2, g4⟩
  unfold f122_l0
  simp (disch := omega) only [f122_r2, f122_r3, f122_r4, bin_leq, of12, Nat.reduceEqDiff, ↓reduceIte, g0, g1, g2, g4, e0, d0, bz]
  refine (callP_0 (ef := f128) k.c128 rfl (f128_ret k hL hv (by omega) h1 h7 e nr nb hc)).mono ?_
  rintro r h3 ⟨rfl, hs, hO⟩
  simp (disch := omega) only [f122_rs, Option.some.injEq, exists_eq_left', bz]
  exact ⟨hs, hO⟩
theorem f109_ret (k : CallsSo fs) (hL : L.length = 49) (hv : Sl iE h v S) (hS : S.length ≤ 12) (h1 : 1 ≤ S.length) (h7 : All7 S) (e : SoE L idr idb h) (nr : NotIn idr v) (nb : NotIn idb v) (hc : HC h) : Ret fs f109 [v, .fn (.ofNat 110) [.p idb 0]] h fun r h' => r = .tup [] ∧ Sl iE h' v (srtR (ltR L) S) ∧ OnlyO v h h' := by
  apply ret_of rfl
  show W fs none f109_c _ _ _
  unfold f109_c
  have hl := hv.len
  have fu : fw .u64 (S.length : Int) = (S.length : Int) := by
    show (bif Nat.ble S.length (kmax .u64) then Int.ofNat S.length else _) = _
    rw [Nat.ble_eq_true_of_le (show S.length ≤ kmax .u64 from by show S.length ≤ 18446744073709551615; omega)]; rfl
  simp (disch := omega) only [f109_r0, f109_r1, x_conv, onI_i, Nat.reduceEqDiff, ↓reduceIte, hl, fu, bz]
  refine (callP_0 (ef := f107) k.c107 rfl (f107_ret k hS)).mono ?_
  rintro r h2 ⟨⟨b, rfl⟩, rfl⟩
  simp (disch := omega) only [Nat.reduceEqDiff, ↓reduceIte, bz]
  refine (callP_0 (ef := f122) k.c122 rfl (f122_ret k hL hv hS h1 h7 e nr nb hc)).mono ?_
  rintro r h3 ⟨rfl, hs, hO⟩
  simp (disch := omega) only [f109_rs, retK_n, Option.some.injEq, exists_eq_left', bz]
  exact ⟨hs, hO⟩
theorem f104_ret {b : Nat} (k : CallsSo fs) (hL : L.length = 49) (hv : Sl iE h v S) (ho : Own b v) (hb : b ≤ h.nx.nat) (hS : S.length ≤ 12) (h1 : 1 ≤ S.length) (h7 : All7 S) (er : h.get idr = rC L) (nr : NotIn idr v) (hc : HC h) : Ret fs f104 [v, .fn (.ofNat 105) [.p idr 0]] h fun r h' => r = .tup [] ∧ Sl iE h' v (srtR (ltR L) S) ∧ Grow b h h' := by
  apply ret_of rfl
  show W fs none f104_c _ _ _
  unfold f104_c
  have cf : cellsN 1 (.fn (K.ofNat 105) [.p idr 0]) = some [.fn (K.ofNat 105) [.p idr 0]] := rfl
  have n1 := nx_new h (.cells 1 [.fn (K.ofNat 105) [.p idr 0]])
  have gr1 : Grow h.nx.nat h (h.new (.cells 1 [.fn (K.ofNat 105) [.p idr 0]])) := Grow.new (Nat.le_refl _) _
  have e1 : (h.new (.cells 1 [.fn (K.ofNat 105) [.p idr 0]])).get h.nx = .cells 1 [.fn (K.ofNat 105) [.p idr 0]] := get_new_same
  simp (disch := omega) only [f104_r0, f104_r1, x_mkfn, Nat.reduceEqDiff, ↓reduceIte, cf, bz]
  generalize h.new (.cells 1 [.fn (K.ofNat 105) [.p idr 0]]) = h2 at *
  have hc2 := gr1.hc hc
  have hlt := hv.lt hc
  have hv2 := hv.grow hc gr1
  refine (callP_0 (ef := f109) k.c109 rfl (f109_ret k hL hv2 hS h1 h7 ⟨(gr1.old _ (hc.cells er)).trans er, e1⟩ nr (fun off n sz e => by have := hlt _ _ _ _ e; omega) hc2)).mono ?_
  rintro r h3 ⟨rfl, hs, hO⟩
  simp (disch := omega) only [f104_rs, retK_n, Option.some.injEq, exists_eq_left', bz]
  exact ⟨hs, (gr1.low hb).trans (hO.grow ho (hv2.lt hc2))⟩
def lnL (L : List Bool) (n : Nat) : List Int := srtR (ltR L) ((List.range n).map fun a : Nat => (a : Int))
theorem all7_range {n : Nat} (hn : n ≤ 7) : All7 ((List.range n).map fun a : Nat => (a : Int)) := fun x hx => by
  obtain ⟨a, ha, rfl⟩ := List.mem_map.1 hx
  exact ⟨a, by have := List.mem_range.1 ha; omega, rfl⟩
theorem range_set {n i : Nat} (hi : i < n) : (((List.range i).map fun a : Nat => (a : Int)) ++ List.replicate (n - i) 0).set i (i : Int) = ((List.range (i + 1)).map fun a : Nat => (a : Int)) ++ List.replicate (n - (i + 1)) 0 := by
  apply List.ext_getElem
  · simp; omega
  · intro a h1 h2
    simp only [List.length_set, List.length_append, List.length_map, List.length_range, List.length_replicate] at h1
    rw [List.getElem_set]
    by_cases e : i = a
    · subst e
      rw [if_pos rfl, List.getElem_append_left (by simp)]; simp
    · rw [if_neg e]
      by_cases h : a < i
      · rw [List.getElem_append_left (by simpa using h), List.getElem_append_left (by simp; omega)]; simp
      · rw [List.getElem_append_right (by simp; omega), List.getElem_append_right (by simp; omega)]; simp
def f93_I (h0 : H) (idr : K) (w : V) (L : List Bool) (n : Nat) (i : Nat) (fr : Fr) (h1 : H) : Prop := i ≤ n ∧ Grow h0.nx.nat h0 h1 ∧ HC h1 ∧ h1.get idr = rC L ∧ Sl iE h1 w (((List.range i).map fun a : Nat => (a : Int)) ++ List.replicate (n - i) 0) ∧ fr.get (K.ofNat 3) = some (.p idr 0) ∧ fr.get (K.ofNat 5) = some (w) ∧ fr.get (K.ofNat 9) = some (.i .i64 (n : Int)) ∧ fr.get (K.ofNat 10) = some (.i .i64 (i : Int))
theorem f93_ret {n : Nat} (k : CallsSo fs) (hL : L.length = 49) (hn1 : 1 ≤ n) (hn : n ≤ 7) (hc : HC h) : Ret fs f93 [.i .i64 (n : Int), rV L] h fun r h' => Sl iE h' r (lnL L n) ∧ Own h.nx.nat r ∧ Grow h.nx.nat h h' := by
  apply ret_of rfl
  show W fs none f93_c _ _ _
  unfold f93_c
  have c1 := rC_cells hL
  have n1 := nx_new h (.cells 49 (L.map V.b))
  have gr1 : Grow h.nx.nat h (h.new (.cells 49 (L.map V.b))) := Grow.new (Nat.le_refl _) _
  have e1 : (h.new (.cells 49 (L.map V.b))).get h.nx = rC L := get_new_same
  simp (disch := omega) only [f93_r0, ↓reduceIte, c1, bz]
  generalize h.new (.cells 49 (L.map V.b)) = h1 at *
  have hc1 := gr1.hc hc
  have hmk := mks_ints (h := h1) (k := .i64) (n := n) (by omega)
  have hs0 := mks_sl (h := h1) (n := n)
  have gr2 : Grow h1.nx.nat h1 (h1.new (.cells (n * 1) (rep [.i .i64 0] n))) := Grow.new (Nat.le_refl _) _
  have n2 := nx_new h1 (.cells (n * 1) (rep [.i .i64 0] n))
  simp (disch := omega) only [f93_r1, f93_r2, x_mks, Nat.reduceEqDiff, ↓reduceIte, hmk, bz]
  generalize h1.new (.cells (n * 1) (rep [.i .i64 0] n)) = h2 at *
  have hc2 := gr2.hc hc1
  have gA : Grow h.nx.nat h h2 := gr1.trans (gr2.low (by omega))
  have er := (gr2.old h.nx (by omega)).trans e1
  have ow : Own h1.nx.nat (.sl h1.nx 0 n 1) := fun id off n sz e => by cases e; exact Nat.le_refl _
  have nrw : NotIn h.nx (.sl h1.nx 0 n 1) := ow.notIn (by omega)
  refine W_loop (f93_I h h.nx (.sl h1.nx 0 n 1) L n) (fun i => n - i) ?_ 0 ⟨by omega, gA, hc2, er, by simpa using hs0, by simp (disch := omega) only [getK_set, Nat.reduceEqDiff, ↓reduceIte, and_self, Int.natCast_zero]⟩
  rintro i fr h3 ⟨hi, hG, hc3, er3, hs, g3, g5, g9, g10⟩
  unfold f93_l0
  by_cases hlt : i < n
  · have d0 : decide ((i : Int) < (n : Int)) = true := decide_eq_true (by omega)
    obtain ⟨p, id, m, cs', z1, z2, z3, ⟨off, nn, sz, z4⟩, z5⟩ := hs.st (i := i) (by simp; omega) (x := (i : Int)) (c := .i .i64 (i : Int)) rfl rfl hc3
    rw [range_set hlt] at z3
    have hid : id = h1.nx := by cases z4; rfl
    subst hid
    have hlt3 := hs.lt hc3 _ _ _ _ rfl
    have gp : Grow h.nx.nat h3 (h3.put h1.nx (.cells m cs')) := Grow.put (by omega) hlt3 _
    simp (disch := omega) only [f93_r3, f93_r4, f93_r5, f93_r6, Nat.reduceEqDiff, ↓reduceIte, g5, g9, g10, d0, z1, z2, bz]
    exact ⟨i + 1, by omega, by omega, hG.trans gp, gp.hc hc3, (get_put_other (kNe (by omega))).trans er3, z3, by simp (disch := omega) only [getK_set, Nat.reduceEqDiff, ↓reduceIte, g3, g5, g9, and_self, Int.natCast_add, Int.natCast_one]⟩
  · have d0 : decide ((i : Int) < (n : Int)) = false := decide_eq_false (by omega)
    have ei : i = n := by omega
    subst ei
    rw [Nat.sub_self, List.replicate_zero, List.append_nil] at hs
    have hlen : ((List.range i).map fun a : Nat => (a : Int)).length = i := by simp
    simp (disch := omega) only [f93_r3, f93_r7, x_mkfn, Nat.reduceEqDiff, ↓reduceIte, Bool.false_eq_true, g3, g5, g9, g10, d0, bz]
    refine (callP_0 (ef := f104) k.c104 rfl (f104_ret (b := h1.nx.nat) k hL hs ow (by have := hG.nx; have := hs.lt hc3 _ _ _ _ rfl; omega) (by omega) (by omega) (all7_range hn) er3 nrw hc3)).mono ?_
    rintro r h4 ⟨rfl, hs4, g4⟩
    simp (disch := omega) only [f93_r8, f93_rs, Option.some.injEq, exists_eq_left', Nat.reduceEqDiff, ↓reduceIte, g5, bz]
    exact ⟨hs4, ow.low (by omega), hG.trans (g4.low (by omega))⟩
end
end Go.Ev
namespace Go.Ev
open Go Go.RowKit
noncomputable def f66_r0 : List EOper := [oG 4 (.box 49 (tG 1)), oG 5 (.box 49 (tG 2)), oG 6 (.alloc 2 [.sn, .sn])]
noncomputable def f66_r1 : List Stage := [⟨[oG 7 (.mv (tG 0)), oG 8 (.ldn 49 (tG 4)), oG 9 (.ldn 49 (tG 5)), oG 10 (.bslice 2 49 (List.replicate 98 (.b false)) [(0, 49, (tG 8)), (49, 49, (tG 9))]), oG 13 (.mv (tG 0)), oG 14 (.ldn 49 (tG 4)), oG 15 (.ldn 49 (tG 5))], [], (some (oG 11 (.call (fG 69) [(tG 10)]))), [(.ofNat 10)]⟩, ⟨[], [oG 7 (.mv (tG 0)), oG 13 (.mv (tG 0)), oG 14 (.ldn 49 (tG 4)), oG 15 (.ldn 49 (tG 5))], (some (oG 12 (.call (fG 93) [(tG 7), (tG 11)]))), []⟩, ⟨[], [oG 13 (.mv (tG 0)), oG 14 (.ldn 49 (tG 4)), oG 15 (.ldn 49 (tG 5))], (some (oG 16 (.call (fG 70) [(tG 15)]))), []⟩, ⟨[oG 17 (.bslice 2 49 (List.replicate 98 (.b false)) [(0, 49, (tG 14)), (49, 49, (tG 16))])], [oG 13 (.mv (tG 0)), oG 14 (.ldn 49 (tG 4))], (some (oG 18 (.call (fG 69) [(tG 17)]))), [(.ofNat 17)]⟩, ⟨[], [oG 13 (.mv (tG 0))], (some (oG 19 (.call (fG 93) [(tG 13), (tG 18)]))), []⟩, ⟨[oG 20 (.build [.sn, .sn] [(0, 1, (tG 12)), (1, 1, (tG 19))])], [], (some ⟨none, none, .st 2 (tG 6) (tG 20)⟩), []⟩, ⟨[], [], none, []⟩]
noncomputable def f66_c : EC := (.seq (.reg f66_r0) (.seq (.draw f66_r1) .ret))
noncomputable def f66 : EF := ⟨21, [.celln (.ofNat 6) 2], f66_c, none⟩
theorem f66_rs : f66.rs = [.celln (.ofNat 6) 2] := of_eq_true (eq_self _)
noncomputable def f33_r0 : List EOper := [oG 4 (.alloc 2 [.sn, .sn]), oG 5 (.as (.c (.b false))), oG 6 (.as (cG 0))]
noncomputable def f33_r1 : List EOper := [oG 13 (.mv (tG 0)), oG 14 (.mv (tG 1)), oG 15 (.call (fG 47) [(tG 13), (tG 14)]), oG 7 (.as (tG 15))]
noncomputable def f33_r2 : List EOper := [oG 16 (.mv (tG 7)), oG 17 (.bin .neq (tG 16) (cG 0))]
noncomputable def f33_r3 : List EOper := [oG 18 (.build [.sn, .sn] []), oG 19 (.mv (tG 7)), ⟨none, none, .st 2 (tG 4) (tG 18)⟩, oG 5 (.as (.c (.b false))), oG 6 (.as (tG 19))]
noncomputable def f33_r4 : List EOper := [oG 20 (.mv (tG 1)), oG 21 (.call (fG 48) [(tG 20)]), oG 8 (.alloc 49 (List.replicate 49 (.b false))), ⟨none, none, .st 49 (tG 8) (tG 21)⟩]
noncomputable def f33_r5 : List EOper := [oG 23 (.ldn 49 (tG 8)), oG 24 (.call (fG 60) [(tG 23)]), oG 22 (.mv (tG 24)), oG 25 (.ext (tG 22) 0), oG 26 (.ext (tG 22) 1), oG 9 (.alloc 49 (List.replicate 49 (.b false))), ⟨none, none, .st 49 (tG 9) (tG 25)⟩, oG 10 (.as (tG 26))]
noncomputable def f33_r6 : List EOper := [oG 28 (.ldn 49 (tG 8)), oG 29 (.mv (tG 0)), oG 30 (.call (fG 49) [(tG 28), (tG 29)]), oG 31 (.call (fG 60) [(tG 30)]), oG 27 (.mv (tG 31)), oG 32 (.ext (tG 27) 0), oG 33 (.ext (tG 27) 1), oG 11 (.alloc 49 (List.replicate 49 (.b false))), ⟨none, none, .st 49 (tG 11) (tG 32)⟩, oG 12 (.as (tG 33))]
noncomputable def f33_r7 : List EOper := [oG 34 (.mv (tG 10)), oG 35 (.not (tG 34)), oG 36 (.mv (tG 35)), gG 37 36 false (.mv (tG 12)), gG 38 36 false (.not (tG 37)), oG 39 (.pick (tG 36) (.c (.b true)) (tG 38))]
noncomputable def f33_r8 : List EOper := [oG 40 (.build [.sn, .sn] []), ⟨none, none, .st 2 (tG 4) (tG 40)⟩, oG 5 (.as (.c (.b false))), oG 6 (.as (cG 0))]
noncomputable def f33_r9 : List EOper := [oG 41 (.mv (tG 0)), oG 42 (.ldn 49 (tG 11)), oG 43 (.ldn 49 (tG 9)), oG 44 (.call (fG 66) [(tG 41), (tG 42), (tG 43)]), ⟨none, none, .st 2 (tG 4) (tG 44)⟩, oG 5 (.as (.c (.b true))), oG 6 (.as (cG 0))]
noncomputable def f33_c : EC := (.seq (.reg f33_r0) (.seq (.seq (.reg f33_r1) (.seq (.reg f33_r2) (.cond (tG 17) (.seq (.reg f33_r3) .ret) .skip))) (.seq (.reg f33_r4) (.seq (.reg f33_r5) (.seq (.reg f33_r6) (.seq (.seq (.reg f33_r7) (.cond (tG 39) (.seq (.reg f33_r8) .ret) .skip)) (.seq (.reg f33_r9) .ret)))))))
noncomputable def f33 : EF := ⟨45, [.celln (.ofNat 4) 2, .tmp (.ofNat 5), .tmp (.ofNat 6)], f33_c, none⟩
theorem f33_rs : f33.rs = [.celln (.ofNat 4) 2, .tmp (.ofNat 5), .tmp (.ofNat 6)] := of_eq_true (eq_self _)
structure CallsTw (fs : T EF) : Prop extends Nat4 fs, CallsSo fs where
  c93 : fs.get (K.ofNat 93) = some f93
section
variable {fs : T EF} {h : H}
theorem f66_ret {n : Nat} {A B : List Bool} (k : CallsTw fs) (hA : A.length = 49) (hB : B.length = 49) (hn1 : 1 ≤ n) (hn : n ≤ 7) (hc : HC h) : Ret fs f66 [.i .i64 (n : Int), rV A, rV B] h fun r h' => ∃ u w, r = .agg [u, w] ∧ Sl iE h' u (lnL (jnR [A, B]) n) ∧ Sl iE h' w (lnL (jnR [A, turnR B]) n) ∧ Own h.nx.nat u ∧ Own h.nx.nat w ∧ Grow h.nx.nat h h' := by
  apply ret_of rfl
  show W fs none f66_c _ _ _
  unfold f66_c
  have cA := rC_cells hA
  have cB := rC_cells hB
  have hT : (turnR B).length = 49 := rl_len
  have cT := rC_cells hT
  have n1 := nx_new h (.cells 49 (A.map V.b))
  have g1 : Grow h.nx.nat h (h.new (.cells 49 (A.map V.b))) := Grow.new (Nat.le_refl _) _
  have e1 : (h.new (.cells 49 (A.map V.b))).get h.nx = rC A := get_new_same
  have n2 := nx_new (h.new (.cells 49 (A.map V.b))) (.cells 49 (B.map V.b))
  have n3 := nx_new ((h.new (.cells 49 (A.map V.b))).new (.cells 49 (B.map V.b))) (.cells 2 [.sn, .sn])
  simp (disch := omega) only [f66_r0, Nat.reduceEqDiff, ↓reduceIte, cA, cB, bz]
  generalize h.new (.cells 49 (A.map V.b)) = h1 at *
  have g2 : Grow h1.nx.nat h1 (h1.new (.cells 49 (B.map V.b))) := Grow.new (Nat.le_refl _) _
  have e2 : (h1.new (.cells 49 (B.map V.b))).get h1.nx = rC B := get_new_same
  generalize h1.new (.cells 49 (B.map V.b)) = h2 at *
  have g3 : Grow h2.nx.nat h2 (h2.new (.cells 2 [.sn, .sn])) := Grow.new (Nat.le_refl _) _
  have e3 : (h2.new (.cells 2 [.sn, .sn])).get h2.nx = .cells 2 [.sn, .sn] := get_new_same
  generalize h2.new (.cells 2 [.sn, .sn]) = h3 at *
  have gA : Grow h.nx.nat h h3 := g1.trans ((g2.low (by omega)).trans (g3.low (by omega)))
  have hc3 := gA.hc hc
  have a1 := (g3.old h.nx (by omega)).trans ((g2.old h.nx (by omega)).trans e1)
  have a2 := (g3.old h1.nx (by omega)).trans e2
  have la : ∀ {hh : H}, Grow h3.nx.nat h3 hh → loadV hh (.p h.nx 0) (many? 49) = .ok (rV A) hh := fun {hh} g => rC_ldn hA ((g.old h.nx (by omega)).trans a1)
  have lb : ∀ {hh : H}, Grow h3.nx.nat h3 hh → loadV hh (.p h1.nx 0) (many? 49) = .ok (rV B) hh := fun {hh} g => rC_ldn hB ((g.old h1.nx (by omega)).trans a2)
  have z3 := Grow.refl h3.nx.nat h3
  have dd := hc3.dead
  have k70 := k.n70 B
  have gL : Grow h3.nx.nat h3 (h3.new (.cells (2 * 49) (A.map V.b ++ B.map V.b))) := Grow.new (Nat.le_refl _) _
  simp (disch := omega) only [f66_r1, Option.some.injEq, exists_eq_left', Nat.reduceEqDiff, ↓reduceIte, la z3, lb z3, la gL, lb gL, fill_c, cA, cB, set98a hA, set98b hA hB, dd, bz]
  refine ⟨fresh_one (n := 2) (sz := 49) (by simp (disch := omega) only [getK_set, Nat.reduceEqDiff, ↓reduceIte]), ?_⟩
  have hr8 := Rs.two (h := h3) (L := A) hA hB
  have n4 := nx_new h3 (.cells (2 * 49) (A.map V.b ++ B.map V.b))
  have hc4 := gL.hc hc3
  generalize h3.new (.cells (2 * 49) (A.map V.b ++ B.map V.b)) = h4 at *
  have hall : ∀ z ∈ [A, B], z.length = 49 := fun z hz => by
    simp only [List.mem_cons, List.not_mem_nil, or_false] at hz
    rcases hz with rfl | rfl
    · exact hA
    · exact hB
  refine (callP_0 (ef := f69) k.c69 rfl (f69_ret k.c84 k.c101 hr8 hall (by simp) hc4)).mono ?_
  rintro r h5 ⟨rfl, g5⟩
  have hc5 := g5.hc hc4
  have gB := gL.trans (g5.low gL.nx)
  have hJ : (jnR [A, B]).length = 49 := rl_len
  simp (disch := omega) only [Nat.reduceEqDiff, ↓reduceIte, la gB, lb gB, beq_rV, bz]
  refine (callP_0 (ef := f93) k.c93 rfl (f93_ret k.toCallsSo hJ hn1 hn hc5)).mono ?_
  rintro u h6 ⟨su, ou, g6⟩
  have hc6 := g6.hc hc5
  have gC := gB.trans (g6.low gB.nx)
  have gCn := gC.nx
  simp (disch := omega) only [Option.some.injEq, exists_eq_left', Nat.reduceEqDiff, ↓reduceIte, la gC, lb gC, beq_rV, k70 _ _ hB, fill_c, cA, cT, set98a hA, set98b hA hT, hc6.dead, bz]
  refine ⟨fresh_one (n := 2) (sz := 49) (by simp (disch := omega) only [getK_set, ↓reduceIte]), ?_⟩
  have gL2 : Grow h6.nx.nat h6 (h6.new (.cells (2 * 49) (A.map V.b ++ (turnR B).map V.b))) := Grow.new (Nat.le_refl _) _
  have hr9 := Rs.two (h := h6) (L := A) hA hT
  have n7 := nx_new h6 (.cells (2 * 49) (A.map V.b ++ (turnR B).map V.b))
  have hc7 := gL2.hc hc6
  have gD := gC.trans (gL2.low gC.nx)
  simp (disch := omega) only [true_and, again_ok, la gD, beq_rV]
  generalize h6.new (.cells (2 * 49) (A.map V.b ++ (turnR B).map V.b)) = h7 at *
  have hall2 : ∀ z ∈ [A, turnR B], z.length = 49 := fun z hz => by
    simp only [List.mem_cons, List.not_mem_nil, or_false] at hz
    rcases hz with rfl | rfl
    · exact hA
    · exact hT
  refine (callP_0 (ef := f69) k.c69 rfl (f69_ret k.c84 k.c101 hr9 hall2 (by simp) hc7)).mono ?_
  rintro r h8 ⟨rfl, g8⟩
  have hc8 := g8.hc hc7
  have gE := gD.trans (g8.low gD.nx)
  have hJ2 : (jnR [A, turnR B]).length = 49 := rl_len
  simp (disch := omega) only [Nat.reduceEqDiff, ↓reduceIte, bz]
  refine (callP_0 (ef := f93) k.c93 rfl (f93_ret k.toCallsSo hJ2 hn1 hn hc8)).mono ?_
  rintro w h9 ⟨sw, ow, g9⟩
  have hc9 := g9.hc hc8
  have gF := gE.trans (g9.low gE.nx)
  have su9 := su.grow hc6 (gL2.trans ((g8.low gL2.nx).trans (g9.low (by have := gL2.nx; have := g8.nx; omega))))
  have e9 := (gF.old h2.nx (by omega)).trans e3
  have s9 : storeV h9 2 (.p h2.nx 0) (.agg [u, w]) = .ok undefV (h9.put h2.nx (.cells 2 [u, w])) := store_p e9 (show cellsN 2 (.agg [u, w]) = some [u, w] from rfl) (by omega)
  have rd : readP (h9.put h2.nx (.cells 2 [u, w])) (.p h2.nx 0) (many? 2) = some (.agg [u, w]) := rd2 get_put_same
  have g5n := g5.nx
  have gEn := gE.nx
  have o1 : Own h3.nx.nat u := ou.low (by have := gL.nx; omega)
  have o2 : Own h3.nx.nat w := ow.low (by omega)
  have gp : Grow h.nx.nat h9 (h9.put h2.nx (.cells 2 [u, w])) := Grow.put (by omega) (hc9.cells e9) _
  simp (disch := omega) only [f66_rs, Option.some.injEq, exists_eq_left', Nat.reduceEqDiff, ↓reduceIte, su9.one, sw.one, s9, rd, bz]
  exact ⟨u, w, rfl, su9.put (o1.notIn (by omega)) _, sw.put (o2.notIn (by omega)) _, o1.low gA.nx, o2.low gA.nx, (gA.trans (gF.low gA.nx)).trans gp⟩
/-! ### Draw -/
theorem gR_oth {n : Nat} {g : Nat → Nat → Bool} (hg : Gph n g) : otR n (gR (arI g)) = gR (arI (oth n g)) := by
  have h7 := hg.n7
  refine rel_ext otR_len gR_len fun a b ha hb => ?_
  have hgr : rat (gR (arI g)) a b = true ↔ g a b = true ∨ g b a = true := by rw [gR_arI hg]; unfold sy; rw [Bool.or_eq_true]
  rw [Bool.eq_iff_iff, gR_arI (oth_gph hg)]
  unfold otR sy oth
  rw [woR_iff, rat_rl, hgr]
  simp only [Bool.and_eq_true, Bool.or_eq_true, decide_eq_true_eq, Bool.not_eq_true']
  have u1 := fun h => hg.up a b h
  have u2 := fun h => hg.up b a h
  constructor
  · rintro ⟨⟨_, ⟨h1, h2⟩, h3⟩, h4⟩
    rcases Nat.lt_or_gt_of_ne h3 with h | h
    · exact .inl ⟨⟨h, h2⟩, by cases e : g a b with | false => rfl | true => exact absurd (.inl e) h4⟩
    · exact .inr ⟨⟨h, h1⟩, by cases e : g b a with | false => rfl | true => exact absurd (.inr e) h4⟩
  · rintro (⟨⟨h1, h2⟩, h3⟩ | ⟨⟨h1, h2⟩, h3⟩)
    · refine ⟨⟨⟨ha, hb⟩, ⟨by omega, h2⟩, by omega⟩, fun h => ?_⟩
      rcases h with h | h
      · rw [h] at h3; cases h3
      · have := u2 h; omega
    · refine ⟨⟨⟨ha, hb⟩, ⟨h2, by omega⟩, by omega⟩, fun h => ?_⟩
      rcases h with h | h
      · have := u1 h; omega
      · rw [h] at h3; cases h3
structure CallsDw (fs : T EF) : Prop extends CallsOr fs, CallsTw fs where
  c66 : fs.get (K.ofNat 66) = some f66
structure DrI (n : Nat) (g : Nat → Nat → Bool) (h0 : Nat) (r : V) (h' : H) : Prop where
  out : ∃ b F b' F', orV (gR (arI g)) = .tup [rV F, .b b] ∧ orV (gR (arI (oth n g))) = .tup [rV F', .b b'] ∧ OrI g b F ∧ OrI (oth n g) b' F' ∧
    (((b && b') = true ∧ ∃ u w, r = .tup [.agg [u, w], .b true, .i .i64 0] ∧ Sl iE h' u (lnL (jnR [F', F]) n) ∧ Sl iE h' w (lnL (jnR [F', turnR F]) n) ∧ Own h0 u ∧ Own h0 w) ∨
     ((b && b') = false ∧ r = .tup [.agg [.sn, .sn], .b false, .i .i64 0]))
theorem f33_ret {n : Nat} {v : V} {g : Nat → Nat → Bool} (k : CallsDw fs) (hg : Gph n g) (hv : Srp h v (arI g)) (hc : HC h) : Ret fs f33 [.i .i64 (n : Int), v] h fun r h' => DrI n g h.nx.nat r h' ∧ Grow h.nx.nat h h' := by
  have hlb := arI_len (g := g)
  apply ret_of rfl
  show W fs none f33_c _ _ _
  unfold f33_c
  have n1 := nx_new h (.cells 2 [.sn, .sn])
  have g1 : Grow h.nx.nat h (h.new (.cells 2 [.sn, .sn])) := Grow.new (Nat.le_refl _) _
  have e1 : (h.new (.cells 2 [.sn, .sn])).get h.nx = .cells 2 [.sn, .sn] := get_new_same
  simp (disch := omega) only [f33_r0, f33_r1, Nat.reduceEqDiff, ↓reduceIte, bz]
  generalize h.new (.cells 2 [.sn, .sn]) = h1 at *
  have hc1 := g1.hc hc
  have hv1 := hv.grow hc g1
  refine (callP_0 (ef := f47) k.c47 rfl (f47_ret k.toCallsCk hv1 (by omega) hc1)).mono ?_
  rintro r h2 ⟨rfl, g2⟩
  rw [chkG_g hg]
  have ne0 : decide ((0 : Int) ≠ 0) = false := rfl
  simp (disch := omega) only [f33_r2, f33_r4, Nat.reduceEqDiff, ↓reduceIte, Bool.false_eq_true, ne0, bz]
  have hc2 := g2.hc hc1
  have hv2 := hv1.grow hc1 g2
  refine (callP_0 (ef := f48) k.c48 rfl (f48_ret k.toNat2 hv2 nd_arI (by omega) hc2)).mono ?_
  rintro r h3 ⟨rfl, g3⟩
  have hc3 := g3.hc hc2
  have gA : Grow h.nx.nat h h3 := g1.trans ((g2.low (by omega)).trans (g3.low (by have := g2.nx; omega)))
  have a1 : ∀ {hh : H}, Grow h1.nx.nat h1 hh → hh.get h.nx = .cells 2 [.sn, .sn] := fun {hh} g => (g.old h.nx (by omega)).trans e1
  have g13 : Grow h1.nx.nat h1 h3 := g2.trans (g3.low g2.nx)
  obtain ⟨b, F, hO, hF⟩ := orI_of hg
  obtain ⟨b', F', hO', hF'⟩ := orI_of (oth_gph hg)
  have hGl : (gR (arI g)).length = 49 := gR_len
  have hz : (rl fun _ _ => false).length = 49 := rl_len
  -- three cells
  have s3 := rC_stn hGl rl_len (M := rl fun _ _ => false) (h := h3.new (.cells 49 (List.replicate 49 (.b false)))) (id := h3.nx) (by rw [rl_false]; exact get_new_same)
  have n3 := nx_new h3 (.cells 49 (List.replicate 49 (.b false)))
  have g4 : Grow h3.nx.nat h3 ((h3.new (.cells 49 (List.replicate 49 (.b false)))).put h3.nx (rC (gR (arI g)))) := (Grow.new (Nat.le_refl _) _).trans (Grow.put (Nat.le_refl _) (by omega) _)
  have e4 : ((h3.new (.cells 49 (List.replicate 49 (.b false)))).put h3.nx (rC (gR (arI g)))).get h3.nx = rC (gR (arI g)) := get_put_same
  have l4 := rC_ldn hGl e4
  have n4 : ((h3.new (.cells 49 (List.replicate 49 (.b false)))).put h3.nx (rC (gR (arI g)))).nx.nat = h3.nx.nat + 1 := n3
  have k49 := k.n49 (gR (arI g)) n
  rw [gR_oth hg] at k49
  simp (disch := omega) only [f33_r5, Nat.reduceEqDiff, ↓reduceIte, s3, l4, k.n60 _ _ _ (symR_g hg), hO, bz]
  generalize (h3.new (.cells 49 (List.replicate 49 (.b false)))).put h3.nx (rC (gR (arI g))) = h4 at *
  have s5 := rC_stn hF.len rl_len (M := rl fun _ _ => false) (h := h4.new (.cells 49 (List.replicate 49 (.b false)))) (id := h4.nx) (by rw [rl_false]; exact get_new_same)
  have n5 := nx_new h4 (.cells 49 (List.replicate 49 (.b false)))
  have g5 : Grow h4.nx.nat h4 ((h4.new (.cells 49 (List.replicate 49 (.b false)))).put h4.nx (rC F)) := (Grow.new (Nat.le_refl _) _).trans (Grow.put (Nat.le_refl _) (by omega) _)
  have e5 : ((h4.new (.cells 49 (List.replicate 49 (.b false)))).put h4.nx (rC F)).get h4.nx = rC F := get_put_same
  have l5 := rC_ldn hGl ((g5.old h3.nx (by omega)).trans e4)
  have n5' : ((h4.new (.cells 49 (List.replicate 49 (.b false)))).put h4.nx (rC F)).nx.nat = h4.nx.nat + 1 := n5
  simp (disch := omega) only [f33_r6, Nat.reduceEqDiff, ↓reduceIte, s5, l5, k49 _ _ hGl hg.n7, k.n60 _ _ _ (symR_g (oth_gph hg)), hO', bz]
  generalize (h4.new (.cells 49 (List.replicate 49 (.b false)))).put h4.nx (rC F) = h5 at *
  have s6 := rC_stn hF'.len rl_len (M := rl fun _ _ => false) (h := h5.new (.cells 49 (List.replicate 49 (.b false)))) (id := h5.nx) (by rw [rl_false]; exact get_new_same)
  have n6 := nx_new h5 (.cells 49 (List.replicate 49 (.b false)))
  have g6 : Grow h5.nx.nat h5 ((h5.new (.cells 49 (List.replicate 49 (.b false)))).put h5.nx (rC F')) := (Grow.new (Nat.le_refl _) _).trans (Grow.put (Nat.le_refl _) (by omega) _)
  have e6 : ((h5.new (.cells 49 (List.replicate 49 (.b false)))).put h5.nx (rC F')).get h5.nx = rC F' := get_put_same
  have e6' := (g6.old h4.nx (by omega)).trans e5
  have g16 : Grow h1.nx.nat h1 ((h5.new (.cells 49 (List.replicate 49 (.b false)))).put h5.nx (rC F')) := g13.trans ((g4.low g13.nx).trans ((g5.low (by have := g13.nx; omega)).trans (g6.low (by have := g13.nx; omega))))
  simp (disch := omega) only [Nat.reduceEqDiff, ↓reduceIte, s6, bz]
  generalize (h5.new (.cells 49 (List.replicate 49 (.b false)))).put h5.nx (rC F') = h6 at *
  have hc6 := g16.hc hc1
  have a6 := a1 g16
  have st : ∀ {x y : V}, storeV h6 2 (.p h.nx 0) (.agg [x, y]) = .ok undefV (h6.put h.nx (.cells 2 [x, y])) := fun {x y} => store_p a6 (show cellsN 2 (.agg [x, y]) = some [x, y] from rfl) (by omega)
  have rd : ∀ {hh : H} {x y : V}, readP (hh.put h.nx (.cells 2 [x, y])) (.p h.nx 0) (many? 2) = some (.agg [x, y]) := rd2 get_put_same
  have g16n := g16.nx
  have gO : ∀ {hh : H} {B : Blk}, Grow h1.nx.nat h1 hh → Grow h.nx.nat h (hh.put h.nx B) := fun {hh B} g => (g1.trans (g.low g1.nx)).trans (Grow.put (Nat.le_refl _) (by have := g.nx; omega) _)
  cases b with
  | false =>
    simp (disch := omega) only [f33_r7, f33_r8, f33_rs, Option.some.injEq, exists_eq_left', Nat.reduceEqDiff, ↓reduceIte, Bool.false_eq_true, Bool.not_true, Bool.not_false, st, rd, bz]
    exact ⟨⟨_, _, _, _, hO, hO', hF, hF', .inr ⟨rfl, rfl⟩⟩, gO g16⟩
  | true =>
    cases b' with
    | false =>
      simp (disch := omega) only [f33_r7, f33_r8, f33_rs, Option.some.injEq, exists_eq_left', Nat.reduceEqDiff, ↓reduceIte, Bool.false_eq_true, Bool.not_true, Bool.not_false, st, rd, bz]
      exact ⟨⟨_, _, _, _, hO, hO', hF, hF', .inr ⟨rfl, rfl⟩⟩, gO g16⟩
    | true =>
      have lF := rC_ldn hF.len e6'
      have lF' := rC_ldn hF'.len e6
      simp (disch := omega) only [f33_r7, f33_r9, Nat.reduceEqDiff, ↓reduceIte, Bool.false_eq_true, Bool.not_true, Bool.not_false, lF, lF', bz]
      refine (callP_0 (ef := f66) k.c66 rfl (f66_ret k.toCallsTw hF'.len hF.len hg.n1 hg.n7 hc6)).mono ?_
      rintro r h7 ⟨u, w, rfl, su, sw, ou, ow, g7⟩
      have g17 := g16.trans (g7.low g16.nx)
      have a7 := a1 g17
      have s7 : storeV h7 2 (.p h.nx 0) (.agg [u, w]) = .ok undefV (h7.put h.nx (.cells 2 [u, w])) := store_p a7 (show cellsN 2 (.agg [u, w]) = some [u, w] from rfl) (by omega)
      simp (disch := omega) only [f33_rs, Option.some.injEq, exists_eq_left', Nat.reduceEqDiff, ↓reduceIte, s7, rd, bz]
      exact ⟨⟨_, _, _, _, hO, hO', hF, hF', .inl ⟨rfl, u, w, rfl, su.put (ou.notIn (by omega)) _, sw.put (ow.notIn (by omega)) _, ou.low (by omega), ow.low (by omega)⟩⟩, gO g17⟩
end
end Go.Ev
namespace Go.Ev
open Go Go.RowKit
section
variable {fs : T EF} {h : H}
end
end Go.Ev
namespace Go.Ev
open Go Go.RowKit
structure Two (n : Nat) (A B : List Bool) : Prop where
  a : OrdN n A
  b : OrdN n B
  all : ∀ x y, x < n → y < n → x ≠ y → rat A x y = true ∨ rat A y x = true ∨ rat B x y = true ∨ rat B y x = true
  no : ∀ x y, rat A x y = true → ¬ rat B x y = true ∧ ¬ rat B y x = true
theorem OrdN.turn {n : Nat} {B : List Bool} (o : OrdN n B) : OrdN n (turnR B) where
  len := rl_len
  lt := fun a b h => by rw [turnR_iff] at h; exact (o.lt _ _ h).symm
  irr := fun a h => by rw [turnR_iff] at h; exact o.irr a h
  tr := fun a b c h1 h2 => by rw [turnR_iff] at *; exact o.tr _ _ _ h2 h1
theorem OrdN.one {n : Nat} {B : List Bool} (o : OrdN n B) {a b : Nat} (h : rat B a b = true) : ¬ rat B b a = true := fun h2 => o.irr a (o.tr _ _ _ h h2)
theorem Two.turn {n : Nat} {A B : List Bool} (t : Two n A B) : Two n A (turnR B) where
  a := t.a
  b := t.b.turn
  all := fun x y hx hy hxy => by
    rw [turnR_iff, turnR_iff]
    rcases t.all x y hx hy hxy with h | h | h | h
    · exact .inl h
    · exact .inr (.inl h)
    · exact .inr (.inr (.inr h))
    · exact .inr (.inr (.inl h))
  no := fun x y h => by
    rw [turnR_iff, turnR_iff]
    exact (t.no x y h).symm
theorem Two.irr {n : Nat} {A B : List Bool} (t : Two n A B) {x : Nat} : ¬ rat (jnR [A, B]) x x = true := by
  rw [show jnR [A, B] = jn2 A B from rfl, jn2_iff]
  rintro (h | h)
  · exact t.a.irr x h
  · exact t.b.irr x h
theorem Two.tr {n : Nat} {A B : List Bool} (t : Two n A B) {x y z : Nat} (h1 : rat (jnR [A, B]) x y = true) (h2 : rat (jnR [A, B]) y z = true) : rat (jnR [A, B]) x z = true := by
  rw [show jnR [A, B] = jn2 A B from rfl] at *
  rw [jn2_iff] at *
  rcases h1 with h1 | h1 <;> rcases h2 with h2 | h2
  · exact .inl (t.a.tr _ _ _ h1 h2)
  · have l1 := t.a.lt _ _ h1
    have l2 := t.b.lt _ _ h2
    have hne : x ≠ z := fun e => (t.no _ _ h1).2 (by rw [e]; exact h2)
    rcases t.all x z l1.1 l2.2 hne with h | h | h | h
    · exact .inl h
    · exact absurd h2 (t.no _ _ (t.a.tr _ _ _ h h1)).2
    · exact .inr h
    · exact absurd (t.b.tr _ _ _ h2 h) (t.no _ _ h1).2
  · have l1 := t.b.lt _ _ h1
    have l2 := t.a.lt _ _ h2
    have hne : x ≠ z := fun e => (t.no _ _ h2).2 (by rw [← e]; exact h1)
    rcases t.all x z l1.1 l2.2 hne with h | h | h | h
    · exact .inl h
    · exact absurd h1 (t.no _ _ (t.a.tr _ _ _ h2 h)).2
    · exact .inr h
    · exact absurd (t.b.tr _ _ _ h h1) (t.no _ _ h2).2
  · exact .inr (t.b.tr _ _ _ h1 h2)
def nodeP (n : Nat) (x : Int) : Prop := ∃ a : Nat, a < n ∧ x = (a : Int)
theorem Two.lto {n : Nat} {A B : List Bool} (t : Two n A B) : LtO (ltR (jnR [A, B])) (nodeP n) where
  tot := fun x y hx hy hxy => by
    obtain ⟨a, ha, rfl⟩ := hx
    obtain ⟨b, hb, rfl⟩ := hy
    unfold ltR
    rw [Int.toNat_natCast, Int.toNat_natCast, show jnR [A, B] = jn2 A B from rfl, jn2_iff, jn2_iff]
    rcases t.all a b ha hb (fun e => hxy (by rw [e])) with h | h | h | h
    · exact .inl (.inl h)
    · exact .inr (.inl h)
    · exact .inl (.inr h)
    · exact .inr (.inr h)
  tr := fun x y z hx hy hz h1 h2 => by
    obtain ⟨a, ha, rfl⟩ := hx
    obtain ⟨b, hb, rfl⟩ := hy
    obtain ⟨c, hc, rfl⟩ := hz
    unfold ltR at *
    rw [Int.toNat_natCast, Int.toNat_natCast] at *
    exact t.tr h1 h2
theorem rng_nd {n : Nat} : ((List.range n).map fun a : Nat => (a : Int)).Nodup := by
  rw [List.Nodup, List.pairwise_map]
  exact List.nodup_range.imp fun h e => h (by omega)
theorem lnL_ok {L : List Bool} {n : Nat} : lnOk n (lnL L n) := by
  have p : (lnL L n).Perm ((List.range n).map fun a : Nat => (a : Int)) := srtR_perm
  refine RowP.ok ⟨by rw [p.length_eq]; simp, p.nodup_iff.2 rng_nd, fun x hx => ?_⟩
  obtain ⟨a, ha, rfl⟩ := List.mem_map.1 (p.mem_iff.1 hx)
  exact ⟨a, List.mem_range.1 ha, rfl⟩
theorem Two.bf {n : Nat} {A B : List Bool} (t : Two n A B) {a b : Nat} (ha : a < n) (hb : b < n) : bfT (lnL (jnR [A, B]) n) (lnL (jnR [A, B]) n).length a b = true ↔ rat (jnR [A, B]) a b = true := by
  have hs : (lnL (jnR [A, B]) n).Pairwise fun x y => ltR (jnR [A, B]) x y = true := srtR_srt t.lto (fun y hy => by
    obtain ⟨c, hc, rfl⟩ := List.mem_map.1 hy
    exact ⟨c, List.mem_range.1 hc, rfl⟩) rng_nd
  have go : ∀ a b : Nat, bfT (lnL (jnR [A, B]) n) (lnL (jnR [A, B]) n).length a b = true → rat (jnR [A, B]) a b = true := fun a b h => by
    obtain ⟨j, s, h1, h2, h3, h4⟩ := bfT_iff.1 h
    have hl := get_lt h4
    have := List.pairwise_iff_getElem.1 hs s j hl h1 h2
    rw [List.getElem?_eq_getElem h1] at h3
    rw [List.getElem?_eq_getElem hl] at h4
    rw [Option.some.inj h3, Option.some.inj h4] at this
    exact this
  refine ⟨go a b, fun h => ?_⟩
  have hne : a ≠ b := fun e => t.irr (x := b) (by rw [e] at h; exact h)
  rcases bf_tot (lnL_ok (L := jnR [A, B])) ha hb hne with h1 | h1
  · exact h1
  · exact absurd (t.tr h (go _ _ h1)) t.irr
theorem two_g {n : Nat} {g : Nat → Nat → Bool} {F F' : List Bool} (hg : Gph n g) (hF : F.length = 49) (hF' : F'.length = 49) (o : Ord (Er (gR (arI g))) (Er F)) (o' : Ord (Er (gR (arI (oth n g)))) (Er F')) : Two n F' F := by
  have ho := oth_gph hg
  have h1 := ord_n ho hF' o'
  have h2 := ord_n hg hF o
  have ed : ∀ x y, Er (gR (arI (oth n g))) x y → ¬ Er (gR (arI g)) x y := fun x y h h2 => by
    have h : rat (gR (arI (oth n g))) x y = true := h
    have h2 : rat (gR (arI g)) x y = true := h2
    rw [gR_arI ho] at h
    rw [gR_arI hg] at h2
    unfold sy oth at h
    unfold sy at h2
    simp only [Bool.or_eq_true, Bool.and_eq_true, decide_eq_true_eq, Bool.not_eq_true'] at h h2
    have u1 := fun h => hg.up x y h
    have u2 := fun h => hg.up y x h
    rcases h with ⟨q1, q2⟩ | ⟨q1, q2⟩ <;> rcases h2 with h2 | h2
    · rw [h2] at q2; cases q2
    · have := u2 h2; omega
    · have := u1 h2; omega
    · rw [h2] at q2; cases q2
  refine ⟨h1, h2, fun x y hx hy hxy => ?_, fun x y h => ⟨fun h3 => ed x y (o'.sub _ _ h) (o.sub _ _ h3), fun h3 => ed x y (o'.sub _ _ h) ((symR_g hg).gr.sym _ _ (o.sub _ _ h3))⟩⟩
  by_cases he : Er (gR (arI g)) x y
  · rcases o.all _ _ he with h | h
    · exact .inr (.inr (.inl h))
    · exact .inr (.inr (.inr h))
  · have he' : Er (gR (arI (oth n g))) x y := by
      show rat (gR (arI (oth n g))) x y = true
      have he : ¬ rat (gR (arI g)) x y = true := he
      rw [gR_arI hg] at he
      rw [gR_arI ho]
      unfold sy at he
      unfold sy oth
      simp only [Bool.or_eq_true, Bool.and_eq_true, decide_eq_true_eq, Bool.not_eq_true', not_or, Bool.not_eq_true] at he ⊢
      rcases Nat.lt_or_gt_of_ne hxy with h | h
      · exact .inl ⟨⟨h, hy⟩, he.1⟩
      · exact .inr ⟨⟨h, hx⟩, he.2⟩
    rcases o'.all _ _ he' with h | h
    · exact .inl h
    · exact .inr (.inl h)
theorem dwR_g {n : Nat} {g : Nat → Nat → Bool} {F F' : List Bool} (hg : Gph n g) (hF : F.length = 49) (hF' : F'.length = 49) (o : Ord (Er (gR (arI g))) (Er F)) (o' : Ord (Er (gR (arI (oth n g)))) (Er F')) : arI (dwR n (lnL (jnR [F', F]) n) (lnL (jnR [F', turnR F]) n)) = arI g := by
  have t := two_g hg hF hF' o o'
  refine arI_congr fun a b ha hb => ?_
  unfold dwR
  by_cases hab : a < b ∧ b < n
  · rw [decide_eq_true hab, Bool.true_and, befL_bf lnL_ok (by omega) hab.2 (by omega), befL_bf lnL_ok (by omega) hab.2 (by omega)]
    have b1 := t.bf (a := a) (b := b) (by omega) hab.2
    have b2 := t.turn.bf (a := a) (b := b) (by omega) hab.2
    rw [show jnR [F', F] = jn2 F' F from rfl, jn2_iff] at b1
    rw [show jnR [F', turnR F] = jn2 F' (turnR F) from rfl, jn2_iff, turnR_iff] at b2
    have hgr : g a b = true ↔ rat F a b = true ∨ rat F b a = true := by
      constructor
      · intro h
        have he : Er (gR (arI g)) a b := by show rat (gR (arI g)) a b = true; rw [gR_arI hg]; unfold sy; rw [h]; rfl
        exact o.all _ _ he
      · intro h
        have he : Er (gR (arI g)) a b := h.elim (o.sub _ _) fun h => (symR_g hg).gr.sym _ _ (o.sub _ _ h)
        have he : rat (gR (arI g)) a b = true := he
        rw [gR_arI hg] at he
        unfold sy at he
        rw [Bool.or_eq_true] at he
        exact he.elim id fun h => by have := hg.up _ _ h; omega
    rw [Bool.eq_iff_iff, hgr]
    rw [show jn2 F' F = jnR [F', F] from rfl] at b1
    rw [show jn2 F' (turnR F) = jnR [F', turnR F] from rfl] at b2
    have n1 := t.no a b
    have n2 := t.no b a
    have n3 := fun h => t.b.one (a := a) (b := b) h
    have n4 := t.all a b (by omega) hab.2 (by omega)
    have n5 := fun h => t.a.one (a := a) (b := b) h
    cases e1 : bfT (lnL (jnR [F', F]) n) (lnL (jnR [F', F]) n).length a b with
    | true =>
      have b1 := b1.1 e1
      cases e2 : bfT (lnL (jnR [F', turnR F]) n) (lnL (jnR [F', turnR F]) n).length a b with
      | true =>
        have b2 := b2.1 e2
        simp only [bne_self_eq_false, Bool.false_eq_true, false_iff, not_or]
        rcases b1 with h | h
        · exact n1 h
        · rcases b2 with h2 | h2
          · exact n1 h2
          · exact absurd h2 (n3 h)
      | false =>
        have h2 : ¬ (rat F' a b = true ∨ rat F b a = true) := fun h => by rw [b2.2 h] at e2; cases e2
        rw [not_or] at h2
        simp only [Bool.bne_false, true_iff]
        exact .inl (b1.elim (fun h => absurd h h2.1) id)
    | false =>
      have h1 : ¬ (rat F' a b = true ∨ rat F a b = true) := fun h => by rw [b1.2 h] at e1; cases e1
      rw [not_or] at h1
      cases e2 : bfT (lnL (jnR [F', turnR F]) n) (lnL (jnR [F', turnR F]) n).length a b with
      | true =>
        have b2 := b2.1 e2
        simp only [Bool.bne_true, Bool.not_false, true_iff]
        exact .inr (b2.elim (fun h => absurd h h1.1) id)
      | false =>
        have h2 : ¬ (rat F' a b = true ∨ rat F b a = true) := fun h => by rw [b2.2 h] at e2; cases e2
        rw [not_or] at h2
        simp only [bne_self_eq_false, Bool.false_eq_true, false_iff, not_or]
        exact ⟨h1.2, h2.2⟩
  · rw [decide_eq_false hab, Bool.false_and]
    cases e : g a b with
    | false => rfl
    | true => exact absurd (hg.up _ _ e) hab
theorem dwR_dr {n : Nat} {X Y : List Int} (hn : n ≤ 7) (kX : lnOk n X) (kY : lnOk n Y) : arI (drR n X Y) = arI (dwR n X Y) := by
  refine arI_congr fun a b ha hb => ?_
  rw [Bool.eq_iff_iff, drR_iff hn kX kY ha hb]
  unfold dwR
  by_cases hab : a < b ∧ b < n
  · rw [decide_eq_true hab, Bool.true_and, befL_bf kX (by omega) hab.2 (by omega), befL_bf kY (by omega) hab.2 (by omega), agR_iff hn kX kY, agR_iff hn kX kY]
    have t1 := bf_tot kX (a := a) (b := b) (by omega) hab.2 (by omega)
    have t2 := bf_tot kY (a := a) (b := b) (by omega) hab.2 (by omega)
    have o1 := fun h => bf_one kX (a := a) (b := b) h
    have o2 := fun h => bf_one kY (a := a) (b := b) h
    cases e1 : bfT X X.length a b with
    | true =>
      have q1 := o1 e1
      cases e2 : bfT Y Y.length a b with
      | true => simp [hab.1, hab.2]
      | false => simp [hab.1, hab.2, q1]
    | false =>
      have q1 : bfT X X.length b a = true := t1.elim (fun h => by rw [e1] at h; cases h) id
      cases e2 : bfT Y Y.length a b with
      | true => have q2 := o2 e2; simp [hab.1, hab.2, q2]
      | false =>
        have q2 : bfT Y Y.length b a = true := t2.elim (fun h => by rw [e2] at h; cases h) id
        simp [hab.1, hab.2, q1, q2]
  · rw [decide_eq_false hab, Bool.false_and]
    exact ⟨fun h => absurd ⟨h.1, h.2.1⟩ hab, fun h => by cases h⟩
theorem cmN_ag {n : Nat} {X Y : List Int} (hn : n ≤ 7) (kX : lnOk n X) (kY : lnOk n Y) : arI (rat (agR X Y)) = arI (cmN n X Y) := by
  refine arI_congr fun a b ha hb => ?_
  rw [Bool.eq_iff_iff, agR_iff hn kX kY]
  unfold cmN
  by_cases hab : a < n ∧ b < n ∧ a ≠ b
  · rw [decide_eq_true hab, Bool.true_and, befL_bf kX hab.1 hab.2.1 hab.2.2, befL_bf kY hab.1 hab.2.1 hab.2.2, Bool.and_eq_true]
  · rw [decide_eq_false hab, Bool.false_and]
    exact ⟨fun h => absurd (by have := bf_lt kX h.1; exact this) hab, fun h => by cases h⟩
end Go.Ev
namespace Go.Ev
open Go Go.RowKit
section
variable {fs : T EF} {h h' : H}
theorem f94x_ret {n : Nat} {w : V} {X : List Int} (k : Nat1 fs) (hn : n ≤ 7) (hx0 : Rx h w X) (_hX : X.length ≤ 9223372036854775807) (hc : HC h) : Ret fs f94 [.i .i64 (n : Int), w] h fun r h' => Grow h.nx.nat h h' ∧ ((X.length = n ∧ OkT n X X.length ∧ r = .tup [rV (rl (bfT X X.length)), .b true]) ∨ (¬ (X.length = n ∧ OkT n X X.length) ∧ r = .tup [rV (rl fun _ _ => false), .b false])) := by
  apply ret_of rfl
  show W fs none f94_c _ _ _
  unfold f94_c
  have n1 := nx_new h (.cells 49 (List.replicate 49 (.b false)))
  have g1_ : Grow h.nx.nat h (h.new (.cells 49 (List.replicate 49 (.b false)))) := Grow.new (Nat.le_refl _) _
  have e1 : (h.new (.cells 49 (List.replicate 49 (.b false)))).get h.nx = rC (rl fun _ _ => false) := by rw [rl_false]; exact get_new_same
  simp (disch := omega) only [f94_r0, bz]
  generalize h.new (.cells 49 (List.replicate 49 (.b false))) = h1 at *
  have n2 := nx_new h1 (.cells 49 (List.replicate 49 (.b false)))
  have g2_ : Grow h1.nx.nat h1 (h1.new (.cells 49 (List.replicate 49 (.b false)))) := Grow.new (Nat.le_refl _) _
  have e2 : (h1.new (.cells 49 (List.replicate 49 (.b false)))).get h1.nx = rC (rl fun _ _ => false) := by rw [rl_false]; exact get_new_same
  simp (disch := omega) only [f94_r1, bz]
  generalize h1.new (.cells 49 (List.replicate 49 (.b false))) = h2 at *
  have n3 := nx_new h2 (.cells 7 [.b false, .b false, .b false, .b false, .b false, .b false, .b false])
  have g3_ : Grow h2.nx.nat h2 (h2.new (.cells 7 [.b false, .b false, .b false, .b false, .b false, .b false, .b false])) := Grow.new (Nat.le_refl _) _
  have e3 : Ar V.b (h2.new (.cells 7 [.b false, .b false, .b false, .b false, .b false, .b false, .b false])) h2.nx (seT X 0) := get_new_same
  obtain ⟨w0, hw, hlen, eia, ecut, _⟩ := hx0
  have gA : Grow h.nx.nat h (h2.new (.cells 7 [.b false, .b false, .b false, .b false, .b false, .b false, .b false])) := g1_.trans ((g2_.low (by omega)).trans (g3_.low (by omega)))
  have a4 := (g3_.old h.nx (by omega)).trans ((g2_.old h.nx (by omega)).trans e1)
  have a6 := (g3_.old h1.nx (by omega)).trans e2
  simp (disch := omega) only [f94_r2, bz]
  generalize h2.new (.cells 7 [.b false, .b false, .b false, .b false, .b false, .b false, .b false]) = h3 at *
  have hc3 := gA.hc hc
  have hF : (rl fun _ _ => false).length = 49 := rl_len
  -- the way out without an answer
  have zb : ∀ {hh : H}, hh.get h.nx = rC (rl fun _ _ => false) → storeV hh 49 (.p h.nx 0) (rV (rl fun _ _ => false)) = .ok undefV (hh.put h.nx (rC (rl fun _ _ => false))) := fun {hh} e => rC_stn hF hF e
  have gO : ∀ {hh : H} {B : Blk}, Grow h.nx.nat h hh → h.nx.nat < hh.nx.nat → Grow h.nx.nat h (hh.put h.nx B) := fun {hh B} g hl => g.trans (Grow.put (Nat.le_refl _) hl _)
  by_cases hXn : X.length = n
  · have d0 : decide ((X.length : Int) ≠ (n : Int)) = false := decide_eq_false (by omega)
    simp (disch := omega) only [f94_r3, f94_r5, Nat.reduceEqDiff, ↓reduceIte, Bool.false_eq_true, hlen, d0, bz]
    have b0 : rl (bfT X 0) = rl fun _ _ => false := rl_congr fun a b _ _ => rfl
    refine W_loop (f94_I h n w X h.nx h1.nx h2.nx) (fun i => X.length - i) ?_ 0 ⟨by omega, ⟨fun j hj => by omega, fun j t _ hj => by omega⟩, gA, hc3, a4, by rw [b0]; exact a6, e3, by simp (disch := omega) only [getK_set, Nat.reduceEqDiff, ↓reduceIte, and_self, Int.natCast_zero]⟩
    clear a4 a6 e3 e2 e1 d0 b0 gA hc3 g3_ 
    rintro i fr h4 ⟨hi, hok, hG, hc4, c4, c6, c7, g0, g1, g4, g6, g7, g17, g18, g19⟩
    have hw4 := hw.grow hc hG
    have lt4 : h.nx.nat < h4.nx.nat := hc4.cells c4
    unfold f94_l1
    by_cases hlt : i < X.length
    · have d1 : decide ((i : Int) < (X.length : Int)) = true := decide_eq_true (by omega)
      obtain ⟨p, p1, p2⟩ := hw4.at i hlt
      have p1 : ∀ k h1, iadsV 1 w (.i k (i : Int)) h1 = .ok p h1 := fun k h1 => (eia _ _).trans (p1 k h1)
      obtain ⟨x, hx⟩ : ∃ x, X[i] = x := ⟨_, rfl⟩
      rw [hx] at p2
      have p2 : loadV h4 p one? = .ok (.i .i64 x) h4 := p2
      have hXi : X[i]? = some x := by rw [List.getElem?_eq_getElem hlt, hx]
      cases hnb : nodeB (n : Int) x with
      | false =>
        simp (disch := omega) only [f94_r6, f94_r7, f94_r8, f94_r9, f94_rs, Option.some.injEq, exists_eq_left', Nat.reduceEqDiff, ↓reduceIte, Bool.false_eq_true, Bool.not_true, Bool.not_false, g0, g4, g17, g18, g19, d1, p1, p2, k.n96, hnb, zero49, zb c4, rC_read hF get_put_same, bz]
        refine ⟨gO hG lt4, .inr ⟨fun h => ?_, trivial⟩⟩
        obtain ⟨a, ha, e⟩ := h.2.lt i hlt
        rw [hXi] at e
        have e := Option.some.inj e
        unfold nodeB at hnb
        have := of_decide_eq_false hnb
        omega
      | true =>
        have hxr : 0 ≤ x ∧ x < n := of_decide_eq_true hnb
        obtain ⟨b, rfl⟩ : ∃ b : Nat, x = (b : Int) := ⟨x.toNat, by omega⟩
        have hb7 : b < 7 := by omega
        have hbl : b < (seT X i).length := by rw [seT_len]; exact hb7
        have l7 := c7.ld hbl
        rw [seT_at] at l7
        cases hs : (List.range i).any fun s => decide (X[s]? = some (b : Int)) with
        | true =>
          rw [hs] at l7
          simp (disch := omega) only [f94_r6, f94_r7, f94_r8, f94_r9, f94_rs, Option.some.injEq, exists_eq_left', Nat.reduceEqDiff, ↓reduceIte, Bool.false_eq_true, Bool.not_true, Bool.not_false, g0, g4, g7, g17, g18, g19, d1, p1, p2, k.n96, hnb, l7, zero49, zb c4, rC_read hF get_put_same, bz]
          refine ⟨gO hG lt4, .inr ⟨fun h => ?_, trivial⟩⟩
          rw [List.any_eq_true] at hs
          obtain ⟨t, ht, ht2⟩ := hs
          exact h.2.nd i t (List.mem_range.1 ht) hlt (by rw [hXi, of_decide_eq_true ht2])
        | false =>
          rw [hs] at l7
          have hok' : OkT n X (i + 1) := by
            refine ⟨fun j hj => ?_, fun j t htj hj => ?_⟩
            · by_cases e : j = i
              · subst e; exact ⟨b, by omega, hXi⟩
              · exact hok.lt j (by omega)
            · by_cases e : j = i
              · subst e
                rw [List.any_eq_false] at hs
                intro h
                exact hs t (List.mem_range.2 htj) (decide_eq_true (by rw [← h, hXi]))
              · exact hok.nd j t htj (by omega)
          obtain ⟨s7, a7⟩ := c7.st hbl (x := true) (c := .b true) rfl rfl
          rw [seT_succ hXi] at a7 s7
          have lt7 : h2.nx.nat < h4.nx.nat := hc4.cells c7
          have g47 : Grow h.nx.nat h4 (h4.put h2.nx (.cells (seT X i).length ((seT X (i + 1)).map V.b))) := Grow.put (by omega) lt7 _
          have hne : ∀ {id : K}, id.nat < h2.nx.nat → (h4.put h2.nx (.cells (seT X i).length ((seT X (i + 1)).map V.b))).get id = h4.get id := fun h => get_put_other (fun e => by have := congrArg K.nat e; omega)
          have c4' := (hne (id := h.nx) (by omega)).trans c4
          have c6' := (hne (id := h1.nx) (by omega)).trans c6
          have hc5 := g47.hc hc4
          have hwn : NotIn h2.nx w0 := fun off n sz e => by have := hw.lt hc _ _ _ _ e; omega
          obtain ⟨u, hu, hus, _, hni⟩ := (hw4.put hwn (.cells (seT X i).length ((seT X (i + 1)).map V.b))).cut (lo := none) (hi := some (.i .i64 (i : Int))) (l := 0) (u := i) rfl rfl (by omega) (by omega)
          have hu : ∀ h1, sliceB 1 w none (some (.i .i64 (i : Int))) none h1 = .ok u h1 := fun h1 => (ecut _ _).trans (hu h1)
          rw [List.drop_zero] at hus
          have ulen : ∀ h1, lenV u h1 = .ok (.i .i64 (i : Int)) h1 := fun h1 => by rw [hus.len, List.length_take, Nat.min_eq_left (by omega)]
          have ult : ∀ id off n sz, u = .sl id off n sz → id.nat < h.nx.nat := fun id off n sz e => Classical.byContradiction fun hge => hni id (fun off' n' sz' e' => hge (hw.lt hc _ _ _ _ e')) off n sz e
          have hG5 := hG.trans g47
          simp (disch := omega) only [f94_r6, f94_r7, f94_r8, f94_r10, f94_r11, x_slice, sliceV_eq, Option.map_none, Option.map_some, Nat.reduceEqDiff, ↓reduceIte, Bool.false_eq_true, Bool.not_true, Bool.not_false, g0, g1, g7, g17, g18, g19, d1, p1, p2, k.n96, hnb, l7, s7, hu, ulen, bz]
          generalize h4.put h2.nx (.cells (seT X i).length ((seT X (i + 1)).map V.b)) = h5 at *
          refine W_loop (f94_J h n w u X h.nx h1.nx h2.nx i b) (fun t => i - t) ?_ 0 ⟨by omega, hG5, hc5, c4', by rw [bfS_0]; exact c6', a7, by simp (disch := omega) only [getK_set, Nat.reduceEqDiff, ↓reduceIte, g0, g1, g4, g6, g7, g17, g18, g19, and_self, Int.natCast_zero]⟩
          clear g0 g1 g4 g6 g7 g17 g18 g19 fr l7 s7 p1 p2
          rintro t fr h6 ⟨ht, hG6, hc6, d4, d6, d7, g0, g1, g4, g6, g7, g9, g17, g18, g19, g38, g39, g40⟩
          unfold f94_l0
          by_cases htl : t < i
          · have d2 : decide ((t : Int) < (i : Int)) = true := decide_eq_true (by omega)
            obtain ⟨a, ha, hXt⟩ := hok'.lt t (by omega)
            have hus6 : Sr iE h6 u (X.take i) := hus.same fun id off n sz e => (hG6.old id (ult _ _ _ _ e)).trans (hG5.old id (ult _ _ _ _ e)).symm
            obtain ⟨q, q1, q2⟩ := hus6.at t (by rw [List.length_take]; omega)
            have hta : (X.take i)[t]'(by rw [List.length_take]; omega) = (a : Int) := by
              rw [List.getElem_take]
              rw [List.getElem?_eq_getElem (by omega)] at hXt
              exact Option.some.inj hXt
            rw [hta] at q2
            have q2 : loadV h6 q one? = .ok (.i .i64 (a : Int)) h6 := q2
            have ha7 : a < 7 := by omega
            have s6 := rC_st (v := true) ha7 hb7 d6
            rw [bfS_succ hXt hXi] at s6
            have lt6 : h1.nx.nat < h6.nx.nat := hc6.cells d6
            have g66 : Grow h.nx.nat h6 (h6.put h1.nx (rC (rl (bfS X i (t + 1))))) := Grow.put (by omega) lt6 _
            simp (disch := omega) only [f94_r12, f94_r13, f94_r14, f94_r15, Nat.reduceEqDiff, ↓reduceIte, g6, g9, g38, g39, g40, d2, q1, q2, s6, bz]
            exact ⟨t + 1, by omega, by omega, hG6.trans g66, g66.hc hc6, (get_put_other (fun e => by have := congrArg K.nat e; omega)).trans d4, get_put_same, d7.same (get_put_other (fun e => by have := congrArg K.nat e; omega)), by simp (disch := omega) only [getK_set, Nat.reduceEqDiff, ↓reduceIte, g0, g1, g4, g6, g7, g9, g17, g18, g19, g38, g39, and_self, Int.natCast_add, Int.natCast_one]⟩
          · have d2 : decide ((t : Int) < (i : Int)) = false := decide_eq_false (by omega)
            have et : t = i := by omega
            subst et
            rw [bfS_end] at d6
            simp (disch := omega) only [f94_r12, f94_r16, Nat.reduceEqDiff, ↓reduceIte, Bool.false_eq_true, g19, g39, g40, d2, bz]
            exact ⟨t + 1, by omega, by omega, hok', hG6, hc6, d4, d6, d7, by simp (disch := omega) only [getK_set, Nat.reduceEqDiff, ↓reduceIte, g0, g1, g4, g6, g7, g17, g18, and_self, Int.natCast_add, Int.natCast_one]⟩
    · have d1 : decide ((i : Int) < (X.length : Int)) = false := decide_eq_false (by omega)
      have ei : i = X.length := by omega
      subst ei
      have hR : (rl (bfT X X.length)).length = 49 := rl_len
      have lR := rC_ldn hR c6
      have s4 := rC_stn hR hF c4
      simp (disch := omega) only [f94_r6, f94_r17, f94_rs, Option.some.injEq, exists_eq_left', Nat.reduceEqDiff, ↓reduceIte, Bool.false_eq_true, g4, g6, g18, g19, d1, lR, s4, rC_read hR get_put_same, bz]
      exact ⟨gO hG lt4, .inl ⟨hXn, hok, trivial⟩⟩
  · have d0 : decide ((X.length : Int) ≠ (n : Int)) = true := decide_eq_true (by omega)
    simp (disch := omega) only [f94_r3, f94_r4, f94_rs, Option.some.injEq, exists_eq_left', Nat.reduceEqDiff, ↓reduceIte, hlen, d0, zero49, zb a4, rC_read hF get_put_same, bz]
    exact ⟨gO gA (hc3.cells a4), .inr ⟨fun h => hXn h.1, trivial⟩⟩
theorem f68x_ret {n : Int} {v w : V} {X Y : List Int} (k : CallsAg fs) (hv : Rx h v X) (hw : Rx h w Y) (hX : X.length ≤ 9223372036854775807) (hY : Y.length ≤ 9223372036854775807) (hc : HC h) : Ret fs f68 [.i .i64 n, .agg [v, w]] h fun r h' => Grow h.nx.nat h h' ∧ ((agOk n X Y ∧ r = .tup [rV (agR X Y), .b true]) ∨ (¬ agOk n X Y ∧ r = .tup [rV (rl fun _ _ => false), .b false])) := by
  apply ret_of rfl
  show W fs none f68_c _ _ _
  unfold f68_c
  have hF : (rl fun _ _ => false).length = 49 := rl_len
  have cvw : cellsN 2 (.agg [v, w]) = some [v, w] := rfl
  have n1 := nx_new h (.cells 2 [v, w])
  have g1_ : Grow h.nx.nat h (h.new (.cells 2 [v, w])) := Grow.new (Nat.le_refl _) _
  have e1 : (h.new (.cells 2 [v, w])).get h.nx = .cells 2 [v, w] := get_new_same
  have n2 := nx_new (h.new (.cells 2 [v, w])) (.cells 49 (List.replicate 49 (.b false)))
  simp (disch := omega) only [f68_r0, ↓reduceIte, cvw, bz]
  generalize h.new (.cells 2 [v, w]) = h1 at *
  have g2_ : Grow h1.nx.nat h1 (h1.new (.cells 49 (List.replicate 49 (.b false)))) := Grow.new (Nat.le_refl _) _
  have e2 : (h1.new (.cells 49 (List.replicate 49 (.b false)))).get h1.nx = rC (rl fun _ _ => false) := by rw [rl_false]; exact get_new_same
  generalize h1.new (.cells 49 (List.replicate 49 (.b false))) = h2 at *
  have gA : Grow h.nx.nat h h2 := g1_.trans (g2_.low (by omega))
  have hc2 := gA.hc hc
  have e1' := (g2_.old h.nx (by omega)).trans e1
  have zb : ∀ {hh : H}, hh.get h1.nx = rC (rl fun _ _ => false) → storeV hh 49 (.p h1.nx 0) (rV (rl fun _ _ => false)) = .ok undefV (hh.put h1.nx (rC (rl fun _ _ => false))) := fun {hh} e => rC_stn hF hF e
  have gO : ∀ {hh : H} {B : Blk}, Grow h.nx.nat h hh → h1.nx.nat < hh.nx.nat → Grow h.nx.nat h (hh.put h1.nx B) := fun {hh B} g hl => g.trans (Grow.put (by omega) hl _)
  by_cases hn : n < 1 ∨ 7 < n
  · have hno : ¬ agOk n X Y := fun h => by have h1 := h.1; have h2 := h.2.1; omega
    by_cases h1_ : n < 1
    · have d1 : decide (n < 1) = true := decide_eq_true h1_
      simp (disch := omega) only [f68_r1, f68_r2, f68_rs, Option.some.injEq, exists_eq_left', Nat.reduceEqDiff, ↓reduceIte, Bool.false_eq_true, Bool.not_true, d1, zero49, zb e2, rC_read hF get_put_same, bz]
      exact ⟨gO gA (by omega), .inr ⟨hno, trivial⟩⟩
    · have d1 : decide (n < 1) = false := decide_eq_false h1_
      have d2 : decide (n > 7) = true := decide_eq_true (by omega)
      simp (disch := omega) only [f68_r1, f68_r2, f68_rs, Option.some.injEq, exists_eq_left', Nat.reduceEqDiff, ↓reduceIte, Bool.false_eq_true, Bool.not_false, d1, d2, zero49, zb e2, rC_read hF get_put_same, bz]
      exact ⟨gO gA (by omega), .inr ⟨hno, trivial⟩⟩
  · have d1 : decide (n < 1) = false := decide_eq_false (by omega)
    have d2 : decide (n > 7) = false := decide_eq_false (by omega)
    obtain ⟨N, rfl⟩ : ∃ N : Nat, n = (N : Int) := ⟨n.toNat, by omega⟩
    have hN7 : N ≤ 7 := by omega
    have hag : agOk (N : Int) X Y ↔ lnOk N X ∧ lnOk N Y := ⟨fun h => ⟨h.2.2.1, h.2.2.2⟩, fun h => ⟨by omega, by omega, h.1, h.2⟩⟩
    have l0 := ld20 e1'
    simp (disch := omega) only [f68_r1, f68_r3, Nat.reduceEqDiff, ↓reduceIte, Bool.false_eq_true, Bool.not_false, d1, d2, l0, bz]
    refine (callP_0 (ef := f94) k.c94 rfl (f94x_ret k.toNat1 hN7 (hv.grow hc gA) hX hc2)).mono ?_
    rintro r h3 ⟨g3_, hr3⟩
    obtain ⟨A, ba, rfl, hAl, hA⟩ : ∃ A ba, r = .tup [rV A, .b ba] ∧ A.length = 49 ∧ ((ba = true ∧ lnOk N X ∧ A = bfR X) ∨ (ba = false ∧ ¬ lnOk N X)) := by
      rcases hr3 with ⟨q1, q2, q3⟩ | ⟨q1, q3⟩
      · exact ⟨_, _, q3, rl_len, .inl ⟨rfl, ⟨q1, q2⟩, rfl⟩⟩
      · exact ⟨_, _, q3, rl_len, .inr ⟨rfl, q1⟩⟩
    have hc3 := g3_.hc hc2
    have gA3 := gA.trans (g3_.low gA.nx)
    have g3n := g3_.nx
    have n4 := nx_new h3 (.cells 49 (List.replicate 49 (.b false)))
    have s4 := rC_stn hAl rl_len (M := rl fun _ _ => false) (h := h3.new (.cells 49 (List.replicate 49 (.b false)))) (id := h3.nx) (by rw [rl_false]; exact get_new_same)
    have g4_ : Grow h3.nx.nat h3 ((h3.new (.cells 49 (List.replicate 49 (.b false)))).put h3.nx (rC A)) := (Grow.new (Nat.le_refl _) _).trans (Grow.put (Nat.le_refl _) (by omega) _)
    have e4 : ((h3.new (.cells 49 (List.replicate 49 (.b false)))).put h3.nx (rC A)).get h3.nx = rC A := get_put_same
    have n4' : ((h3.new (.cells 49 (List.replicate 49 (.b false)))).put h3.nx (rC A)).nx.nat = h3.nx.nat + 1 := n4
    have l1 := ld21 ((g4_.old h.nx (by omega)).trans ((g3_.old h.nx (by omega)).trans e1'))
    simp (disch := omega) only [f68_r4, Nat.reduceEqDiff, ↓reduceIte, s4, l1, bz]
    generalize (h3.new (.cells 49 (List.replicate 49 (.b false)))).put h3.nx (rC A) = h4 at *
    have hc4 := g4_.hc hc3
    have gA4 := gA3.trans (g4_.low gA3.nx)
    refine (callP_0 (ef := f94) k.c94 rfl (f94x_ret k.toNat1 hN7 (hw.grow hc gA4) hY hc4)).mono ?_
    rintro r h5 ⟨g5_, hr5⟩
    obtain ⟨B, bb, rfl, hBl, hB⟩ : ∃ A ba, r = .tup [rV A, .b ba] ∧ A.length = 49 ∧ ((ba = true ∧ lnOk N Y ∧ A = bfR Y) ∨ (ba = false ∧ ¬ lnOk N Y)) := by
      rcases hr5 with ⟨q1, q2, q3⟩ | ⟨q1, q3⟩
      · exact ⟨_, _, q3, rl_len, .inl ⟨rfl, ⟨q1, q2⟩, rfl⟩⟩
      · exact ⟨_, _, q3, rl_len, .inr ⟨rfl, q1⟩⟩
    have hc5 := g5_.hc hc4
    have gA5 := gA4.trans (g5_.low gA4.nx)
    have g5n := g5_.nx
    have n6 := nx_new h5 (.cells 49 (List.replicate 49 (.b false)))
    have s6 := rC_stn hBl rl_len (M := rl fun _ _ => false) (h := h5.new (.cells 49 (List.replicate 49 (.b false)))) (id := h5.nx) (by rw [rl_false]; exact get_new_same)
    have g6_ : Grow h5.nx.nat h5 ((h5.new (.cells 49 (List.replicate 49 (.b false)))).put h5.nx (rC B)) := (Grow.new (Nat.le_refl _) _).trans (Grow.put (Nat.le_refl _) (by omega) _)
    have e6 : ((h5.new (.cells 49 (List.replicate 49 (.b false)))).put h5.nx (rC B)).get h5.nx = rC B := get_put_same
    have n6' : ((h5.new (.cells 49 (List.replicate 49 (.b false)))).put h5.nx (rC B)).nx.nat = h5.nx.nat + 1 := n6
    have e4' := (g6_.old h3.nx (by omega)).trans ((g5_.old h3.nx (by omega)).trans e4)
    have e2' := (g6_.old h1.nx (by omega)).trans ((g5_.old h1.nx (by omega)).trans ((g4_.old h1.nx (by omega)).trans ((g3_.old h1.nx (by omega)).trans e2)))
    have gA6 := gA5.trans (g6_.low gA5.nx)
    simp (disch := omega) only [Nat.reduceEqDiff, ↓reduceIte, s6, bz]
    generalize (h5.new (.cells 49 (List.replicate 49 (.b false)))).put h5.nx (rC B) = h6 at *
    have lt6 : h1.nx.nat < h6.nx.nat := by omega
    cases ba with
    | false =>
      have hno : ¬ agOk (N : Int) X Y := fun h => by
        rcases hA with ⟨q, _⟩ | ⟨_, q⟩
        · cases q
        · exact q (hag.1 h).1
      simp (disch := omega) only [f68_r5, f68_r6, f68_rs, Option.some.injEq, exists_eq_left', Nat.reduceEqDiff, ↓reduceIte, Bool.false_eq_true, Bool.not_true, Bool.not_false, zero49, zb e2', rC_read hF get_put_same, bz]
      exact ⟨gO gA6 lt6, .inr ⟨hno, trivial⟩⟩
    | true =>
      cases bb with
      | false =>
        have hno : ¬ agOk (N : Int) X Y := fun h => by
          rcases hB with ⟨q, _⟩ | ⟨_, q⟩
          · cases q
          · exact q (hag.1 h).2
        simp (disch := omega) only [f68_r5, f68_r6, f68_rs, Option.some.injEq, exists_eq_left', Nat.reduceEqDiff, ↓reduceIte, Bool.false_eq_true, Bool.not_true, Bool.not_false, zero49, zb e2', rC_read hF get_put_same, bz]
        exact ⟨gO gA6 lt6, .inr ⟨hno, trivial⟩⟩
      | true =>
        obtain ⟨okX, rfl⟩ : lnOk N X ∧ A = bfR X := by
          rcases hA with ⟨_, q⟩ | ⟨q, _⟩
          · exact q
          · cases q
        obtain ⟨okY, rfl⟩ : lnOk N Y ∧ B = bfR Y := by
          rcases hB with ⟨_, q⟩ | ⟨q, _⟩
          · exact q
          · cases q
        have hTl : (turnR (bfR Y)).length = 49 := rl_len
        have lA := rC_ldn hAl e4'
        have lB := rC_ldn hBl e6
        have k70 := k.n70 (bfR Y)
        have k81 := k.n81 (bfR X) (turnR (bfR Y))
        have s7 := rC_stn agR_len hF e2' (L := agR X Y)
        have eag : rV (woR (bfR X) (turnR (bfR Y))) = rV (agR X Y) := rfl
        simp (disch := omega) only [f68_r5, f68_r7, f68_rs, Option.some.injEq, exists_eq_left', Nat.reduceEqDiff, ↓reduceIte, Bool.false_eq_true, Bool.not_true, Bool.not_false, lA, lB, beq_rV, k70 _ _ hBl, k81 _ _ hAl hTl, eag, s7, rC_read agR_len get_put_same, bz]
        exact ⟨gO gA6 lt6, .inl ⟨hag.2 ⟨okX, okY⟩, trivial⟩⟩
theorem f37x_ret {n : Int} {v w : V} {X Y : List Int} (k : CallsDn fs) (hv : Rx h v X) (hw : Rx h w Y) (hX : X.length ≤ 9223372036854775807) (hY : Y.length ≤ 9223372036854775807) (hc : HC h) : Ret fs f37 [.i .i64 n, .agg [v, w]] h fun r h' => Grow h.nx.nat h h' ∧ ((agOk n X Y ∧ ∃ u, r = .tup [u, .i .i64 0] ∧ Sk 2 qE h' u (arI (rat (agR X Y))) ∧ Own h.nx.nat u) ∨ (¬ agOk n X Y ∧ r = .tup [.sn, .i .i64 1])) := by
  apply ret_of rfl
  show W fs none f37_c _ _ _
  unfold f37_c
  have cvw : cellsN 2 (.agg [v, w]) = some [v, w] := rfl
  have n1 := nx_new h (.cells 2 [v, w])
  have g1_ : Grow h.nx.nat h (h.new (.cells 2 [v, w])) := Grow.new (Nat.le_refl _) _
  have e1 : (h.new (.cells 2 [v, w])).get h.nx = .cells 2 [v, w] := get_new_same
  have l1 := ldn2 e1
  simp (disch := omega) only [f37_r0, f37_r1, Nat.reduceEqDiff, ↓reduceIte, cvw, l1, bz]
  generalize h.new (.cells 2 [v, w]) = h1 at *
  have hc1 := g1_.hc hc
  refine (callP_0 (ef := f68) k.c68 rfl (f68x_ret k.toCallsAg (hv.grow hc g1_) (hw.grow hc g1_) hX hY hc1)).mono ?_
  rintro r h2 ⟨g2_, hr⟩
  have hc2 := g2_.hc hc1
  have gA := g1_.trans (g2_.low (by omega))
  have n3 := nx_new h2 (.cells 49 (List.replicate 49 (.b false)))
  have hF : (rl fun _ _ => false).length = 49 := rl_len
  have st : ∀ {A : List Bool}, A.length = 49 → storeV (h2.new (.cells 49 (List.replicate 49 (.b false)))) 49 (.p h2.nx 0) (rV A) = .ok undefV ((h2.new (.cells 49 (List.replicate 49 (.b false)))).put h2.nx (rC A)) := fun {A} hA => rC_stn hA hF (by rw [rl_false]; exact get_new_same)
  have g3_ : ∀ A, Grow h2.nx.nat h2 ((h2.new (.cells 49 (List.replicate 49 (.b false)))).put h2.nx (rC A)) := fun A => (Grow.new (Nat.le_refl _) _).trans (Grow.put (Nat.le_refl _) (by omega) _)
  rcases hr with ⟨ok, rfl⟩ | ⟨no, rfl⟩
  · have e3 : ((h2.new (.cells 49 (List.replicate 49 (.b false)))).put h2.nx (rC (agR X Y))).get h2.nx = rC (agR X Y) := get_put_same
    have lA := rC_ldn agR_len e3
    have g3 := g3_ (agR X Y)
    have s3 := st (A := agR X Y) agR_len
    simp (disch := omega) only [f37_r2, f37_r4, Nat.reduceEqDiff, ↓reduceIte, Bool.false_eq_true, Bool.not_true, s3, lA, bz]
    generalize (h2.new (.cells 49 (List.replicate 49 (.b false)))).put h2.nx (rC (agR X Y)) = h3 at *
    have hc3 := g3.hc hc2
    have gB := gA.trans (g3.low gA.nx)
    refine (callP_0 (ef := f58) k.c58 rfl (f58_ret k.toNat4 agR_len hc3)).mono ?_
    rintro u h4 ⟨hs, ho, g4⟩
    simp (disch := omega) only [f37_rs, Option.some.injEq, exists_eq_left', Nat.reduceEqDiff, ↓reduceIte, bz]
    exact ⟨gB.trans (g4.low gB.nx), .inl ⟨ok, u, rfl, hs, ho.low gB.nx⟩⟩
  · have s3 := st hF
    simp (disch := omega) only [f37_r2, f37_r3, f37_rs, Option.some.injEq, exists_eq_left', Nat.reduceEqDiff, ↓reduceIte, Bool.not_false, s3, bz]
    exact ⟨gA.trans ((g3_ _).low gA.nx), .inr ⟨no, trivial⟩⟩
theorem f36x_ret {n : Int} {v w : V} {X Y : List Int} (k : CallsDn fs) (hv : Rx h v X) (hw : Rx h w Y) (hX : X.length ≤ 9223372036854775807) (hY : Y.length ≤ 9223372036854775807) (hc : HC h) : Ret fs f36 [.i .i64 n, .agg [v, w]] h fun r h' => Grow h.nx.nat h h' ∧ ((agOk n X Y ∧ ∃ u, r = .tup [u, .i .i64 0] ∧ Sk 2 qE h' u (arI (drR n.toNat X Y)) ∧ Own h.nx.nat u) ∨ (¬ agOk n X Y ∧ r = .tup [.sn, .i .i64 1])) := by
  apply ret_of rfl
  show W fs none f36_c _ _ _
  unfold f36_c
  have cvw : cellsN 2 (.agg [v, w]) = some [v, w] := rfl
  have n1 := nx_new h (.cells 2 [v, w])
  have g1_ : Grow h.nx.nat h (h.new (.cells 2 [v, w])) := Grow.new (Nat.le_refl _) _
  have e1 : (h.new (.cells 2 [v, w])).get h.nx = .cells 2 [v, w] := get_new_same
  have l1 := ldn2 e1
  simp (disch := omega) only [f36_r0, f36_r1, Nat.reduceEqDiff, ↓reduceIte, cvw, l1, bz]
  generalize h.new (.cells 2 [v, w]) = h1 at *
  have hc1 := g1_.hc hc
  refine (callP_0 (ef := f68) k.c68 rfl (f68x_ret k.toCallsAg (hv.grow hc g1_) (hw.grow hc g1_) hX hY hc1)).mono ?_
  rintro r h2 ⟨g2_, hr⟩
  have hc2 := g2_.hc hc1
  have gA := g1_.trans (g2_.low (by omega))
  have n3 := nx_new h2 (.cells 49 (List.replicate 49 (.b false)))
  have hF : (rl fun _ _ => false).length = 49 := rl_len
  have st : ∀ {A : List Bool}, A.length = 49 → storeV (h2.new (.cells 49 (List.replicate 49 (.b false)))) 49 (.p h2.nx 0) (rV A) = .ok undefV ((h2.new (.cells 49 (List.replicate 49 (.b false)))).put h2.nx (rC A)) := fun {A} hA => rC_stn hA hF (by rw [rl_false]; exact get_new_same)
  have g3_ : ∀ A, Grow h2.nx.nat h2 ((h2.new (.cells 49 (List.replicate 49 (.b false)))).put h2.nx (rC A)) := fun A => (Grow.new (Nat.le_refl _) _).trans (Grow.put (Nat.le_refl _) (by omega) _)
  rcases hr with ⟨ok, rfl⟩ | ⟨no, rfl⟩
  · obtain ⟨N, rfl⟩ : ∃ N : Nat, n = (N : Int) := ⟨n.toNat, by have := ok.1; omega⟩
    have hN7 : N ≤ 7 := by have := ok.2.1; omega
    have e3 : ((h2.new (.cells 49 (List.replicate 49 (.b false)))).put h2.nx (rC (agR X Y))).get h2.nx = rC (agR X Y) := get_put_same
    have lA := rC_ldn agR_len e3
    have g3 := g3_ (agR X Y)
    have s3 := st (A := agR X Y) agR_len
    have hT : (turnR (agR X Y)).length = 49 := rl_len
    have k70 := k.n70 (agR X Y)
    have n3' : ((h2.new (.cells 49 (List.replicate 49 (.b false)))).put h2.nx (rC (agR X Y))).nx.nat = h2.nx.nat + 1 := n3
    have cA := rC_cells (L := agR X Y) agR_len
    have cT := rC_cells hT
    have hc3 := g3.hc hc2
    have dd := hc3.dead
    simp (disch := omega) only [f36_r2, f36_r4, Option.some.injEq, exists_eq_left', Nat.reduceEqDiff, ↓reduceIte, Bool.false_eq_true, Bool.not_true, s3, lA, k70 _ _ agR_len, fill_c, cA, cT, set98a agR_len, set98b agR_len hT, dd, bz]
    generalize (h2.new (.cells 49 (List.replicate 49 (.b false)))).put h2.nx (rC (agR X Y)) = h3 at *
    have gB := gA.trans (g3.low gA.nx)
    refine ⟨fresh_one (n := 2) (sz := 49) (by simp (disch := omega) only [getK_set, ↓reduceIte]), ?_⟩
    have gL : Grow h3.nx.nat h3 (h3.new (.cells (2 * 49) ((agR X Y).map V.b ++ (turnR (agR X Y)).map V.b))) := Grow.new (Nat.le_refl _) _
    have hr8 := Rs.two (h := h3) (L := agR X Y) agR_len hT
    have n8 := nx_new h3 (.cells (2 * 49) ((agR X Y).map V.b ++ (turnR (agR X Y)).map V.b))
    have hc8 := gL.hc hc3
    have lA8 := rC_ldn agR_len ((gL.old h2.nx (by omega)).trans e3)
    simp (disch := omega) only [true_and, again_ok, lA8, beq_rV]
    generalize h3.new (.cells (2 * 49) ((agR X Y).map V.b ++ (turnR (agR X Y)).map V.b)) = h4 at *
    have hall : ∀ z ∈ [agR X Y, turnR (agR X Y)], z.length = 49 := fun z hz => by
      simp only [List.mem_cons, List.not_mem_nil, or_false] at hz
      rcases hz with rfl | rfl
      · exact agR_len
      · exact hT
    refine (callP_0 (ef := f69) k.c69 rfl (f69_ret k.c84 k.c101 hr8 hall (by simp) hc8)).mono ?_
    rintro r h5 ⟨rfl, g5⟩
    have hc5 := g5.hc hc8
    have gC := gB.trans ((gL.low gB.nx).trans (g5.low (by have := gB.nx; omega)))
    have hJ : (jnR [agR X Y, turnR (agR X Y)]).length = 49 := rl_len
    have hO : (otR N (jnR [agR X Y, turnR (agR X Y)])).length = 49 := otR_len
    have k49 := k.n49 (jnR [agR X Y, turnR (agR X Y)]) N
    simp (disch := omega) only [Nat.reduceEqDiff, ↓reduceIte, k49 _ _ hJ hN7, bz]
    refine (callP_0 (ef := f50) k.c50 rfl (f50_ret k.toCallsEd hO hc5)).mono ?_
    rintro u h6 ⟨hs, ho, g6⟩
    simp (disch := omega) only [f36_rs, Option.some.injEq, exists_eq_left', Nat.reduceEqDiff, ↓reduceIte, bz]
    exact ⟨gC.trans (g6.low gC.nx), .inl ⟨ok, u, rfl, hs, ho.low gC.nx⟩⟩
  · have s3 := st hF
    simp (disch := omega) only [f36_r2, f36_r3, f36_rs, Option.some.injEq, exists_eq_left', Nat.reduceEqDiff, ↓reduceIte, Bool.not_false, s3, bz]
    exact ⟨gA.trans ((g3_ _).low gA.nx), .inr ⟨no, trivial⟩⟩
end
end Go.Ev
