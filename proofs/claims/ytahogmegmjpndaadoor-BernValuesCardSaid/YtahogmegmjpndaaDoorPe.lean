/-
  Bern (plain): fractions within bounds, fractions over one denominator, rows that are divided., and what follows.
-/
import Derived.Test.YtahogmegmjpndaaDoorPd
namespace Go.Ev
open Go Go.RowKit
def M63 : Nat := 9223372036854775807
theorem gL {a b : Int} : ((Int.gcd a b : Nat) : Int) ∣ a := Int.gcd_dvd_left a b
theorem gR {a b : Int} : ((Int.gcd a b : Nat) : Int) ∣ b := Int.gcd_dvd_right a b
def Fr' (q : Rat) (M N : Nat) : Prop := q.num.natAbs ≤ M ∧ q.den ≤ N
theorem div_le {a b : Int} (hb : b ≠ 0) : (Rat.divInt a b).num.natAbs ≤ a.natAbs ∧ (Rat.divInt a b).den ≤ b.natAbs := by
  obtain ⟨h1, h2⟩ := fr_div (a := a) hb
  constructor
  · rw [h1, Int.natAbs_tdiv]; exact Nat.div_le_self _ _
  · have : ((Rat.divInt a b).den : Int).natAbs ≤ b.natAbs := by rw [h2, Int.natAbs_tdiv]; exact Nat.div_le_self _ _
    simpa using this
theorem nm {a b : Int} {M N : Nat} (ha : a.natAbs ≤ M) (hb : b.natAbs ≤ N) : (a * b).natAbs ≤ M * N := by rw [Int.natAbs_mul]; exact Nat.mul_le_mul ha hb
theorem nadd {a b : Int} {M N : Nat} (ha : a.natAbs ≤ M) (hb : b.natAbs ≤ N) : (a + b).natAbs ≤ M + N := by omega
theorem nden {q : Rat} {N : Nat} (h : q.den ≤ N) : (q.den : Int).natAbs ≤ N := by simpa using h
theorem ed_le {a g : Int} {M : Nat} (ha : a.natAbs ≤ M) (hg : g ∣ a) : (a / g).natAbs ≤ M := by
  rw [← Int.tdiv_eq_ediv_of_dvd hg, Int.natAbs_tdiv]; exact Nat.le_trans (Nat.div_le_self _ _) ha
structure MlB (p q : Rat) : Prop where
  p1 : p.num.natAbs ≤ M63
  p2 : (p.den : Int).natAbs ≤ M63
  q1 : q.num.natAbs ≤ M63
  q2 : (q.den : Int).natAbs ≤ M63
  b1 : (p.num / (Int.gcd p.num (q.den : Int) : Int) * (q.num / (Int.gcd q.num (p.den : Int) : Int))).natAbs ≤ M63
  b2 : ((p.den : Int) / (Int.gcd q.num (p.den : Int) : Int) * ((q.den : Int) / (Int.gcd p.num (q.den : Int) : Int))).natAbs ≤ M63
structure AdB (p q : Rat) : Prop where
  p2 : (p.den : Int).natAbs ≤ M63
  q2 : (q.den : Int).natAbs ≤ M63
  b1 : (p.num * ((q.den : Int) / (Int.gcd (p.den : Int) (q.den : Int) : Int)) + q.num * ((p.den : Int) / (Int.gcd (p.den : Int) (q.den : Int) : Int))).natAbs ≤ M63
  b2 : ((p.den : Int) / (Int.gcd (p.den : Int) (q.den : Int) : Int) * (q.den : Int)).natAbs ≤ M63
  b3 : (p.num * ((q.den : Int) / (Int.gcd (p.den : Int) (q.den : Int) : Int))).natAbs ≤ M63
  b4 : (q.num * ((p.den : Int) / (Int.gcd (p.den : Int) (q.den : Int) : Int))).natAbs ≤ M63
theorem mlb_of {p q : Rat} {M N M' N' : Nat} (h : Fr' p M N) (h' : Fr' q M' N') (k1 : M ≤ M63) (k2 : N ≤ M63) (k3 : M' ≤ M63) (k4 : N' ≤ M63) (k5 : M * M' ≤ M63) (k6 : N * N' ≤ M63) : MlB p q :=
  ⟨Nat.le_trans h.1 k1, Nat.le_trans (nden h.2) k2, Nat.le_trans h'.1 k3, Nat.le_trans (nden h'.2) k4, Nat.le_trans (nm (ed_le h.1 gL) (ed_le h'.1 gL)) k5, Nat.le_trans (nm (ed_le (nden h.2) gR) (ed_le (nden h'.2) gR)) k6⟩
theorem dv_add {a b d : Int} : Rat.divInt a d + Rat.divInt b d = Rat.divInt (a + b) d := by
  rw [Rat.divInt_eq_div, Rat.divInt_eq_div, Rat.divInt_eq_div, Rat.intCast_add]; grind
theorem den_dvd' {a b : Int} (hb : 0 < b) : ((Rat.divInt a b).den : Int) ∣ b := by
  obtain ⟨_, h2⟩ := fr_div (a := a) (b := b) (by omega)
  rw [if_neg (by omega), Int.tdiv_eq_ediv_of_dvd gR] at h2
  exact ⟨((Int.gcd a b : Nat) : Int), by rw [h2, Int.ediv_mul_cancel gR]⟩
def Ov (q : Rat) (D M : Nat) : Prop := 0 < D ∧ ∃ a : Int, a.natAbs ≤ M ∧ q = Rat.divInt a (D : Int)
theorem Ov.fr {q : Rat} {D M : Nat} (h : Ov q D M) : Fr' q M D := by
  obtain ⟨h0, a, ha, rfl⟩ := h
  obtain ⟨h1, h2⟩ := div_le (a := a) (b := (D : Int)) (by omega)
  exact ⟨Nat.le_trans h1 ha, by simpa using h2⟩
theorem Ov.ex {q : Rat} {D M : Nat} (h : Ov q D M) : ∃ k : Nat, 0 < k ∧ D = q.den * k ∧ (q.num * (k : Int)).natAbs ≤ M := by
  obtain ⟨h0, a, ha, e⟩ := h
  have hd : (q.den : Int) ∣ (D : Int) := by rw [e]; exact den_dvd' (by omega)
  obtain ⟨k, hk⟩ := hd
  have hq0 : (q.den : Int) ≠ 0 := rat_den
  have hD0 : (D : Int) ≠ 0 := by omega
  have hqp : 0 < (q.den : Int) := by have := q.den_pos; omega
  have hkp : 0 < k := by
    rcases Int.lt_or_le 0 k with h1 | h1
    · exact h1
    · have := Int.mul_nonpos_of_nonneg_of_nonpos (Int.le_of_lt hqp) h1; omega
  have hc : q.num * (D : Int) = a * (q.den : Int) := by
    have : Rat.divInt q.num (q.den : Int) = Rat.divInt a (D : Int) := by rw [rat_eq]; exact e
    exact (Rat.divInt_eq_divInt_iff hq0 hD0).1 this
  have ha' : q.num * k = a := by
    have : (q.num * k) * (q.den : Int) = a * (q.den : Int) := by rw [← hc, hk]; grind
    exact Int.eq_of_mul_eq_mul_right hq0 this
  refine ⟨k.toNat, by omega, ?_, by rw [Int.toNat_of_nonneg (by omega), ha']; exact ha⟩
  have : (D : Int) = ((q.den * k.toNat : Nat) : Int) := by rw [hk, Int.natCast_mul, Int.toNat_of_nonneg (by omega)]
  exact Int.ofNat.inj this
theorem Ov.mul {p q : Rat} {D E M N : Nat} (hp : Ov p D M) (hq : Ov q E N) : Ov (p * q) (D * E) (M * N) := by
  obtain ⟨h0, a, ha, rfl⟩ := hp
  obtain ⟨h1, b, hb, rfl⟩ := hq
  exact ⟨Nat.mul_pos h0 h1, a * b, nm ha hb, by rw [Rat.divInt_mul_divInt, Int.natCast_mul]⟩
theorem adb_ov {p q : Rat} {D M N : Nat} (hp : Ov p D M) (hq : Ov q D N) (hD : D ≤ M63) (hM : M + N ≤ M63) : AdB p q := by
  obtain ⟨k, k0, k1, k2⟩ := hp.ex
  obtain ⟨j, j0, j1, j2⟩ := hq.ex
  have hg0 : Int.gcd (p.den : Int) (q.den : Int) ≠ 0 := fun e => by have := (Int.gcd_eq_zero_iff.1 e).1; exact rat_den this
  have hpd := p.den_pos
  have hqd := q.den_pos
  generalize hg : Int.gcd (p.den : Int) (q.den : Int) = g at *
  have g1 : (g : Int) ∣ (p.den : Int) := hg ▸ gL
  have g2 : (g : Int) ∣ (q.den : Int) := hg ▸ gR
  obtain ⟨x, hx⟩ := g1
  obtain ⟨y, hy⟩ := g2
  have gp : 0 < (g : Int) := by omega
  have gi : (g : Int) ≠ 0 := by omega
  have cop : Int.gcd x y = 1 := by
    have e : Int.gcd (g * x) (g * y) = g * Int.gcd x y := by rw [Int.gcd_mul_left]; simp
    rw [← hx, ← hy, hg] at e
    have : g * 1 = g * Int.gcd x y := by omega
    exact (Nat.eq_of_mul_eq_mul_left (by omega) this).symm
  have ex : (p.den : Int) / (g : Int) = x := by rw [hx, Int.mul_ediv_cancel_left _ gi]
  have ey : (q.den : Int) / (g : Int) = y := by rw [hy, Int.mul_ediv_cancel_left _ gi]
  have xp : 0 < x := by
    rcases Int.lt_or_le 0 x with h1 | h1
    · exact h1
    · have := Int.mul_nonpos_of_nonneg_of_nonpos (Int.le_of_lt gp) h1; omega
  have yp : 0 < y := by
    rcases Int.lt_or_le 0 y with h1 | h1
    · exact h1
    · have := Int.mul_nonpos_of_nonneg_of_nonpos (Int.le_of_lt gp) h1; omega
  -- D = g x k = g y j, so that y divides k
  have kk : x * (k : Int) = y * (j : Int) := by
    have e1 : (D : Int) = (p.den : Int) * (k : Int) := by rw [k1, Int.natCast_mul]
    have e2 : (D : Int) = (q.den : Int) * (j : Int) := by rw [j1, Int.natCast_mul]
    have : (g : Int) * (x * (k : Int)) = (g : Int) * (y * (j : Int)) := by rw [← Int.mul_assoc, ← Int.mul_assoc, ← hx, ← hy, ← e1, ← e2]
    exact Int.eq_of_mul_eq_mul_left gi this
  have yk : y ∣ (k : Int) := by
    have : y ∣ x * (k : Int) := ⟨(j : Int), kk⟩
    have h2 : y.natAbs ∣ x.natAbs * (k : Int).natAbs := by rw [← Int.natAbs_mul]; exact Int.natAbs_dvd_natAbs.2 this
    exact Int.natAbs_dvd_natAbs.1 (Nat.Coprime.dvd_of_dvd_mul_left (show Nat.gcd y.natAbs x.natAbs = 1 by rw [Nat.gcd_comm]; exact cop) h2)
  obtain ⟨c, hc⟩ := yk
  have cp : 0 < c := by
    rcases Int.lt_or_le 0 c with h1 | h1
    · exact h1
    · have := Int.mul_nonpos_of_nonneg_of_nonpos (Int.le_of_lt yp) h1; omega
  have hj : (j : Int) = x * c := by
    have : y * (j : Int) = y * (x * c) := by rw [← kk, hc]; grind
    exact Int.eq_of_mul_eq_mul_left (by omega) this
  have le_of : ∀ {u : Int} {m : Nat}, (u * c).natAbs ≤ m → u.natAbs ≤ m := fun {u m} h => by
    rw [Int.natAbs_mul] at h
    have : u.natAbs * 1 ≤ u.natAbs * c.natAbs := Nat.mul_le_mul_left _ (by omega)
    omega
  have b3 : (p.num * y).natAbs ≤ M := le_of (by rw [Int.mul_assoc, ← hc]; exact k2)
  have b4 : (q.num * x).natAbs ≤ N := le_of (by rw [Int.mul_assoc, ← hj]; exact j2)
  have b2 : (x * (q.den : Int)).natAbs ≤ D := by
    refine le_of (Nat.le_of_eq ?_)
    have : x * (q.den : Int) * c = (D : Int) := by rw [j1, Int.natCast_mul, hj]; grind
    rw [this]; rfl
  refine ⟨Nat.le_trans (nden hp.fr.2) hD, Nat.le_trans (nden hq.fr.2) hD, ?_, ?_, ?_, ?_⟩
  · rw [hg, ex, ey]; exact Nat.le_trans (nadd b3 b4) hM
  · rw [hg, ex]; exact Nat.le_trans b2 hD
  · rw [hg, ey]; omega
  · rw [hg, ex]; omega
theorem mlb_ov {p q : Rat} {D E M N : Nat} (hp : Ov p D M) (hq : Ov q E N) (k1 : M ≤ M63) (k2 : D ≤ M63) (k3 : N ≤ M63) (k4 : E ≤ M63) (k5 : M * N ≤ M63) (k6 : D * E ≤ M63) : MlB p q := mlb_of hp.fr hq.fr k1 k2 k3 k4 k5 k6
end Go.Ev
namespace Go.Ev
open Go Go.RowKit
def chR (n : Nat) : Nat → Nat
  | 0 => 1
  | k + 1 => chR n k * (n - k) / (k + 1)
theorem ch_le : ∀ n : Fin 8, ∀ k : Fin 8, chR n.val k.val * (n.val - k.val) ≤ 140 ∧ chR n.val k.val ≤ 35 := by decide
section
variable {p : List Int} {n i k : Nat}
end
end Go.Ev
namespace Go.Ev
open Go Go.RowKit
noncomputable def f73_r0 : List EOper := [oG 4 (.as (cG 0))]
noncomputable def f73_r1 : List EOper := [oG 5 (.mv (tG 1)), oG 6 (.bin .neq (tG 5) (cG 0))]
noncomputable def f73_r2 : List Stage := [⟨[oG 7 (.mv (tG 1)), oG 8 (.mv (tG 0)), oG 9 (.mv (tG 1)), oG 10 (.bin .rem (tG 8) (tG 9))], [], (some (oG 0 (.as (tG 7)))), []⟩, ⟨[], [oG 9 (.mv (tG 1)), oG 10 (.bin .rem (tG 8) (tG 9))], (some (oG 1 (.as (tG 10)))), []⟩, ⟨[], [], none, []⟩]
noncomputable def f73_l0 : EC := (.seq (.seq (.reg f73_r1) (.cond (tG 6) .skip (.exit 0))) (.block 1 (.draw f73_r2)))
noncomputable def f73_r3 : List EOper := [oG 11 (.mv (tG 0)), oG 12 (.mv (tG 0)), oG 13 (.neg (tG 12)), oG 14 (.mx3 (tG 11) (tG 13) (cG 1)), oG 4 (.as (tG 14))]
noncomputable def f73_c : EC := (.seq (.reg f73_r0) (.seq (.block 0 (.loop f73_l0)) (.seq (.reg f73_r3) .ret)))
noncomputable def f73 : EF := ⟨15, [.tmp (.ofNat 4)], f73_c, none⟩
theorem f73_rs : f73.rs = [.tmp (.ofNat 4)] := of_eq_true (eq_self _)
noncomputable def f104_r0 : List EOper := [oG 4 (.as (cG 0))]
noncomputable def f104_r1 : List EOper := [oG 5 (.mv (tG 1)), oG 6 (.bin .neq (tG 5) (cG 0))]
noncomputable def f104_r2 : List Stage := [⟨[oG 7 (.mv (tG 1)), oG 8 (.mv (tG 0)), oG 9 (.mv (tG 1)), oG 10 (.bin .rem (tG 8) (tG 9))], [], (some (oG 0 (.as (tG 7)))), []⟩, ⟨[], [oG 9 (.mv (tG 1)), oG 10 (.bin .rem (tG 8) (tG 9))], (some (oG 1 (.as (tG 10)))), []⟩, ⟨[], [], none, []⟩]
noncomputable def f104_l0 : EC := (.seq (.seq (.reg f104_r1) (.cond (tG 6) .skip (.exit 0))) (.block 1 (.draw f104_r2)))
noncomputable def f104_r3 : List EOper := [oG 11 (.mv (tG 0)), oG 12 (.mv (tG 0)), oG 13 (.neg (tG 12)), oG 14 (.max (tG 11) (tG 13)), oG 4 (.as (tG 14))]
noncomputable def f104_c : EC := (.seq (.reg f104_r0) (.seq (.block 0 (.loop f104_l0)) (.seq (.reg f104_r3) .ret)))
noncomputable def f104 : EF := ⟨15, [.tmp (.ofNat 4)], f104_c, none⟩
theorem f104_rs : f104.rs = [.tmp (.ofNat 4)] := of_eq_true (eq_self _)
noncomputable def f54_r0 : List EOper := [oG 4 (.alloc 2 [(.i .i64 (.ofNat 0)), (.i .i64 (.ofNat 0))])]
noncomputable def f54_r1 : List EOper := [oG 6 (.mv (tG 0)), oG 7 (.mv (tG 1)), oG 8 (.call (fG 73) [(tG 6), (tG 7)]), oG 5 (.as (tG 8))]
noncomputable def f54_r2 : List Stage := [⟨[oG 9 (.mv (tG 0)), oG 10 (.mv (tG 5)), oG 11 (.bin .quo (tG 9) (tG 10)), oG 12 (.mv (tG 1)), oG 13 (.mv (tG 5)), oG 14 (.bin .quo (tG 12) (tG 13)), oG 15 (.build [(.i .i64 (.ofNat 0)), (.i .i64 (.ofNat 0))] [(0, 1, (tG 11)), (1, 1, (tG 14))])], [], (some ⟨none, none, .st 2 (tG 4) (tG 15)⟩), []⟩, ⟨[], [], none, []⟩]
noncomputable def f54_c : EC := (.seq (.reg f54_r0) (.seq (.reg f54_r1) (.seq (.draw f54_r2) .ret)))
noncomputable def f54 : EF := ⟨16, [.celln (.ofNat 4) 2], f54_c, none⟩
theorem f54_rs : f54.rs = [.celln (.ofNat 4) 2] := of_eq_true (eq_self _)
noncomputable def f75_r0 : List EOper := [oG 2 (.box 2 (tG 0)), oG 3 (.box 2 (tG 1)), oG 4 (.alloc 2 [(.i .i64 (.ofNat 0)), (.i .i64 (.ofNat 0))])]
noncomputable def f75_r1 : List Stage := [⟨[oG 7 (.iadr 2 1 (tG 2) (cG 0)), oG 8 (.ld (tG 7)), oG 9 (.iadr 2 1 (tG 3) (cG 1)), oG 10 (.ld (tG 9)), oG 12 (.iadr 2 1 (tG 3) (cG 0)), oG 13 (.ld (tG 12)), oG 14 (.iadr 2 1 (tG 2) (cG 1)), oG 15 (.ld (tG 14))], [], (some (oG 11 (.call (fG 73) [(tG 8), (tG 10)]))), []⟩, ⟨[], [oG 12 (.iadr 2 1 (tG 3) (cG 0)), oG 13 (.ld (tG 12)), oG 14 (.iadr 2 1 (tG 2) (cG 1)), oG 15 (.ld (tG 14))], (some (oG 16 (.call (fG 73) [(tG 13), (tG 15)]))), []⟩, ⟨[], [], (some (oG 5 (.as (tG 11)))), []⟩, ⟨[], [], (some (oG 6 (.as (tG 16)))), []⟩, ⟨[], [], none, []⟩]
noncomputable def f75_r2 : List Stage := [⟨[oG 17 (.iadr 2 1 (tG 2) (cG 0)), oG 18 (.ld (tG 17)), oG 19 (.mv (tG 5)), oG 20 (.bin .quo (tG 18) (tG 19)), oG 21 (.iadr 2 1 (tG 3) (cG 0)), oG 22 (.ld (tG 21)), oG 23 (.mv (tG 6)), oG 24 (.bin .quo (tG 22) (tG 23)), oG 25 (.bin .mul (tG 20) (tG 24)), oG 26 (.iadr 2 1 (tG 2) (cG 1)), oG 27 (.ld (tG 26)), oG 28 (.mv (tG 6)), oG 29 (.bin .quo (tG 27) (tG 28)), oG 30 (.iadr 2 1 (tG 3) (cG 1)), oG 31 (.ld (tG 30)), oG 32 (.mv (tG 5)), oG 33 (.bin .quo (tG 31) (tG 32)), oG 34 (.bin .mul (tG 29) (tG 33))], [], (some (oG 35 (.call (fG 54) [(tG 25), (tG 34)]))), []⟩, ⟨[], [], (some ⟨none, none, .st 2 (tG 4) (tG 35)⟩), []⟩, ⟨[], [], none, []⟩]
noncomputable def f75_c : EC := (.seq (.reg f75_r0) (.seq (.draw f75_r1) (.seq (.draw f75_r2) .ret)))
noncomputable def f75 : EF := ⟨36, [.celln (.ofNat 4) 2], f75_c, none⟩
theorem f75_rs : f75.rs = [.celln (.ofNat 4) 2] := of_eq_true (eq_self _)
noncomputable def f74_r0 : List EOper := [oG 2 (.box 2 (tG 0)), oG 3 (.box 2 (tG 1)), oG 4 (.alloc 2 [(.i .i64 (.ofNat 0)), (.i .i64 (.ofNat 0))])]
noncomputable def f74_r1 : List EOper := [oG 6 (.iadr 2 1 (tG 2) (cG 1)), oG 7 (.ld (tG 6)), oG 8 (.iadr 2 1 (tG 3) (cG 1)), oG 9 (.ld (tG 8)), oG 10 (.call (fG 73) [(tG 7), (tG 9)]), oG 5 (.as (tG 10))]
noncomputable def f74_r2 : List Stage := [⟨[oG 11 (.iadr 2 1 (tG 2) (cG 0)), oG 12 (.ld (tG 11)), oG 13 (.iadr 2 1 (tG 3) (cG 1)), oG 14 (.ld (tG 13)), oG 15 (.mv (tG 5)), oG 16 (.bin .quo (tG 14) (tG 15)), oG 17 (.bin .mul (tG 12) (tG 16)), oG 18 (.iadr 2 1 (tG 3) (cG 0)), oG 19 (.ld (tG 18)), oG 20 (.iadr 2 1 (tG 2) (cG 1)), oG 21 (.ld (tG 20)), oG 22 (.mv (tG 5)), oG 23 (.bin .quo (tG 21) (tG 22)), oG 24 (.bin .mul (tG 19) (tG 23)), oG 25 (.bin .add (tG 17) (tG 24)), oG 26 (.iadr 2 1 (tG 2) (cG 1)), oG 27 (.ld (tG 26)), oG 28 (.mv (tG 5)), oG 29 (.bin .quo (tG 27) (tG 28)), oG 30 (.iadr 2 1 (tG 3) (cG 1)), oG 31 (.ld (tG 30)), oG 32 (.bin .mul (tG 29) (tG 31))], [], (some (oG 33 (.call (fG 54) [(tG 25), (tG 32)]))), []⟩, ⟨[], [], (some ⟨none, none, .st 2 (tG 4) (tG 33)⟩), []⟩, ⟨[], [], none, []⟩]
noncomputable def f74_c : EC := (.seq (.reg f74_r0) (.seq (.reg f74_r1) (.seq (.draw f74_r2) .ret)))
noncomputable def f74 : EF := ⟨34, [.celln (.ofNat 4) 2], f74_c, none⟩
theorem f74_rs : f74.rs = [.celln (.ofNat 4) 2] := of_eq_true (eq_self _)
noncomputable def f89_r0 : List EOper := [oG 4 (.alloc 2 [(.i .i64 (.ofNat 0)), (.i .i64 (.ofNat 0))])]
noncomputable def f89_r1 : List EOper := [oG 6 (.mv (tG 0)), oG 7 (.mv (tG 1)), oG 8 (.call (fG 104) [(tG 6), (tG 7)]), oG 5 (.as (tG 8))]
noncomputable def f89_r2 : List Stage := [⟨[oG 9 (.mv (tG 0)), oG 10 (.mv (tG 5)), oG 11 (.bin .quo (tG 9) (tG 10)), oG 12 (.mv (tG 1)), oG 13 (.mv (tG 5)), oG 14 (.bin .quo (tG 12) (tG 13)), oG 15 (.build [(.i .i64 (.ofNat 0)), (.i .i64 (.ofNat 0))] [(0, 1, (tG 11)), (1, 1, (tG 14))])], [], (some ⟨none, none, .st 2 (tG 4) (tG 15)⟩), []⟩, ⟨[], [], none, []⟩]
noncomputable def f89_c : EC := (.seq (.reg f89_r0) (.seq (.reg f89_r1) (.seq (.draw f89_r2) .ret)))
noncomputable def f89 : EF := ⟨16, [.celln (.ofNat 4) 2], f89_c, none⟩
theorem f89_rs : f89.rs = [.celln (.ofNat 4) 2] := of_eq_true (eq_self _)
section
variable {fs : T EF} {h : H} {v w u : V} {a b : Int} {p q : Rat}
theorem callP_eq2 {f : V} {args : List V} {u : V} {P : V → H → Prop} (hr : CallP fs f args h fun r h' => r = u ∧ h' = h) : CallP fs f args h P = P u h := by
  apply propext
  obtain ⟨n, v, h', e, rfl, rfl⟩ := hr
  constructor
  · rintro ⟨n2, v2, h2, e2, hp⟩
    have a1 := callV_le (eval_le fs (Nat.le_max_left n n2)) _ _ _ _ _ e
    have a2 := callV_le (eval_le fs (Nat.le_max_right n n2)) _ _ _ _ _ e2
    rw [a1] at a2
    cases a2; exact hp
  · intro hp; exact ⟨n, _, _, e, hp⟩
theorem isub_0 {x : Int} : isub 0 x = -x := by rw [isub_eq]; omega
theorem neg63 {x : Int} (hx : x.natAbs ≤ M63) : fw .i64 (isub 0 x) = -x := by
  unfold M63 at hx
  rw [isub_0, fw64 (by omega) (by omega)]
def f104_I (a b : Int) (h0 : H) (s : Int × Int) (fr : Fr) (h1 : H) : Prop := Int.gcd s.1 s.2 = Int.gcd a b ∧ s.1.natAbs ≤ M63 ∧ s.2.natAbs ≤ M63 ∧ h1 = h0 ∧ fr.get (K.ofNat 0) = some (.i .i64 s.1) ∧ fr.get (K.ofNat 1) = some (.i .i64 s.2)
theorem f104_ret (ha : a.natAbs ≤ M63) (hb : b.natAbs ≤ M63) : Ret fs f104 [.i .i64 a, .i .i64 b] h fun r h' => r = .i .i64 (Int.gcd a b : Int) ∧ h' = h := by
  apply ret_of rfl
  show W fs none f104_c _ _ _
  unfold f104_c
  simp (disch := omega) only [f104_r0, bz]
  refine W_loop (f104_I a b h) (fun s => s.2.natAbs) ?_ (a, b) ⟨rfl, ha, hb, rfl, by simp (disch := omega) only [getK_set, Nat.reduceEqDiff, ↓reduceIte, and_self]⟩
  rintro ⟨x, y⟩ fr h1 ⟨hg, hx, hy, rfl, g0, g1⟩
  have hg : Int.gcd x y = Int.gcd a b := hg
  have hx : x.natAbs ≤ M63 := hx
  have hy : y.natAbs ≤ M63 := hy
  have g0 : fr.get (K.ofNat 0) = some (.i .i64 x) := g0
  have g1 : fr.get (K.ofNat 1) = some (.i .i64 y) := g1
  unfold f104_l0
  by_cases h0 : y = 0
  · have d1 : decide (y ≠ 0) = false := decide_eq_false (fun e => e h0)
    have en := neg63 hx
    have em : max x (-x) = ((Int.gcd a b : Nat) : Int) := by
      rw [← hg, h0, Int.gcd_zero_right]; omega
    simp (disch := omega) only [f104_r1, f104_r3, f104_rs, x_neg, x_max, onI_i, max_ii, Option.some.injEq, exists_eq_left', Nat.reduceEqDiff, ↓reduceIte, Bool.false_eq_true, g0, g1, d1, en, em, and_self, bz]
  · have d1 : decide (y ≠ 0) = true := decide_eq_true h0
    have d2 : decide (y = 0) = false := decide_eq_false h0
    simp (disch := omega) only [f104_r1, f104_r2, stay_mv, stay_bin, Nat.reduceEqDiff, ↓reduceIte, g0, g1, d1, bz]
    have hm : (x.tmod y).natAbs < y.natAbs := by rw [Int.natAbs_tmod]; exact Nat.mod_lt _ (by omega)
    exact ⟨(y, x.tmod y), hm, gcd_step.trans hg, hy, by show (x.tmod y).natAbs ≤ M63; omega, rfl, by simp (disch := omega) only [getK_set, Nat.reduceEqDiff, ↓reduceIte, and_self]⟩
theorem f104_eq (k : fs.get (.ofNat 104) = some f104) (ha : a.natAbs ≤ M63) (hb : b.natAbs ≤ M63) {P : V → H → Prop} : CallP fs (.fn (.ofNat 104) []) [.i .i64 a, .i .i64 b] h P = P (.i .i64 (Int.gcd a b : Int)) h := callP_eq2 (callP_0 k rfl (f104_ret ha hb))
theorem mx3_i {k : IntKind} {a b c : Int} : mx3V (.i k a) (.i k b) (.i k c) h = .ok (.i k (max (max a b) c)) h := by
  show RV.ok (.i k (bif ilt (bif ilt a b then b else a) c then c else (bif ilt a b then b else a))) h = _
  rw [ilt_eq, ilt_eq]
  congr 2
  by_cases h1 : a < b
  · rw [decide_eq_true h1]
    by_cases h2 : b < c
    · rw [cond_true, decide_eq_true h2]; show c = _; omega
    · rw [cond_true, decide_eq_false h2]; show b = _; omega
  · rw [decide_eq_false h1]
    by_cases h2 : a < c
    · rw [cond_false, decide_eq_true h2]; show c = _; omega
    · rw [cond_false, decide_eq_false h2]; show a = _; omega
theorem f73_ret (ha : a.natAbs ≤ M63) (hb : b.natAbs ≤ M63) : Ret fs f73 [.i .i64 a, .i .i64 b] h fun r h' => r = .i .i64 (max (Int.gcd a b : Int) 1) ∧ h' = h := by
  apply ret_of rfl
  show W fs none f73_c _ _ _
  unfold f73_c
  simp (disch := omega) only [f73_r0, bz]
  refine W_loop (f104_I a b h) (fun s => s.2.natAbs) ?_ (a, b) ⟨rfl, ha, hb, rfl, by simp (disch := omega) only [getK_set, Nat.reduceEqDiff, ↓reduceIte, and_self]⟩
  rintro ⟨x, y⟩ fr h1 ⟨hg, hx, hy, rfl, g0, g1⟩
  have hg : Int.gcd x y = Int.gcd a b := hg
  have hx : x.natAbs ≤ M63 := hx
  have hy : y.natAbs ≤ M63 := hy
  have g0 : fr.get (K.ofNat 0) = some (.i .i64 x) := g0
  have g1 : fr.get (K.ofNat 1) = some (.i .i64 y) := g1
  unfold f73_l0
  by_cases h0 : y = 0
  · have d1 : decide (y ≠ 0) = false := decide_eq_false (fun e => e h0)
    have en := neg63 hx
    have em : max (max x (-x)) 1 = max ((Int.gcd a b : Nat) : Int) 1 := by
      rw [← hg, h0, Int.gcd_zero_right]; omega
    simp (disch := omega) only [f73_r1, f73_r3, f73_rs, x_neg, onI_i, Option.some.injEq, exists_eq_left', Nat.reduceEqDiff, ↓reduceIte, Bool.false_eq_true, x_mx3, g0, g1, d1, en, mx3_i, em, and_self, bz]
  · have d1 : decide (y ≠ 0) = true := decide_eq_true h0
    have d2 : decide (y = 0) = false := decide_eq_false h0
    simp (disch := omega) only [f73_r1, f73_r2, stay_mv, stay_bin, Nat.reduceEqDiff, ↓reduceIte, g0, g1, d1, bz]
    have hm : (x.tmod y).natAbs < y.natAbs := by rw [Int.natAbs_tmod]; exact Nat.mod_lt _ (by omega)
    exact ⟨(y, x.tmod y), hm, gcd_step.trans hg, hy, by show (x.tmod y).natAbs ≤ M63; omega, rfl, by simp (disch := omega) only [getK_set, Nat.reduceEqDiff, ↓reduceIte, and_self]⟩
theorem f73_eq (k : fs.get (.ofNat 73) = some f73) (ha : a.natAbs ≤ M63) (hb : b.natAbs ≤ M63) (h0 : a ≠ 0 ∨ b ≠ 0) {P : V → H → Prop} : CallP fs (.fn (.ofNat 73) []) [.i .i64 a, .i .i64 b] h P = P (.i .i64 (Int.gcd a b : Int)) h := by
  rw [callP_eq2 (callP_0 k rfl (f73_ret ha hb))]
  have : Int.gcd a b ≠ 0 := fun e => by
    have := Int.gcd_eq_zero_iff.1 e
    omega
  rw [show max ((Int.gcd a b : Nat) : Int) 1 = ((Int.gcd a b : Nat) : Int) by omega]
theorem tdiv63 {a c : Int} (ha : a.natAbs ≤ M63) : fw .i64 (a.tdiv c) = a.tdiv c := by
  have : (a.tdiv c).natAbs ≤ a.natAbs := by rw [Int.natAbs_tdiv]; exact Nat.div_le_self _ _
  unfold M63 at ha
  exact fw64 (by omega) (by omega)
theorem store2 {id : K} {c1 c2 x y : V} (hb : h.get id = .cells 2 [c1, c2]) : storeV h 2 (.p id 0) (.agg [x, y]) = .ok undefV (h.put id (.cells 2 [x, y])) := by
  rw [store_p (m := 2) (cs := [c1, c2]) (xs := [x, y]) hb rfl (by omega)]; rfl
theorem read2 {id : K} {x y : V} (hb : h.get id = .cells 2 [x, y]) : readP h (.p id 0) (many? 2) = some (.agg [x, y]) := by
  show (h.get id).onC none (fun n cs => many? 2 cs n 0) = _
  rw [hb]; rfl
theorem f89_ret (k104 : fs.get (.ofNat 104) = some f104) (ha : a.natAbs ≤ M63) (hb : b.natAbs ≤ M63) (h0 : 0 < b) : Ret fs f89 [.i .i64 a, .i .i64 b] h fun r h' => r = .agg (frL (Rat.divInt a b)) ∧ Grow h.nx.nat h h' := by
  apply ret_of rfl
  show W fs none f89_c _ _ _
  unfold f89_c
  have gA := Grow.new (Nat.le_refl h.nx.nat) (.cells 2 [.i .i64 0, .i .i64 0])
  have a1 : (h.new (.cells 2 [.i .i64 0, .i .i64 0])).get h.nx = .cells 2 [.i .i64 0, .i .i64 0] := get_new_same
  have n1 := nx_new h (.cells 2 [.i .i64 0, .i .i64 0])
  have e1 := fun h P => f104_eq (h := h) (P := P) k104 ha hb
  have hg : Int.gcd a b ≠ 0 := fun e => by have := (Int.gcd_eq_zero_iff.1 e).2; omega
  have hr := fr_div (a := a) (b := b) (by omega)
  rw [if_neg (by omega)] at hr
  have hst := fun x y => store2 (x := x) (y := y) a1
  have d2 : decide ((Int.gcd a b : Int) = 0) = false := decide_eq_false (by omega)
  have q1 := tdiv63 (c := (Int.gcd a b : Int)) ha
  have q2 := tdiv63 (c := (Int.gcd a b : Int)) hb
  have rd := read2 (h := (h.new (.cells 2 [.i .i64 0, .i .i64 0])).put h.nx (.cells 2 [.i .i64 (a.tdiv (Int.gcd a b : Int)), .i .i64 (b.tdiv (Int.gcd a b : Int))])) (id := h.nx) get_put_same
  simp (disch := omega) only [f89_r0, f89_r1, f89_r2, f89_rs, xg_build, Option.some.injEq, exists_eq_left', Nat.reduceEqDiff, ↓reduceIte, e1, q1, q2, hst, rd, bz]
  exact ⟨by unfold frL; rw [hr.1, hr.2], gA.trans (Grow.put (Nat.le_refl _) (by omega) _)⟩
theorem fw_63 {x : Int} (hx : x.natAbs ≤ M63) : fw .i64 x = x := by
  unfold M63 at hx
  exact fw64 (by omega) (by omega)
theorem cell2_agg {x y : V} : cellsN 2 (.agg [x, y]) = some [x, y] := of_eq_true (eq_self _)
theorem f54_ret (k73 : fs.get (.ofNat 73) = some f73) (ha : a.natAbs ≤ M63) (hb : b.natAbs ≤ M63) (h0 : 0 < b) : Ret fs f54 [.i .i64 a, .i .i64 b] h fun r h' => r = .agg (frL (Rat.divInt a b)) ∧ Grow h.nx.nat h h' := by
  apply ret_of rfl
  show W fs none f54_c _ _ _
  unfold f54_c
  have gA := Grow.new (Nat.le_refl h.nx.nat) (.cells 2 [.i .i64 0, .i .i64 0])
  have a1 : (h.new (.cells 2 [.i .i64 0, .i .i64 0])).get h.nx = .cells 2 [.i .i64 0, .i .i64 0] := get_new_same
  have n1 := nx_new h (.cells 2 [.i .i64 0, .i .i64 0])
  have e1 := fun h P => f73_eq (h := h) (P := P) k73 ha hb (.inr (by omega))
  have hg : Int.gcd a b ≠ 0 := fun e => by have := (Int.gcd_eq_zero_iff.1 e).2; omega
  have hr := fr_div (a := a) (b := b) (by omega)
  rw [if_neg (by omega)] at hr
  have hst := fun x y => store2 (x := x) (y := y) a1
  have d2 : decide ((Int.gcd a b : Int) = 0) = false := decide_eq_false (by omega)
  have q1 := tdiv63 (c := (Int.gcd a b : Int)) ha
  have q2 := tdiv63 (c := (Int.gcd a b : Int)) hb
  have rd := read2 (h := (h.new (.cells 2 [.i .i64 0, .i .i64 0])).put h.nx (.cells 2 [.i .i64 (a.tdiv (Int.gcd a b : Int)), .i .i64 (b.tdiv (Int.gcd a b : Int))])) (id := h.nx) get_put_same
  simp (disch := omega) only [f54_r0, f54_r1, f54_r2, f54_rs, xg_build, Option.some.injEq, exists_eq_left', Nat.reduceEqDiff, ↓reduceIte, e1, q1, q2, hst, rd, bz]
  exact ⟨by unfold frL; rw [hr.1, hr.2], gA.trans (Grow.put (Nat.le_refl _) (by omega) _)⟩
theorem tdv {x g : Int} (hx : x.natAbs ≤ M63) (hg : g ∣ x) : fw .i64 (x.tdiv g) = x / g := by rw [tdiv63 hx, Int.tdiv_eq_ediv_of_dvd hg]
theorem gN {a b : Int} (h : b ≠ 0) : ((Int.gcd a b : Nat) : Int) ≠ 0 := fun e => h (Int.gcd_eq_zero_iff.1 (Int.natCast_eq_zero.1 e)).2
theorem ed_pos {x g : Int} (hx : 0 < x) (hg : 0 ≤ g) (hd : g ∣ x) : 0 < x / g := by
  obtain ⟨c, rfl⟩ := hd
  have hg0 : g ≠ 0 := fun e => by rw [e, Int.zero_mul] at hx; omega
  rw [Int.mul_ediv_cancel_left _ hg0]
  rcases Int.lt_trichotomy c 0 with h | h | h
  · have := Int.mul_nonpos_of_nonneg_of_nonpos hg (Int.le_of_lt h); omega
  · rw [h, Int.mul_zero] at hx; omega
  · exact h
theorem den_pos {q : Rat} : (0 : Int) < (q.den : Int) := by have := q.den_nz; omega
theorem f75_ret (k54 : fs.get (.ofNat 54) = some f54) (k73 : fs.get (.ofNat 73) = some f73) (hp1 : p.num.natAbs ≤ M63) (hp2 : (p.den : Int).natAbs ≤ M63) (hq1 : q.num.natAbs ≤ M63) (hq2 : (q.den : Int).natAbs ≤ M63) (hb1 : (p.num / (Int.gcd p.num (q.den : Int) : Int) * (q.num / (Int.gcd q.num (p.den : Int) : Int))).natAbs ≤ M63) (hb2 : ((p.den : Int) / (Int.gcd q.num (p.den : Int) : Int) * ((q.den : Int) / (Int.gcd p.num (q.den : Int) : Int))).natAbs ≤ M63) : Ret fs f75 [.agg (frL p), .agg (frL q)] h fun r h' => r = .agg (frL (p * q)) ∧ Grow h.nx.nat h h' := by
  apply ret_of rfl
  show W fs none f75_c _ _ _
  unfold f75_c frL
  have gA := Grow.new (Nat.le_refl h.nx.nat) (.cells 2 [.i .i64 p.num, .i .i64 (p.den : Int)])
  have n1 := nx_new h (.cells 2 [.i .i64 p.num, .i .i64 (p.den : Int)])
  have b1 : (h.new (.cells 2 [.i .i64 p.num, .i .i64 (p.den : Int)])).get h.nx = .cells 2 [.i .i64 p.num, .i .i64 (p.den : Int)] := get_new_same
  simp (disch := omega) only [f75_r0, Nat.reduceEqDiff, ↓reduceIte, bz]
  generalize h.new (.cells 2 [.i .i64 p.num, .i .i64 (p.den : Int)]) = hA at *
  have gB := Grow.new (Nat.le_refl hA.nx.nat) (.cells 2 [.i .i64 q.num, .i .i64 (q.den : Int)])
  have n2 := nx_new hA (.cells 2 [.i .i64 q.num, .i .i64 (q.den : Int)])
  have c1 : (hA.new (.cells 2 [.i .i64 q.num, .i .i64 (q.den : Int)])).get h.nx = .cells 2 [.i .i64 p.num, .i .i64 (p.den : Int)] := (get_new_old (by omega)).trans b1
  have c2 : (hA.new (.cells 2 [.i .i64 q.num, .i .i64 (q.den : Int)])).get hA.nx = .cells 2 [.i .i64 q.num, .i .i64 (q.den : Int)] := get_new_same
  have hB2 : hA.nx.nat < (hA.new (.cells 2 [.i .i64 q.num, .i .i64 (q.den : Int)])).nx.nat := by omega
  have GB := gA.trans (gB.low gA.nx)
  generalize hA.nx = i2 at *
  generalize hA.new (.cells 2 [.i .i64 q.num, .i .i64 (q.den : Int)]) = hB at *
  have gC := Grow.new (Nat.le_refl hB.nx.nat) (.cells 2 [.i .i64 0, .i .i64 0])
  have n3 := nx_new hB (.cells 2 [.i .i64 0, .i .i64 0])
  have d1 : (hB.new (.cells 2 [.i .i64 0, .i .i64 0])).get h.nx = .cells 2 [.i .i64 p.num, .i .i64 (p.den : Int)] := (get_new_old (by omega)).trans c1
  have d2 : (hB.new (.cells 2 [.i .i64 0, .i .i64 0])).get i2 = .cells 2 [.i .i64 q.num, .i .i64 (q.den : Int)] := (get_new_old (by omega)).trans c2
  have d3 : (hB.new (.cells 2 [.i .i64 0, .i .i64 0])).get hB.nx = .cells 2 [.i .i64 0, .i .i64 0] := get_new_same
  have GC := GB.trans (gC.low GB.nx)
  generalize hB.nx = i3 at *
  generalize hB.new (.cells 2 [.i .i64 0, .i .i64 0]) = hC at *
  have l1 : loadV hC (.p h.nx 0) one? = .ok (.i .i64 p.num) hC := load_p d1 rfl
  have l2 : loadV hC (.p h.nx 1) one? = .ok (.i .i64 (p.den : Int)) hC := load_p d1 rfl
  have l3 : loadV hC (.p i2 0) one? = .ok (.i .i64 q.num) hC := load_p d2 rfl
  have l4 : loadV hC (.p i2 1) one? = .ok (.i .i64 (q.den : Int)) hC := load_p d2 rfl
  have hw2 : 0 < (p.den : Int) / (Int.gcd q.num (p.den : Int) : Int) * ((q.den : Int) / (Int.gcd p.num (q.den : Int) : Int)) := Int.mul_pos (ed_pos den_pos (by omega) gR) (ed_pos den_pos (by omega) gR)
  have e1 := fun h P => f73_eq (h := h) (P := P) k73 hp1 hq2 (.inr rat_den)
  have e2 := fun h P => f73_eq (h := h) (P := P) k73 hq1 hp2 (.inr rat_den)
  have z1 : ((Int.gcd p.num (q.den : Int) : Nat) : Int) ≠ 0 := gN rat_den
  have z2 : ((Int.gcd q.num (p.den : Int) : Nat) : Int) ≠ 0 := gN rat_den
  have t1 := tdv hp1 (gL (a := p.num) (b := (q.den : Int)))
  have t2 := tdv hq1 (gL (a := q.num) (b := (p.den : Int)))
  have t3 := tdv hp2 (gR (a := q.num) (b := (p.den : Int)))
  have t4 := tdv hq2 (gR (a := p.num) (b := (q.den : Int)))
  have m1 := fw_63 hb1
  have m2 := fw_63 hb2
  simp (disch := omega) only [f75_r1, f75_r2, xg_iadr, stay_ld, beq_p, Nat.reduceEqDiff, ↓reduceIte, stay_iadr, l1, l2, l3, l4, e1, e2, t1, t2, t3, t4, m1, m2, bz]
  refine (callP_0 (ef := f54) k54 rfl (f54_ret k73 hb1 hb2 hw2)).mono ?_
  rintro r h' ⟨rfl, g⟩
  have st := store2 (h := h') (id := i3) (x := .i .i64 (Rat.divInt (p.num / (Int.gcd p.num (q.den : Int) : Int) * (q.num / (Int.gcd q.num (p.den : Int) : Int))) ((p.den : Int) / (Int.gcd q.num (p.den : Int) : Int) * ((q.den : Int) / (Int.gcd p.num (q.den : Int) : Int)))).num) (y := .i .i64 ((Rat.divInt (p.num / (Int.gcd p.num (q.den : Int) : Int) * (q.num / (Int.gcd q.num (p.den : Int) : Int))) ((p.den : Int) / (Int.gcd q.num (p.den : Int) : Int) * ((q.den : Int) / (Int.gcd p.num (q.den : Int) : Int)))).den : Int)) ((g.old _ (by omega)).trans d3)
  have rd := read2 (h := h'.put i3 (.cells 2 [.i .i64 (Rat.divInt (p.num / (Int.gcd p.num (q.den : Int) : Int) * (q.num / (Int.gcd q.num (p.den : Int) : Int))) ((p.den : Int) / (Int.gcd q.num (p.den : Int) : Int) * ((q.den : Int) / (Int.gcd p.num (q.den : Int) : Int)))).num, .i .i64 ((Rat.divInt (p.num / (Int.gcd p.num (q.den : Int) : Int) * (q.num / (Int.gcd q.num (p.den : Int) : Int))) ((p.den : Int) / (Int.gcd q.num (p.den : Int) : Int) * ((q.den : Int) / (Int.gcd p.num (q.den : Int) : Int)))).den : Int)])) (id := i3) get_put_same
  have := g.nx
  unfold frL
  simp (disch := omega) only [f75_rs, Option.some.injEq, exists_eq_left', Nat.reduceEqDiff, ↓reduceIte, st, rd, bz]
  exact ⟨by rw [rat_mul' (gN rat_den) (gN rat_den) gL gR gL gR], (GC.trans (g.low (by omega))).trans (Grow.put (by omega) (by omega) _)⟩
theorem f74_ret (k54 : fs.get (.ofNat 54) = some f54) (k73 : fs.get (.ofNat 73) = some f73) (hp2 : (p.den : Int).natAbs ≤ M63) (hq2 : (q.den : Int).natAbs ≤ M63) (hb1 : (p.num * ((q.den : Int) / (Int.gcd (p.den : Int) (q.den : Int) : Int)) + q.num * ((p.den : Int) / (Int.gcd (p.den : Int) (q.den : Int) : Int))).natAbs ≤ M63) (hb2 : ((p.den : Int) / (Int.gcd (p.den : Int) (q.den : Int) : Int) * (q.den : Int)).natAbs ≤ M63) (hb3 : (p.num * ((q.den : Int) / (Int.gcd (p.den : Int) (q.den : Int) : Int))).natAbs ≤ M63) (hb4 : (q.num * ((p.den : Int) / (Int.gcd (p.den : Int) (q.den : Int) : Int))).natAbs ≤ M63) : Ret fs f74 [.agg (frL p), .agg (frL q)] h fun r h' => r = .agg (frL (p + q)) ∧ Grow h.nx.nat h h' := by
  apply ret_of rfl
  show W fs none f74_c _ _ _
  unfold f74_c frL
  have gA := Grow.new (Nat.le_refl h.nx.nat) (.cells 2 [.i .i64 p.num, .i .i64 (p.den : Int)])
  have n1 := nx_new h (.cells 2 [.i .i64 p.num, .i .i64 (p.den : Int)])
  have b1 : (h.new (.cells 2 [.i .i64 p.num, .i .i64 (p.den : Int)])).get h.nx = .cells 2 [.i .i64 p.num, .i .i64 (p.den : Int)] := get_new_same
  simp (disch := omega) only [f74_r0, Nat.reduceEqDiff, ↓reduceIte, bz]
  generalize h.new (.cells 2 [.i .i64 p.num, .i .i64 (p.den : Int)]) = hA at *
  have gB := Grow.new (Nat.le_refl hA.nx.nat) (.cells 2 [.i .i64 q.num, .i .i64 (q.den : Int)])
  have n2 := nx_new hA (.cells 2 [.i .i64 q.num, .i .i64 (q.den : Int)])
  have c1 : (hA.new (.cells 2 [.i .i64 q.num, .i .i64 (q.den : Int)])).get h.nx = .cells 2 [.i .i64 p.num, .i .i64 (p.den : Int)] := (get_new_old (by omega)).trans b1
  have c2 : (hA.new (.cells 2 [.i .i64 q.num, .i .i64 (q.den : Int)])).get hA.nx = .cells 2 [.i .i64 q.num, .i .i64 (q.den : Int)] := get_new_same
  have hB2 : hA.nx.nat < (hA.new (.cells 2 [.i .i64 q.num, .i .i64 (q.den : Int)])).nx.nat := by omega
  have GB := gA.trans (gB.low gA.nx)
  generalize hA.nx = i2 at *
  generalize hA.new (.cells 2 [.i .i64 q.num, .i .i64 (q.den : Int)]) = hB at *
  have gC := Grow.new (Nat.le_refl hB.nx.nat) (.cells 2 [.i .i64 0, .i .i64 0])
  have n3 := nx_new hB (.cells 2 [.i .i64 0, .i .i64 0])
  have d1 : (hB.new (.cells 2 [.i .i64 0, .i .i64 0])).get h.nx = .cells 2 [.i .i64 p.num, .i .i64 (p.den : Int)] := (get_new_old (by omega)).trans c1
  have d2 : (hB.new (.cells 2 [.i .i64 0, .i .i64 0])).get i2 = .cells 2 [.i .i64 q.num, .i .i64 (q.den : Int)] := (get_new_old (by omega)).trans c2
  have d3 : (hB.new (.cells 2 [.i .i64 0, .i .i64 0])).get hB.nx = .cells 2 [.i .i64 0, .i .i64 0] := get_new_same
  have GC := GB.trans (gC.low GB.nx)
  generalize hB.nx = i3 at *
  generalize hB.new (.cells 2 [.i .i64 0, .i .i64 0]) = hC at *
  have l1 : loadV hC (.p h.nx 0) one? = .ok (.i .i64 p.num) hC := load_p d1 rfl
  have l2 : loadV hC (.p h.nx 1) one? = .ok (.i .i64 (p.den : Int)) hC := load_p d1 rfl
  have l3 : loadV hC (.p i2 0) one? = .ok (.i .i64 q.num) hC := load_p d2 rfl
  have l4 : loadV hC (.p i2 1) one? = .ok (.i .i64 (q.den : Int)) hC := load_p d2 rfl
  have hw2 : 0 < (p.den : Int) / (Int.gcd (p.den : Int) (q.den : Int) : Int) * (q.den : Int) := Int.mul_pos (ed_pos den_pos (by omega) gL) den_pos
  have e1 := fun h P => f73_eq (h := h) (P := P) k73 hp2 hq2 (.inr rat_den)
  have z1 : ((Int.gcd (p.den : Int) (q.den : Int) : Nat) : Int) ≠ 0 := gN rat_den
  have t1 := tdv hp2 (gL (a := (p.den : Int)) (b := (q.den : Int)))
  have t2 := tdv hq2 (gR (a := (p.den : Int)) (b := (q.den : Int)))
  have m1 := fw_63 hb1
  have m2 := fw_63 hb2
  have m3 := fw_63 hb3
  have m4 := fw_63 hb4
  simp (disch := omega) only [f74_r1, f74_r2, xg_iadr, Nat.reduceEqDiff, ↓reduceIte, l1, l2, l3, l4, e1, t1, t2, m1, m2, m3, m4, bz]
  refine (callP_0 (ef := f54) k54 rfl (f54_ret k73 hb1 hb2 hw2)).mono ?_
  rintro r h' ⟨rfl, g⟩
  have st := store2 (h := h') (id := i3) (x := .i .i64 (Rat.divInt (p.num * ((q.den : Int) / (Int.gcd (p.den : Int) (q.den : Int) : Int)) + q.num * ((p.den : Int) / (Int.gcd (p.den : Int) (q.den : Int) : Int))) ((p.den : Int) / (Int.gcd (p.den : Int) (q.den : Int) : Int) * (q.den : Int))).num) (y := .i .i64 ((Rat.divInt (p.num * ((q.den : Int) / (Int.gcd (p.den : Int) (q.den : Int) : Int)) + q.num * ((p.den : Int) / (Int.gcd (p.den : Int) (q.den : Int) : Int))) ((p.den : Int) / (Int.gcd (p.den : Int) (q.den : Int) : Int) * (q.den : Int))).den : Int)) ((g.old _ (by omega)).trans d3)
  have rd := read2 (h := h'.put i3 (.cells 2 [.i .i64 (Rat.divInt (p.num * ((q.den : Int) / (Int.gcd (p.den : Int) (q.den : Int) : Int)) + q.num * ((p.den : Int) / (Int.gcd (p.den : Int) (q.den : Int) : Int))) ((p.den : Int) / (Int.gcd (p.den : Int) (q.den : Int) : Int) * (q.den : Int))).num, .i .i64 ((Rat.divInt (p.num * ((q.den : Int) / (Int.gcd (p.den : Int) (q.den : Int) : Int)) + q.num * ((p.den : Int) / (Int.gcd (p.den : Int) (q.den : Int) : Int))) ((p.den : Int) / (Int.gcd (p.den : Int) (q.den : Int) : Int) * (q.den : Int))).den : Int)])) (id := i3) get_put_same
  have := g.nx
  unfold frL
  simp (disch := omega) only [f74_rs, Option.some.injEq, exists_eq_left', Nat.reduceEqDiff, ↓reduceIte, st, rd, bz]
  exact ⟨by rw [rat_add' (gN rat_den) gL gR], (GC.trans (g.low (by omega))).trans (Grow.put (by omega) (by omega) _)⟩
end
end Go.Ev
namespace Go.Ev
open Go Go.RowKit
noncomputable def f32_r0 : List EOper := [oG 2 (.as (.c (.b false)))]
noncomputable def f32_r1 : List EOper := [oG 3 (.as (cG 0))]
noncomputable def f32_r2 : List EOper := [oG 4 (.mv (tG 3)), oG 5 (.mv (tG 0)), oG 6 (.len (tG 5)), oG 7 (.bin .lss (tG 4) (tG 6))]
noncomputable def f32_r3 : List EOper := [oG 10 (.mv (tG 0)), oG 11 (.mv (tG 3)), oG 12 (.iads 1 (tG 10) (tG 11)), oG 13 (.ld (tG 12)), oG 14 (.bin .lss (tG 13) (.c (.i .i64 (.negSucc 99)))), oG 15 (.mv (tG 14)), gG 16 15 false (.mv (tG 0)), gG 17 15 false (.mv (tG 3)), gG 18 15 false (.iads 1 (tG 16) (tG 17)), gG 19 15 false (.ld (tG 18)), gG 20 15 false (.bin .gtr (tG 19) (cG 100)), oG 21 (.pick (tG 15) (.c (.b true)) (tG 20))]
noncomputable def f32_r4 : List EOper := [oG 2 (.as (.c (.b false)))]
noncomputable def f32_r5 : List EOper := [oG 8 (.mv (tG 3)), oG 9 (.bin .add (tG 8) (cG 1)), oG 3 (.as (tG 9))]
noncomputable def f32_l0 : EC := (.seq (.seq (.reg f32_r2) (.cond (tG 7) .skip (.exit 0))) (.seq (.block 1 (.seq (.reg f32_r3) (.cond (tG 21) (.seq (.reg f32_r4) .ret) .skip))) (.reg f32_r5)))
noncomputable def f32_r6 : List EOper := [oG 2 (.as (.c (.b true)))]
noncomputable def f32_c : EC := (.seq (.reg f32_r0) (.seq (.seq (.reg f32_r1) (.block 0 (.loop f32_l0))) (.seq (.reg f32_r6) .ret)))
noncomputable def f32 : EF := ⟨22, [.tmp (.ofNat 2)], f32_c, none⟩
theorem f32_rs : f32.rs = [.tmp (.ofNat 2)] := of_eq_true (eq_self _)
noncomputable def f87_r0 : List EOper := [oG 2 (.as (cG 0))]
noncomputable def f87_r1 : List EOper := [oG 5 (.mv (tG 0)), oG 6 (.len (tG 5)), oG 7 (.bin .lss (tG 6) (cG 1))]
noncomputable def f87_r2 : List EOper := [⟨none, none, .no⟩, ⟨none, none, .no⟩]
noncomputable def f87_r3 : List EOper := [oG 9 (.mv (tG 0)), oG 10 (.iads 1 (tG 9) (cG 0)), oG 11 (.ld (tG 10)), oG 3 (.as (tG 11))]
noncomputable def f87_r4 : List EOper := [oG 4 (.as (cG 1))]
noncomputable def f87_r5 : List EOper := [oG 12 (.mv (tG 4)), oG 13 (.mv (tG 0)), oG 14 (.len (tG 13)), oG 15 (.bin .lss (tG 12) (tG 14))]
noncomputable def f87_r6 : List EOper := [oG 18 (.mv (tG 3)), oG 19 (.mv (tG 0)), oG 20 (.mv (tG 4)), oG 21 (.iads 1 (tG 19) (tG 20)), oG 22 (.ld (tG 21)), oG 23 (.min (tG 18) (tG 22)), oG 3 (.as (tG 23))]
noncomputable def f87_r7 : List EOper := [oG 16 (.mv (tG 4)), oG 17 (.bin .add (tG 16) (cG 1)), oG 4 (.as (tG 17))]
noncomputable def f87_l0 : EC := (.seq (.seq (.reg f87_r5) (.cond (tG 15) .skip (.exit 0))) (.seq (.block 1 (.reg f87_r6)) (.reg f87_r7)))
noncomputable def f87_r8 : List EOper := [oG 24 (.mv (tG 3)), oG 2 (.as (tG 24))]
noncomputable def f87_c : EC := (.seq (.reg f87_r0) (.seq (.seq (.reg f87_r1) (.cond (tG 7) (.reg f87_r2) .skip)) (.seq (.reg f87_r3) (.seq (.seq (.reg f87_r4) (.block 0 (.loop f87_l0))) (.seq (.reg f87_r8) .ret)))))
noncomputable def f87 : EF := ⟨25, [.tmp (.ofNat 2)], f87_c, none⟩
theorem f87_rs : f87.rs = [.tmp (.ofNat 2)] := of_eq_true (eq_self _)
noncomputable def f88_r0 : List EOper := [oG 2 (.as (cG 0))]
noncomputable def f88_r1 : List EOper := [oG 5 (.mv (tG 0)), oG 6 (.len (tG 5)), oG 7 (.bin .lss (tG 6) (cG 1))]
noncomputable def f88_r2 : List EOper := [⟨none, none, .no⟩, ⟨none, none, .no⟩]
noncomputable def f88_r3 : List EOper := [oG 9 (.mv (tG 0)), oG 10 (.iads 1 (tG 9) (cG 0)), oG 11 (.ld (tG 10)), oG 3 (.as (tG 11))]
noncomputable def f88_r4 : List EOper := [oG 4 (.as (cG 1))]
noncomputable def f88_r5 : List EOper := [oG 12 (.mv (tG 4)), oG 13 (.mv (tG 0)), oG 14 (.len (tG 13)), oG 15 (.bin .lss (tG 12) (tG 14))]
noncomputable def f88_r6 : List EOper := [oG 18 (.mv (tG 3)), oG 19 (.mv (tG 0)), oG 20 (.mv (tG 4)), oG 21 (.iads 1 (tG 19) (tG 20)), oG 22 (.ld (tG 21)), oG 23 (.max (tG 18) (tG 22)), oG 3 (.as (tG 23))]
noncomputable def f88_r7 : List EOper := [oG 16 (.mv (tG 4)), oG 17 (.bin .add (tG 16) (cG 1)), oG 4 (.as (tG 17))]
noncomputable def f88_l0 : EC := (.seq (.seq (.reg f88_r5) (.cond (tG 15) .skip (.exit 0))) (.seq (.block 1 (.reg f88_r6)) (.reg f88_r7)))
noncomputable def f88_r8 : List EOper := [oG 24 (.mv (tG 3)), oG 2 (.as (tG 24))]
noncomputable def f88_c : EC := (.seq (.reg f88_r0) (.seq (.seq (.reg f88_r1) (.cond (tG 7) (.reg f88_r2) .skip)) (.seq (.reg f88_r3) (.seq (.seq (.reg f88_r4) (.block 0 (.loop f88_l0))) (.seq (.reg f88_r8) .ret)))))
noncomputable def f88 : EF := ⟨25, [.tmp (.ofNat 2)], f88_c, none⟩
theorem f88_rs : f88.rs = [.tmp (.ofNat 2)] := of_eq_true (eq_self _)
noncomputable def f56_r0 : List EOper := [oG 2 (.as (.c (.b false)))]
noncomputable def f56_r1 : List EOper := [oG 3 (.mv (tG 0)), oG 4 (.len (tG 3)), oG 5 (.bin .lss (tG 4) (cG 1)), oG 6 (.mv (tG 5)), gG 7 6 false (.mv (tG 0)), gG 8 6 false (.len (tG 7)), gG 9 6 false (.bin .gtr (tG 8) (cG 7)), oG 10 (.pick (tG 6) (.c (.b true)) (tG 9))]
noncomputable def f56_r2 : List EOper := [oG 2 (.as (.c (.b false)))]
noncomputable def f56_r3 : List EOper := [oG 11 (.mv (tG 0)), oG 12 (.call (fG 87) [(tG 11)]), oG 13 (.bin .geq (tG 12) (.c (.i .i64 (.negSucc 99)))), oG 14 (.mv (tG 13)), gG 15 14 true (.mv (tG 0)), gG 16 14 true (.call (fG 88) [(tG 15)]), gG 17 14 true (.bin .leq (tG 16) (cG 100)), oG 18 (.pick (tG 14) (tG 17) (.c (.b false))), oG 2 (.as (tG 18))]
noncomputable def f56_c : EC := (.seq (.reg f56_r0) (.seq (.seq (.reg f56_r1) (.cond (tG 10) (.seq (.reg f56_r2) .ret) .skip)) (.seq (.reg f56_r3) .ret)))
noncomputable def f56 : EF := ⟨19, [.tmp (.ofNat 2)], f56_c, none⟩
theorem f56_rs : f56.rs = [.tmp (.ofNat 2)] := of_eq_true (eq_self _)
noncomputable def f14_r0 : List EOper := [oG 2 (.as (cG 0))]
noncomputable def f14_r1 : List EOper := [oG 3 (.mv (tG 0)), oG 4 (.call (fG 56) [(tG 3)]), oG 5 (.not (tG 4))]
noncomputable def f14_r2 : List EOper := [oG 2 (.as (cG 80))]
noncomputable def f14_r3 : List EOper := [oG 2 (.as (cG 0))]
noncomputable def f14_c : EC := (.seq (.reg f14_r0) (.seq (.seq (.reg f14_r1) (.cond (tG 5) (.seq (.reg f14_r2) .ret) .skip)) (.seq (.reg f14_r3) .ret)))
noncomputable def f14 : EF := ⟨6, [.tmp (.ofNat 2)], f14_c, none⟩
theorem f14_rs : f14.rs = [.tmp (.ofNat 2)] := of_eq_true (eq_self _)
noncomputable def f33_r0 : List EOper := [oG 4 (.as (.c (.b false)))]
noncomputable def f33_r1 : List EOper := [oG 6 (.mv (tG 0)), oG 7 (.len (tG 6)), oG 8 (.mv (tG 1)), oG 9 (.len (tG 8)), oG 10 (.bin .neq (tG 7) (tG 9))]
noncomputable def f33_r2 : List EOper := [oG 4 (.as (.c (.b false)))]
noncomputable def f33_r3 : List EOper := [oG 5 (.as (cG 0))]
noncomputable def f33_r4 : List EOper := [oG 11 (.mv (tG 5)), oG 12 (.mv (tG 0)), oG 13 (.len (tG 12)), oG 14 (.bin .lss (tG 11) (tG 13))]
noncomputable def f33_r5 : List Stage := [⟨[oG 17 (.mv (tG 0)), oG 18 (.mv (tG 5)), oG 19 (.iads 1 (tG 17) (tG 18)), oG 20 (.ld (tG 19)), oG 21 (.mv (tG 1)), oG 22 (.mv (tG 5)), oG 23 (.iads 1 (tG 21) (tG 22)), oG 24 (.ld (tG 23)), oG 25 (.bin .neq (tG 20) (tG 24))], [], none, []⟩]
noncomputable def f33_r6 : List EOper := [oG 4 (.as (.c (.b false)))]
noncomputable def f33_r7 : List EOper := [oG 15 (.mv (tG 5)), oG 16 (.bin .add (tG 15) (cG 1)), oG 5 (.as (tG 16))]
noncomputable def f33_l0 : EC := (.seq (.seq (.reg f33_r4) (.cond (tG 14) .skip (.exit 0))) (.seq (.block 1 (.seq (.draw f33_r5) (.cond (tG 25) (.seq (.reg f33_r6) .ret) .skip))) (.reg f33_r7)))
noncomputable def f33_r8 : List EOper := [oG 4 (.as (.c (.b true)))]
noncomputable def f33_c : EC := (.seq (.reg f33_r0) (.seq (.seq (.reg f33_r1) (.cond (tG 10) (.seq (.reg f33_r2) .ret) .skip)) (.seq (.seq (.reg f33_r3) (.block 0 (.loop f33_l0))) (.seq (.reg f33_r8) .ret))))
noncomputable def f33 : EF := ⟨26, [.tmp (.ofNat 4)], f33_c, none⟩
theorem f33_rs : f33.rs = [.tmp (.ofNat 4)] := of_eq_true (eq_self _)
noncomputable def f26_r0 : List EOper := [oG 2 (.as (.c .sn))]
noncomputable def f26_r1 : List EOper := [oG 5 (.bslice 0 1 [] []), oG 3 (.as (tG 5))]
noncomputable def f26_r2 : List EOper := [oG 4 (.as (cG 0))]
noncomputable def f26_r3 : List EOper := [oG 6 (.mv (tG 4)), oG 7 (.mv (tG 0)), oG 8 (.len (tG 7)), oG 9 (.bin .lss (tG 6) (tG 8)), oG 10 (.mv (tG 9)), gG 11 10 true (.mv (tG 4)), gG 12 10 true (.bin .lss (tG 11) (cG 7)), oG 13 (.pick (tG 10) (tG 12) (.c (.b false)))]
noncomputable def f26_r4 : List EOper := [oG 16 (.mv (tG 3)), oG 17 (.mv (tG 0)), oG 18 (.mv (tG 4)), oG 19 (.iads 1 (tG 17) (tG 18)), oG 20 (.ld (tG 19)), oG 21 (.conv .u64 (tG 20)), oG 22 (.bin .rem (tG 21) (.c (.i .u64 (.ofNat 201)))), oG 23 (.conv .i64 (tG 22)), oG 24 (.bin .sub (tG 23) (cG 100)), oG 25 (.bslice 1 1 [(.i .i64 (.ofNat 0))] [(0, 1, (tG 24))]), oG 26 (.app 1 (tG 16) (tG 25)), oG 3 (.as (tG 26))]
noncomputable def f26_r5 : List EOper := [oG 14 (.mv (tG 4)), oG 15 (.bin .add (tG 14) (cG 1)), oG 4 (.as (tG 15))]
noncomputable def f26_l0 : EC := (.seq (.seq (.reg f26_r3) (.cond (tG 13) .skip (.exit 0))) (.seq (.block 1 (.reg f26_r4)) (.reg f26_r5)))
noncomputable def f26_r6 : List EOper := [oG 27 (.mv (tG 3)), oG 28 (.len (tG 27)), oG 29 (.bin .eql (tG 28) (cG 0))]
noncomputable def f26_r7 : List EOper := [oG 30 (.mv (tG 3)), oG 31 (.bslice 1 1 [(.i .i64 (.ofNat 0))] [(0, 1, (cG 1))]), oG 32 (.app 1 (tG 30) (tG 31)), oG 3 (.as (tG 32))]
noncomputable def f26_r8 : List EOper := [oG 33 (.mv (tG 3)), oG 2 (.as (tG 33))]
noncomputable def f26_c : EC := (.seq (.reg f26_r0) (.seq (.reg f26_r1) (.seq (.seq (.reg f26_r2) (.block 0 (.loop f26_l0))) (.seq (.seq (.reg f26_r6) (.cond (tG 29) (.reg f26_r7) .skip)) (.seq (.reg f26_r8) .ret)))))
noncomputable def f26 : EF := ⟨34, [.tmp (.ofNat 2)], f26_c, none⟩
theorem f26_rs : f26.rs = [.tmp (.ofNat 2)] := of_eq_true (eq_self _)
theorem ng99 : Int.negSucc 99 = -100 := of_eq_true (eq_self _)
theorem of80 : Int.ofNat 80 = 80 := of_eq_true (eq_self _)
theorem of201 : Int.ofNat 201 = 201 := of_eq_true (eq_self _)
def bigB (x : Int) : Bool := decide (x < -100) || decide (x > 100)
def smB (L : List Int) : Bool := !L.any bigB
def plB (L : List Int) : Bool := decide (1 ≤ L.length) && (decide (L.length ≤ 7) && smB L)
theorem any_take {p : Int → Bool} {L : List Int} {j : Nat} (hj : j < L.length) : (L.take (j + 1)).any p = ((L.take j).any p || p L[j]) := by
  rw [List.take_succ_eq_append_getElem hj, List.any_append]; simp
theorem plB_len {L : List Int} (h : plB L = true) : 1 ≤ L.length ∧ L.length ≤ 7 ∧ smB L = true := by
  unfold plB at h
  rw [Bool.and_eq_true, Bool.and_eq_true, decide_eq_true_eq, decide_eq_true_eq] at h
  exact ⟨h.1, h.2.1, h.2.2⟩
theorem sm_get {L : List Int} (h : smB L = true) (i : Nat) : -100 ≤ L.getD i 0 ∧ L.getD i 0 ≤ 100 := by
  unfold smB at h
  rw [Bool.not_eq_true', List.any_eq_false] at h
  rw [List.getD_eq_getElem?_getD]
  by_cases hi : i < L.length
  · rw [List.getElem?_eq_getElem hi]
    have := h _ (List.getElem_mem hi)
    unfold bigB at this
    rw [Bool.or_eq_true, decide_eq_true_eq, decide_eq_true_eq] at this
    show -100 ≤ L[i] ∧ L[i] ≤ 100
    omega
  · rw [List.getElem?_eq_none (by omega)]; decide
section
variable {fs : T EF} {h : H} {v : V} {L : List Int}
def f32_I (h0 : H) (v : V) (L : List Int) (j : Nat) (fr : Fr) (h1 : H) : Prop := j ≤ L.length ∧ (L.take j).any bigB = false ∧ h1 = h0 ∧ fr.get (K.ofNat 0) = some (v) ∧ fr.get (K.ofNat 3) = some (.i .i64 (j : Int))
theorem f32_ret (hv : Sr iE h v L) (hL : L.length ≤ 1000000) : Ret fs f32 [v] h fun r h' => r = .b (smB L) ∧ h' = h := by
  apply ret_of rfl
  show W fs none f32_c _ _ _
  unfold f32_c
  have e1 := hv.len
  simp (disch := omega) only [f32_r0, f32_r1, bz]
  refine W_loop (f32_I h v L) (fun j => L.length - j) ?_ 0 ⟨by omega, rfl, rfl, by simp (disch := omega) only [getK_set, Nat.reduceEqDiff, ↓reduceIte, and_self, Int.natCast_zero]⟩
  rintro j fr h1 ⟨hj, ha, rfl, g0, g3⟩
  unfold f32_l0
  by_cases hlt : j < L.length
  · have d1 : decide ((j : Int) < (L.length : Int)) = true := decide_eq_true (by omega)
    obtain ⟨q, p1, p2⟩ := hv.at j hlt
    have hs := any_take (p := bigB) hlt
    generalize hx : L[j] = x at *
    have yes : bigB x = true → smB L = false := fun hp => by
      have hany : L.any bigB = true := List.any_eq_true.2 ⟨_, List.getElem_mem hlt, by rw [hx]; exact hp⟩
      unfold smB; rw [hany]; rfl
    by_cases h1 : x < -100
    · have d2 : decide (x < -100) = true := decide_eq_true h1
      have := yes (by unfold bigB; rw [d2]; rfl)
      simp (disch := omega) only [f32_r2, f32_r3, f32_r4, f32_rs, atK_r, loopK_r, Option.some.injEq, exists_eq_left', Nat.reduceEqDiff, ↓reduceIte, Bool.false_eq_true, Bool.not_true, g0, g3, e1, d1, p1, p2, iE, ng99, d2, this, and_self, bz]
    · have d2 : decide (x < -100) = false := decide_eq_false h1
      by_cases h2 : x > 100
      · have d3 : decide (x > 100) = true := decide_eq_true h2
        have := yes (by unfold bigB; rw [d3, Bool.or_true])
        simp (disch := omega) only [f32_r2, f32_r3, f32_r4, f32_rs, atK_r, loopK_r, Option.some.injEq, exists_eq_left', Nat.reduceEqDiff, ↓reduceIte, Bool.false_eq_true, Bool.not_false, g0, g3, e1, d1, p1, p2, iE, ng99, d2, d3, this, and_self, bz]
      · have d3 : decide (x > 100) = false := decide_eq_false h2
        rw [show bigB x = false by unfold bigB; rw [d2, d3]; rfl] at hs
        simp (disch := omega) only [f32_r2, f32_r3, f32_r5, Nat.reduceEqDiff, ↓reduceIte, Bool.false_eq_true, Bool.not_false, g0, g3, e1, d1, p1, p2, iE, ng99, d2, d3, fw64, bz]
        exact ⟨j + 1, by omega, by omega, by rw [hs, ha]; rfl, rfl, by simp (disch := omega) only [getK_set, Nat.reduceEqDiff, ↓reduceIte, g0, and_self, Int.natCast_add, Int.natCast_one]⟩
  · have d1 : decide ((j : Int) < (L.length : Int)) = false := decide_eq_false (by omega)
    have hany : smB L = true := by unfold smB; rw [List.take_of_length_le (by omega)] at ha; rw [ha]; rfl
    simp (disch := omega) only [f32_r2, f32_r6, f32_rs, Option.some.injEq, exists_eq_left', Nat.reduceEqDiff, ↓reduceIte, Bool.false_eq_true, g0, g3, e1, d1, hany, and_self, bz]
theorem f32_eq (k : fs.get (.ofNat 32) = some f32) (hv : Sr iE h v L) (hL : L.length ≤ 1000000) {P : V → H → Prop} : CallP fs (.fn (.ofNat 32) []) [v] h P = P (.b (smB L)) h := callP_eq2 (callP_0 k rfl (f32_ret hv hL))
def f87_I (h0 : H) (v : V) (L : List Int) (s : Nat × Int) (fr : Fr) (h1 : H) : Prop := 1 ≤ s.1 ∧ s.1 ≤ L.length ∧ s.2 ∈ L ∧ (∀ i (hi : i < L.length), i < s.1 → s.2 ≤ L[i]) ∧ h1 = h0 ∧ fr.get (K.ofNat 0) = some (v) ∧ fr.get (K.ofNat 3) = some (.i .i64 s.2) ∧ fr.get (K.ofNat 4) = some (.i .i64 (s.1 : Int))
theorem f87_ret (hv : Sr iE h v L) (h1 : 1 ≤ L.length) (hL : L.length ≤ 1000000) : Ret fs f87 [v] h fun r h' => (∃ m, r = .i .i64 m ∧ m ∈ L ∧ ∀ i (hi : i < L.length), m ≤ L[i]) ∧ h' = h := by
  apply ret_of rfl
  show W fs none f87_c _ _ _
  unfold f87_c
  have e1 := hv.len
  have d0 : decide ((L.length : Int) < 1) = false := decide_eq_false (by omega)
  obtain ⟨p, p1, p2⟩ := hv.at 0 (by omega)
  have p1 : ∀ k h1, iadsV 1 v (.i k 0) h1 = .ok p h1 := p1
  have p2 : loadV h p one? = .ok (.i .i64 L[0]) h := p2
  simp (disch := omega) only [f87_r0, f87_r1, f87_r3, f87_r4, Nat.reduceEqDiff, ↓reduceIte, Bool.false_eq_true, e1, d0, p1, p2, bz]
  refine W_loop (f87_I h v L) (fun s => L.length - s.1) ?_ (1, L[0]) ⟨Nat.le_refl _, h1, List.getElem_mem _, fun i hi h => by
    have : i = 0 := by omega
    subst this; exact Int.le_refl _, rfl, by simp (disch := omega) only [getK_set, Nat.reduceEqDiff, ↓reduceIte, and_self, Int.natCast_one]⟩
  rintro ⟨j, m⟩ fr h2 ⟨a1, a2, a3, a4, rfl, g0, g3, g4⟩
  have a1 : 1 ≤ j := a1
  have a2 : j ≤ L.length := a2
  have a3 : m ∈ L := a3
  have g3 : fr.get (K.ofNat 3) = some (.i .i64 m) := g3
  have g4 : fr.get (K.ofNat 4) = some (.i .i64 (j : Int)) := g4
  unfold f87_l0
  by_cases hlt : j < L.length
  · have d1 : decide ((j : Int) < (L.length : Int)) = true := decide_eq_true (by omega)
    have e4 : fw .i64 ((j : Int) + 1) = ((j + 1 : Nat) : Int) := by rw [fw64 (by omega) (by omega)]; rfl
    obtain ⟨q, q1, q2⟩ := hv.at j hlt
    have q2 : loadV h2 q one? = .ok (.i .i64 L[j]) h2 := q2
    simp (disch := omega) only [f87_r5, f87_r6, f87_r7, x_min, min_ii, Nat.reduceEqDiff, ↓reduceIte, g0, g3, g4, e1, d1, q1, q2, e4, bz]
    refine ⟨(j + 1, min m L[j]), by show L.length - (j + 1) < L.length - j; omega, by show 1 ≤ j + 1; omega, by show j + 1 ≤ L.length; omega, ?_, fun i hi h => ?_, rfl, by simp (disch := omega) only [getK_set, Nat.reduceEqDiff, ↓reduceIte, g0, and_self]⟩
    · show min m L[j] ∈ L
      by_cases hm : m ≤ L[j]
      · rw [show min m L[j] = m by omega]; exact a3
      · rw [show min m L[j] = L[j] by omega]; exact List.getElem_mem _
    · have h : i < j + 1 := h
      show min m L[j] ≤ L[i]
      by_cases e : i = j
      · subst e; omega
      · have : m ≤ L[i] := a4 i hi (show i < j by omega)
        omega
  · have d1 : decide ((j : Int) < (L.length : Int)) = false := decide_eq_false (by omega)
    simp (disch := omega) only [f87_r5, f87_r8, f87_rs, Option.some.injEq, exists_eq_left', Nat.reduceEqDiff, ↓reduceIte, Bool.false_eq_true, g0, g3, g4, e1, d1, bz]
    exact ⟨⟨m, rfl, a3, fun i hi => a4 i hi (show i < j by omega)⟩, trivial⟩
def f88_I (h0 : H) (v : V) (L : List Int) (s : Nat × Int) (fr : Fr) (h1 : H) : Prop := 1 ≤ s.1 ∧ s.1 ≤ L.length ∧ s.2 ∈ L ∧ (∀ i (hi : i < L.length), i < s.1 → L[i] ≤ s.2) ∧ h1 = h0 ∧ fr.get (K.ofNat 0) = some (v) ∧ fr.get (K.ofNat 3) = some (.i .i64 s.2) ∧ fr.get (K.ofNat 4) = some (.i .i64 (s.1 : Int))
theorem f88_ret (hv : Sr iE h v L) (h1 : 1 ≤ L.length) (hL : L.length ≤ 1000000) : Ret fs f88 [v] h fun r h' => (∃ m, r = .i .i64 m ∧ m ∈ L ∧ ∀ i (hi : i < L.length), L[i] ≤ m) ∧ h' = h := by
  apply ret_of rfl
  show W fs none f88_c _ _ _
  unfold f88_c
  have e1 := hv.len
  have d0 : decide ((L.length : Int) < 1) = false := decide_eq_false (by omega)
  obtain ⟨p, p1, p2⟩ := hv.at 0 (by omega)
  have p1 : ∀ k h1, iadsV 1 v (.i k 0) h1 = .ok p h1 := p1
  have p2 : loadV h p one? = .ok (.i .i64 L[0]) h := p2
  simp (disch := omega) only [f88_r0, f88_r1, f88_r3, f88_r4, Nat.reduceEqDiff, ↓reduceIte, Bool.false_eq_true, e1, d0, p1, p2, bz]
  refine W_loop (f88_I h v L) (fun s => L.length - s.1) ?_ (1, L[0]) ⟨Nat.le_refl _, h1, List.getElem_mem _, fun i hi h => by
    have : i = 0 := by omega
    subst this; exact Int.le_refl _, rfl, by simp (disch := omega) only [getK_set, Nat.reduceEqDiff, ↓reduceIte, and_self, Int.natCast_one]⟩
  rintro ⟨j, m⟩ fr h2 ⟨a1, a2, a3, a4, rfl, g0, g3, g4⟩
  have a1 : 1 ≤ j := a1
  have a2 : j ≤ L.length := a2
  have a3 : m ∈ L := a3
  have g3 : fr.get (K.ofNat 3) = some (.i .i64 m) := g3
  have g4 : fr.get (K.ofNat 4) = some (.i .i64 (j : Int)) := g4
  unfold f88_l0
  by_cases hlt : j < L.length
  · have d1 : decide ((j : Int) < (L.length : Int)) = true := decide_eq_true (by omega)
    have e4 : fw .i64 ((j : Int) + 1) = ((j + 1 : Nat) : Int) := by rw [fw64 (by omega) (by omega)]; rfl
    obtain ⟨q, q1, q2⟩ := hv.at j hlt
    have q2 : loadV h2 q one? = .ok (.i .i64 L[j]) h2 := q2
    simp (disch := omega) only [f88_r5, f88_r6, f88_r7, x_max, max_ii, Nat.reduceEqDiff, ↓reduceIte, g0, g3, g4, e1, d1, q1, q2, e4, bz]
    refine ⟨(j + 1, max m L[j]), by show L.length - (j + 1) < L.length - j; omega, by show 1 ≤ j + 1; omega, by show j + 1 ≤ L.length; omega, ?_, fun i hi h => ?_, rfl, by simp (disch := omega) only [getK_set, Nat.reduceEqDiff, ↓reduceIte, g0, and_self]⟩
    · show max m L[j] ∈ L
      by_cases hm : L[j] ≤ m
      · rw [show max m L[j] = m by omega]; exact a3
      · rw [show max m L[j] = L[j] by omega]; exact List.getElem_mem _
    · have h : i < j + 1 := h
      show L[i] ≤ max m L[j]
      by_cases e : i = j
      · subst e; omega
      · have : L[i] ≤ m := a4 i hi (show i < j by omega)
        omega
  · have d1 : decide ((j : Int) < (L.length : Int)) = false := decide_eq_false (by omega)
    simp (disch := omega) only [f88_r5, f88_r8, f88_rs, Option.some.injEq, exists_eq_left', Nat.reduceEqDiff, ↓reduceIte, Bool.false_eq_true, g0, g3, g4, e1, d1, bz]
    exact ⟨⟨m, rfl, a3, fun i hi => a4 i hi (show i < j by omega)⟩, trivial⟩
theorem f56_ret (k87 : fs.get (.ofNat 87) = some f87) (k88 : fs.get (.ofNat 88) = some f88) (hv : Sr iE h v L) (hL : L.length ≤ 1000000) : Ret fs f56 [v] h fun r h' => r = .b (plB L) ∧ h' = h := by
  apply ret_of rfl
  show W fs none f56_c _ _ _
  unfold f56_c plB
  have e1 := hv.len
  by_cases h1 : 1 ≤ L.length
  · have d1 : decide ((L.length : Int) < 1) = false := decide_eq_false (by omega)
    have b1 : decide (1 ≤ L.length) = true := decide_eq_true h1
    by_cases h2 : L.length ≤ 7
    · have d2 : decide ((L.length : Int) > 7) = false := decide_eq_false (by omega)
      have b2 : decide (L.length ≤ 7) = true := decide_eq_true h2
      simp (disch := omega) only [f56_r0, f56_r1, f56_r3, Nat.reduceEqDiff, ↓reduceIte, Bool.false_eq_true, Bool.not_false, e1, d1, d2, bz]
      refine (callP_0 (ef := f87) k87 rfl (f87_ret hv h1 hL)).mono ?_
      rintro r h' ⟨⟨m, rfl, m1, m2⟩, rfl⟩
      by_cases hm : m ≥ -100
      · have d3 : decide (m ≥ -100) = true := decide_eq_true hm
        simp (disch := omega) only [Nat.reduceEqDiff, ↓reduceIte, ng99, d3, bz]
        refine (callP_0 (ef := f88) k88 rfl (f88_ret hv h1 hL)).mono ?_
        rintro r h' ⟨⟨n, rfl, n1, n2⟩, rfl⟩
        have hs : smB L = decide (n ≤ 100) := by
          unfold smB
          rw [Bool.eq_iff_iff, Bool.not_eq_true', List.any_eq_false, decide_eq_true_eq]
          constructor
          · intro h
            have := h n n1
            unfold bigB at this
            rw [Bool.or_eq_true, decide_eq_true_eq, decide_eq_true_eq] at this
            omega
          · intro hn x hx
            obtain ⟨i, hi, rfl⟩ := List.getElem_of_mem hx
            have a := m2 i hi
            have b := n2 i hi
            unfold bigB
            rw [Bool.or_eq_true, decide_eq_true_eq, decide_eq_true_eq]
            omega
        simp (disch := omega) only [f56_rs, Option.some.injEq, exists_eq_left', Nat.reduceEqDiff, ↓reduceIte, b1, b2, hs, Bool.true_and, and_self, bz]
      · have d3 : decide (m ≥ -100) = false := decide_eq_false hm
        have hs : smB L = false := by
          unfold smB
          rw [Bool.not_eq_false', List.any_eq_true]
          refine ⟨m, m1, ?_⟩
          unfold bigB
          rw [Bool.or_eq_true, decide_eq_true_eq]
          exact .inl (by omega)
        simp (disch := omega) only [f56_rs, Option.some.injEq, exists_eq_left', Nat.reduceEqDiff, ↓reduceIte, Bool.false_eq_true, ng99, d3, b1, b2, hs, Bool.true_and, and_self, bz]
    · have d2 : decide ((L.length : Int) > 7) = true := decide_eq_true (by omega)
      have b2 : decide (L.length ≤ 7) = false := decide_eq_false h2
      simp (disch := omega) only [f56_r0, f56_r1, f56_r2, f56_rs, Option.some.injEq, exists_eq_left', Nat.reduceEqDiff, ↓reduceIte, Bool.false_eq_true, Bool.not_false, e1, d1, d2, b1, b2, Bool.true_and, Bool.false_and, and_self, bz]
  · have d1 : decide ((L.length : Int) < 1) = true := decide_eq_true (by omega)
    have b1 : decide (1 ≤ L.length) = false := decide_eq_false h1
    simp (disch := omega) only [f56_r0, f56_r1, f56_r2, f56_rs, Option.some.injEq, exists_eq_left', Nat.reduceEqDiff, ↓reduceIte, Bool.false_eq_true, Bool.not_true, e1, d1, b1, Bool.false_and, and_self, bz]
structure CSm (fs : T EF) : Prop where
  c87 : fs.get (K.ofNat 87) = some f87
  c88 : fs.get (K.ofNat 88) = some f88
  c56 : fs.get (K.ofNat 56) = some f56
  c14 : fs.get (K.ofNat 14) = some f14
theorem f56_eq (k : CSm fs) (hv : Sr iE h v L) (hL : L.length ≤ 1000000) {P : V → H → Prop} : CallP fs (.fn (.ofNat 56) []) [v] h P = P (.b (plB L)) h := callP_eq2 (callP_0 k.c56 rfl (f56_ret k.c87 k.c88 hv hL))
def ckI (L : List Int) : Int := if plB L = true then 0 else 80
theorem f14_ret (k : CSm fs) (hv : Sr iE h v L) (hL : L.length ≤ 1000000) : Ret fs f14 [v] h fun r h' => r = .i .i64 (ckI L) ∧ h' = h := by
  apply ret_of rfl
  show W fs none f14_c _ _ _
  unfold f14_c ckI
  have e2 := fun P => f56_eq k hv hL (P := P)
  cases hp : plB L with
  | true => simp (disch := omega) only [f14_r0, f14_r1, f14_r3, f14_rs, Option.some.injEq, exists_eq_left', Nat.reduceEqDiff, ↓reduceIte, Bool.false_eq_true, Bool.not_true, e2, hp, and_self, bz]
  | false => simp (disch := omega) only [f14_r0, f14_r1, f14_r2, f14_rs, Option.some.injEq, exists_eq_left', Nat.reduceEqDiff, ↓reduceIte, Bool.false_eq_true, Bool.not_false, e2, hp, of80, and_self, bz]
theorem f14_eq (k : CSm fs) (hv : Sr iE h v L) (hL : L.length ≤ 1000000) {P : V → H → Prop} : CallP fs (.fn (.ofNat 14) []) [v] h P = P (.i .i64 (ckI L)) h := callP_eq2 (callP_0 k.c14 rfl (f14_ret k hv hL))
def f33_I (h0 : H) (v w : V) (L M : List Int) (i : Nat) (fr : Fr) (h1 : H) : Prop := i ≤ L.length ∧ L.take i = M.take i ∧ h1 = h0 ∧ fr.get (K.ofNat 0) = some (v) ∧ fr.get (K.ofNat 1) = some (w) ∧ fr.get (K.ofNat 5) = some (.i .i64 (i : Int))
theorem f33_ret {w : V} {M : List Int} (hv : Sr iE h v L) (hw : Sr iE h w M) (hl : L.length ≤ 1000000) : Ret fs f33 [v, w] h fun r h' => r = .b (decide (L = M)) ∧ h' = h := by
  apply ret_of rfl
  show W fs none f33_c _ _ _
  unfold f33_c
  have e1 := hv.len
  have e2 := hw.len
  by_cases hne : L.length = M.length
  case neg =>
    have d0 : decide ((L.length : Int) ≠ (M.length : Int)) = true := decide_eq_true (by omega)
    have d1 : decide (L = M) = false := decide_eq_false fun e => hne (by rw [e])
    simp (disch := omega) only [f33_r0, f33_r1, f33_r2, f33_rs, Option.some.injEq, exists_eq_left', Nat.reduceEqDiff, ↓reduceIte, e1, e2, d0, d1, and_self, bz]
  have d0 : decide ((L.length : Int) ≠ (M.length : Int)) = false := decide_eq_false (by omega)
  simp (disch := omega) only [f33_r0, f33_r1, f33_r3, Nat.reduceEqDiff, ↓reduceIte, Bool.false_eq_true, e1, e2, d0, bz]
  refine W_loop (f33_I h v w L M) (fun i => L.length - i) ?_ 0 ⟨by omega, rfl, rfl, by simp (disch := omega) only [getK_set, Nat.reduceEqDiff, ↓reduceIte, and_self, Int.natCast_zero]⟩
  rintro i fr h1 ⟨hi, heq, rfl, g0, g1, g5⟩
  have bv := hv.beq
  have bw := hw.beq
  unfold f33_l0
  by_cases hlt : i < L.length
  · have d1 : decide ((i : Int) < (L.length : Int)) = true := decide_eq_true (by omega)
    obtain ⟨p, p1, p2, p3⟩ := hv.atb i hlt
    obtain ⟨q, q1, q2, q3⟩ := hw.atb i (by omega)
    have p2 : loadV h1 p one? = .ok (.i .i64 L[i]) h1 := p2
    have q2 : loadV h1 q one? = .ok (.i .i64 M[i]) h1 := q2
    by_cases hx : L[i] = M[i]
    · have d2 : decide (L[i] ≠ M[i]) = false := by simp [hx]
      simp (disch := omega) only [f33_r4, f33_r5, f33_r7, xg_iads, Nat.reduceEqDiff, ↓reduceIte, Bool.false_eq_true, g0, g1, g5, e1, d1, p1, p2, q1, q2, d2, fw64, bz]
      exact ⟨i + 1, by omega, by omega, by rw [List.take_succ_eq_append_getElem hlt, List.take_succ_eq_append_getElem (by omega), heq, hx], rfl, by simp (disch := omega) only [getK_set, Nat.reduceEqDiff, ↓reduceIte, g0, g1, and_self, Int.natCast_add, Int.natCast_one]⟩
    · have d2 : decide (L[i] ≠ M[i]) = true := by simp [hx]
      have d3 : decide (L = M) = false := decide_eq_false fun e => hx (by subst e; rfl)
      simp (disch := omega) only [f33_r4, f33_r5, f33_r6, f33_rs, atK_r, loopK_r, xg_iads, Option.some.injEq, exists_eq_left', Nat.reduceEqDiff, ↓reduceIte, g0, g1, g5, e1, d1, p1, p2, q1, q2, d2, d3, and_self, bz]
  · have d1 : decide ((i : Int) < (L.length : Int)) = false := decide_eq_false (by omega)
    have d3 : decide (L = M) = true := decide_eq_true (by rw [List.take_of_length_le (by omega), List.take_of_length_le (by omega)] at heq; exact heq)
    simp (disch := omega) only [f33_r4, f33_r8, f33_rs, Option.some.injEq, exists_eq_left', Nat.reduceEqDiff, ↓reduceIte, Bool.false_eq_true, g0, g5, e1, d1, d3, and_self, bz]
theorem f33_eq {w : V} {M : List Int} (k : fs.get (.ofNat 33) = some f33) (hv : Sr iE h v L) (hw : Sr iE h w M) (hl : L.length ≤ 1000000) {P : V → H → Prop} : CallP fs (.fn (.ofNat 33) []) [v, w] h P = P (.b (decide (L = M))) h := callP_eq2 (callP_0 k rfl (f33_ret hv hw hl))
def t201 (x : Int) : Int := fw .i64 ((fw .u64 x).tmod 201) - 100
theorem u64_bd (x : Int) : 0 ≤ fw .u64 x ∧ fw .u64 x ≤ 18446744073709551615 := by
  rw [fw_eq]
  simp [IntKind.wrap, IntKind.bits, IntKind.signed]
  omega
theorem t201_bd (x : Int) : -100 ≤ t201 x ∧ t201 x ≤ 100 := by
  have h := u64_bd x
  unfold t201
  rw [Int.tmod_eq_emod_of_nonneg h.1, fw64 (by omega) (by omega)]
  omega
def f26_I (h0 : H) (v : V) (L : List Int) (j : Nat) (fr : Fr) (h1 : H) : Prop := j ≤ L.length ∧ j ≤ 7 ∧ Grow h0.nx.nat h0 h1 ∧ ∃ u T, Sl iE h1 u T ∧ Own h0.nx.nat u ∧ T.length = j ∧ T.any bigB = false ∧ fr.get (K.ofNat 0) = some (v) ∧ fr.get (K.ofNat 3) = some (u) ∧ fr.get (K.ofNat 4) = some (.i .i64 (j : Int))
theorem any_snoc' {T : List Int} {x : Int} (h : T.any bigB = false) (hx : -100 ≤ x ∧ x ≤ 100) : (T ++ [x]).any bigB = false := by
  rw [List.any_append, h]
  unfold bigB
  simp
  omega
theorem Sl.lit0 {id : K} (hb : h.get id = .cells 0 []) : Sl iE h (.sl id 0 0 1) ([] : List Int) := by
  exact .inr ⟨id, 0, 0, [], rfl, hb, rfl, by simp, fun i hi => absurd hi (by simp)⟩
theorem f26_ret (hv : Sr iE h v L) (hc : HC h) : Ret fs f26 [v] h fun r h' => ∃ T, Sl iE h' r T ∧ Own h.nx.nat r ∧ plB T = true ∧ Grow h.nx.nat h h' := by
  apply ret_of rfl
  show W fs none f26_c _ _ _
  unfold f26_c
  have g0' := Grow.new (Nat.le_refl h.nx.nat) (.cells (0 * 1) [])
  have s0 : Sl iE (h.new (.cells (0 * 1) [])) (.sl h.nx 0 0 1) ([] : List Int) := Sl.lit0 get_new_same
  simp (disch := omega) only [f26_r0, f26_r1, f26_r2, ↓reduceIte, bz]
  refine W_loop (f26_I h v L) (fun j => 7 - j) ?_ 0 ⟨by omega, by omega, g0', _, [], s0, (fun id off n sz e => by cases e; exact Nat.le_refl _), rfl, rfl, by simp (disch := omega) only [getK_set, Nat.reduceEqDiff, ↓reduceIte, and_self, Int.natCast_zero]⟩
  clear g0' s0
  rintro j fr h1 ⟨hj, hj7, hG, u, T, hs, ho, hT, hsm, g0, g3, g4⟩
  have hc1 := hG.hc hc
  have hv1 := hv.grow hc hG
  have e1 := hv1.len
  have el := hs.len
  unfold f26_l0
  have pl : ∀ {T' : List Int}, 1 ≤ T'.length → T'.length ≤ 7 → T'.any bigB = false → plB T' = true := fun {T'} a b c => by
    unfold plB smB; rw [decide_eq_true a, decide_eq_true b, c]; rfl
  have out : ∀ fr : Fr, fr.get (K.ofNat 3) = some u → W fs none (.seq (.seq (.reg f26_r6) (.cond (.t (K.ofNat 29)) (.reg f26_r7) .skip)) (.seq (.reg f26_r8) .ret)) (retK f26 fun r h' => ∃ T, Sl iE h' r T ∧ Own h.nx.nat r ∧ plB T = true ∧ Grow h.nx.nat h h') fr h1 := by
    clear g0 g3 g4 fr
    intro fr g3
    by_cases h0 : T.length = 0
    · have d1 : decide ((T.length : Int) = 0) = true := decide_eq_true (by omega)
      obtain ⟨u', h2, a1, a2, a3, a4, _⟩ := Sl.push (e := iE) (x := 1) (c := .i .i64 1) rfl hs ho hG.nx hc1 (by omega)
      simp (disch := omega) only [f26_r6, f26_r7, f26_r8, f26_rs, x_app, Option.some.injEq, exists_eq_left', Nat.reduceEqDiff, ↓reduceIte, g3, el, d1, a1, bz]
      exact ⟨_, a2, a3, pl (by simp) (by simp; omega) (any_snoc' hsm (by omega)), hG.trans a4⟩
    · have d1 : decide ((T.length : Int) = 0) = false := decide_eq_false (by omega)
      simp (disch := omega) only [f26_r6, f26_r8, f26_rs, Option.some.injEq, exists_eq_left', Nat.reduceEqDiff, ↓reduceIte, Bool.false_eq_true, g3, el, d1, bz]
      exact ⟨_, hs, ho, pl (by omega) (by omega) hsm, hG⟩
  simp only [w_seq, w_reg] at out
  by_cases hlt : j < L.length
  · have d1 : decide ((j : Int) < (L.length : Int)) = true := decide_eq_true (by omega)
    by_cases h6 : j < 7
    · have d2 : decide ((j : Int) < 7) = true := decide_eq_true (by omega)
      obtain ⟨p, p1, p2⟩ := hv1.at j hlt
      have p2 : loadV h1 p one? = .ok (.i .i64 L[j]) h1 := p2
      have hb := t201_bd L[j]
      have et : fw .i64 (fw .i64 ((fw .u64 L[j]).tmod 201) - 100) = t201 L[j] := fw64 (a := t201 L[j]) (by omega) (by omega)
      obtain ⟨u', h2, a1, a2, a3, a4, _⟩ := Sl.push (e := iE) (x := t201 L[j]) (c := .i .i64 (t201 L[j])) rfl hs ho hG.nx hc1 (by omega)
      have d3 : decide ((201 : Int) = 0) = false := rfl
      have e4 : fw .i64 ((j : Int) + 1) = ((j + 1 : Nat) : Int) := by rw [fw64 (by omega) (by omega)]; rfl
      simp (disch := omega) only [f26_r3, f26_r4, f26_r5, x_conv, x_app, onI_i, Nat.reduceEqDiff, ↓reduceIte, g0, g3, g4, e1, d1, d2, of201, p1, p2, et, a1, e4, bz]
      exact ⟨j + 1, by omega, by omega, by omega, hG.trans a4, u', _, a2, a3, by simp [hT], any_snoc' hsm hb, by simp (disch := omega) only [getK_set, Nat.reduceEqDiff, ↓reduceIte, g0, and_self]⟩
    · have d2 : decide ((j : Int) < 7) = false := decide_eq_false (by omega)
      simp (disch := omega) only [f26_r3, Nat.reduceEqDiff, ↓reduceIte, Bool.false_eq_true, g0, g4, e1, d1, d2, bz]
      exact out _ (by simp (disch := omega) only [getK_set, Nat.reduceEqDiff, ↓reduceIte, g3])
  · have d1 : decide ((j : Int) < (L.length : Int)) = false := decide_eq_false (by omega)
    simp (disch := omega) only [f26_r3, Nat.reduceEqDiff, ↓reduceIte, Bool.false_eq_true, g0, g4, e1, d1, bz]
    exact out _ (by simp (disch := omega) only [getK_set, Nat.reduceEqDiff, ↓reduceIte, g3])
end
end Go.Ev
namespace Go.Ev
open Go Go.RowKit
section
variable {fs : T EF} {h h1 h2 h3 : H} {idB : K}
theorem G1_mono {d : Option K} {op : EOp} {fr : Fr} {h : H} {P P' : Fr → H → Prop} (hq : ∀ fr h, P fr h → P' fr h) (hx : G1 fs d op fr h P) : G1 fs d op fr h P' := by
  cases op <;> first
    | exact ⟨hx.1, rvP_mono (fun v h h1 => hq _ _ h1) hx.2⟩
    | (obtain ⟨k, cs, h1, h2, h3, h4⟩ := hx; exact ⟨k, cs, h1, h2, h3, hq _ _ h4⟩)
    | (obtain ⟨k, h1, h2, h3⟩ := hx; exact ⟨k, h1, h2, hq _ _ h3⟩)
    | (obtain ⟨k, ki, n, h1, h2, h3, h4, h5⟩ := hx; exact ⟨k, ki, n, h1, h2, h3, h4, hq _ _ h5⟩)
theorem XG_mono : ∀ (l : List EOper) {Q Q' : Fr → H → Prop} (fr : Fr) (h : H), (∀ fr h, Q fr h → Q' fr h) → XG fs l Q fr h → XG fs l Q' fr h
  | [], _Q, _Q', fr, h, hq, hx => hq fr h hx
  | _o :: l, _Q, _Q', _fr, _h, hq, hx => GP_mono (fun hx => G1_mono (fun fr h hx => XG_mono l fr h hq hx) hx) (fun hx => XG_mono l _ _ hq hx) (show GP _ _ _ from hx)
theorem XD_mono : ∀ (l : List Stage) {Q Q' : Fr → H → Prop} (fr : Fr) (h : H), (∀ fr h, Q fr h → Q' fr h) → XD fs l Q fr h → XD fs l Q' fr h
  | [], Q, Q', fr, h, hq, hx => hq fr h hx
  | s :: l, Q, Q', fr, h, hq, hx => by
    refine XG_mono _ fr h (fun fr1 h1 hx => ⟨hx.1, hx.2.1, ?_⟩) (show XG fs s.g _ fr h from hx)
    have := hx.2.2
    cases hl : s.l with
    | none => rw [hl] at this; exact hq _ _ this
    | some o => rw [hl] at this; exact X_mono this (fun fr h hx => XD_mono l fr h hq hx)
theorem W_mono {ro : Option K} : ∀ {c : EC} {Q Q' : Ex → Fr → H → Prop} {fr : Fr} {h : H}, (∀ e fr h, Q e fr h → Q' e fr h) → W fs ro c Q fr h → W fs ro c Q' fr h := by
  intro c
  induction c with
  | skip => exact fun hq hx => hq _ _ _ hx
  | reg ops => exact fun hq hx => X_mono hx (fun fr h hx => hq _ _ _ hx)
  | draw st => exact fun hq hx => XD_mono _ _ _ (fun fr h hx => hq _ _ _ hx) hx
  | seq a b iha ihb =>
    intro Q Q' fr h hq hx
    refine iha (fun e fr h hx => ?_) (show W fs ro a _ fr h from hx)
    cases e with
    | normal => exact ihb hq hx
    | exit i => exact hq _ _ _ hx
    | ret => exact hq _ _ _ hx
  | cond x a b iha ihb =>
    intro Q Q' fr h hq hx
    have hx : condP (ev fr x) (W fs ro a Q fr h) (W fs ro b Q fr h) := hx
    show condP (ev fr x) (W fs ro a Q' fr h) (W fs ro b Q' fr h)
    cases hv : ev fr x <;> rw [hv] at hx <;> first
      | exact ⟨fun e => iha hq (hx.1 e), fun e => ihb hq (hx.2 e)⟩
      | exact hx.elim
  | block id a iha =>
    intro Q Q' fr h hq hx
    refine iha (fun e fr h hx => ?_) (show W fs ro a _ fr h from hx)
    cases e with
    | normal => exact hq _ _ _ hx
    | exit i => exact ⟨fun e => hq _ _ _ (hx.1 e), fun e => hq _ _ _ (hx.2 e)⟩
    | ret => exact hq _ _ _ hx
  | scope a iha => exact fun hq hx => iha hq hx
  | loop a _ => rintro Q Q' fr h hq ⟨e, fr', h', h1, h2⟩; exact ⟨e, fr', h', h1, hq _ _ _ h2⟩
  | rangeF f ps a c _ _ => rintro Q Q' fr h hq ⟨e, fr', h', h1, h2⟩; exact ⟨e, fr', h', h1, hq _ _ _ h2⟩
  | exit i => exact fun hq hx => hq _ _ _ hx
  | ret => exact fun hq hx => hq _ _ _ hx
  | no => exact fun _ hx => hx
end
def Round2 (fs : T EF) (id : K) (v1 v2 : V) (h : H) (b : Bool) (h' : H) : Prop := ∃ n, callV fs (eval fs n) (.yl id) [v1, v2] h = .ok (.b b) h'
section
variable {fs : T EF} {fr fr1 fr2 : Fr} {h h1 h2 : H} {id : K} {v v' : V} {ps : List K} {a c : EC} {e : Ex}
theorem round2_of (hb : h.get id = .loop .ready none fr ps a c) (hl : Nat.beq (lenL [v, v']) (lenL ps) = true) (ha : Runs fs (some id) a (bindK fr ps [v, v']) h .normal fr1 h1) (hb1 : h1.get id = .loop .ready none fr ps a c)
    (hc : Runs fs (some id) c fr1 (h1.put id (.loop .busy none fr ps a c)) e fr2 h2) (hb2 : h2.get id = .loop .busy none fr ps a c) : Round2 fs id v v' h (isNo e) (h2.put id (afterR e fr ps a c)) := by
  obtain ⟨n, e1⟩ := ha
  obtain ⟨m, e2⟩ := hc
  have e1 := eval_le fs (Nat.le_max_left n m) _ _ _ _ _ _ _ e1
  have e2 := eval_le fs (Nat.le_max_right n m) _ _ _ _ _ _ _ e2
  refine ⟨max n m, ?_⟩
  show (h.get id).onL (fun s _ fr ps a c => roundA (eval fs (max n m)) id [v, v'] h s fr ps a c) = _
  rw [hb]
  show roundA (eval fs (max n m)) id [v, v'] h .ready fr ps a c = _
  unfold roundA
  rw [hl]
  show ((eval fs (max n m) (some id) a (bindK fr ps [v, v']) h).all fun e fr' h => isN e ((h.get id).onL fun s j fr ps a c' => roundB (eval fs (max n m)) id c fr' h s j fr ps a c')) = _
  rw [e1]
  show (h1.get id).onL (fun s j fr ps a c' => roundB (eval fs (max n m)) id c fr1 h1 s j fr ps a c') = _
  rw [hb1]
  show ((eval fs (max n m) (some id) c fr1 (h1.put id (.loop .busy none fr ps a c))).all fun e _ h => (h.get id).onL fun s _ fr ps a c => isBusy s (endR id e fr ps a c h)) = _
  rw [e2]
  show (h2.get id).onL (fun s _ fr ps a c => isBusy s (endR id e fr ps a c h2)) = _
  rw [hb2]
  cases e <;> rfl
end
def Yields2 (fs : T EF) (k : K) (caps : List V) (N : H → Prop) (Y : List (V × V)) : Prop :=
  ∀ (id : K) (I : Nat → H → Prop) (D : H → Prop) (h : H), (∀ i h1, I i h1 → N h1 ∧ HC h1) → I 0 h →
    (∀ i h1 h2 (hi : i < Y.length), I i h1 → Grow h1.nx.nat h1 h2 → ∃ r h', Round2 fs id Y[i].1 Y[i].2 h2 r h' ∧ (r = true → I (i + 1) h') ∧ (r = false → D h')) →
    CallP fs (.fn k caps) [.yl id] h fun r h' => r = .tup [] ∧ ((∃ h1, I Y.length h1 ∧ Grow h1.nx.nat h1 h') ∨ D h')
theorem W_range2 {fs : T EF} {ro : Option K} {f : EO} {k : K} {caps : List V} {p p' : K} {a c : EC} {fr : Fr} {h : H} {Q : Ex → Fr → H → Prop} {N : H → Prop} {Y : List (V × V)} (hro : roOk ro h = true) (hf : ev fr f = .fn k caps) (hy : Yields2 fs k caps N Y)
    (I : Nat → H → Prop) (D : Ex → H → Prop) (hN : ∀ i h1, I i h1 → N h1 ∧ HC h1 ∧ h.nx.nat < h1.nx.nat) (hI0 : I 0 (h.new (rdyB fr [p, p'] a c)))
    (step : ∀ i h1 h2 (hi : i < Y.length), I i h1 → Grow h1.nx.nat h1 h2 → h2.get h.nx = rdyB fr [p, p'] a c → W fs (some h.nx) a (rndA fs h.nx fr [p, p'] a c (I (i + 1)) D) ((fr.set p Y[i].1).set p' Y[i].2) h2)
    (fin : ∀ h1 h2, I Y.length h1 → Grow h1.nx.nat h1 h2 → Q .normal fr (h2.put h.nx .dead)) (brk : ∀ e h1, e ≠ .normal → D e h1 → Q e fr h1) : W fs ro (.rangeF f [p, p'] a c) Q fr h := by
  have key := hy h.nx (fun i h1 => I i h1 ∧ h1.get h.nx = rdyB fr [p, p'] a c) (fun h1 => ∃ e, e ≠ .normal ∧ D e (h1.put h.nx .dead) ∧ h1.get h.nx = .loop .done (some e) fr [p, p'] a c) (h.new (rdyB fr [p, p'] a c)) (fun i h1 hi => ⟨(hN i h1 hi.1).1, (hN i h1 hi.1).2.1⟩) ⟨hI0, get_new_same⟩ ?_
  · obtain ⟨m, r, h1, hc, rfl, hcase⟩ := key
    rcases hcase with ⟨h2, ⟨hI, hb⟩, hG⟩ | ⟨e, hne', hD, hb⟩
    · have hb1 : h1.get h.nx = rdyB fr [p, p'] a c := (hG.old _ (hN _ _ hI).2.2).trans hb
      exact ⟨.normal, fr, _, Runs.range hro hf ⟨m, hc⟩ hb1 (.inl ⟨rfl, rfl, rfl⟩), fin h2 h1 hI hG⟩
    · exact ⟨e, fr, _, Runs.range hro hf ⟨m, hc⟩ hb (.inr ⟨rfl, rfl⟩), brk e _ hne' hD⟩
  · rintro i h1 h2 hi ⟨hI, hb⟩ hG
    have hb2 : h2.get h.nx = rdyB fr [p, p'] a c := (hG.old _ (hN _ _ hI).2.2).trans hb
    obtain ⟨e1, fr1, h3, r1, rfl, hb3, hw⟩ := W_ok _ _ _ _ (step i h1 h2 hi hI hG hb2)
    obtain ⟨e2, fr2, h4, r2, hb4, hq⟩ := W_ok _ _ _ _ hw
    refine ⟨isNo e2, h4.put h.nx (afterR e2 fr [p, p'] a c), round2_of hb2 rfl r1 hb3 r2 hb4, fun he => ?_, fun he => ?_⟩
    · cases e2 <;> first | exact ⟨hq, get_put_same⟩ | cases he
    · cases e2 with
      | normal => cases he
      | exit j => exact ⟨.exit j, by simp, by rw [H.put_put]; exact hq, get_put_same⟩
      | ret => exact ⟨.ret, by simp, by rw [H.put_put]; exact hq, get_put_same⟩
structure Ks (S : K → Prop) (h h1 : H) : Prop where
  nx : h.nx.nat ≤ h1.nx.nat
  old : ∀ id : K, id.nat < h.nx.nat → ¬ S id → h1.get id = h.get id
  hc : HC h1
structure Kr (S : K → Prop) (lp : K) (h3 h4 : H) : Prop where
  nx : h3.nx.nat ≤ h4.nx.nat
  old : ∀ id : K, id.nat ≤ lp.nat → ¬ S id → h4.get id = h3.get id
  hc : HC h4
section
variable {fs : T EF} {h h1 h2 h3 h4 : H} {S : K → Prop} {lp : K}
theorem Ks.refl (hc : HC h) : Ks S h h := ⟨Nat.le_refl _, fun _ _ _ => rfl, hc⟩
theorem Ks.grow (k : Ks S h h1) {b : Nat} (g : Grow b h1 h2) (hb : h.nx.nat ≤ b) : Ks S h h2 := ⟨Nat.le_trans k.nx g.nx, fun id hi hn => (g.old id (by omega)).trans (k.old id hi hn), g.hc k.hc⟩
theorem Ks.of (hc : HC h) {b : Nat} (g : Grow b h h2) (hb : h.nx.nat ≤ b) : Ks S h h2 := (Ks.refl hc).grow g hb
theorem Ks.putN (k : Ks S h h1) {id' : K} (hi : id'.nat < h1.nx.nat) (hl : h.nx.nat ≤ id'.nat) (x : Blk) : Ks S h (h1.put id' x) := ⟨k.nx, fun id h2 hn => by rw [get_put_other (fun e => by rw [e] at h2; omega)]; exact k.old id h2 hn, (Grow.put (b := 0) (Nat.zero_le _) hi x).hc k.hc⟩
theorem Ks.toGrow (k : Ks S h h1) {b : Nat} (hb : ∀ id, S id → b ≤ id.nat) (hb2 : b ≤ h.nx.nat) : Grow b h h1 := ⟨k.nx, fun id hi => k.old id (by omega) (fun e => by have := hb _ e; omega), fun _ => k.hc⟩
theorem Kr.refl (hc : HC h) : Kr S lp h h := ⟨Nat.le_refl _, fun _ _ _ => rfl, hc⟩
theorem Kr.grow (k : Kr S lp h h1) {b : Nat} (g : Grow b h1 h2) (hb : lp.nat < b) : Kr S lp h h2 := ⟨Nat.le_trans k.nx g.nx, fun id hi hn => (g.old id (by omega)).trans (k.old id hi hn), g.hc k.hc⟩
theorem Kr.put (k : Kr S lp h h1) {id' : K} (hi : id'.nat < h1.nx.nat) (hl : S id' ∨ lp.nat < id'.nat) (x : Blk) : Kr S lp h (h1.put id' x) :=
  ⟨k.nx, fun id h2 hn => by rw [get_put_other (fun e => by rcases hl with hl | hl; exact hn (e ▸ hl); rw [e] at h2; omega)]; exact k.old id h2 hn, (Grow.put (b := 0) (Nat.zero_le _) hi x).hc k.hc⟩
theorem Kr.trans (k : Kr S lp h h1) (l : Kr S lp h1 h2) : Kr S lp h h2 := ⟨Nat.le_trans k.nx l.nx, fun id hi hn => (l.old id hi hn).trans (k.old id hi hn), l.hc⟩
def itC (S : K → Prop) (lp : K) (P : H → Prop) (D : Ex → H → Prop) (h3 : H) : Ex → Fr → H → Prop := fun e _ h4 => (e = .normal → P h4) ∧ (e ≠ .normal → D e h4) ∧ Kr S lp h3 h4
def itA (fs : T EF) (S : K → Prop) (lp : K) (c : EC) (P : H → Prop) (D : Ex → H → Prop) (h1 : H) : Ex → Fr → H → Prop := fun e fr1 h2 => e = .normal ∧ Grow h1.nx.nat h1 h2 ∧ ∀ h3, h3.nx = h2.nx → HC h3 → (∀ id, id ≠ lp → h3.get id = h2.get id) → (h3.get lp).isL = true → W fs (some lp) c (itC S lp P D h3) fr1 h3
section
variable {P : H → Prop} {D : Ex → H → Prop} {fr : Fr} {c : EC} {i : Nat}
theorem itC_n : itC S lp P D h3 .normal fr h4 = (P h4 ∧ Kr S lp h3 h4) := by
  apply propext; unfold itC
  exact ⟨fun h => ⟨h.1 rfl, h.2.2⟩, fun h => ⟨fun _ => h.1, fun e => absurd rfl e, h.2⟩⟩
theorem itA_n : itA fs S lp c P D h1 .normal fr h2 = (Grow h1.nx.nat h1 h2 ∧ ∀ h3, h3.nx = h2.nx → HC h3 → (∀ id, id ≠ lp → h3.get id = h2.get id) → (h3.get lp).isL = true → W fs (some lp) c (itC S lp P D h3) fr h3) := by unfold itA; rw [eq_self, true_and]
end
theorem W_it2 {ro : Option K} {f : EO} {k : K} {caps : List V} {p p' : K} {a c : EC} {fr : Fr} {Q : Ex → Fr → H → Prop} {N : H → Prop} {Y : List (V × V)} (hf : ev fr f = .fn k caps) (hy : Yields2 fs k caps N Y)
    (S : K → Prop) (P : Nat → H → Prop) (D : Ex → H → Prop) (hc : HC h) (hro : roOk ro h = true) (hS : ∀ id, S id → id.nat < h.nx.nat) (hN : ∀ h1, Ks S h h1 → N h1)
    (hP : ∀ i h1 h2, P i h1 → HC h1 → h.nx.nat < h1.nx.nat → (∀ id : K, id.nat < h1.nx.nat → id ≠ h.nx → h2.get id = h1.get id) → P i h2)
    (hD : ∀ e h1 h2, D e h1 → HC h1 → h.nx.nat < h1.nx.nat → (∀ id : K, id.nat < h1.nx.nat → id ≠ h.nx → h2.get id = h1.get id) → D e h2)
    (hP0 : ∀ h1, Grow h.nx.nat h h1 → P 0 h1)
    (step : ∀ i h1 (hi : i < Y.length), Ks S h h1 → h.nx.nat < h1.nx.nat → P i h1 → W fs (some h.nx) a (itA fs S h.nx c (P (i + 1)) D h1) ((fr.set p Y[i].1).set p' Y[i].2) h1)
    (fin : ∀ h1, P Y.length h1 → Ks S h h1 → h.nx.nat < h1.nx.nat → Q .normal fr h1) (brk : ∀ e h1, e ≠ .normal → D e h1 → Ks S h h1 → h.nx.nat < h1.nx.nat → Q e fr h1) : W fs ro (.rangeF f [p, p'] a c) Q fr h := by
  have n1 := nx_new h (rdyB fr [p, p'] a c)
  have g1 : Grow h.nx.nat h (h.new (rdyB fr [p, p'] a c)) := Grow.new (Nat.le_refl _) _
  have nS : ¬ S h.nx := fun e => by have := hS _ e; omega
  refine W_range2 hro hf hy (fun i h1 => P i h1 ∧ Ks S h h1 ∧ h.nx.nat < h1.nx.nat) (fun e h1 => D e h1 ∧ Ks S h h1 ∧ h.nx.nat < h1.nx.nat) (fun i h1 hi => ⟨hN _ hi.2.1, hi.2.1.hc, hi.2.2⟩) ⟨hP0 _ g1, Ks.of hc g1 (Nat.le_refl _), by omega⟩ ?_ ?_ ?_
  · rintro i h1 h2 hi ⟨hI, hk, hn⟩ hG hb
    have hn2 : h.nx.nat < h2.nx.nat := by have := hG.nx; omega
    have k2 := hk.grow hG hk.nx
    refine W_mono ?_ (step i h2 hi k2 hn2 (hP _ _ _ hI hk.hc hn fun id h1 _ => hG.old _ h1))
    rintro e fr1 h3 ⟨rfl, g3, hw⟩
    have k3 := k2.grow g3 k2.nx
    have hn3 : h.nx.nat < h3.nx.nat := by have := g3.nx; omega
    rw [rndA_n]
    refine ⟨(g3.old _ hn2).trans hb, ?_⟩
    have k3b := k3.putN hn3 (Nat.le_refl _) (bsyB fr [p, p'] a c)
    refine W_mono ?_ (hw (h3.put h.nx (bsyB fr [p, p'] a c)) rfl k3b.hc (fun id hid => get_put_other hid) (by rw [get_put_same]; rfl))
    rintro e fr2 h4 ⟨q1, q2, k4⟩
    have hn4 : h.nx.nat < h4.nx.nat := Nat.lt_of_lt_of_le hn3 k4.nx
    have k5 : Ks S h h4 := ⟨Nat.le_of_lt hn4, fun id hid hs => (k4.old id (by omega) hs).trans (k3b.old id hid hs), k4.hc⟩
    have e4 : h4.get h.nx = bsyB fr [p, p'] a c := (k4.old _ (Nat.le_refl _) nS).trans get_put_same
    have pp : ∀ x, ∀ id : K, id.nat < h4.nx.nat → id ≠ h.nx → (h4.put h.nx x).get id = h4.get id := fun x id _ hid => get_put_other hid
    have k6 := fun x => k5.putN hn4 (Nat.le_refl _) x
    cases e with
    | normal =>
      rw [rndK_n]
      exact ⟨e4, hP _ _ _ (q1 rfl) k4.hc hn4 (pp _), k6 _, hn4⟩
    | exit j =>
      rw [rndK_e]
      exact ⟨e4, hD _ _ _ (q2 (by simp)) k4.hc hn4 (pp _), k6 _, hn4⟩
    | ret =>
      rw [rndK_r]
      exact ⟨e4, hD _ _ _ (q2 (by simp)) k4.hc hn4 (pp _), k6 _, hn4⟩
  · rintro h1 h2 ⟨hI, hk, hn⟩ hG
    have hn2 : h.nx.nat < h2.nx.nat := by have := hG.nx; omega
    exact fin _ (hP _ _ _ hI hk.hc hn fun id h1 h3 => by rw [get_put_other h3]; exact hG.old _ h1) ((hk.grow hG hk.nx).putN hn2 (Nat.le_refl _) _) hn2
  · rintro e h1 hne ⟨hd, hk, hn⟩
    exact brk e h1 hne hd hk hn
end
end Go.Ev
namespace Go.Ev
open Go Go.RowKit
section
variable {L : List Int} {o u : Nat}
def vN (L : List Int) (o u : Nat) : Nat → Int
  | 0 => 0
  | j + 1 => vN L o u j * (o : Int) + L.getD (L.length - 1 - j) 0 * ((u ^ (j + 1) : Nat) : Int)
def vQ (L : List Int) (x : Rat) : Nat → Rat
  | 0 => 0
  | j + 1 => vQ L x j * x + (L.getD (L.length - 1 - j) 0 : Rat)
theorem vN_le (ho : o ≤ u) (hL : ∀ i, (L.getD i 0).natAbs ≤ 100) : ∀ j, (vN L o u j).natAbs ≤ j * 100 * u ^ j
  | 0 => by show (0 : Int).natAbs ≤ _; simp
  | j + 1 => by
    have a := nm (vN_le ho hL j) (show (o : Int).natAbs ≤ u by simpa using ho)
    have b := nm (hL (L.length - 1 - j)) (show ((u ^ (j + 1) : Nat) : Int).natAbs ≤ u ^ (j + 1) by rw [Int.natAbs_natCast]; exact Nat.le_refl _)
    have c := nadd a b
    have e : j * 100 * u ^ j * u + 100 * u ^ (j + 1) = (j + 1) * 100 * u ^ (j + 1) := by
      rw [Nat.pow_succ, Nat.add_mul, Nat.add_mul, Nat.one_mul, Nat.mul_assoc (j * 100)]
    rw [e] at c
    exact c
theorem pow_le7 (hu : u ≤ 64) {j : Nat} (hj : j ≤ 7) : u ^ j ≤ 4398046511104 := by
  have a : u ^ j ≤ 64 ^ j := Nat.pow_le_pow_left hu j
  have b : 64 ^ j ≤ 64 ^ 7 := Nat.pow_le_pow_right (by decide) hj
  have c : (64 : Nat) ^ 7 = 4398046511104 := by decide
  omega
theorem vQ_vN (hu : 0 < u) : ∀ j, vQ L (Rat.divInt (o : Int) (u : Int)) j = Rat.divInt (vN L o u j) ((u ^ j : Nat) : Int)
  | 0 => by show (0 : Rat) = Rat.divInt 0 _; rw [Rat.zero_divInt]
  | j + 1 => by
    show vQ L _ j * _ + _ = Rat.divInt (vN L o u j * (o : Int) + _ * ((u ^ (j + 1) : Nat) : Int)) _
    have hp : ((u ^ (j + 1) : Nat) : Int) ≠ 0 := by have := Nat.pow_pos (n := j + 1) hu; omega
    rw [vQ_vN hu j, Rat.divInt_mul_divInt, ← dv_add]
    have e1 : ((u ^ j : Nat) : Int) * (u : Int) = ((u ^ (j + 1) : Nat) : Int) := by rw [Nat.pow_succ, Int.natCast_mul]
    rw [e1]
    congr 1
    rw [Rat.divInt_eq_div, Rat.intCast_mul]
    have : (((u ^ (j + 1) : Nat) : Int) : Rat) ≠ 0 := by intro e; exact hp (Rat.intCast_eq_zero_iff.1 e)
    grind
theorem vQ_ov (hu : 0 < u) (ho : o ≤ u) (hL : ∀ i, (L.getD i 0).natAbs ≤ 100) (j : Nat) : Ov (vQ L (Rat.divInt (o : Int) (u : Int)) j) (u ^ j) (j * 100 * u ^ j) :=
  ⟨Nat.pow_pos hu, _, vN_le ho hL j, vQ_vN hu j⟩
theorem Ov.intc {a : Int} {D M : Nat} (hD : 0 < D) (ha : a.natAbs ≤ M) : Ov (a : Rat) D (M * D) := by
  refine ⟨hD, a * (D : Int), nm ha (by simp), ?_⟩
  rw [Rat.divInt_eq_div, Rat.intCast_mul]
  have : ((D : Int) : Rat) ≠ 0 := by intro e; have := Rat.intCast_eq_zero_iff.1 e; omega
  grind
end
def ptB (a b m : Int) : Bool := decide (b ≥ 1) && (decide (b ≤ m) && (decide (a ≥ 0) && (decide (a ≤ b) && decide ((Int.gcd a b : Int) = 1))))
theorem ptB_iff {a b m : Int} : ptB a b m = true ↔ 1 ≤ b ∧ b ≤ m ∧ 0 ≤ a ∧ a ≤ b ∧ Int.gcd a b = 1 := by
  unfold ptB
  simp only [Bool.and_eq_true, decide_eq_true_eq]
  omega
theorem low_iff {a b : Int} (hb : 0 < b) : (a = (Rat.divInt a b).num ∧ b = ((Rat.divInt a b).den : Int)) ↔ Int.gcd a b = 1 := by
  obtain ⟨h1, h2⟩ := fr_div (a := a) (b := b) (by omega)
  rw [if_neg (by omega)] at h1 h2
  constructor
  · rintro ⟨_, e2⟩
    rw [h2, Int.tdiv_eq_ediv_of_dvd gR] at e2
    have hg : Int.gcd a b ≠ 0 := fun e => by have := (Int.gcd_eq_zero_iff.1 e).2; omega
    have h3 : b / ((Int.gcd a b : Nat) : Int) * ((Int.gcd a b : Nat) : Int) = b := Int.ediv_mul_cancel gR
    rw [← e2] at h3
    have : b * (((Int.gcd a b : Nat) : Int)) = b * 1 := by omega
    have := Int.eq_of_mul_eq_mul_left (by omega) this
    omega
  · intro e
    rw [e] at h1 h2
    rw [h1, h2]
    simp
end Go.Ev
namespace Go.Ev
open Go Go.RowKit
noncomputable def f94_r0 : List EOper := [oG 1 (.box 1 (tG 0)), oG 2 (.as (.c .fnil))]
noncomputable def f94_r1 : List EOper := [oG 3 (.mkfn (.ofNat 108) [(tG 1)]), oG 2 (.as (tG 3))]
noncomputable def f94_c : EC := (.seq (.reg f94_r0) (.seq (.reg f94_r1) .ret))
noncomputable def f94 : EF := ⟨4, [.tmp (.ofNat 2)], f94_c, none⟩
theorem f94_rs : f94.rs = [.tmp (.ofNat 2)] := of_eq_true (eq_self _)
noncomputable def f108_r0 : List EOper := [oG 4 (.ld (tG 1)), oG 5 (.len (tG 4)), oG 6 (.bin .sub (tG 5) (cG 1)), oG 3 (.as (tG 6))]
noncomputable def f108_r1 : List EOper := [oG 7 (.mv (tG 3)), oG 8 (.bin .geq (tG 7) (cG 0))]
noncomputable def f108_r2 : List EOper := [oG 11 (.mv (tG 0)), oG 12 (.mv (tG 3)), oG 13 (.ld (tG 1)), oG 14 (.mv (tG 3)), oG 15 (.iads 1 (tG 13) (tG 14)), oG 16 (.ld (tG 15)), oG 17 (.call (tG 11) [(tG 12), (tG 16)]), oG 18 (.not (tG 17))]
noncomputable def f108_r3 : List EOper := [oG 9 (.mv (tG 3)), oG 10 (.bin .sub (tG 9) (cG 1)), oG 3 (.as (tG 10))]
noncomputable def f108_l0 : EC := (.seq (.seq (.reg f108_r1) (.cond (tG 8) .skip (.exit 0))) (.seq (.block 1 (.seq (.reg f108_r2) (.cond (tG 18) .ret .skip))) (.reg f108_r3)))
noncomputable def f108_c : EC := (.seq (.reg f108_r0) (.block 0 (.loop f108_l0)))
noncomputable def f108 : EF := ⟨19, [], f108_c, none⟩
theorem f108_rs : f108.rs = [] := of_eq_true (eq_self _)
noncomputable def f95_r0 : List EOper := [oG 2 (.as (cG 0))]
noncomputable def f95_r1 : List EOper := [oG 3 (.as (cG 0))]
noncomputable def f95_r2 : List EOper := [oG 6 (.mv (tG 0)), oG 7 (.len (tG 6)), oG 8 (.mv (cG 0))]
noncomputable def f95_r3 : List EOper := [oG 9 (.bin .lss (tG 8) (tG 7))]
noncomputable def f95_r4 : List EOper := [oG 10 (.iads 1 (tG 6) (tG 8)), oG 11 (.ld (tG 10)), oG 5 (.as (tG 11))]
noncomputable def f95_r5 : List EOper := [oG 12 (.mv (tG 3)), oG 13 (.mv (tG 5)), oG 14 (.bin .add (tG 12) (tG 13)), oG 3 (.as (tG 14))]
noncomputable def f95_r6 : List EOper := [oG 15 (.bin .add (tG 8) (cG 1)), oG 8 (.mv (tG 15))]
noncomputable def f95_l0 : EC := (.seq (.reg f95_r3) (.seq (.cond (tG 9) .skip (.exit 0)) (.seq (.block 1 (.seq (.reg f95_r4) (.reg f95_r5))) (.reg f95_r6))))
noncomputable def f95_r7 : List EOper := [oG 16 (.mv (tG 3)), oG 2 (.as (tG 16))]
noncomputable def f95_c : EC := (.seq (.reg f95_r0) (.seq (.reg f95_r1) (.seq (.seq (.reg f95_r2) (.block 0 (.loop f95_l0))) (.seq (.reg f95_r7) .ret))))
noncomputable def f95 : EF := ⟨17, [.tmp (.ofNat 2)], f95_c, none⟩
theorem f95_rs : f95.rs = [.tmp (.ofNat 2)] := of_eq_true (eq_self _)
noncomputable def f62_r0 : List EOper := [oG 1 (.box 2 (tG 0)), oG 2 (.alloc 2 [(.i .i64 (.ofNat 0)), (.i .i64 (.ofNat 0))])]
noncomputable def f62_r1 : List EOper := [oG 3 (.fadr 0 (tG 1)), oG 4 (.ld (tG 3)), oG 5 (.fadr 1 (tG 1)), oG 6 (.ld (tG 5)), oG 7 (.build [(.i .i64 (.ofNat 0)), (.i .i64 (.ofNat 0))] [(0, 1, (tG 4)), (1, 1, (tG 6))]), ⟨none, none, .st 2 (tG 2) (tG 7)⟩]
noncomputable def f62_c : EC := (.seq (.reg f62_r0) (.seq (.reg f62_r1) .ret))
noncomputable def f62 : EF := ⟨8, [.celln (.ofNat 2) 2], f62_c, none⟩
theorem f62_rs : f62.rs = [.celln (.ofNat 2) 2] := of_eq_true (eq_self _)
section
variable {fs : T EF} {h : H} {v w : V} {L : List Int} {a b m : Int}
def bwY (L : List Int) : List (V × V) := (List.range L.length).map fun j => (.i .i64 ((L.length - 1 - j : Nat) : Int), .i .i64 (L.getD (L.length - 1 - j) 0))
theorem bwY_len : (bwY L).length = L.length := by simp [bwY]
theorem bwY_at {j : Nat} (hj : j < (bwY L).length) : (bwY L)[j] = (.i .i64 ((L.length - 1 - j : Nat) : Int), .i .i64 (L.getD (L.length - 1 - j) 0)) := by simp [bwY]
def NBk (b : K) (v : V) (L : List Int) (h : H) : Prop := h.get b = .cells 1 [v] ∧ Sr iE h v L
def f108_I (id b : K) (L : List Int) (I : Nat → H → Prop) (j : Nat) (fr : Fr) (h2 : H) : Prop := j ≤ L.length ∧ (∃ h1, I j h1 ∧ Grow h1.nx.nat h1 h2) ∧ fr.get (K.ofNat 0) = some (.yl id) ∧ fr.get (K.ofNat 1) = some (.p b 0) ∧ fr.get (K.ofNat 3) = some (.i .i64 ((L.length : Int) - 1 - (j : Int)))
theorem back_yield {b : K} (k : fs.get (K.ofNat 108) = some f108) (hL : L.length ≤ 1000) : Yields2 fs (K.ofNat 108) [.p b 0] (NBk b v L) (bwY L) := by
  intro id I D h hN hI round
  refine callP_of (ef := f108) k rfl ?_
  show Ret fs f108 [.yl id, .p b 0] h _
  apply ret_of rfl
  show W fs none f108_c _ _ _
  unfold f108_c
  obtain ⟨⟨b1, s1⟩, hc⟩ := hN _ _ hI
  have l1 : loadV h (.p b 0) one? = .ok v h := load_p b1 rfl
  have e1 := s1.len
  have ei : fw .i64 ((L.length : Int) - 1) = (L.length : Int) - 1 := fw64 (by omega) (by omega)
  simp (disch := omega) only [f108_r0, ↓reduceIte, l1, e1, ei, bz]
  refine W_loop (f108_I id b L I) (fun j => L.length - j) ?_ 0 ⟨Nat.zero_le _, ⟨h, hI, Grow.refl _ _⟩, by simp (disch := omega) only [getK_set, Nat.reduceEqDiff, ↓reduceIte, and_self, Int.natCast_zero, Int.sub_zero]⟩
  clear b1 s1 hc l1 e1 ei hI
  rintro j fr h2 ⟨hj, ⟨h1, hI, hG⟩, g0, g1, g3⟩
  obtain ⟨⟨b1, s1⟩, hc⟩ := hN _ _ hI
  have b2 : h2.get b = .cells 1 [v] := (hG.old _ (hc.cells b1)).trans b1
  have s2 := s1.grow hc hG
  have l2 : loadV h2 (.p b 0) one? = .ok v h2 := load_p b2 rfl
  unfold f108_l0
  by_cases hlt : j < L.length
  · have d1 : decide ((L.length : Int) - 1 - (j : Int) ≥ 0) = true := decide_eq_true (by omega)
    have ec : (L.length : Int) - 1 - (j : Int) = ((L.length - 1 - j : Nat) : Int) := by omega
    obtain ⟨p, p1, p2⟩ := s2.at (L.length - 1 - j) (by omega)
    have p2 : loadV h2 p one? = .ok (.i .i64 (L.getD (L.length - 1 - j) 0)) h2 := by
      rw [List.getD_eq_getElem?_getD, List.getElem?_eq_getElem (by omega)]; exact p2
    obtain ⟨r, h3, ⟨n, hr⟩, r1, r2⟩ := round j h1 h2 (by rw [bwY_len]; exact hlt) hI hG
    rw [bwY_at (by rw [bwY_len]; exact hlt)] at hr
    have e6 : ∀ P : V → H → Prop, P (.b r) h3 → CallP fs (.yl id) [.i .i64 ((L.length - 1 - j : Nat) : Int), .i .i64 (L.getD (L.length - 1 - j) 0)] h2 P := fun P hP => ⟨n, _, _, hr, hP⟩
    rw [ec] at g3 d1
    simp (disch := omega) only [f108_r1, f108_r2, Nat.reduceEqDiff, ↓reduceIte, g0, g1, g3, d1, l2, p1, p2, bz]
    refine e6 _ ?_
    cases r with
    | false =>
      simp (disch := omega) only [f108_rs, atK_r, loopK_r, retV_0, Option.some.injEq, exists_eq_left', ↓reduceIte, Bool.not_false, bz]
      exact .inr (r2 rfl)
    | true =>
      have e4 : fw .i64 (((L.length - 1 - j : Nat) : Int) - 1) = (L.length : Int) - 1 - ((j + 1 : Nat) : Int) := by rw [fw64 (by omega) (by omega)]; omega
      simp (disch := omega) only [f108_r3, Nat.reduceEqDiff, ↓reduceIte, Bool.false_eq_true, Bool.not_true, g3, e4, bz]
      exact ⟨j + 1, by omega, by omega, ⟨h3, r1 rfl, Grow.refl _ _⟩, by simp (disch := omega) only [getK_set, Nat.reduceEqDiff, ↓reduceIte, g0, g1, and_self]⟩
  · have d1 : decide ((L.length : Int) - 1 - (j : Int) ≥ 0) = false := decide_eq_false (by omega)
    obtain rfl : j = L.length := by omega
    simp (disch := omega) only [f108_r1, f108_rs, retK_n, retV_0, Option.some.injEq, exists_eq_left', ↓reduceIte, Bool.false_eq_true, g3, d1, bz]
    exact .inl ⟨h1, by rw [bwY_len]; exact hI, hG⟩
theorem f94_ret (hv : cellsN 1 v = some [v]) : Ret fs f94 [v] h fun r h' => r = .fn (.ofNat 108) [.p h.nx 0] ∧ h' = h.new (.cells 1 [v]) := by
  apply ret_of rfl
  show W fs none f94_c _ _ _
  unfold f94_c
  simp (disch := omega) only [f94_r0, f94_r1, f94_rs, x_mkfn, Option.some.injEq, exists_eq_left', Nat.reduceEqDiff, ↓reduceIte, hv, and_self, bz]
def sumF (L : List Int) : Int := L.foldl (fun s x => fw .i64 (s + x)) 0
def f95_I (h0 : H) (v : V) (L : List Int) (j : Nat) (fr : Fr) (h1 : H) : Prop := j ≤ L.length ∧ h1 = h0 ∧ fr.get (K.ofNat 3) = some (.i .i64 (sumF (L.take j))) ∧ fr.get (K.ofNat 6) = some (v) ∧ fr.get (K.ofNat 7) = some (.i .i64 (L.length : Int)) ∧ fr.get (K.ofNat 8) = some (.i .i64 (j : Int))
theorem f95_ret (hv : Sr iE h v L) (hL : L.length ≤ 1000000) : Ret fs f95 [v] h fun r h' => r = .i .i64 (sumF L) ∧ h' = h := by
  apply ret_of rfl
  show W fs none f95_c _ _ _
  unfold f95_c
  have e1 := hv.len
  simp (disch := omega) only [f95_r0, f95_r1, f95_r2, Nat.reduceEqDiff, ↓reduceIte, e1, bz]
  refine W_loop (f95_I h v L) (fun j => L.length - j) ?_ 0 ⟨by omega, rfl, by simp (disch := omega) only [getK_set, Nat.reduceEqDiff, ↓reduceIte, and_self, Int.natCast_zero, List.take_zero, sumF, List.foldl]⟩
  rintro j fr h1 ⟨hj, rfl, g3, g6, g7, g8⟩
  unfold f95_l0
  by_cases hlt : j < L.length
  · have d1 : decide ((j : Int) < (L.length : Int)) = true := decide_eq_true (by omega)
    have e4 : fw .i64 ((j : Int) + 1) = ((j + 1 : Nat) : Int) := by rw [fw64 (by omega) (by omega)]; rfl
    obtain ⟨p, p1, p2⟩ := hv.at j hlt
    have p2 : loadV h1 p one? = .ok (.i .i64 L[j]) h1 := p2
    have hs : sumF (L.take (j + 1)) = fw .i64 (sumF (L.take j) + L[j]) := by
      unfold sumF; rw [List.take_succ_eq_append_getElem hlt, List.foldl_append]; rfl
    simp (disch := omega) only [f95_r3, f95_r4, f95_r5, f95_r6, Nat.reduceEqDiff, ↓reduceIte, g3, g6, g7, g8, d1, p1, p2, e4, bz]
    exact ⟨j + 1, by omega, by omega, rfl, by simp (disch := omega) only [getK_set, Nat.reduceEqDiff, ↓reduceIte, g6, g7, and_self, hs]⟩
  · have d1 : decide ((j : Int) < (L.length : Int)) = false := decide_eq_false (by omega)
    rw [List.take_of_length_le (by omega)] at g3
    simp (disch := omega) only [f95_r3, f95_r7, f95_rs, Option.some.injEq, exists_eq_left', Nat.reduceEqDiff, ↓reduceIte, Bool.false_eq_true, g3, g7, g8, d1, and_self, bz]
theorem f95_eq (k : fs.get (.ofNat 95) = some f95) (hv : Sr iE h v L) (hL : L.length ≤ 1000000) {P : V → H → Prop} : CallP fs (.fn (.ofNat 95) []) [v] h P = P (.i .i64 (sumF L)) h := callP_eq2 (callP_0 k rfl (f95_ret hv hL))
theorem f62_ret : Ret fs f62 [.agg [.i .i64 a, .i .i64 b]] h fun r h' => r = .agg [.i .i64 a, .i .i64 b] ∧ Grow h.nx.nat h h' := by
  apply ret_of rfl
  show W fs none f62_c _ _ _
  unfold f62_c
  have gA := Grow.new (Nat.le_refl h.nx.nat) (.cells 2 [.i .i64 a, .i .i64 b])
  have n1 := nx_new h (.cells 2 [.i .i64 a, .i .i64 b])
  have b1 : (h.new (.cells 2 [.i .i64 a, .i .i64 b])).get h.nx = .cells 2 [.i .i64 a, .i .i64 b] := get_new_same
  simp (disch := omega) only [f62_r0, ↓reduceIte, bz]
  generalize h.new (.cells 2 [.i .i64 a, .i .i64 b]) = hA at *
  have gB := Grow.new (Nat.le_refl hA.nx.nat) (.cells 2 [.i .i64 0, .i .i64 0])
  have n2 := nx_new hA (.cells 2 [.i .i64 0, .i .i64 0])
  have c1 : (hA.new (.cells 2 [.i .i64 0, .i .i64 0])).get h.nx = .cells 2 [.i .i64 a, .i .i64 b] := (get_new_old (by omega)).trans b1
  have c2 : (hA.new (.cells 2 [.i .i64 0, .i .i64 0])).get hA.nx = .cells 2 [.i .i64 0, .i .i64 0] := get_new_same
  have GB := gA.trans (gB.low gA.nx)
  generalize hA.nx = i2 at *
  generalize hA.new (.cells 2 [.i .i64 0, .i .i64 0]) = hB at *
  have l1 : loadV hB (.p h.nx 0) one? = .ok (.i .i64 a) hB := load_p c1 rfl
  have l2 : loadV hB (.p h.nx 1) one? = .ok (.i .i64 b) hB := load_p c1 rfl
  have st := store2 (x := .i .i64 a) (y := .i .i64 b) c2
  have rd := read2 (h := hB.put i2 (.cells 2 [.i .i64 a, .i .i64 b])) (id := i2) get_put_same
  simp (disch := omega) only [f62_r1, f62_rs, Option.some.injEq, exists_eq_left', Nat.reduceEqDiff, ↓reduceIte, l1, l2, st, rd, bz]
  exact GB.trans (Grow.put (by omega) (by omega) _)
end
end Go.Ev
namespace Go.Ev
open Go Go.RowKit
noncomputable def f60_r0 : List EOper := [oG 2 (.box 2 (tG 0)), oG 4 (.alloc 2 [(.i .i64 (.ofNat 0)), (.i .i64 (.ofNat 0))]), oG 5 (.as (.c (.b false)))]
noncomputable def f60_r1 : List EOper := [oG 7 (.iadr 2 1 (tG 2) (cG 0)), oG 8 (.ld (tG 7)), oG 9 (.iadr 2 1 (tG 2) (cG 1)), oG 10 (.ld (tG 9)), oG 11 (.build [(.i .i64 (.ofNat 0)), (.i .i64 (.ofNat 0))] [(0, 1, (tG 8)), (1, 1, (tG 10))]), oG 6 (.alloc 2 [(.i .i64 (.ofNat 0)), (.i .i64 (.ofNat 0))]), ⟨none, none, .st 2 (tG 6) (tG 11)⟩]
noncomputable def f60_r2 : List EOper := [oG 12 (.fadr 1 (tG 6)), oG 13 (.ld (tG 12)), oG 14 (.bin .lss (tG 13) (cG 1)), oG 15 (.mv (tG 14)), gG 16 15 false (.fadr 1 (tG 6)), gG 17 15 false (.ld (tG 16)), gG 18 15 false (.mv (tG 1)), gG 19 15 false (.bin .gtr (tG 17) (tG 18)), oG 20 (.pick (tG 15) (.c (.b true)) (tG 19)), oG 21 (.mv (tG 20)), gG 22 21 false (.fadr 0 (tG 6)), gG 23 21 false (.ld (tG 22)), gG 24 21 false (.bin .lss (tG 23) (cG 0)), oG 25 (.pick (tG 21) (.c (.b true)) (tG 24)), oG 26 (.mv (tG 25)), gG 27 26 false (.fadr 0 (tG 6)), gG 28 26 false (.ld (tG 27)), gG 29 26 false (.fadr 1 (tG 6)), gG 30 26 false (.ld (tG 29)), gG 31 26 false (.bin .gtr (tG 28) (tG 30)), oG 32 (.pick (tG 26) (.c (.b true)) (tG 31))]
noncomputable def f60_r3 : List EOper := [oG 33 (.build [(.i .i64 (.ofNat 0)), (.i .i64 (.ofNat 0))] []), ⟨none, none, .st 2 (tG 4) (tG 33)⟩, oG 5 (.as (.c (.b false)))]
noncomputable def f60_r4 : List Stage := [⟨[oG 34 (.ldn 2 (tG 6)), oG 35 (.fadr 0 (tG 6)), oG 36 (.ld (tG 35)), oG 37 (.fadr 1 (tG 6)), oG 38 (.ld (tG 37))], [], (some (oG 39 (.call (fG 89) [(tG 36), (tG 38)]))), []⟩, ⟨[oG 40 (.eqk (.many [(some .i64), (some .i64)]) true (tG 34) (tG 39))], [oG 34 (.ldn 2 (tG 6))], none, []⟩]
noncomputable def f60_r5 : List EOper := [oG 41 (.build [(.i .i64 (.ofNat 0)), (.i .i64 (.ofNat 0))] []), ⟨none, none, .st 2 (tG 4) (tG 41)⟩, oG 5 (.as (.c (.b false)))]
noncomputable def f60_r6 : List EOper := [oG 42 (.ldn 2 (tG 6)), ⟨none, none, .st 2 (tG 4) (tG 42)⟩, oG 5 (.as (.c (.b true)))]
noncomputable def f60_c : EC := (.seq (.reg f60_r0) (.seq (.reg f60_r1) (.seq (.seq (.reg f60_r2) (.cond (tG 32) (.seq (.reg f60_r3) .ret) .skip)) (.seq (.seq (.draw f60_r4) (.cond (tG 40) (.seq (.reg f60_r5) .ret) .skip)) (.seq (.reg f60_r6) .ret)))))
noncomputable def f60 : EF := ⟨43, [.celln (.ofNat 4) 2, .tmp (.ofNat 5)], f60_c, none⟩
theorem f60_rs : f60.rs = [.celln (.ofNat 4) 2, .tmp (.ofNat 5)] := of_eq_true (eq_self _)
noncomputable def f27_r0 : List EOper := [oG 2 (.box 2 (tG 0)), oG 4 (.as (.c (.b false)))]
noncomputable def f27_r1 : List EOper := [oG 5 (.iadr 2 1 (tG 2) (cG 1)), oG 6 (.ld (tG 5)), oG 7 (.bin .geq (tG 6) (cG 1)), oG 8 (.mv (tG 7)), gG 9 8 true (.iadr 2 1 (tG 2) (cG 1)), gG 10 8 true (.ld (tG 9)), gG 11 8 true (.mv (tG 1)), gG 12 8 true (.bin .leq (tG 10) (tG 11)), oG 13 (.pick (tG 8) (tG 12) (.c (.b false))), oG 14 (.mv (tG 13)), gG 15 14 true (.iadr 2 1 (tG 2) (cG 0)), gG 16 14 true (.ld (tG 15)), gG 17 14 true (.bin .geq (tG 16) (cG 0)), oG 18 (.pick (tG 14) (tG 17) (.c (.b false))), oG 19 (.mv (tG 18)), gG 20 19 true (.iadr 2 1 (tG 2) (cG 0)), gG 21 19 true (.ld (tG 20)), gG 22 19 true (.iadr 2 1 (tG 2) (cG 1)), gG 23 19 true (.ld (tG 22)), gG 24 19 true (.bin .leq (tG 21) (tG 23)), oG 25 (.pick (tG 19) (tG 24) (.c (.b false))), oG 26 (.mv (tG 25)), gG 27 26 true (.iadr 2 1 (tG 2) (cG 0)), gG 28 26 true (.ld (tG 27)), gG 29 26 true (.iadr 2 1 (tG 2) (cG 1)), gG 30 26 true (.ld (tG 29)), gG 31 26 true (.call (fG 73) [(tG 28), (tG 30)]), gG 32 26 true (.bin .eql (tG 31) (cG 1)), oG 33 (.pick (tG 26) (tG 32) (.c (.b false))), oG 4 (.as (tG 33))]
noncomputable def f27_c : EC := (.seq (.reg f27_r0) (.seq (.reg f27_r1) .ret))
noncomputable def f27 : EF := ⟨34, [.tmp (.ofNat 4)], f27_c, none⟩
theorem f27_rs : f27.rs = [.tmp (.ofNat 4)] := of_eq_true (eq_self _)
noncomputable def f61_r0 : List EOper := [oG 3 (.box 2 (tG 1)), oG 4 (.alloc 2 [(.i .i64 (.ofNat 0)), (.i .i64 (.ofNat 0))])]
noncomputable def f61_r1 : List EOper := [oG 5 (.alloc 1 [(.i .i64 (.ofNat 0))]), oG 6 (.alloc 1 [(.i .i64 (.ofNat 0))]), ⟨none, none, .st 1 (tG 5) (cG 0)⟩, ⟨none, none, .st 1 (tG 6) (cG 1)⟩]
noncomputable def f61_r2 : List EOper := [oG 9 (.mv (tG 0)), oG 10 (.call (fG 94) [(tG 9)])]
noncomputable def f61_r3 : List EOper := [oG 8 (.as (tG 12))]
noncomputable def f61_a0 : EC := (.reg f61_r3)
noncomputable def f61_r4 : List EOper := [oG 13 (.ld (tG 6)), oG 14 (.fadr 1 (tG 3)), oG 15 (.ld (tG 14)), oG 16 (.bin .mul (tG 13) (tG 15)), ⟨none, none, .st 1 (tG 6) (tG 16)⟩]
noncomputable def f61_r5 : List EOper := [oG 17 (.ld (tG 5)), oG 18 (.fadr 0 (tG 3)), oG 19 (.ld (tG 18)), oG 20 (.bin .mul (tG 17) (tG 19)), oG 21 (.mv (tG 8)), oG 22 (.ld (tG 6)), oG 23 (.bin .mul (tG 21) (tG 22)), oG 24 (.bslice 2 1 [(.i .i64 (.ofNat 0)), (.i .i64 (.ofNat 0))] [(0, 1, (tG 20)), (1, 1, (tG 23))]), oG 25 (.call (fG 95) [(tG 24)]), ⟨none, none, .st 1 (tG 5) (tG 25)⟩]
noncomputable def f61_b0 : EC := (.block 1 (.seq (.reg f61_r4) (.reg f61_r5)))
noncomputable def f61_r6 : List EOper := [oG 26 (.ld (tG 5)), oG 27 (.ld (tG 6)), oG 28 (.call (fG 89) [(tG 26), (tG 27)]), ⟨none, none, .st 2 (tG 4) (tG 28)⟩]
noncomputable def f61_c : EC := (.seq (.reg f61_r0) (.seq (.reg f61_r1) (.seq (.seq (.reg f61_r2) (.block 0 (.rangeF (tG 10) [(.ofNat 11), (.ofNat 12)] f61_a0 f61_b0))) (.seq (.reg f61_r6) .ret))))
noncomputable def f61 : EF := ⟨29, [.celln (.ofNat 4) 2], f61_c, none⟩
theorem f61_rs : f61.rs = [.celln (.ofNat 4) 2] := of_eq_true (eq_self _)
section
variable {fs : T EF} {h : H} {v w : V} {L : List Int} {a b m : Int}
theorem load2 {id : K} {x y : V} (hb : h.get id = .cells 2 [x, y]) : loadV h (.p id 0) (many? 2) = .ok (.agg [x, y]) h := by
  show okv (readP h (.p id 0) (many? 2)) h = _
  rw [read2 hb]; rfl
theorem in63 {x : Int} (h1 : -9223372036854775808 ≤ x) (h2 : x ≤ 9223372036854775807) : inR .i64 x = true := by
  cases x with
  | ofNat m => exact Nat.ble_eq_true_of_le (show m ≤ 9223372036854775807 by simp at h2; omega)
  | negSucc m => exact Nat.ble_eq_true_of_le (show m + 1 ≤ 9223372036854775808 by omega)
theorem f27_ret (k73 : fs.get (.ofNat 73) = some f73) (hm : m ≤ 1000000) : Ret fs f27 [.agg [.i .i64 a, .i .i64 b], .i .i64 m] h fun r h' => r = .b (ptB a b m) ∧ Grow h.nx.nat h h' := by
  apply ret_of rfl
  show W fs none f27_c _ _ _
  unfold f27_c ptB
  have gA := Grow.new (Nat.le_refl h.nx.nat) (.cells 2 [.i .i64 a, .i .i64 b])
  have b1 : (h.new (.cells 2 [.i .i64 a, .i .i64 b])).get h.nx = .cells 2 [.i .i64 a, .i .i64 b] := get_new_same
  simp (disch := omega) only [f27_r0, Nat.reduceEqDiff, ↓reduceIte, bz]
  generalize h.new (.cells 2 [.i .i64 a, .i .i64 b]) = hA at *
  have l1 : loadV hA (.p h.nx 0) one? = .ok (.i .i64 a) hA := load_p b1 rfl
  have l2 : loadV hA (.p h.nx 1) one? = .ok (.i .i64 b) hA := load_p b1 rfl
  by_cases c1 : b ≥ 1
  · have d1 : decide (b ≥ 1) = true := decide_eq_true c1
    by_cases c2 : b ≤ m
    · have d2 : decide (b ≤ m) = true := decide_eq_true c2
      by_cases c3 : a ≥ 0
      · have d3 : decide (a ≥ 0) = true := decide_eq_true c3
        by_cases c4 : a ≤ b
        · have d4 : decide (a ≤ b) = true := decide_eq_true c4
          have eg := fun P => f73_eq (h := hA) (P := P) k73 (a := a) (b := b) (by unfold M63; omega) (by unfold M63; omega) (.inr (by omega))
          simp (disch := omega) only [f27_r1, f27_rs, Option.some.injEq, exists_eq_left', Nat.reduceEqDiff, ↓reduceIte, l1, l2, d1, d2, d3, d4, eg, Bool.true_and, bz]
          exact gA
        · have d4 : decide (a ≤ b) = false := decide_eq_false c4
          simp (disch := omega) only [f27_r1, f27_rs, Option.some.injEq, exists_eq_left', Nat.reduceEqDiff, ↓reduceIte, Bool.false_eq_true, l1, l2, d1, d2, d3, d4, Bool.true_and, Bool.false_and, bz]
          exact gA
      · have d3 : decide (a ≥ 0) = false := decide_eq_false c3
        simp (disch := omega) only [f27_r1, f27_rs, Option.some.injEq, exists_eq_left', Nat.reduceEqDiff, ↓reduceIte, Bool.false_eq_true, l1, l2, d1, d2, d3, Bool.true_and, Bool.false_and, bz]
        exact gA
    · have d2 : decide (b ≤ m) = false := decide_eq_false c2
      simp (disch := omega) only [f27_r1, f27_rs, Option.some.injEq, exists_eq_left', Nat.reduceEqDiff, ↓reduceIte, Bool.false_eq_true, l2, d1, d2, Bool.true_and, Bool.false_and, bz]
      exact gA
  · have d1 : decide (b ≥ 1) = false := decide_eq_false c1
    simp (disch := omega) only [f27_r1, f27_rs, Option.some.injEq, exists_eq_left', Nat.reduceEqDiff, ↓reduceIte, Bool.false_eq_true, l2, d1, Bool.false_and, bz]
    exact gA
def shV (a b m : Int) : V := if ptB a b m = true then .tup [.agg [.i .i64 a, .i .i64 b], .b true] else .tup [.agg [.i .i64 0, .i .i64 0], .b false]
theorem f60_ret (k89 : fs.get (.ofNat 89) = some f89) (k104 : fs.get (.ofNat 104) = some f104) (hm : m ≤ 1000000) : Ret fs f60 [.agg [.i .i64 a, .i .i64 b], .i .i64 m] h fun r h' => r = shV a b m ∧ Grow h.nx.nat h h' := by
  apply ret_of rfl
  show W fs none f60_c _ _ _
  unfold f60_c
  have gA := Grow.new (Nat.le_refl h.nx.nat) (.cells 2 [.i .i64 a, .i .i64 b])
  have n1 := nx_new h (.cells 2 [.i .i64 a, .i .i64 b])
  have b1 : (h.new (.cells 2 [.i .i64 a, .i .i64 b])).get h.nx = .cells 2 [.i .i64 a, .i .i64 b] := get_new_same
  simp (disch := omega) only [f60_r0, Nat.reduceEqDiff, ↓reduceIte, bz]
  generalize h.new (.cells 2 [.i .i64 a, .i .i64 b]) = hA at *
  have gB := Grow.new (Nat.le_refl hA.nx.nat) (.cells 2 [.i .i64 0, .i .i64 0])
  have n2 := nx_new hA (.cells 2 [.i .i64 0, .i .i64 0])
  have c1 : (hA.new (.cells 2 [.i .i64 0, .i .i64 0])).get h.nx = .cells 2 [.i .i64 a, .i .i64 b] := (get_new_old (by omega)).trans b1
  have c2 : (hA.new (.cells 2 [.i .i64 0, .i .i64 0])).get hA.nx = .cells 2 [.i .i64 0, .i .i64 0] := get_new_same
  have GB := gA.trans (gB.low gA.nx)
  have hi2 : h.nx.nat < hA.nx.nat := by omega
  generalize hA.nx = i2 at *
  generalize hA.new (.cells 2 [.i .i64 0, .i .i64 0]) = hB at *
  have l1 : loadV hB (.p h.nx 0) one? = .ok (.i .i64 a) hB := load_p c1 rfl
  have l2 : loadV hB (.p h.nx 1) one? = .ok (.i .i64 b) hB := load_p c1 rfl
  have gC := Grow.new (Nat.le_refl hB.nx.nat) (.cells 2 [.i .i64 0, .i .i64 0])
  have n3 := nx_new hB (.cells 2 [.i .i64 0, .i .i64 0])
  have d2 : (hB.new (.cells 2 [.i .i64 0, .i .i64 0])).get i2 = .cells 2 [.i .i64 0, .i .i64 0] := (get_new_old (by omega)).trans c2
  have d3 : (hB.new (.cells 2 [.i .i64 0, .i .i64 0])).get hB.nx = .cells 2 [.i .i64 0, .i .i64 0] := get_new_same
  have st := store2 (x := .i .i64 a) (y := .i .i64 b) d3
  have GC := (GB.trans (gC.low GB.nx)).trans (Grow.put (b := h.nx.nat) (k := hB.nx) (by have := GB.nx; omega) (by omega) (.cells 2 [.i .i64 a, .i .i64 b]))
  simp (disch := omega) only [f60_r1, Nat.reduceEqDiff, ↓reduceIte, l1, l2, st, bz]
  have e2 : ((hB.new (.cells 2 [.i .i64 0, .i .i64 0])).put hB.nx (.cells 2 [.i .i64 a, .i .i64 b])).get i2 = .cells 2 [.i .i64 0, .i .i64 0] := (get_put_other (fun e => by rw [e] at n2; omega)).trans d2
  have e3 : ((hB.new (.cells 2 [.i .i64 0, .i .i64 0])).put hB.nx (.cells 2 [.i .i64 a, .i .i64 b])).get hB.nx = .cells 2 [.i .i64 a, .i .i64 b] := get_put_same
  have nD : ((hB.new (.cells 2 [.i .i64 0, .i .i64 0])).put hB.nx (.cells 2 [.i .i64 a, .i .i64 b])).nx.nat = hB.nx.nat + 1 := by rw [nx_put, nx_new]
  generalize (hB.new (.cells 2 [.i .i64 0, .i .i64 0])).put hB.nx (.cells 2 [.i .i64 a, .i .i64 b]) = hD at *
  have hi3 : i2.nat < hD.nx.nat := by omega
  have hi4 : hB.nx.nat < hD.nx.nat := by omega
  have hi5 : i2.nat ≠ hB.nx.nat := by omega
  clear st gC d2 d3 n3 l1 l2 c1 c2 n2 gB b1
  generalize hB.nx = i3 at *
  have m1 : loadV hD (.p i3 0) one? = .ok (.i .i64 a) hD := load_p e3 rfl
  have m2 : loadV hD (.p i3 1) one? = .ok (.i .i64 b) hD := load_p e3 rfl
  have m3 : loadV hD (.p i3 0) (many? 2) = .ok (.agg [.i .i64 a, .i .i64 b]) hD := load2 e3
  have st0 := store2 (x := .i .i64 0) (y := .i .i64 0) e2
  have rd0 := read2 (h := hD.put i2 (.cells 2 [.i .i64 0, .i .i64 0])) (id := i2) get_put_same
  have G0 : Grow h.nx.nat h (hD.put i2 (.cells 2 [.i .i64 0, .i .i64 0])) := GC.trans (Grow.put (by omega) (by omega) _)
  have sF : ptB a b m = false → shV a b m = .tup [.agg [.i .i64 0, .i .i64 0], .b false] := fun e => by unfold shV; rw [e]; rfl
  have sT : ptB a b m = true → shV a b m = .tup [.agg [.i .i64 a, .i .i64 b], .b true] := fun e => by unfold shV; rw [e]; rfl
  have bF : (¬ (1 ≤ b ∧ b ≤ m ∧ 0 ≤ a ∧ a ≤ b ∧ Int.gcd a b = 1)) → ptB a b m = false := fun hn => Bool.eq_false_iff.2 fun e => hn (ptB_iff.1 e)
  by_cases c1 : b < 1
  · have d1 : decide (b < 1) = true := decide_eq_true c1
    have e := sF (bF (by omega))
    simp (disch := omega) only [f60_r2, f60_r3, f60_rs, Option.some.injEq, exists_eq_left', Nat.reduceEqDiff, ↓reduceIte, Bool.false_eq_true, Bool.not_true, m2, d1, st0, rd0, e, bz]
    exact G0
  have d1 : decide (b < 1) = false := decide_eq_false c1
  by_cases c2 : b > m
  · have d2 : decide (b > m) = true := decide_eq_true c2
    have e := sF (bF (by omega))
    simp (disch := omega) only [f60_r2, f60_r3, f60_rs, Option.some.injEq, exists_eq_left', Nat.reduceEqDiff, ↓reduceIte, Bool.false_eq_true, Bool.not_true, Bool.not_false, m2, d1, d2, st0, rd0, e, bz]
    exact G0
  have d2 : decide (b > m) = false := decide_eq_false c2
  by_cases c3 : a < 0
  · have d3 : decide (a < 0) = true := decide_eq_true c3
    have e := sF (bF (by omega))
    simp (disch := omega) only [f60_r2, f60_r3, f60_rs, Option.some.injEq, exists_eq_left', Nat.reduceEqDiff, ↓reduceIte, Bool.false_eq_true, Bool.not_true, Bool.not_false, m1, m2, d1, d2, d3, st0, rd0, e, bz]
    exact G0
  have d3 : decide (a < 0) = false := decide_eq_false c3
  by_cases c4 : a > b
  · have d4 : decide (a > b) = true := decide_eq_true c4
    have e := sF (bF (by omega))
    simp (disch := omega) only [f60_r2, f60_r3, f60_rs, Option.some.injEq, exists_eq_left', Nat.reduceEqDiff, ↓reduceIte, Bool.false_eq_true, Bool.not_false, m1, m2, d1, d2, d3, d4, st0, rd0, e, bz]
    exact G0
  have d4 : decide (a > b) = false := decide_eq_false c4
  simp (disch := omega) only [f60_r2, f60_r4, xg_ldn, xg_fadr, Nat.reduceEqDiff, ↓reduceIte, Bool.false_eq_true, Bool.not_false, m1, m2, m3, d1, d2, d3, d4, bz]
  refine (callP_0 (ef := f89) k89 rfl (f89_ret k104 (by unfold M63; omega) (by unfold M63; omega) (by omega))).mono ?_
  rintro r h' ⟨rfl, g⟩
  have hle := div_le (a := a) (b := b) (by omega)
  have kq := keyEq_2 (a := a) (b := b) (c := (Rat.divInt a b).num) (d := ((Rat.divInt a b).den : Int)) (in63 (by omega) (by omega)) (in63 (by omega) (by omega)) (in63 (by omega) (by omega)) (in63 (by omega) (by omega))
  have e3' : h'.get i3 = .cells 2 [.i .i64 a, .i .i64 b] := (g.old _ hi4).trans e3
  have e2' : h'.get i2 = .cells 2 [.i .i64 0, .i .i64 0] := (g.old _ hi3).trans e2
  have m3' : loadV h' (.p i3 0) (many? 2) = .ok (.agg [.i .i64 a, .i .i64 b]) h' := load2 e3'
  have st1 := store2 (x := .i .i64 a) (y := .i .i64 b) e2'
  have rd1 := read2 (h := h'.put i2 (.cells 2 [.i .i64 a, .i .i64 b])) (id := i2) get_put_same
  have st2 := store2 (x := .i .i64 0) (y := .i .i64 0) e2'
  have rd2 := read2 (h := h'.put i2 (.cells 2 [.i .i64 0, .i .i64 0])) (id := i2) get_put_same
  have gn := g.nx
  have GE := GC.trans (g.low (by have := GC.nx; omega))
  have GP : ∀ x, Grow h.nx.nat h (h'.put i2 x) := fun x => GE.trans (Grow.put (by omega) (by omega) _)
  unfold frL
  by_cases cg : Int.gcd a b = 1
  · have hl := (low_iff (a := a) (b := b) (by omega)).2 cg
    have dq : (decide (a = (Rat.divInt a b).num) && decide (b = ((Rat.divInt a b).den : Int))) = true := by rw [decide_eq_true hl.1, decide_eq_true hl.2]; rfl
    rw [dq] at kq
    have e := sT (ptB_iff.2 ⟨by omega, by omega, by omega, by omega, cg⟩)
    simp (disch := omega) only [f60_r6, f60_rs, xg_eqk, Option.some.injEq, exists_eq_left', Nat.reduceEqDiff, ↓reduceIte, Bool.false_eq_true, Bool.not_true, stay_ldn, kq, m3', st1, rd1, cond_true, e, bz]
    exact GP _
  · have dq : (decide (a = (Rat.divInt a b).num) && decide (b = ((Rat.divInt a b).den : Int))) = false := by
      rw [Bool.eq_false_iff]
      intro hh
      rw [Bool.and_eq_true, decide_eq_true_eq, decide_eq_true_eq] at hh
      exact cg ((low_iff (by omega)).1 hh)
    rw [dq] at kq
    have e := sF (bF (by omega))
    simp (disch := omega) only [f60_r5, f60_rs, xg_eqk, Option.some.injEq, exists_eq_left', Nat.reduceEqDiff, ↓reduceIte, Bool.not_false, stay_ldn, kq, m3', st2, rd2, cond_true, e, bz]
    exact GP _
def f61_P (b5 b6 : K) (L : List Int) (o u : Nat) (j : Nat) (h1 : H) : Prop := h1.get b5 = .cells 1 [.i .i64 (vN L o u j)] ∧ h1.get b6 = .cells 1 [.i .i64 ((u ^ j : Nat) : Int)]
structure CallsV (fs : T EF) : Prop where
  c89 : fs.get (K.ofNat 89) = some f89
  c104 : fs.get (K.ofNat 104) = some f104
  c94 : fs.get (K.ofNat 94) = some f94
  c108 : fs.get (K.ofNat 108) = some f108
  c95 : fs.get (K.ofNat 95) = some f95
theorem lit2 {x y : Int} : Sl iE (h.new (.cells (2 * 1) [.i .i64 x, .i .i64 y])) (.sl h.nx 0 2 1) [x, y] := by
  refine .inr ⟨h.nx, 0, 2, [.i .i64 x, .i .i64 y], rfl, get_new_same, rfl, by simp, fun i hi => ?_⟩
  match i, hi with
  | 0, _ => rfl
  | 1, _ => rfl
  | i + 2, hi => simp at hi; omega
theorem f61_loop {o u : Nat} {i3 i5 i6 bk : K} {fr : Fr} {Q : Ex → Fr → H → Prop} (k : CallsV fs) (h7 : L.length ≤ 7) (hL : ∀ i, (L.getD i 0).natAbs ≤ 100) (hu64 : u ≤ 64) (ho : o ≤ u)
    (hc : HC h) (hv : Sr iE h v L) (hlt : ∀ id off n sz, v = .sl id off n sz → id ≠ i5 ∧ id ≠ i6) (b3 : h.get i3 = .cells 2 [.i .i64 (o : Int), .i .i64 (u : Int)]) (b5 : h.get i5 = .cells 1 [.i .i64 0]) (b6 : h.get i6 = .cells 1 [.i .i64 1]) (bb : h.get bk = .cells 1 [v])
    (n35 : i3 ≠ i5) (n36 : i3 ≠ i6) (n56 : i5 ≠ i6) (nb5 : bk ≠ i5) (nb6 : bk ≠ i6) (g : fr.get (K.ofNat 3) = some (.p i3 0) ∧ fr.get (K.ofNat 5) = some (.p i5 0) ∧ fr.get (K.ofNat 6) = some (.p i6 0) ∧ fr.get (K.ofNat 10) = some (.fn (K.ofNat 108) [.p bk 0]))
    (fin : ∀ h1, f61_P i5 i6 L o u L.length h1 → Ks (fun id => id = i5 ∨ id = i6) h h1 → Q .normal fr h1) : W fs none (.rangeF (.t (K.ofNat 10)) [(K.ofNat 11), (K.ofNat 12)] f61_a0 f61_b0) Q fr h := by
  obtain ⟨g3, g5, g6, g10⟩ := g
  have l3 := hc.cells b3
  have l5 := hc.cells b5
  have l6 := hc.cells b6
  have lb := hc.cells bb
  have x5 : i5.nat ≠ h.nx.nat := by omega
  have x6 : i6.nat ≠ h.nx.nat := by omega
  refine W_it2 (fs := fs) (k := (K.ofNat 108)) (caps := [.p bk 0]) (N := NBk bk v L) (Y := bwY L) (by simp (disch := omega) only [ev_t, getV_some, g10]) (back_yield k.c108 (by omega)) (fun id => id = i5 ∨ id = i6) (f61_P i5 i6 L o u) (fun _ _ => False) hc rfl (fun id e => by rcases e with rfl | rfl; exact l5; exact l6) ?_ ?_ (fun _ _ _ h => h.elim) ?_ ?_ ?_ (fun _ _ _ h => h.elim)
  · intro h1 ks
    refine ⟨(ks.old _ lb (fun e => by rcases e with e | e; exact nb5 e; exact nb6 e)).trans bb, hv.same fun id off n sz e => ks.old id (hv.lt hc id off n sz e) fun hs => ?_⟩
    have := hlt id off n sz e
    rcases hs with e | e
    · exact this.1 e
    · exact this.2 e
  · rintro i h1 h2 ⟨p5, p6⟩ hc1 hn old
    exact ⟨(old _ (hc1.cells p5) (fun e => x5 (by rw [e]))).trans p5, (old _ (hc1.cells p6) (fun e => x6 (by rw [e]))).trans p6⟩
  · intro h1 hG
    exact ⟨(hG.old _ l5).trans b5, (hG.old _ l6).trans b6⟩
  · rintro i h1 hi ks hn ⟨p5, p6⟩
    have hiL : i < L.length := by rw [bwY_len] at hi; exact hi
    rw [bwY_at hi]
    have q3 : h1.get i3 = .cells 2 [.i .i64 (o : Int), .i .i64 (u : Int)] := (ks.old _ l3 (fun e => by rcases e with e | e; exact n35 e; exact n36 e)).trans b3
    unfold f61_a0
    simp (disch := omega) only [f61_r3, ↓reduceIte, itA_n, bz]
    refine ⟨Grow.refl _ _, ?_⟩
    intro h3 hnx hc3 old hl
    have m3 : h3.get i3 = .cells 2 [.i .i64 (o : Int), .i .i64 (u : Int)] := (old _ (fun e => by rw [e] at l3; omega)).trans q3
    have m5 : h3.get i5 = .cells 1 [.i .i64 (vN L o u i)] := (old _ (fun e => x5 (by rw [e]))).trans p5
    have m6 : h3.get i6 = .cells 1 [.i .i64 ((u ^ i : Nat) : Int)] := (old _ (fun e => x6 (by rw [e]))).trans p6
    have e3a : loadV h3 (.p i3 0) one? = .ok (.i .i64 (o : Int)) h3 := load_p m3 rfl
    have e3b : loadV h3 (.p i3 1) one? = .ok (.i .i64 (u : Int)) h3 := load_p m3 rfl
    have e6 : loadV h3 (.p i6 0) one? = .ok (.i .i64 ((u ^ i : Nat) : Int)) h3 := load_p m6 rfl
    have P6 := pow_le7 hu64 (j := i + 1) (by omega)
    have hpw : u ^ i * u = u ^ (i + 1) := (Nat.pow_succ ..).symm
    have w1 : fw .i64 (((u ^ i : Nat) : Int) * (u : Int)) = ((u ^ (i + 1) : Nat) : Int) := by
      rw [← Int.natCast_mul, hpw]; exact fw64 (by omega) (by omega)
    have s6 : storeV h3 1 (.p i6 0) (.i .i64 ((u ^ (i + 1) : Nat) : Int)) = .ok undefV (h3.put i6 (.cells 1 [.i .i64 ((u ^ (i + 1) : Nat) : Int)])) := by rw [store_p (m := 1) m6 rfl (by omega)]; rfl
    have k6 : i6.nat < h3.nx.nat := hc3.cells m6
    have y5 : (h3.put i6 (.cells 1 [.i .i64 ((u ^ (i + 1) : Nat) : Int)])).get i5 = .cells 1 [.i .i64 (vN L o u i)] := (get_put_other n56).trans m5
    have y6 : (h3.put i6 (.cells 1 [.i .i64 ((u ^ (i + 1) : Nat) : Int)])).get i6 = .cells 1 [.i .i64 ((u ^ (i + 1) : Nat) : Int)] := get_put_same
    have y3 : (h3.put i6 (.cells 1 [.i .i64 ((u ^ (i + 1) : Nat) : Int)])).get i3 = .cells 2 [.i .i64 (o : Int), .i .i64 (u : Int)] := (get_put_other n36).trans m3
    have yc : HC (h3.put i6 (.cells 1 [.i .i64 ((u ^ (i + 1) : Nat) : Int)])) := (Grow.put (b := 0) (Nat.zero_le _) k6 _).hc hc3
    have yn : (h3.put i6 (.cells 1 [.i .i64 ((u ^ (i + 1) : Nat) : Int)])).nx = h3.nx := rfl
    have kr1 : Kr (fun id => id = i5 ∨ id = i6) h.nx h3 (h3.put i6 (.cells 1 [.i .i64 ((u ^ (i + 1) : Nat) : Int)])) := (Kr.refl hc3).put k6 (.inl (.inr rfl)) _
    unfold f61_b0
    simp (disch := omega) only [f61_r4, Nat.reduceEqDiff, ↓reduceIte, g3, g6, e3b, e6, w1, s6, bz]
    generalize h3.put i6 (.cells 1 [.i .i64 ((u ^ (i + 1) : Nat) : Int)]) = h4 at *
    have f5 : loadV h4 (.p i5 0) one? = .ok (.i .i64 (vN L o u i)) h4 := load_p y5 rfl
    have f6 : loadV h4 (.p i6 0) one? = .ok (.i .i64 ((u ^ (i + 1) : Nat) : Int)) h4 := load_p y6 rfl
    have f3 : loadV h4 (.p i3 0) one? = .ok (.i .i64 (o : Int)) h4 := load_p y3 rfl
    have vb := vN_le ho hL i
    have P7 := pow_le7 hu64 (j := i) (by omega)
    have ba := nm vb (show (o : Int).natAbs ≤ 64 by omega)
    have bc := nm (hL (L.length - 1 - i)) (show ((u ^ (i + 1) : Nat) : Int).natAbs ≤ 4398046511104 by omega)
    have hi100 : i * 100 * u ^ i ≤ 700 * 4398046511104 := Nat.mul_le_mul (by omega) P7
    have w2 : fw .i64 (vN L o u i * (o : Int)) = vN L o u i * (o : Int) := fw64 (by omega) (by omega)
    have w3 : fw .i64 (L.getD (L.length - 1 - i) 0 * ((u ^ (i + 1) : Nat) : Int)) = L.getD (L.length - 1 - i) 0 * ((u ^ (i + 1) : Nat) : Int) := fw64 (by omega) (by omega)
    have sl := (lit2 (h := h4) (x := vN L o u i * (o : Int)) (y := L.getD (L.length - 1 - i) 0 * ((u ^ (i + 1) : Nat) : Int))).sr
    have e95 := fun P => f95_eq k.c95 sl (by simp) (P := P)
    have hsum : sumF [vN L o u i * (o : Int), L.getD (L.length - 1 - i) 0 * ((u ^ (i + 1) : Nat) : Int)] = vN L o u (i + 1) := by
      show fw .i64 (fw .i64 (0 + vN L o u i * (o : Int)) + L.getD (L.length - 1 - i) 0 * ((u ^ (i + 1) : Nat) : Int)) = _
      rw [Int.zero_add, w2]
      exact fw64 (by omega) (by omega)
    rw [hsum] at e95
    have gN := Grow.new (Nat.le_refl h4.nx.nat) (.cells (2 * 1) [.i .i64 (vN L o u i * (o : Int)), .i .i64 (L.getD (L.length - 1 - i) 0 * ((u ^ (i + 1) : Nat) : Int))])
    have l45 := yc.cells y5
    have l46 := yc.cells y6
    have z5 : (h4.new (.cells (2 * 1) [.i .i64 (vN L o u i * (o : Int)), .i .i64 (L.getD (L.length - 1 - i) 0 * ((u ^ (i + 1) : Nat) : Int))])).get i5 = .cells 1 [.i .i64 (vN L o u i)] := (gN.old _ l45).trans y5
    have s5 : storeV (h4.new (.cells (2 * 1) [.i .i64 (vN L o u i * (o : Int)), .i .i64 (L.getD (L.length - 1 - i) 0 * ((u ^ (i + 1) : Nat) : Int))])) 1 (.p i5 0) (.i .i64 (vN L o u (i + 1))) = .ok undefV ((h4.new (.cells (2 * 1) [.i .i64 (vN L o u i * (o : Int)), .i .i64 (L.getD (L.length - 1 - i) 0 * ((u ^ (i + 1) : Nat) : Int))])).put i5 (.cells 1 [.i .i64 (vN L o u (i + 1))])) := by rw [store_p (m := 1) z5 rfl (by omega)]; rfl
    simp (disch := omega) only [f61_r5, Nat.reduceEqDiff, ↓reduceIte, g3, g5, g6, f5, f6, f3, w2, w3, e95, s5, itC_n, bz]
    have n4 := nx_new h4 (.cells (2 * 1) [.i .i64 (vN L o u i * (o : Int)), .i .i64 (L.getD (L.length - 1 - i) 0 * ((u ^ (i + 1) : Nat) : Int))])
    refine ⟨⟨get_put_same, (get_put_other (Ne.symm n56)).trans ((gN.old _ l46).trans y6)⟩, ?_⟩
    exact (kr1.grow gN (by rw [yn, hnx]; omega)).put (by omega) (.inl (.inl rfl)) _
  · intro h1 p ks _
    rw [bwY_len] at p
    exact fin h1 p ks
theorem f61_ret {o u : Nat} (k : CallsV fs) (h7 : L.length ≤ 7) (hL : ∀ i, (L.getD i 0).natAbs ≤ 100) (hu : 0 < u) (hu64 : u ≤ 64) (ho : o ≤ u) (hv : Sr iE h v L) (hc : HC h) : Ret fs f61 [v, .agg [.i .i64 (o : Int), .i .i64 (u : Int)]] h fun r h' => r = .agg (frL (vQ L (Rat.divInt (o : Int) (u : Int)) L.length)) ∧ Grow h.nx.nat h h' := by
  apply ret_of rfl
  show W fs none f61_c _ _ _
  unfold f61_c
  have gA := Grow.new (Nat.le_refl h.nx.nat) (.cells 2 [.i .i64 (o : Int), .i .i64 (u : Int)])
  have b3 : (h.new (.cells 2 [.i .i64 (o : Int), .i .i64 (u : Int)])).get h.nx = .cells 2 [.i .i64 (o : Int), .i .i64 (u : Int)] := get_new_same
  have n1 := nx_new h (.cells 2 [.i .i64 (o : Int), .i .i64 (u : Int)])
  simp (disch := omega) only [f61_r0, ↓reduceIte, bz]
  generalize h.new (.cells 2 [.i .i64 (o : Int), .i .i64 (u : Int)]) = hA at *
  have gB := Grow.new (Nat.le_refl hA.nx.nat) (.cells 2 [.i .i64 0, .i .i64 0])
  have n2 := nx_new hA (.cells 2 [.i .i64 0, .i .i64 0])
  have b4 : (hA.new (.cells 2 [.i .i64 0, .i .i64 0])).get hA.nx = .cells 2 [.i .i64 0, .i .i64 0] := get_new_same
  have b3 := (gB.old h.nx (by omega)).trans b3
  have GB := gA.trans (gB.low gA.nx)
  generalize hi4 : hA.nx = i4 at *
  generalize hA.new (.cells 2 [.i .i64 0, .i .i64 0]) = hB at *
  have gC := Grow.new (Nat.le_refl hB.nx.nat) (.cells 1 [.i .i64 0])
  have n3 := nx_new hB (.cells 1 [.i .i64 0])
  have b5 : (hB.new (.cells 1 [.i .i64 0])).get hB.nx = .cells 1 [.i .i64 0] := get_new_same
  have b3 := (gC.old h.nx (by omega)).trans b3
  have b4 := (gC.old i4 (by omega)).trans b4
  have GC := GB.trans (gC.low GB.nx)
  generalize hi5 : hB.nx = i5 at *
  generalize eC : hB.new (.cells 1 [.i .i64 0]) = hC at *
  have gD := Grow.new (Nat.le_refl hC.nx.nat) (.cells 1 [.i .i64 0])
  have n4 := nx_new hC (.cells 1 [.i .i64 0])
  have b6 : (hC.new (.cells 1 [.i .i64 0])).get hC.nx = .cells 1 [.i .i64 0] := get_new_same
  have b3 := (gD.old h.nx (by omega)).trans b3
  have b4 := (gD.old i4 (by omega)).trans b4
  have b5 := (gD.old i5 (by omega)).trans b5
  have GD := GC.trans (gD.low GC.nx)
  generalize hi6 : hC.nx = i6 at *
  have q1 : h.nx.nat < i4.nat := by omega
  have q2 : i4.nat < i5.nat := by omega
  have q3 : i5.nat < i6.nat := by omega
  have q4 : (hC.new (.cells 1 [.i .i64 0])).nx.nat = i6.nat + 1 := by omega
  generalize eD : hC.new (.cells 1 [.i .i64 0]) = hD at *
  have s5 : storeV hD 1 (.p i5 0) (.i .i64 0) = .ok undefV (hD.put i5 (.cells 1 [.i .i64 0])) := by rw [store_p (m := 1) b5 rfl (by omega)]; rfl
  have gE := Grow.put (b := h.nx.nat) (h := hD) (k := i5) (by omega) (by omega) (.cells 1 [.i .i64 0])
  have c3 : (hD.put i5 (.cells 1 [.i .i64 0])).get h.nx = .cells 2 [.i .i64 (o : Int), .i .i64 (u : Int)] := (get_put_other (fun e => by rw [← e] at q2; omega)).trans b3
  have c4 : (hD.put i5 (.cells 1 [.i .i64 0])).get i4 = .cells 2 [.i .i64 0, .i .i64 0] := (get_put_other (fun e => by rw [← e] at q2; omega)).trans b4
  have c5 : (hD.put i5 (.cells 1 [.i .i64 0])).get i5 = .cells 1 [.i .i64 0] := get_put_same
  have c6 : (hD.put i5 (.cells 1 [.i .i64 0])).get i6 = .cells 1 [.i .i64 0] := (get_put_other (fun e => by rw [e] at q3; omega)).trans b6
  have GE := GD.trans gE
  have q5 : (hD.put i5 (.cells 1 [.i .i64 0])).nx.nat = i6.nat + 1 := q4
  generalize eE : hD.put i5 (.cells 1 [.i .i64 0]) = hE at *
  have s6 : storeV hE 1 (.p i6 0) (.i .i64 1) = .ok undefV (hE.put i6 (.cells 1 [.i .i64 1])) := by rw [store_p (m := 1) c6 rfl (by omega)]; rfl
  have gF := Grow.put (b := h.nx.nat) (h := hE) (k := i6) (by omega) (by omega) (.cells 1 [.i .i64 1])
  have d3 : (hE.put i6 (.cells 1 [.i .i64 1])).get h.nx = .cells 2 [.i .i64 (o : Int), .i .i64 (u : Int)] := (get_put_other (fun e => by rw [← e] at q3; omega)).trans c3
  have d4 : (hE.put i6 (.cells 1 [.i .i64 1])).get i4 = .cells 2 [.i .i64 0, .i .i64 0] := (get_put_other (fun e => by rw [← e] at q3; omega)).trans c4
  have d5 : (hE.put i6 (.cells 1 [.i .i64 1])).get i5 = .cells 1 [.i .i64 0] := (get_put_other (fun e => by rw [← e] at q3; omega)).trans c5
  have d6 : (hE.put i6 (.cells 1 [.i .i64 1])).get i6 = .cells 1 [.i .i64 1] := get_put_same
  have GF := GE.trans gF
  have q6 : (hE.put i6 (.cells 1 [.i .i64 1])).nx.nat = i6.nat + 1 := q5
  generalize eF : hE.put i6 (.cells 1 [.i .i64 1]) = hF at *
  have s5 := s5
  have big : storeV ((hB.new (.cells 1 [.i .i64 0])).new (.cells 1 [.i .i64 0])) 1 (.p hB.nx 0) (.i .i64 0) = .ok undefV hE ∧ storeV hE 1 (.p (hB.new (.cells 1 [.i .i64 0])).nx 0) (.i .i64 1) = .ok undefV hF := by
    rw [eC, eD, hi5, hi6]; exact ⟨s5, s6⟩
  simp (disch := omega) only [f61_r1, Nat.reduceEqDiff, ↓reduceIte, big.1, big.2, bz]
  rw [eC, hi5, hi6]
  have hcF := GF.hc hc
  have svF := hv.grow hc GF
  simp (disch := omega) only [f61_r2, Nat.reduceEqDiff, ↓reduceIte, bz]
  refine (callP_0 (ef := f94) k.c94 rfl (f94_ret hv.one)).mono ?_
  rintro r h' ⟨rfl, rfl⟩
  have gG := Grow.new (Nat.le_refl hF.nx.nat) (.cells 1 [v])
  have e3 := (gG.old h.nx (by omega)).trans d3
  have e4 := (gG.old i4 (by omega)).trans d4
  have e5 := (gG.old i5 (by omega)).trans d5
  have e6 := (gG.old i6 (by omega)).trans d6
  have eb : (hF.new (.cells 1 [v])).get hF.nx = .cells 1 [v] := get_new_same
  have n7 := nx_new hF (.cells 1 [v])
  have GG := GF.trans (gG.low GF.nx)
  have hcG := GG.hc hc
  have svG := hv.grow hc GG
  generalize hb : hF.nx = bk at *
  generalize hF.new (.cells 1 [v]) = hG at *
  simp (disch := omega) only [bz]
  have ne : ∀ {x y : K}, x.nat ≠ y.nat → x ≠ y := fun h e => h (by rw [e])
  refine f61_loop (o := o) (u := u) (i3 := h.nx) (i5 := i5) (i6 := i6) (bk := bk) (v := v) k h7 hL hu64 ho hcG svG (fun id off n sz e => by
    have := hv.lt hc id off n sz e
    exact ⟨ne (by omega), ne (by omega)⟩) e3 e5 e6 eb (ne (by omega)) (ne (by omega)) (ne (by omega)) (ne (by omega)) (ne (by omega)) (by simp (disch := omega) only [getK_set, Nat.reduceEqDiff, ↓reduceIte, and_self]) ?_
  rintro h1 ⟨p5, p6⟩ ks
  have z4 : h1.get i4 = .cells 2 [.i .i64 0, .i .i64 0] := (ks.old _ (by omega) (fun e => by rcases e with e | e <;> rw [e] at q2 <;> omega)).trans e4
  have kg : Grow h.nx.nat hG h1 := ks.toGrow (fun id e => by rcases e with rfl | rfl <;> omega) (by omega)
  have GH := GG.trans kg
  have hc1 := GH.hc hc
  have f5 : loadV h1 (.p i5 0) one? = .ok (.i .i64 (vN L o u L.length)) h1 := load_p p5 rfl
  have f6 : loadV h1 (.p i6 0) one? = .ok (.i .i64 ((u ^ L.length : Nat) : Int)) h1 := load_p p6 rfl
  have vb := vN_le ho hL L.length
  have P7 := pow_le7 hu64 (j := L.length) h7
  have Pp := Nat.pow_pos (n := L.length) hu
  have hi100 : L.length * 100 * u ^ L.length ≤ 700 * 4398046511104 := Nat.mul_le_mul (by omega) P7
  simp (disch := omega) only [f61_r6, Nat.reduceEqDiff, ↓reduceIte, f5, f6, bz]
  refine (callP_0 (ef := f89) k.c89 rfl (f89_ret k.c104 (by unfold M63; omega) (by unfold M63; omega) (by omega))).mono ?_
  rintro r h2 ⟨rfl, g2⟩
  rw [← vQ_vN hu]
  have l4 := hc1.cells z4
  have z4' := (g2.old _ l4).trans z4
  unfold frL
  have st := store2 (x := .i .i64 (vQ L (Rat.divInt (o : Int) (u : Int)) L.length).num) (y := .i .i64 ((vQ L (Rat.divInt (o : Int) (u : Int)) L.length).den : Int)) z4'
  have rd := read2 (h := h2.put i4 (.cells 2 [.i .i64 (vQ L (Rat.divInt (o : Int) (u : Int)) L.length).num, .i .i64 ((vQ L (Rat.divInt (o : Int) (u : Int)) L.length).den : Int)])) (id := i4) get_put_same
  have gn := g2.nx
  simp (disch := omega) only [f61_rs, Option.some.injEq, exists_eq_left', Nat.reduceEqDiff, ↓reduceIte, st, rd, bz]
  exact (GH.trans (g2.low (by have := GH.nx; omega))).trans (Grow.put (by omega) (by omega) _)
end
end Go.Ev
