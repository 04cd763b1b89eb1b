/-
  Bern: corners of any numbers (46)., and what follows.
-/
import Derived.Test.YtahogmegmjpndaaDoorPe
import Derived.Test.YtahogmegmjpndaaDoorPf
namespace Go.Ev
open Go Go.RowKit
noncomputable def f46_r0 : List EOper := [oG 4 (.as (.c .sn))]
noncomputable def f46_r1 : List EOper := [oG 5 (.as (.c .sn))]
noncomputable def f46_r2 : List EOper := [oG 6 (.as (cG 0))]
noncomputable def f46_r3 : List EOper := [oG 8 (.mv (tG 6)), oG 9 (.mv (tG 0)), oG 10 (.len (tG 9)), oG 11 (.bin .lss (tG 8) (tG 10)), oG 12 (.mv (tG 11)), gG 13 12 true (.mv (tG 6)), gG 14 12 true (.mv (tG 1)), gG 15 12 true (.bin .lss (tG 13) (tG 14)), oG 16 (.pick (tG 12) (tG 15) (.c (.b false)))]
noncomputable def f46_r4 : List EOper := [oG 19 (.build [(.i .i64 (.ofNat 0)), (.i .i64 (.ofNat 0)), (.i .i64 (.ofNat 0)), (.i .i64 (.ofNat 0)), (.i .i64 (.ofNat 0)), (.i .i64 (.ofNat 0))] [(0, 1, (cG 1)), (1, 1, (cG 2)), (2, 1, (cG 3)), (3, 1, (cG 5)), (4, 1, (cG 48)), (5, 1, (cG 240))]), oG 20 (.mv (tG 0)), oG 21 (.mv (tG 6)), oG 22 (.iads 2 (tG 20) (tG 21)), oG 23 (.iadr 2 1 (tG 22) (cG 1)), oG 24 (.ld (tG 23)), oG 25 (.conv .u64 (tG 24)), oG 26 (.bin .rem (tG 25) (.c (.i .u64 (.ofNat 6)))), oG 27 (.ix 6 1 false (tG 19) (tG 26)), oG 7 (.as (tG 27))]
noncomputable def f46_r5 : List EOper := [oG 28 (.mv (tG 5)), oG 29 (.mv (tG 0)), oG 30 (.mv (tG 6)), oG 31 (.iads 2 (tG 29) (tG 30)), oG 32 (.iadr 2 1 (tG 31) (cG 0)), oG 33 (.ld (tG 32)), oG 34 (.conv .u64 (tG 33)), oG 35 (.bin .rem (tG 34) (.c (.i .u64 (.ofNat 2001)))), oG 36 (.conv .i64 (tG 35)), oG 37 (.bin .sub (tG 36) (cG 1000)), oG 38 (.mv (tG 7)), oG 39 (.call (fG 54) [(tG 37), (tG 38)]), oG 40 (.bslice 1 2 [(.i .i64 (.ofNat 0)), (.i .i64 (.ofNat 0))] [(0, 2, (tG 39))]), oG 41 (.app 2 (tG 28) (tG 40)), oG 5 (.as (tG 41))]
noncomputable def f46_r6 : List EOper := [oG 17 (.mv (tG 6)), oG 18 (.bin .add (tG 17) (cG 1)), oG 6 (.as (tG 18))]
noncomputable def f46_l0 : EC := (.seq (.seq (.reg f46_r3) (.cond (tG 16) .skip (.exit 0))) (.seq (.block 1 (.seq (.reg f46_r4) (.reg f46_r5))) (.reg f46_r6)))
noncomputable def f46_r7 : List EOper := [oG 42 (.mv (tG 5)), oG 43 (.len (tG 42)), oG 44 (.bin .eql (tG 43) (cG 0))]
noncomputable def f46_r8 : List EOper := [oG 45 (.mv (tG 5)), oG 46 (.build [(.i .i64 (.ofNat 0)), (.i .i64 (.ofNat 0))] [(0, 1, (.c (.i .i64 (.negSucc 0)))), (1, 1, (cG 2))]), oG 47 (.bslice 1 2 [(.i .i64 (.ofNat 0)), (.i .i64 (.ofNat 0))] [(0, 2, (tG 46))]), oG 48 (.app 2 (tG 45) (tG 47)), oG 5 (.as (tG 48))]
noncomputable def f46_r9 : List EOper := [oG 49 (.mv (tG 5)), oG 4 (.as (tG 49))]
noncomputable def f46_c : EC := (.seq (.reg f46_r0) (.seq (.reg f46_r1) (.seq (.seq (.reg f46_r2) (.block 0 (.loop f46_l0))) (.seq (.seq (.reg f46_r7) (.cond (tG 44) (.reg f46_r8) .skip)) (.seq (.reg f46_r9) .ret)))))
noncomputable def f46 : EF := ⟨50, [.tmp (.ofNat 4)], f46_c, none⟩
theorem f46_rs : f46.rs = [.tmp (.ofNat 4)] := of_eq_true (eq_self _)
section
variable {fs : T EF} {h : H} {v w u : V} {L C : List (Int × Int)}
theorem Sk.srp {L : List (Int × Int)} (hs : Sk 2 qE h v L) : Srp h v L := by
  rcases hs with ⟨rfl, rfl⟩ | ⟨id, off, m, cs, rfl, hb, hl, hm, hx⟩
  · exact .inl ⟨rfl, rfl, rfl⟩
  · exact .inr ⟨id, off, m, cs, rfl, .inl hb, hl, hm, hx⟩
theorem set_p2 {z1 z2 a b : V} : setMany [z1, z2] 0 [a, b] = [a, b] := of_eq_true (eq_self _)
theorem of48 : Int.ofNat 48 = 48 := of_eq_true (eq_self _)
theorem of2001 : Int.ofNat 2001 = 2001 := of_eq_true (eq_self _)
theorem ng0 : Int.negSucc 0 = -1 := of_eq_true (eq_self _)
def t2001 (x : Int) : Int := fw .i64 ((fw .u64 x).tmod 2001) - 1000
theorem t2001_bd (x : Int) : -1000 ≤ t2001 x ∧ t2001 x ≤ 1000 := by
  have h := u64_bd x
  unfold t2001
  rw [Int.tmod_eq_emod_of_nonneg h.1, fw64 (by omega) (by omega)]
  omega
theorem co_fr {a b : Int} (ha : a.natAbs ≤ 1000) (hb : 0 < b) (hd : b ∣ 240) : coB (frP (Rat.divInt a b)).1 (frP (Rat.divInt a b)).2 = true := by
  have h1 := (div_le (a := a) (b := b) (by omega)).1
  have h2 := den_dvd' (a := a) hb
  have h3 := (Rat.divInt a b).den_nz
  have h4 := (Rat.divInt a b).reduced
  rw [coB_iff]
  refine ⟨?_, ?_, ?_, ?_, h4⟩
  · show -1000000 ≤ (Rat.divInt a b).num; omega
  · show (Rat.divInt a b).num ≤ 1000000; omega
  · show 1 ≤ ((Rat.divInt a b).den : Int); omega
  · show (240 : Int).tmod ((Rat.divInt a b).den : Int) = 0
    exact Int.tmod_eq_zero_of_dvd (Int.dvd_trans h2 hd)
theorem ix6 {m : Nat} {kk : IntKind} (hm : m < 6) : ∃ d : Int, (∀ h1 : H, ixV 6 1 false (.agg [.i .i64 1, .i .i64 2, .i .i64 3, .i .i64 5, .i .i64 48, .i .i64 240]) (.i kk (m : Int)) h1 = .ok (.i .i64 d) h1) ∧ 0 < d ∧ d ≤ 240 ∧ d ∣ 240 := by
  match m, hm with
  | 0, _ => exact ⟨1, fun _ => rfl, by decide, by decide, by decide⟩
  | 1, _ => exact ⟨2, fun _ => rfl, by decide, by decide, by decide⟩
  | 2, _ => exact ⟨3, fun _ => rfl, by decide, by decide, by decide⟩
  | 3, _ => exact ⟨5, fun _ => rfl, by decide, by decide, by decide⟩
  | 4, _ => exact ⟨48, fun _ => rfl, by decide, by decide, by decide⟩
  | 5, _ => exact ⟨240, fun _ => rfl, by decide, by decide, by decide⟩
  | m + 6, hm => omega
def f46_I (h0 : H) (v : V) (L : List (Int × Int)) (m j : Nat) (fr : Fr) (h1 : H) : Prop := j ≤ L.length ∧ j ≤ m ∧ Grow h0.nx.nat h0 h1 ∧ ∃ u C, Sk 2 qE h1 u C ∧ Own h0.nx.nat u ∧ C.length = j ∧ (∀ x ∈ C, coB x.1 x.2 = true) ∧ fr.get (K.ofNat 0) = some (v) ∧ fr.get (K.ofNat 1) = some (.i .i64 (m : Int)) ∧ fr.get (K.ofNat 5) = some (u) ∧ fr.get (K.ofNat 6) = some (.i .i64 (j : Int))
theorem f46_ret {m : Nat} (k : CallsF fs) (hm1 : 1 ≤ m) (hm : m ≤ 7) (hv : Srp h v L) (hc : HC h) : Ret fs f46 [v, .i .i64 (m : Int)] h fun r h' => ∃ C, Sk 2 qE h' r C ∧ Own h.nx.nat r ∧ gvB C = true ∧ C.length ≤ m ∧ Grow h.nx.nat h h' := by
  apply ret_of rfl
  show W fs none f46_c _ _ _
  unfold f46_c
  simp (disch := omega) only [f46_r0, f46_r1, f46_r2, bz]
  refine W_loop (f46_I h v L m) (fun j => m - j) ?_ 0 ⟨by omega, by omega, Grow.refl _ _, .sn, [], .inl ⟨rfl, rfl⟩, (fun _ _ _ _ e => by cases e), rfl, (fun x hx => by cases hx), by simp (disch := omega) only [getK_set, Nat.reduceEqDiff, ↓reduceIte, and_self, Int.natCast_zero]⟩
  rintro j fr h1 ⟨hj, hjm, hG, u, C, hs, ho, hT, hC, g0, g1, g5, g6⟩
  have hc1 := hG.hc hc
  have hv1 := hv.grow hc hG
  have e1 := hv1.len
  have el := hs.srp.len
  unfold f46_l0
  have out : ∀ fr : Fr, fr.get (K.ofNat 5) = some u → W fs none (.seq (.seq (.reg f46_r7) (.cond (.t (K.ofNat 44)) (.reg f46_r8) .skip)) (.seq (.reg f46_r9) .ret)) (retK f46 fun r h' => ∃ C, Sk 2 qE h' r C ∧ Own h.nx.nat r ∧ gvB C = true ∧ C.length ≤ m ∧ Grow h.nx.nat h h') fr h1 := by
    clear g0 g1 g5 g6 fr
    intro fr g5
    by_cases h0 : C.length = 0
    · have d1 : decide ((C.length : Int) = 0) = true := decide_eq_true (by omega)
      obtain ⟨u', h2, a1, a2, a3, a4, _⟩ := Sk.push qE_len (by omega) (x := ((-1 : Int), (2 : Int))) hs ho hG.nx hc1 (by omega)
      have a1' : appV 2 (h1.new (.cells (1 * 2) [.i .i64 (-1), .i .i64 2])) u (.sl h1.nx 0 1 2) = .ok u' h2 := a1
      simp (disch := omega) only [f46_r7, f46_r8, f46_r9, f46_rs, Option.some.injEq, exists_eq_left', Nat.reduceEqDiff, ↓reduceIte, g5, el, d1, ng0, fill_q, set_p2, a1', bz]
      refine ⟨_, a2, a3, gvB_iff.2 ⟨by simp, by simp; omega, fun x hx => ?_⟩, by simp; omega, hG.trans a4⟩
      have hC0 : C = [] := List.length_eq_zero_iff.1 h0
      rw [hC0] at hx
      obtain rfl : x = (-1, 2) := by simpa using hx
      decide
    · have d1 : decide ((C.length : Int) = 0) = false := decide_eq_false (by omega)
      simp (disch := omega) only [f46_r7, f46_r9, f46_rs, Option.some.injEq, exists_eq_left', Nat.reduceEqDiff, ↓reduceIte, Bool.false_eq_true, g5, el, d1, bz]
      exact ⟨_, hs, ho, gvB_iff.2 ⟨by omega, by omega, hC⟩, by omega, hG⟩
  simp only [w_seq, w_reg] at out
  by_cases hlt : j < L.length
  · have d1 : decide ((j : Int) < (L.length : Int)) = true := decide_eq_true (by omega)
    by_cases h6 : j < m
    · have d2 : decide ((j : Int) < (m : Int)) = true := decide_eq_true (by omega)
      obtain ⟨id, q, p1, p2, p3, p4⟩ := hv1.at2 hlt
      have ub := u64_bd L[j].2
      have hr := Int.emod_lt_of_pos (fw .u64 L[j].2) (show (0 : Int) < 6 by omega)
      have hr0 := Int.emod_nonneg (fw .u64 L[j].2) (show (6 : Int) ≠ 0 by omega)
      obtain ⟨mm, hmm⟩ : ∃ mm : Nat, (mm : Int) = (fw .u64 L[j].2) % 6 := ⟨((fw .u64 L[j].2) % 6).toNat, by omega⟩
      have e6 : (fw .u64 L[j].2).tmod 6 = (mm : Int) := by
        rw [Int.tmod_eq_emod_of_nonneg ub.1, ← hmm]
      obtain ⟨d, ix, dp, dl, dd⟩ := ix6 (m := mm) (kk := .u64) (by omega)
      have d6 : decide ((6 : Int) = 0) = false := rfl
      have d3 : decide ((2001 : Int) = 0) = false := rfl
      have ua := u64_bd L[j].1
      have hb := t2001_bd L[j].1
      have hq := Int.emod_lt_of_pos (fw .u64 L[j].1) (show (0 : Int) < 2001 by omega)
      have hq0 := Int.emod_nonneg (fw .u64 L[j].1) (show (2001 : Int) ≠ 0 by omega)
      have et : fw .i64 (fw .i64 ((fw .u64 L[j].1).tmod 2001) - 1000) = t2001 L[j].1 := fw64 (a := t2001 L[j].1) (by omega) (by omega)
      have e4 : fw .i64 ((j : Int) + 1) = ((j + 1 : Nat) : Int) := by rw [fw64 (by omega) (by omega)]; rfl
      have fl : ∀ fr : Fr, fillE fr [V.i .i64 0, .i .i64 0, .i .i64 0, .i .i64 0, .i .i64 0, .i .i64 0] [(0, 1, .c (.i .i64 1)), (1, 1, .c (.i .i64 2)), (2, 1, .c (.i .i64 3)), (3, 1, .c (.i .i64 5)), (4, 1, .c (.i .i64 48)), (5, 1, .c (.i .i64 240))] = some [.i .i64 1, .i .i64 2, .i .i64 3, .i .i64 5, .i .i64 48, .i .i64 240] := fun _ => rfl
      simp (disch := omega) only [f46_r3, f46_r4, f46_r5, x_conv, x_ix, onI_i, of3, of6, Nat.reduceEqDiff, ↓reduceIte, of5, of1000, g0, g1, g5, g6, e1, d1, d2, of48, of240, of2001, of1000, fl, p1, p3, p4, e6, ix, et, bz]
      refine (callP_0 (ef := f54) k.c54 rfl (f54_ret k.c73 (by unfold M63; omega) (by unfold M63; omega) dp)).mono ?_
      rintro _ h2 ⟨rfl, g2⟩
      have hc2 := g2.hc hc1
      obtain ⟨w9, h9, y1, y2, y3, y4, _⟩ := Sk.push qE_len (by omega) (x := frP (Rat.divInt (t2001 L[j].1) d)) (hs.grow hc1 g2) ho (Nat.le_trans hG.nx g2.nx) hc2 (by omega)
      have y1' : appV 2 (h2.new (.cells (1 * 2) (frL (Rat.divInt (t2001 L[j].1) d)))) u (.sl h2.nx 0 1 2) = .ok w9 h9 := y1
      simp (disch := omega) only [f46_r6, Nat.reduceEqDiff, ↓reduceIte, g6, fill_q, fr_cells, set_q, y1', e4, bz]
      refine ⟨j + 1, by omega, by omega, by omega, (hG.trans (g2.low hG.nx)).trans y4, w9, _, y2, y3, by simp [hT], fun x hx => ?_, by simp (disch := omega) only [getK_set, Nat.reduceEqDiff, ↓reduceIte, g0, g1, and_self]⟩
      rcases List.mem_append.1 hx with hx | hx
      · exact hC x hx
      · obtain rfl : x = frP (Rat.divInt (t2001 L[j].1) d) := by simpa using hx
        exact co_fr (by omega) dp dd
    · have d2 : decide ((j : Int) < (m : Int)) = false := decide_eq_false (by omega)
      simp (disch := omega) only [f46_r3, Nat.reduceEqDiff, ↓reduceIte, Bool.false_eq_true, g0, g1, g6, e1, d1, d2, bz]
      exact out _ (by simp (disch := omega) only [getK_set, Nat.reduceEqDiff, ↓reduceIte, g5])
  · have d1 : decide ((j : Int) < (L.length : Int)) = false := decide_eq_false (by omega)
    simp (disch := omega) only [f46_r3, Nat.reduceEqDiff, ↓reduceIte, Bool.false_eq_true, g0, g6, e1, d1, bz]
    exact out _ (by simp (disch := omega) only [getK_set, Nat.reduceEqDiff, ↓reduceIte, g5])
end
end Go.Ev
namespace Go.Ev
open Go Go.RowKit
section
variable {fs : T EF} {h h1 : H} {v w u : V} {L M : List Int} {C : List (Int × Int)}
def Wr (k : Nat) (h : H) (v : V) (n : Nat) : Prop := (v = .sn ∧ n = 0) ∨ ∃ id off m cs, v = .sl id off n k ∧ h.get id = .cells m cs ∧ off + n * k ≤ m
theorem Wr.len {k n : Nat} (s : Wr k h v n) (h1 : H) : lenV v h1 = .ok (.i .i64 (n : Int)) h1 := by
  rcases s with ⟨rfl, rfl⟩ | ⟨id, off, m, cs, rfl, _⟩ <;> rfl
theorem Wr.put {k n m : Nat} {id : K} {c0 c1 : List V} (s : Wr k h v n) (hg : h.get id = .cells m c0) : Wr k (h.put id (.cells m c1)) v n := by
  rcases s with e | ⟨id', off, m', cs, rfl, hb, hm⟩
  · exact .inl e
  · by_cases e : id' = id
    · subst e
      rw [hg] at hb
      cases hb
      exact .inr ⟨id', off, m, c1, rfl, get_put_same, hm⟩
    · exact .inr ⟨id', off, m', cs, rfl, (get_put_other e).trans hb, hm⟩
theorem Wr.grow {k n b : Nat} {h' : H} (s : Wr k h v n) (hc : HC h) (g : Grow b h h') (hb : h.nx.nat ≤ b) : Wr k h' v n := by
  rcases s with e | ⟨id', off, m', cs, rfl, hg, hm⟩
  · exact .inl e
  · exact .inr ⟨id', off, m', cs, rfl, (g.old _ (Nat.lt_of_lt_of_le (hc.cells hg) hb)).trans hg, hm⟩
def ou (o1 o2 d : V) (i : Nat) : V := match i with | 0 => o1 | 1 => o2 | _ => d
def nu (n1 n2 n3 : Nat) (i : Nat) : Nat := match i with | 0 => n1 | 1 => n2 | _ => n3
structure OwZ (N : Nat) (h0 h1 : H) (iz : K) (o1 o2 d : V) (n1 n2 n3 : Nat) : Prop where
  g : Grow N h0 h1
  w : ∀ i, Wr 2 h1 (ou o1 o2 d i) (nu n1 n2 n3 i)
  b : h1.get iz = .cells (3 * 1) [o1, o2, d]
theorem OwZ.put {N n1 n2 n3 m : Nat} {h0 : H} {iz id : K} {o1 o2 d : V} {c0 c1 : List V} (s : OwZ N h0 h1 iz o1 o2 d n1 n2 n3) (hc : HC h1) (hN : N ≤ id.nat) (hg : h1.get id = .cells m c0) (hne : id ≠ iz) : OwZ N h0 (h1.put id (.cells m c1)) iz o1 o2 d n1 n2 n3 :=
  ⟨s.g.trans (Grow.put hN (hc.cells hg) _), fun i => (s.w i).put hg, (get_put_other (Ne.symm hne)).trans s.b⟩
theorem sB_in {n : Nat} (hb : ∀ x ∈ C, coB x.1 x.2 = true) (h0 : 0 < n) (hn : n ≤ 7) : InP (rwL (sB C n) (n + 1)) := by
  refine ⟨by rw [rwL_len]; omega, fun x hx => ?_⟩
  obtain ⟨i, hi, rfl⟩ := List.mem_map.1 hx
  have hi := List.mem_range.1 hi
  have o : Ov (sB C n i) (240 * n) (240000000 * 7 + 240000000 * 7) := by
    unfold sB
    by_cases h : i < n
    · rw [if_pos h, show (n : Int) - (i : Int) = ((n - i : Nat) : Int) by omega]
      exact (sA_ov hb h0 (by omega)).add (pr_ov hb i h0 (by omega))
    · rw [if_neg h]; exact (sA_ov hb h0 (by omega)).le (by omega)
  obtain ⟨f1, f2⟩ := o.fr
  have f3 : ((sB C n i).den : Int) ≤ 240 * 7 := by omega
  exact ⟨in63 (by show _ ≤ (sB C n i).num; omega) (by show (sB C n i).num ≤ _; omega), in63 (by show _ ≤ ((sB C n i).den : Int); omega) (by show ((sB C n i).den : Int) ≤ _; omega)⟩
structure CallsOw (fs : T EF) : Prop extends CallsVl fs, CallsHa fs where
  c12 : fs.get (K.ofNat 12) = some f12
  c39 : fs.get (K.ofNat 39) = some f39
  c38 : fs.get (K.ofNat 38) = some f38
  c35 : fs.get (K.ofNat 35) = some f35
  c43 : fs.get (K.ofNat 43) = some f43
  c46 : fs.get (K.ofNat 46) = some f46
end
end Go.Ev
namespace Go.Ev
open Go Go.RowKit
noncomputable def f83_r0 : List EOper := [oG 1 (.box 2 (tG 0)), oG 2 (.as (cG 0))]
noncomputable def f83_r1 : List EOper := [oG 4 (.iadr 2 1 (tG 1) (cG 0)), oG 5 (.ld (tG 4)), oG 6 (.bin .gtr (tG 5) (cG 0)), oG 3 (.as (tG 6))]
noncomputable def f83_r2 : List EOper := [oG 2 (.as (cG 1))]
noncomputable def f83_r3 : List EOper := [oG 8 (.iadr 2 1 (tG 1) (cG 0)), oG 9 (.ld (tG 8)), oG 10 (.bin .lss (tG 9) (cG 0)), oG 7 (.as (tG 10))]
noncomputable def f83_r4 : List EOper := [oG 2 (.as (.c (.i .i64 (.negSucc 0))))]
noncomputable def f83_r5 : List EOper := [oG 2 (.as (cG 0))]
noncomputable def f83_c : EC := (.seq (.reg f83_r0) (.seq (.block 0 (.seq (.reg f83_r1) (.cond (tG 3) (.seq (.reg f83_r2) .ret) (.seq (.reg f83_r3) (.cond (tG 7) (.seq (.reg f83_r4) .ret) .skip))))) (.seq (.reg f83_r5) .ret)))
noncomputable def f83 : EF := ⟨11, [.tmp (.ofNat 2)], f83_c, none⟩
theorem f83_rs : f83.rs = [.tmp (.ofNat 2)] := of_eq_true (eq_self _)
noncomputable def f45_r0 : List EOper := [oG 2 (.as (cG 0))]
noncomputable def f45_r1 : List EOper := [oG 3 (.as (cG 0)), oG 4 (.as (cG 0))]
noncomputable def f45_r2 : List EOper := [oG 5 (.as (cG 0))]
noncomputable def f45_r3 : List EOper := [oG 7 (.mv (tG 5)), oG 8 (.mv (tG 0)), oG 9 (.len (tG 8)), oG 10 (.bin .lss (tG 7) (tG 9))]
noncomputable def f45_r4 : List EOper := [oG 13 (.mv (tG 0)), oG 14 (.mv (tG 5)), oG 15 (.iads 2 (tG 13) (tG 14)), oG 16 (.ldn 2 (tG 15)), oG 17 (.call (fG 83) [(tG 16)]), oG 6 (.as (tG 17))]
noncomputable def f45_r5 : List EOper := [oG 18 (.mv (tG 6)), oG 19 (.bin .eql (tG 18) (cG 0))]
noncomputable def f45_r6 : List EOper := [oG 20 (.mv (tG 4)), oG 21 (.bin .neq (tG 20) (cG 0)), oG 22 (.mv (tG 21)), gG 23 22 true (.mv (tG 6)), gG 24 22 true (.mv (tG 4)), gG 25 22 true (.bin .neq (tG 23) (tG 24)), oG 26 (.pick (tG 22) (tG 25) (.c (.b false)))]
noncomputable def f45_r7 : List EOper := [oG 27 (.mv (tG 3)), oG 28 (.bin .add (tG 27) (cG 1)), oG 3 (.as (tG 28))]
noncomputable def f45_r8 : List EOper := [oG 29 (.mv (tG 6)), oG 4 (.as (tG 29))]
noncomputable def f45_r9 : List EOper := [oG 11 (.mv (tG 5)), oG 12 (.bin .add (tG 11) (cG 1)), oG 5 (.as (tG 12))]
noncomputable def f45_l0 : EC := (.seq (.seq (.reg f45_r3) (.cond (tG 10) .skip (.exit 0))) (.seq (.block 1 (.seq (.reg f45_r4) (.seq (.seq (.reg f45_r5) (.cond (tG 19) (.exit 1) .skip)) (.seq (.seq (.reg f45_r6) (.cond (tG 26) (.reg f45_r7) .skip)) (.reg f45_r8))))) (.reg f45_r9)))
noncomputable def f45_r10 : List EOper := [oG 30 (.mv (tG 3)), oG 2 (.as (tG 30))]
noncomputable def f45_c : EC := (.seq (.reg f45_r0) (.seq (.reg f45_r1) (.seq (.seq (.reg f45_r2) (.block 0 (.loop f45_l0))) (.seq (.reg f45_r10) .ret))))
noncomputable def f45 : EF := ⟨31, [.tmp (.ofNat 2)], f45_c, none⟩
theorem f45_rs : f45.rs = [.tmp (.ofNat 2)] := of_eq_true (eq_self _)
noncomputable def f82_r0 : List EOper := [oG 1 (.box 2 (tG 0)), oG 2 (.as (cG 0))]
noncomputable def f82_r1 : List EOper := [oG 3 (.as (cG 0))]
noncomputable def f82_r2 : List EOper := [oG 4 (.as (cG 0))]
noncomputable def f82_r3 : List EOper := [oG 7 (.fadr 0 (tG 1)), oG 8 (.ld (tG 7)), oG 9 (.len (tG 8)), oG 10 (.mv (cG 0))]
noncomputable def f82_r4 : List EOper := [oG 11 (.bin .lss (tG 10) (tG 9))]
noncomputable def f82_r5 : List EOper := [oG 12 (.iads 1 (tG 8) (tG 10)), oG 13 (.ld (tG 12)), oG 6 (.as (tG 13))]
noncomputable def f82_r6 : List EOper := [oG 14 (.mv (tG 4)), oG 15 (.bin .lss (tG 14) (cG 0)), oG 16 (.mv (tG 15)), gG 17 16 true (.mv (tG 6)), gG 18 16 true (.bin .gtr (tG 17) (cG 0)), oG 19 (.pick (tG 16) (tG 18) (.c (.b false))), oG 20 (.mv (tG 19)), gG 21 20 false (.mv (tG 4)), gG 22 20 false (.bin .gtr (tG 21) (cG 0)), gG 23 20 false (.mv (tG 22)), gG 24 23 true (.mv (tG 6)), gG 25 23 true (.bin .lss (tG 24) (cG 0)), gG 26 20 false (.pick (tG 23) (tG 25) (.c (.b false))), oG 27 (.pick (tG 20) (.c (.b true)) (tG 26))]
noncomputable def f82_r7 : List EOper := [oG 28 (.mv (tG 3)), oG 29 (.bin .add (tG 28) (cG 1)), oG 3 (.as (tG 29))]
noncomputable def f82_r8 : List EOper := [oG 30 (.mv (tG 6)), oG 31 (.bin .neq (tG 30) (cG 0))]
noncomputable def f82_r9 : List EOper := [oG 32 (.mv (tG 6)), oG 4 (.as (tG 32))]
noncomputable def f82_r10 : List EOper := [oG 33 (.bin .add (tG 10) (cG 1)), oG 10 (.mv (tG 33))]
noncomputable def f82_l0 : EC := (.seq (.reg f82_r4) (.seq (.cond (tG 11) .skip (.exit 0)) (.seq (.block 1 (.seq (.reg f82_r5) (.seq (.seq (.reg f82_r6) (.cond (tG 27) (.reg f82_r7) .skip)) (.seq (.reg f82_r8) (.cond (tG 31) (.reg f82_r9) .skip))))) (.reg f82_r10))))
noncomputable def f82_r11 : List EOper := [oG 34 (.mv (tG 3)), oG 2 (.as (tG 34))]
noncomputable def f82_c : EC := (.seq (.reg f82_r0) (.seq (.reg f82_r1) (.seq (.reg f82_r2) (.seq (.seq (.reg f82_r3) (.block 0 (.loop f82_l0))) (.seq (.reg f82_r11) .ret)))))
noncomputable def f82 : EF := ⟨35, [.tmp (.ofNat 2)], f82_c, none⟩
theorem f82_rs : f82.rs = [.tmp (.ofNat 2)] := of_eq_true (eq_self _)
noncomputable def f41_r0 : List EOper := [oG 2 (.as (cG 0)), oG 3 (.as (cG 0))]
noncomputable def f41_r1 : List EOper := [oG 7 (.mv (tG 0)), oG 8 (.call (fG 78) [(tG 7)]), oG 6 (.mv (tG 8)), oG 9 (.ext (tG 6) 0), oG 10 (.ext (tG 6) 1), oG 4 (.alloc 2 [.sn, (.i .i64 (.ofNat 0))]), ⟨none, none, .st 2 (tG 4) (tG 9)⟩, oG 5 (.as (tG 10))]
noncomputable def f41_r2 : List EOper := [oG 11 (.mv (tG 5)), oG 12 (.not (tG 11))]
noncomputable def f41_r3 : List EOper := [oG 2 (.as (cG 0)), oG 3 (.as (cG 1))]
noncomputable def f41_r4 : List EOper := [oG 13 (.ldn 2 (tG 4)), oG 14 (.call (fG 82) [(tG 13)]), oG 2 (.as (tG 14)), oG 3 (.as (cG 0))]
noncomputable def f41_c : EC := (.seq (.reg f41_r0) (.seq (.reg f41_r1) (.seq (.seq (.reg f41_r2) (.cond (tG 12) (.seq (.reg f41_r3) .ret) .skip)) (.seq (.reg f41_r4) .ret))))
noncomputable def f41 : EF := ⟨15, [.tmp (.ofNat 2), .tmp (.ofNat 3)], f41_c, none⟩
theorem f41_rs : f41.rs = [.tmp (.ofNat 2), .tmp (.ofNat 3)] := of_eq_true (eq_self _)
def sgB (a : Int) : Int := if 0 < a then 1 else if a < 0 then -1 else 0
def stp (s : Nat × Int) (a : Int) : Nat × Int := if a = 0 then s else (if s.2 ≠ 0 ∧ sgB a ≠ s.2 then s.1 + 1 else s.1, sgB a)
def chS (L : List Int) : Nat × Int := L.foldl stp (0, 0)
theorem chS_s {L : List Int} {i : Nat} (hi : i < L.length) : chS (L.take (i + 1)) = stp (chS (L.take i)) L[i] := by
  unfold chS
  rw [List.take_succ_eq_append_getElem hi, List.foldl_append]; rfl
theorem stp_le {s : Nat × Int} {a : Int} {n : Nat} (h : s.1 ≤ n) : (stp s a).1 ≤ n + 1 := by
  unfold stp; split
  · omega
  · show (if s.2 ≠ 0 ∧ sgB a ≠ s.2 then s.1 + 1 else s.1) ≤ _
    split
    · exact Nat.succ_le_succ h
    · exact Nat.le_succ_of_le h
theorem chS_le : ∀ {L : List Int} (i : Nat), i ≤ L.length → (chS (L.take i)).1 ≤ i
  | _, 0, _ => by rw [List.take_zero]; exact Nat.le_refl _
  | L, i + 1, h => by rw [chS_s (by omega)]; exact stp_le (chS_le i (by omega))
section
variable {fs : T EF} {h : H} {v w u : V} {C : List (Int × Int)} {l : List Int} {a b : Int}
theorem f83_ret : Ret fs f83 [.agg [.i .i64 a, .i .i64 b]] h fun r h' => r = .i .i64 (sgB a) ∧ Grow h.nx.nat h h' := by
  apply ret_of rfl
  show W fs none f83_c _ _ _
  unfold f83_c
  have gA := Grow.new (Nat.le_refl h.nx.nat) (.cells 2 [.i .i64 a, .i .i64 b])
  have b1 : (h.new (.cells 2 [.i .i64 a, .i .i64 b])).get h.nx = .cells 2 [.i .i64 a, .i .i64 b] := get_new_same
  have l1 : loadV (h.new (.cells 2 [.i .i64 a, .i .i64 b])) (.p h.nx (0 + 0 * 1)) one? = .ok (.i .i64 a) _ := load_p b1 rfl
  have hg : a > 0 ↔ 0 < a := Iff.rfl
  by_cases c1 : 0 < a
  · have d1 : decide (a > 0) = true := decide_eq_true c1
    simp (disch := omega) only [f83_r0, f83_r1, f83_r2, f83_rs, Option.some.injEq, exists_eq_left', Nat.reduceEqDiff, ↓reduceIte, l1, d1, bz]
    exact ⟨by unfold sgB; rw [if_pos c1], gA⟩
  · have d1 : decide (a > 0) = false := decide_eq_false c1
    by_cases c2 : a < 0
    · have d2 : decide (a < 0) = true := decide_eq_true c2
      simp (disch := omega) only [f83_r0, f83_r1, f83_r3, f83_r4, f83_rs, Option.some.injEq, exists_eq_left', Nat.reduceEqDiff, ↓reduceIte, Bool.false_eq_true, l1, d1, d2, ng0, bz]
      exact ⟨by unfold sgB; rw [if_neg c1, if_pos c2], gA⟩
    · have d2 : decide (a < 0) = false := decide_eq_false c2
      simp (disch := omega) only [f83_r0, f83_r1, f83_r3, f83_r5, f83_rs, Option.some.injEq, exists_eq_left', Nat.reduceEqDiff, ↓reduceIte, Bool.false_eq_true, l1, d1, d2, bz]
      exact ⟨by unfold sgB; rw [if_neg c1, if_neg c2], gA⟩
theorem sgB_0 : sgB a = 0 ↔ a = 0 := by unfold sgB; split <;> (try split) <;> omega
def f45_I (h0 : H) (v : V) (L : List Int) (i : Nat) (fr : Fr) (h1 : H) : Prop := i ≤ L.length ∧ Grow h0.nx.nat h0 h1 ∧ fr.get (K.ofNat 0) = some (v) ∧ fr.get (K.ofNat 3) = some (.i .i64 ((chS (L.take i)).1 : Int)) ∧ fr.get (K.ofNat 4) = some (.i .i64 (chS (L.take i)).2) ∧ fr.get (K.ofNat 5) = some (.i .i64 (i : Int))
theorem f45_ret (k83 : fs.get (.ofNat 83) = some f83) (hl : C.length ≤ 1000) (hv : Srp h v C) (hc : HC h) : Ret fs f45 [v] h fun r h' => r = .i .i64 ((chS (C.map Prod.fst)).1 : Int) ∧ Grow h.nx.nat h h' := by
  apply ret_of rfl
  show W fs none f45_c _ _ _
  unfold f45_c
  have lm : (C.map Prod.fst).length = C.length := by simp
  simp (disch := omega) only [f45_r0, f45_r1, f45_r2, bz]
  refine W_loop (f45_I h v (C.map Prod.fst)) (fun i => C.length - i) ?_ 0 ⟨by omega, Grow.refl _ _, by simp (disch := omega) only [getK_set, Nat.reduceEqDiff, ↓reduceIte, and_self, Int.natCast_zero, List.take_zero, chS, List.foldl_nil]⟩
  rintro i fr h1 ⟨hi, G1, g0, g3, g4, g5⟩
  have hc1 := G1.hc hc
  have hv1 := hv.grow hc G1
  have e1 := hv1.len
  have cl := chS_le (L := C.map Prod.fst) i hi
  rw [lm] at hi
  unfold f45_l0
  by_cases hlt : i < C.length
  · have d1 : decide ((i : Int) < (C.length : Int)) = true := decide_eq_true (by omega)
    have ee : fw .i64 ((i : Int) + 1) = ((i + 1 : Nat) : Int) := by rw [fw64 (by omega) (by omega)]; rfl
    obtain ⟨id, q, p1, p2, _, _⟩ := hv1.at2 hlt
    have es := chS_s (L := C.map Prod.fst) (i := i) (by omega)
    rw [List.getElem_map] at es
    generalize C[i].1 = a at *
    generalize C[i].2 = b at *
    generalize chS ((C.map Prod.fst).take i) = s at *
    simp (disch := omega) only [f45_r3, f45_r4, Nat.reduceEqDiff, ↓reduceIte, g0, g5, e1, d1, p1, p2, bz]
    refine (callP_0 (ef := f83) k83 rfl (f83_ret (a := a) (b := b))).mono ?_
    rintro _ h2 ⟨rfl, g2⟩
    have G2 := G1.trans (g2.low G1.nx)
    by_cases c0 : a = 0
    · have c0' := sgB_0.2 c0
      have dd : decide (sgB a = 0) = true := decide_eq_true c0'
      simp (disch := omega) only [f45_r5, f45_r9, Nat.reduceEqDiff, ↓reduceIte, g5, dd, ee, bz]
      rw [stp, if_pos c0] at es
      exact ⟨i + 1, by omega, by omega, G2, by simp (disch := omega) only [getK_set, Nat.reduceEqDiff, ↓reduceIte, g0, g3, g4, and_self, es]⟩
    · have c0' : ¬ sgB a = 0 := fun e => c0 (sgB_0.1 e)
      have dd : decide (sgB a = 0) = false := decide_eq_false c0'
      rw [stp, if_neg c0] at es
      by_cases c1 : s.2 = 0
      · have d2 : decide (s.2 ≠ 0) = false := decide_eq_false fun e => e c1
        rw [if_neg (fun e => e.1 c1)] at es
        simp (disch := omega) only [f45_r5, f45_r6, f45_r8, f45_r9, Nat.reduceEqDiff, ↓reduceIte, Bool.false_eq_true, g4, g5, dd, d2, ee, bz]
        exact ⟨i + 1, by omega, by omega, G2, by simp (disch := omega) only [getK_set, Nat.reduceEqDiff, ↓reduceIte, g0, g3, and_self, es]⟩
      · have d2 : decide (s.2 ≠ 0) = true := decide_eq_true c1
        by_cases c2 : sgB a = s.2
        · have d3 : decide (sgB a ≠ s.2) = false := decide_eq_false fun e => e c2
          rw [if_neg (fun e => e.2 c2)] at es
          simp (disch := omega) only [f45_r5, f45_r6, f45_r8, f45_r9, Nat.reduceEqDiff, ↓reduceIte, Bool.false_eq_true, g4, g5, dd, d2, d3, ee, bz]
          exact ⟨i + 1, by omega, by omega, G2, by simp (disch := omega) only [getK_set, Nat.reduceEqDiff, ↓reduceIte, g0, g3, and_self, es]⟩
        · have d3 : decide (sgB a ≠ s.2) = true := decide_eq_true c2
          have e3 : fw .i64 ((s.1 : Int) + 1) = ((s.1 + 1 : Nat) : Int) := by rw [fw64 (by omega) (by omega)]; rfl
          rw [if_pos ⟨c1, c2⟩] at es
          simp (disch := omega) only [f45_r5, f45_r6, f45_r7, f45_r8, f45_r9, Nat.reduceEqDiff, ↓reduceIte, Bool.false_eq_true, g3, g4, g5, dd, d2, d3, ee, e3, bz]
          exact ⟨i + 1, by omega, by omega, G2, by simp (disch := omega) only [getK_set, Nat.reduceEqDiff, ↓reduceIte, g0, and_self, es]⟩
  · have d1 : decide ((i : Int) < (C.length : Int)) = false := decide_eq_false (by omega)
    obtain rfl : i = C.length := by omega
    rw [List.take_of_length_le (by omega)] at g3
    simp (disch := omega) only [f45_r3, f45_r10, f45_rs, Option.some.injEq, exists_eq_left', Nat.reduceEqDiff, ↓reduceIte, Bool.false_eq_true, g0, g3, g5, e1, d1, bz]
    exact G1
def lsz (s x : Int) : Int := if x = 0 then s else x
def lst (L : List Int) : Int := L.foldl lsz 0
theorem lst_s {L : List Int} {i : Nat} (hi : i < L.length) : lst (L.take (i + 1)) = lsz (lst (L.take i)) L[i] := by
  unfold lst
  rw [List.take_succ_eq_append_getElem hi, List.foldl_append]; rfl
theorem lst_sg : ∀ {L : List Int} (i : Nat), i ≤ L.length → (chS (L.take i)).2 = sgB (lst (L.take i))
  | _, 0, _ => by rw [List.take_zero]; rfl
  | L, i + 1, h => by
    rw [chS_s (by omega), lst_s (by omega)]
    unfold stp lsz
    split
    · exact lst_sg i (by omega)
    · rfl
theorem stp_lst {m : Nat} {b x : Int} : (stp (m, sgB b) x).1 = if (b < 0 ∧ 0 < x) ∨ (0 < b ∧ x < 0) then m + 1 else m := by
  unfold stp sgB
  by_cases h0 : x = 0
  · rw [if_pos h0]
    show m = _
    rw [if_neg (by omega)]
  · rw [if_neg h0]
    show (if _ then _ else _) = _
    by_cases c1 : 0 < b
    · rw [if_pos c1]
      by_cases c2 : 0 < x
      · rw [if_pos c2, if_neg (by omega), if_neg (by omega)]
      · rw [if_neg c2, if_pos (by omega : x < 0), if_pos ⟨show (1 : Int) ≠ 0 by decide, show (-1 : Int) ≠ 1 by decide⟩, if_pos (by omega)]
    · rw [if_neg c1]
      by_cases c3 : b < 0
      · rw [if_pos c3]
        by_cases c2 : 0 < x
        · rw [if_pos c2, if_pos ⟨show (-1 : Int) ≠ 0 by decide, show (1 : Int) ≠ -1 by decide⟩, if_pos (by omega)]
        · rw [if_neg c2, if_pos (by omega : x < 0), if_neg (fun e => e.2 rfl), if_neg (by omega)]
      · rw [if_neg c3, if_neg (by simp), if_neg (by omega)]
def f82_I (h0 : H) (u : V) (L : List Int) (i : Nat) (fr : Fr) (h1 : H) : Prop := i ≤ L.length ∧ h1 = h0 ∧ fr.get (K.ofNat 3) = some (.i .i64 ((chS (L.take i)).1 : Int)) ∧ fr.get (K.ofNat 4) = some (.i .i64 (lst (L.take i))) ∧ fr.get (K.ofNat 8) = some (u) ∧ fr.get (K.ofNat 9) = some (.i .i64 (L.length : Int)) ∧ fr.get (K.ofNat 10) = some (.i .i64 (i : Int))
theorem f82_ret {D : Int} (hl : l.length ≤ 1000) (hu : Sr iE h u l) (hc : HC h) : Ret fs f82 [.agg [u, .i .i64 D]] h fun r h' => r = .i .i64 ((chS l).1 : Int) ∧ Grow h.nx.nat h h' := by
  apply ret_of rfl
  show W fs none f82_c _ _ _
  unfold f82_c
  have hcl : cellsN 2 (V.agg [u, .i .i64 D]) = some [u, .i .i64 D] := cell2_agg
  have gA := Grow.new (Nat.le_refl h.nx.nat) (.cells 2 [u, .i .i64 D])
  have b1 : (h.new (.cells 2 [u, .i .i64 D])).get h.nx = .cells 2 [u, .i .i64 D] := get_new_same
  have l1 : loadV (h.new (.cells 2 [u, .i .i64 D])) (.p h.nx 0) one? = .ok u _ := load_p b1 rfl
  have e1 := hu.len
  have su := hu.grow hc gA
  simp (disch := omega) only [f82_r0, f82_r1, f82_r2, f82_r3, Nat.reduceEqDiff, ↓reduceIte, hcl, l1, e1, bz]
  generalize h.new (.cells 2 [u, .i .i64 D]) = hA at *
  refine W_loop (f82_I hA u l) (fun i => l.length - i) ?_ 0 ⟨by omega, rfl, by simp (disch := omega) only [getK_set, Nat.reduceEqDiff, ↓reduceIte, and_self, Int.natCast_zero, List.take_zero, chS, lst, List.foldl_nil]⟩
  rintro i fr h1 ⟨hi, rfl, g3, g4, g8, g9, g10⟩
  have cl := chS_le (L := l) i hi
  have cs := lst_sg (L := l) i hi
  unfold f82_l0
  by_cases hlt : i < l.length
  · have d1 : decide ((i : Int) < (l.length : Int)) = true := decide_eq_true (by omega)
    have ee : fw .i64 ((i : Int) + 1) = ((i + 1 : Nat) : Int) := by rw [fw64 (by omega) (by omega)]; rfl
    obtain ⟨p, p1, p2⟩ := su.at i hlt
    have es := chS_s (L := l) (i := i) hlt
    have el := lst_s (L := l) (i := i) hlt
    have p2 : loadV h1 p one? = .ok (.i .i64 l[i]) h1 := p2
    generalize l[i] = x at *
    generalize chS (l.take i) = s at *
    generalize lst (l.take i) = b at *
    have es1 : (chS (l.take (i + 1))).1 = if (b < 0 ∧ 0 < x) ∨ (0 < b ∧ x < 0) then s.1 + 1 else s.1 := by
      rw [es, show s = (s.1, sgB b) by rw [← cs]]
      exact stp_lst
    have e3 : fw .i64 ((s.1 : Int) + 1) = ((s.1 + 1 : Nat) : Int) := by rw [fw64 (by omega) (by omega)]; rfl
    unfold lsz at el
    have fin : ∀ {fr : Fr}, fr.get (K.ofNat 3) = some (.i .i64 ((chS (l.take (i + 1))).1 : Int)) ∧ fr.get (K.ofNat 4) = some (.i .i64 b) ∧ fr.get (K.ofNat 6) = some (.i .i64 x) ∧ fr.get (K.ofNat 8) = some (u) ∧ fr.get (K.ofNat 9) = some (.i .i64 (l.length : Int)) ∧ fr.get (K.ofNat 10) = some (.i .i64 (i : Int)) → W fs none (.seq (.reg f82_r8) (.cond (.t (K.ofNat 31)) (.reg f82_r9) .skip)) (atK 1 (seqK (W fs none (.reg f82_r10)) (loopK (f82_I h1 u l) (fun i => l.length - i) i (atK 0 (seqK (W fs none (.seq (.reg f82_r11) .ret)) (retK f82 fun r h' => r = .i .i64 ((chS l).1 : Int) ∧ Grow h.nx.nat h h')))))) fr h1 := by
      clear g3 g4 g8 g9 g10 fr
      rintro fr ⟨g3, g4, g6, g8, g9, g10⟩
      by_cases c0 : x = 0
      · rw [if_pos c0] at el
        have dd : decide (x ≠ 0) = false := decide_eq_false fun e => e c0
        simp (disch := omega) only [f82_r8, f82_r10, Nat.reduceEqDiff, ↓reduceIte, Bool.false_eq_true, g6, g10, dd, ee, bz]
        exact ⟨i + 1, by omega, by omega, rfl, by simp (disch := omega) only [getK_set, Nat.reduceEqDiff, ↓reduceIte, g3, g4, g8, g9, and_self, el]⟩
      · rw [if_neg c0] at el
        have dd : decide (x ≠ 0) = true := decide_eq_true c0
        simp (disch := omega) only [f82_r8, f82_r9, f82_r10, Nat.reduceEqDiff, ↓reduceIte, g6, g10, dd, ee, bz]
        exact ⟨i + 1, by omega, by omega, rfl, by simp (disch := omega) only [getK_set, Nat.reduceEqDiff, ↓reduceIte, g3, g8, g9, and_self, el]⟩
    simp only [w_seq, w_reg] at fin
    by_cases b1 : b < 0
    · have d2 : decide (b < 0) = true := decide_eq_true b1
      by_cases x1 : 0 < x
      · have d3 : decide (x > 0) = true := decide_eq_true x1
        rw [if_pos (.inl ⟨b1, x1⟩)] at es1
        simp (disch := omega) only [f82_r4, f82_r5, f82_r6, f82_r7, okG_u, asG_u, Nat.reduceEqDiff, ↓reduceIte, Bool.false_eq_true, Bool.not_true, g3, g4, g8, g9, g10, d1, p1, p2, d2, d3, e3, bz]
        exact fin (by simp (disch := omega) only [getK_set, Nat.reduceEqDiff, ↓reduceIte, g4, g8, g9, g10, and_self, es1])
      · have d3 : decide (x > 0) = false := decide_eq_false x1
        have d4 : decide (b > 0) = false := decide_eq_false (by omega)
        rw [if_neg (by omega)] at es1
        simp (disch := omega) only [f82_r4, f82_r5, f82_r6, Nat.reduceEqDiff, ↓reduceIte, Bool.false_eq_true, Bool.not_false, g4, g8, g9, g10, d1, p1, p2, d2, d3, d4, bz]
        exact fin (by simp (disch := omega) only [getK_set, Nat.reduceEqDiff, ↓reduceIte, g3, g4, g8, g9, g10, and_self, es1])
    · have d2 : decide (b < 0) = false := decide_eq_false b1
      by_cases b2 : 0 < b
      · have d4 : decide (b > 0) = true := decide_eq_true b2
        by_cases x1 : x < 0
        · have d3 : decide (x < 0) = true := decide_eq_true x1
          rw [if_pos (.inr ⟨b2, x1⟩)] at es1
          simp (disch := omega) only [f82_r4, f82_r5, f82_r6, f82_r7, Nat.reduceEqDiff, ↓reduceIte, Bool.false_eq_true, Bool.not_false, g3, g4, g8, g9, g10, d1, p1, p2, d2, d3, d4, e3, bz]
          exact fin (by simp (disch := omega) only [getK_set, Nat.reduceEqDiff, ↓reduceIte, g4, g8, g9, g10, and_self, es1])
        · have d3 : decide (x < 0) = false := decide_eq_false x1
          rw [if_neg (by omega)] at es1
          simp (disch := omega) only [f82_r4, f82_r5, f82_r6, Nat.reduceEqDiff, ↓reduceIte, Bool.false_eq_true, Bool.not_false, g4, g8, g9, g10, d1, p1, p2, d2, d3, d4, bz]
          exact fin (by simp (disch := omega) only [getK_set, Nat.reduceEqDiff, ↓reduceIte, g3, g4, g8, g9, g10, and_self, es1])
      · have d4 : decide (b > 0) = false := decide_eq_false b2
        rw [if_neg (by omega)] at es1
        simp (disch := omega) only [f82_r4, f82_r5, f82_r6, Nat.reduceEqDiff, ↓reduceIte, Bool.false_eq_true, Bool.not_false, g4, g8, g9, g10, d1, p1, p2, d2, d4, bz]
        exact fin (by simp (disch := omega) only [getK_set, Nat.reduceEqDiff, ↓reduceIte, g3, g4, g8, g9, g10, and_self, es1])
  · have d1 : decide ((i : Int) < (l.length : Int)) = false := decide_eq_false (by omega)
    obtain rfl : i = l.length := by omega
    rw [List.take_of_length_le (by omega)] at g3
    simp (disch := omega) only [f82_r4, f82_r11, f82_rs, Option.some.injEq, exists_eq_left', Nat.reduceEqDiff, ↓reduceIte, Bool.false_eq_true, g3, g9, g10, d1, bz]
    exact gA
end
end Go.Ev
namespace Go.Ev
open Go Go.RowKit
noncomputable def f81_r0 : List EOper := [oG 2 (.box 2 (tG 0)), oG 3 (.box 2 (tG 1)), oG 4 (.alloc 2 [(.i .i64 (.ofNat 0)), (.i .i64 (.ofNat 0))])]
noncomputable def f81_r1 : List EOper := [oG 6 (.ldn 2 (tG 2)), oG 7 (.ldn 2 (tG 3)), oG 8 (.call (fG 80) [(tG 6), (tG 7)]), oG 9 (.ix 2 2 true (tG 8) (cG 1)), oG 5 (.alloc 2 [.sn, (.i .i64 (.ofNat 0))]), ⟨none, none, .st 2 (tG 5) (tG 9)⟩]
noncomputable def f81_r2 : List Stage := [⟨[oG 10 (.fadr 0 (tG 5)), oG 11 (.ld (tG 10)), oG 12 (.iads 1 (tG 11) (cG 0)), oG 13 (.ld (tG 12)), oG 14 (.fadr 1 (tG 5)), oG 15 (.ld (tG 14))], [], (some (oG 16 (.call (fG 89) [(tG 13), (tG 15)]))), []⟩, ⟨[], [], (some ⟨none, none, .st 2 (tG 4) (tG 16)⟩), []⟩, ⟨[], [], none, []⟩]
noncomputable def f81_c : EC := (.seq (.reg f81_r0) (.seq (.reg f81_r1) (.seq (.draw f81_r2) .ret)))
noncomputable def f81 : EF := ⟨17, [.celln (.ofNat 4) 2], f81_c, none⟩
theorem f81_rs : f81.rs = [.celln (.ofNat 4) 2] := of_eq_true (eq_self _)
noncomputable def f40_r0 : List EOper := [oG 3 (.box 2 (tG 1)), oG 4 (.alloc 2 [(.i .i64 (.ofNat 0)), (.i .i64 (.ofNat 0))]), oG 5 (.as (cG 0))]
noncomputable def f40_r1 : List EOper := [oG 10 (.mv (tG 0)), oG 11 (.call (fG 78) [(tG 10)]), oG 9 (.mv (tG 11)), oG 12 (.ext (tG 9) 0), oG 13 (.ext (tG 9) 1), oG 6 (.alloc 2 [.sn, (.i .i64 (.ofNat 0))]), ⟨none, none, .st 2 (tG 6) (tG 12)⟩, oG 7 (.as (tG 13))]
noncomputable def f40_r2 : List EOper := [oG 14 (.mv (tG 7)), oG 15 (.not (tG 14))]
noncomputable def f40_r3 : List EOper := [oG 16 (.build [(.i .i64 (.ofNat 0)), (.i .i64 (.ofNat 0))] []), ⟨none, none, .st 2 (tG 4) (tG 16)⟩, oG 5 (.as (cG 1))]
noncomputable def f40_r4 : List EOper := [oG 18 (.ldn 2 (tG 3)), oG 19 (.call (fG 60) [(tG 18), (cG 16)]), oG 17 (.mv (tG 19)), oG 20 (.ext (tG 17) 0), oG 21 (.ext (tG 17) 1), oG 8 (.alloc 2 [(.i .i64 (.ofNat 0)), (.i .i64 (.ofNat 0))]), ⟨none, none, .st 2 (tG 8) (tG 20)⟩, oG 7 (.as (tG 21))]
noncomputable def f40_r5 : List EOper := [oG 22 (.mv (tG 7)), oG 23 (.not (tG 22))]
noncomputable def f40_r6 : List EOper := [oG 24 (.build [(.i .i64 (.ofNat 0)), (.i .i64 (.ofNat 0))] []), ⟨none, none, .st 2 (tG 4) (tG 24)⟩, oG 5 (.as (cG 1))]
noncomputable def f40_r7 : List EOper := [oG 25 (.ldn 2 (tG 6)), oG 26 (.ldn 2 (tG 8)), oG 27 (.call (fG 81) [(tG 25), (tG 26)]), oG 28 (.call (fG 62) [(tG 27)]), ⟨none, none, .st 2 (tG 4) (tG 28)⟩, oG 5 (.as (cG 0))]
noncomputable def f40_c : EC := (.seq (.reg f40_r0) (.seq (.reg f40_r1) (.seq (.seq (.reg f40_r2) (.cond (tG 15) (.seq (.reg f40_r3) .ret) .skip)) (.seq (.reg f40_r4) (.seq (.seq (.reg f40_r5) (.cond (tG 23) (.seq (.reg f40_r6) .ret) .skip)) (.seq (.reg f40_r7) .ret))))))
noncomputable def f40 : EF := ⟨29, [.celln (.ofNat 4) 2, .tmp (.ofNat 5)], f40_c, none⟩
theorem f40_rs : f40.rs = [.celln (.ofNat 4) 2, .tmp (.ofNat 5)] := of_eq_true (eq_self _)
theorem stp_sg {s : Nat × Int} {a b : Int} (h : sgB a = sgB b) : stp s a = stp s b := by
  unfold stp
  have : a = 0 ↔ b = 0 := by rw [← @sgB_0 a, ← @sgB_0 b, h]
  by_cases c : a = 0
  · rw [if_pos c, if_pos (this.1 c)]
  · rw [if_neg c, if_neg (fun e => c (this.2 e)), h]
theorem chS_c {C : List (Int × Int)} (hC : ∀ x ∈ C, coB x.1 x.2 = true) : chS (gvL C) = chS (C.map Prod.fst) := by
  unfold chS gvL
  rw [List.foldl_map, List.foldl_map]
  generalize ((0, 0) : Nat × Int) = s
  induction C generalizing s with
  | nil => rfl
  | cons x C ih =>
    rw [List.foldl_cons, List.foldl_cons]
    have e : stp s (x.1 * (240 : Int).tdiv x.2) = stp s x.1 := by
      apply stp_sg
      obtain ⟨_, _, h1, h2, _⟩ := coB_iff.1 (hC x (List.mem_cons_self ..))
      obtain ⟨hd1, hd⟩ := dv240 h1 h2
      rw [Int.tdiv_eq_ediv_of_dvd hd]
      obtain ⟨k, hk⟩ := hd
      have hb0 : x.2 ≠ 0 := by omega
      have ek : (240 : Int) / x.2 = k := by rw [hk]; exact Int.mul_ediv_cancel_left k hb0
      rw [ek]
      have kp : 0 < k := by
        rcases Int.lt_trichotomy k 0 with q | q | q
        · have := Int.mul_neg_of_pos_of_neg (show 0 < x.2 by omega) q; omega
        · rw [q] at hk; omega
        · exact q
      unfold sgB
      by_cases c1 : 0 < x.1
      · rw [if_pos c1, if_pos (Int.mul_pos c1 kp)]
      · by_cases c2 : x.1 < 0
        · have := Int.mul_neg_of_neg_of_pos c2 kp
          rw [if_neg c1, if_pos c2, if_neg (by omega), if_pos this]
        · have c0 : x.1 = 0 := by omega
          rw [c0, Int.zero_mul]
    rw [e]
    exact ih (fun y hy => hC y (List.mem_cons_of_mem _ hy)) _
section
variable {fs : T EF} {h : H} {v w u : V} {C : List (Int × Int)} {l : List Int} {a b : Int}
theorem f41_ret (k78 : fs.get (.ofNat 78) = some f78) (k101 : fs.get (.ofNat 101) = some f101) (k104 : fs.get (.ofNat 104) = some f104) (k82 : fs.get (.ofNat 82) = some f82) (hl : C.length ≤ 1000000) (hv : Srp h v C) (hc : HC h) : Ret fs f41 [v] h fun r h' => ((gvB C = true ∧ r = .tup [.i .i64 ((chS (C.map Prod.fst)).1 : Int), .i .i64 0]) ∨ (gvB C = false ∧ r = .tup [.i .i64 0, .i .i64 1])) ∧ Grow h.nx.nat h h' := by
  apply ret_of rfl
  show W fs none f41_c _ _ _
  unfold f41_c
  simp (disch := omega) only [f41_r0, f41_r1, Nat.reduceEqDiff, ↓reduceIte, bz]
  refine (callP_0 (ef := f78) k78 rfl (f78_ret k104 k101 hl hv hc)).mono ?_
  rintro r h1 ⟨hr, g1⟩
  have hc1 := g1.hc hc
  rcases hr with ⟨hb, u, rfl, su, ou⟩ | ⟨hb, rfl⟩
  · obtain ⟨b1, b7, bC⟩ := gvB_iff.1 hb
    have st : storeV (h1.new (.cells 2 [.sn, .i .i64 0])) 2 (.p h1.nx 0) (.agg [u, .i .i64 240]) = .ok undefV ((h1.new (.cells 2 [.sn, .i .i64 0])).put h1.nx (.cells 2 [u, .i .i64 240])) := store2 get_new_same
    have gN := (Grow.new (Nat.le_refl h1.nx.nat) (.cells 2 [.sn, .i .i64 0])).trans (Grow.put (b := h1.nx.nat) (h := h1.new (.cells 2 [.sn, .i .i64 0])) (k := h1.nx) (Nat.le_refl _) (by rw [nx_new]; omega) (.cells 2 [u, .i .i64 240]))
    have m4 := load2 (h := (h1.new (.cells 2 [.sn, .i .i64 0])).put h1.nx (.cells 2 [u, .i .i64 240])) (id := h1.nx) get_put_same
    have G2 := g1.trans (gN.low g1.nx)
    simp (disch := omega) only [f41_r2, f41_r4, Nat.reduceEqDiff, ↓reduceIte, Bool.false_eq_true, Bool.not_true, st, m4, bz]
    refine (callP_0 (ef := f82) k82 rfl (f82_ret (by rw [gvL_len]; omega) (su.sr.grow hc1 gN) (G2.hc hc))).mono ?_
    rintro _ h3 ⟨rfl, g3⟩
    simp (disch := omega) only [f41_rs, Option.some.injEq, exists_eq_left', Nat.reduceEqDiff, ↓reduceIte, bz]
    exact ⟨.inl ⟨hb, by rw [chS_c bC]⟩, G2.trans (g3.low G2.nx)⟩
  · have st : storeV (h1.new (.cells 2 [.sn, .i .i64 0])) 2 (.p h1.nx 0) (.agg [.sn, .i .i64 0]) = .ok undefV ((h1.new (.cells 2 [.sn, .i .i64 0])).put h1.nx (.cells 2 [.sn, .i .i64 0])) := store2 get_new_same
    have gN := (Grow.new (Nat.le_refl h1.nx.nat) (.cells 2 [.sn, .i .i64 0])).trans (Grow.put (b := h1.nx.nat) (h := h1.new (.cells 2 [.sn, .i .i64 0])) (k := h1.nx) (Nat.le_refl _) (by rw [nx_new]; omega) (.cells 2 [.sn, .i .i64 0]))
    simp (disch := omega) only [f41_r2, f41_r3, f41_rs, Option.some.injEq, exists_eq_left', Nat.reduceEqDiff, ↓reduceIte, Bool.not_false, st, bz]
    exact ⟨.inr ⟨hb, trivial⟩, g1.trans (gN.low g1.nx)⟩
def atQ (C : List (Int × Int)) (o u : Nat) : Rat := Rat.divInt (cRf (fun j => (gvL C).getD j 0) o u C.length 0) ((240 * u ^ (C.length - 1) : Nat) : Int)
theorem f81_ret {o u' : Nat} (k : CallsHa fs) (ho : o ≤ u') (hu0 : 0 < u') (hu : u' ≤ 16) (hb : gvB C = true) (hv : Sr iE h u (gvL C)) (hc : HC h) : Ret fs f81 [.agg [u, .i .i64 240], .agg [.i .i64 (o : Int), .i .i64 (u' : Int)]] h fun r h' => r = .agg (frL (atQ C o u')) ∧ Grow h.nx.nat h h' := by
  obtain ⟨b1, b7, bC⟩ := gvB_iff.1 hb
  apply ret_of rfl
  show W fs none f81_c _ _ _
  unfold f81_c
  have gA := Grow.new (Nat.le_refl h.nx.nat) (.cells 2 [u, .i .i64 240])
  have n1 := nx_new h (.cells 2 [u, .i .i64 240])
  have c2 : (h.new (.cells 2 [u, .i .i64 240])).get h.nx = .cells 2 [u, .i .i64 240] := get_new_same
  have hcl : cellsN 2 (V.agg [u, .i .i64 240]) = some [u, .i .i64 240] := cell2_agg
  have hcx : cellsN 2 (V.agg [.i .i64 (o : Int), .i .i64 (u' : Int)]) = some [.i .i64 (o : Int), .i .i64 (u' : Int)] := cell2_agg
  simp (disch := omega) only [f81_r0, Nat.reduceEqDiff, ↓reduceIte, hcl, hcx, bz]
  generalize h.new (.cells 2 [u, .i .i64 240]) = hA at *
  have gB := Grow.new (Nat.le_refl hA.nx.nat) (.cells 2 [.i .i64 (o : Int), .i .i64 (u' : Int)])
  have n2 := nx_new hA (.cells 2 [.i .i64 (o : Int), .i .i64 (u' : Int)])
  have c3 : (hA.new (.cells 2 [.i .i64 (o : Int), .i .i64 (u' : Int)])).get hA.nx = .cells 2 [.i .i64 (o : Int), .i .i64 (u' : Int)] := get_new_same
  have c2 := (gB.old h.nx (by omega)).trans c2
  have GB := gA.trans (gB.low gA.nx)
  have hi3 : h.nx.nat < hA.nx.nat := by omega
  generalize hA.nx = i3 at *
  generalize hA.new (.cells 2 [.i .i64 (o : Int), .i .i64 (u' : Int)]) = hB at *
  have gC := Grow.new (Nat.le_refl hB.nx.nat) (.cells 2 [.i .i64 0, .i .i64 0])
  have n3 := nx_new hB (.cells 2 [.i .i64 0, .i .i64 0])
  have c4 : (hB.new (.cells 2 [.i .i64 0, .i .i64 0])).get hB.nx = .cells 2 [.i .i64 0, .i .i64 0] := get_new_same
  have c2 := (gC.old h.nx (by omega)).trans c2
  have c3 := (gC.old i3 (by omega)).trans c3
  have GC := GB.trans (gC.low GB.nx)
  have hi4 : i3.nat < hB.nx.nat := by omega
  generalize hB.nx = i4 at *
  generalize hB.new (.cells 2 [.i .i64 0, .i .i64 0]) = hC at *
  have hcC := GC.hc hc
  have m2 := load2 c2
  have m3 := load2 c3
  have gl := gvL_len (C := C)
  simp (disch := omega) only [f81_r1, Nat.reduceEqDiff, ↓reduceIte, m2, m3, bz]
  refine (callP_0 (ef := f80) k.c80 rfl (f80_ret (o := o) (u := u') (D := 240) k.c102 k.c103 k.c113 k.c95 (by omega) ho hu (by omega) (by omega) (gv_le bC) (hv.grow hc GC) hcC)).mono ?_
  rintro r hD ⟨⟨a1, a2, rfl, s1, s2, oa1, oa2⟩, gD⟩
  rw [gl] at s1 s2
  rw [gl]
  have GD := GC.trans (gD.low GC.nx)
  have hcD := GD.hc hc
  have c4 := (gD.old i4 (by omega)).trans c4
  have l2 := s2.lt hcD _ _ _ _ rfl
  have hDn := gD.nx
  have sE := s2.grow hcD (Grow.new (Nat.le_refl _) (.cells 2 [.sn, .i .i64 0]))
  have hpw := pw_le (u := u') (n := C.length) hu b7
  have hpp : 0 < u' ^ (C.length - 1) := Nat.pow_pos hu0
  have hr0 : 0 < (cRp (fun j => (gvL C).getD j 0) o u' C.length C.length).length := by rw [cRp_len]; exact b1
  have e0 : (cRp (fun j => (gvL C).getD j 0) o u' C.length C.length)[0] = cRf (fun j => (gvL C).getD j 0) o u' C.length 0 := by
    simp only [cRp, List.getElem_map, List.getElem_range]
    rw [if_pos (by omega)]
  have bnd : (cRf (fun j => (gvL C).getD j 0) o u' C.length 0).natAbs ≤ M63 := by
    have := rb_le (L := fun j => (gvL C).getD j 0) (r := C.length - 1 - 0) (k := 0) ho hu (by omega) (gv_le bC) 0
    unfold cRf M63; omega
  have eat : Rat.divInt (cRf (fun j => (gvL C).getD j 0) o u' C.length 0) ((240 * u' ^ (C.length - 1) : Nat) : Int) = atQ C o u' := rfl
  generalize hdd : 240 * u' ^ (C.length - 1) = dd at *
  have ixf : ∀ X : H, ixV 2 2 true (.agg [.sl a1 0 C.length 1, .i .i64 (dd : Int), .sl a2 0 C.length 1, .i .i64 (dd : Int)]) (.i .i64 1) X = .ok (.agg [.sl a2 0 C.length 1, .i .i64 (dd : Int)]) X := fun _ => rfl
  have st := store2 (h := hD.new (.cells 2 [.sn, .i .i64 0])) (id := hD.nx) (x := .sl a2 0 C.length 1) (y := .i .i64 (dd : Int)) get_new_same
  have gN := (Grow.new (Nat.le_refl hD.nx.nat) (.cells 2 [.sn, .i .i64 0])).trans (Grow.put (b := hD.nx.nat) (h := hD.new (.cells 2 [.sn, .i .i64 0])) (k := hD.nx) (Nat.le_refl _) (by rw [nx_new]; omega) (.cells 2 [.sl a2 0 C.length 1, .i .i64 (dd : Int)]))
  have s2 := s2.grow hcD gN
  have GE := GD.trans (gN.low GD.nx)
  have b5 : ((hD.new (.cells 2 [.sn, .i .i64 0])).put hD.nx (.cells 2 [.sl a2 0 C.length 1, .i .i64 (dd : Int)])).get hD.nx = _ := get_put_same
  have c4 := (gN.old i4 (by omega)).trans c4
  have q1 : loadV ((hD.new (.cells 2 [.sn, .i .i64 0])).put hD.nx (.cells 2 [.sl a2 0 C.length 1, .i .i64 (dd : Int)])) (.p hD.nx 0) one? = .ok (.sl a2 0 C.length 1) _ := load_p b5 rfl
  have q2 : loadV ((hD.new (.cells 2 [.sn, .i .i64 0])).put hD.nx (.cells 2 [.sl a2 0 C.length 1, .i .i64 (dd : Int)])) (.p hD.nx 1) one? = .ok (.i .i64 (dd : Int)) _ := load_p b5 rfl
  obtain ⟨p, p1, p2⟩ := s2.at 0 hr0
  rw [e0] at p2
  have p2 : loadV ((hD.new (.cells 2 [.sn, .i .i64 0])).put hD.nx (.cells 2 [.sl a2 0 C.length 1, .i .i64 (dd : Int)])) p one? = .ok (.i .i64 (cRf (fun j => (gvL C).getD j 0) o u' C.length 0)) _ := p2
  have p1 : ∀ kk (X : H), iadsV 1 (.sl a2 0 C.length 1) (.i kk 0) X = .ok p X := p1
  simp (disch := omega) only [f81_r2, x_ix, Nat.reduceEqDiff, ↓reduceIte, ixf, st, q1, q2, p1, p2, bz]
  refine (callP_0 (ef := f89) k.c89 rfl (f89_ret (a := cRf (fun j => (gvL C).getD j 0) o u' C.length 0) (b := (dd : Int)) k.c104 bnd (by unfold M63; omega) (by omega))).mono ?_
  rintro _ hF ⟨rfl, gF⟩
  rw [eat]
  have GF := GE.trans (gF.low GE.nx)
  have hcF := GF.hc hc
  have c4 := (gF.old i4 (by have := gN.nx; omega)).trans c4
  have st := fr_store (q := atQ C o u') c4 rfl
  have rd : readP (hF.put i4 (.cells 2 (frL (atQ C o u')))) (.p i4 0) (many? 2) = some (.agg (frL (atQ C o u'))) := read2 get_put_same
  simp (disch := omega) only [f81_rs, Option.some.injEq, exists_eq_left', Nat.reduceEqDiff, ↓reduceIte, st, rd, bz]
  exact GF.trans (Grow.put (by omega) (hcF.cells c4) _)
end
end Go.Ev
namespace Go.Ev
open Go Go.RowKit
noncomputable def f42_r0 : List EOper := [oG 4 (.as (.c (.b false)))]
noncomputable def f42_r1 : List EOper := [oG 5 (.as (cG 0))]
noncomputable def f42_r2 : List EOper := [oG 6 (.mv (tG 5)), oG 7 (.mv (tG 0)), oG 8 (.len (tG 7)), oG 9 (.bin .lss (tG 6) (tG 8))]
noncomputable def f42_r3 : List Stage := [⟨[oG 12 (.mv (tG 0)), oG 13 (.mv (tG 5)), oG 14 (.iads 2 (tG 12) (tG 13)), oG 15 (.iadr 2 1 (tG 14) (cG 0)), oG 16 (.ld (tG 15)), oG 17 (.bin .lss (tG 16) (.c (.i .i64 (.negSucc 999999)))), oG 18 (.mv (tG 17)), gG 19 18 false (.mv (tG 0)), gG 20 18 false (.mv (tG 5)), gG 21 18 false (.iads 2 (tG 19) (tG 20)), gG 22 18 false (.iadr 2 1 (tG 21) (cG 0)), gG 23 18 false (.ld (tG 22)), gG 24 18 false (.bin .gtr (tG 23) (cG 1000000)), oG 25 (.pick (tG 18) (.c (.b true)) (tG 24)), oG 26 (.mv (tG 25)), gG 27 26 false (.mv (tG 0)), gG 28 26 false (.mv (tG 5)), gG 29 26 false (.iads 2 (tG 27) (tG 28)), gG 30 26 false (.iadr 2 1 (tG 29) (cG 1)), gG 31 26 false (.ld (tG 30)), gG 32 26 false (.bin .lss (tG 31) (cG 1)), oG 33 (.pick (tG 26) (.c (.b true)) (tG 32)), oG 34 (.mv (tG 33)), gG 35 34 false (.mv (tG 0)), gG 36 34 false (.mv (tG 5)), gG 37 34 false (.iads 2 (tG 35) (tG 36)), gG 38 34 false (.iadr 2 1 (tG 37) (cG 1)), gG 39 34 false (.ld (tG 38)), gG 40 34 false (.bin .gtr (tG 39) (cG 240)), oG 41 (.pick (tG 34) (.c (.b true)) (tG 40)), oG 42 (.mv (tG 41)), gG 43 42 false (.mv (tG 0)), gG 44 42 false (.mv (tG 5)), gG 45 42 false (.iads 2 (tG 43) (tG 44)), gG 46 42 false (.iadr 2 1 (tG 45) (cG 1)), gG 47 42 false (.ld (tG 46)), gG 48 42 false (.bin .rem (cG 240) (tG 47)), gG 49 42 false (.bin .neq (tG 48) (cG 0)), oG 50 (.pick (tG 42) (.c (.b true)) (tG 49)), oG 51 (.mv (tG 50)), gG 52 51 false (.mv (tG 0)), gG 53 51 false (.mv (tG 5)), gG 54 51 false (.iads 2 (tG 52) (tG 53)), gG 55 51 false (.iadr 2 1 (tG 54) (cG 0)), gG 56 51 false (.ld (tG 55)), gG 57 51 false (.mv (tG 0)), gG 58 51 false (.mv (tG 5)), gG 59 51 false (.iads 2 (tG 57) (tG 58)), gG 60 51 false (.iadr 2 1 (tG 59) (cG 1)), gG 61 51 false (.ld (tG 60))], [], (some (gG 62 51 false (.call (fG 73) [(tG 56), (tG 61)]))), []⟩, ⟨[gG 63 51 false (.bin .neq (tG 62) (cG 1)), oG 64 (.pick (tG 51) (.c (.b true)) (tG 63))], [], none, []⟩]
noncomputable def f42_r4 : List EOper := [oG 4 (.as (.c (.b false)))]
noncomputable def f42_r5 : List EOper := [oG 10 (.mv (tG 5)), oG 11 (.bin .add (tG 10) (cG 1)), oG 5 (.as (tG 11))]
noncomputable def f42_l0 : EC := (.seq (.seq (.reg f42_r2) (.cond (tG 9) .skip (.exit 0))) (.seq (.block 1 (.seq (.draw f42_r3) (.cond (tG 64) (.seq (.reg f42_r4) .ret) .skip))) (.reg f42_r5)))
noncomputable def f42_r6 : List EOper := [oG 65 (.mv (tG 0)), oG 66 (.len (tG 65)), oG 67 (.bin .geq (tG 66) (cG 1)), oG 68 (.mv (tG 67)), gG 69 68 true (.mv (tG 0)), gG 70 68 true (.len (tG 69)), gG 71 68 true (.mv (tG 1)), gG 72 68 true (.bin .leq (tG 70) (tG 71)), oG 73 (.pick (tG 68) (tG 72) (.c (.b false))), oG 4 (.as (tG 73))]
noncomputable def f42_c : EC := (.seq (.reg f42_r0) (.seq (.seq (.reg f42_r1) (.block 0 (.loop f42_l0))) (.seq (.reg f42_r6) .ret)))
noncomputable def f42 : EF := ⟨74, [.tmp (.ofNat 4)], f42_c, none⟩
theorem f42_rs : f42.rs = [.tmp (.ofNat 4)] := of_eq_true (eq_self _)
section
variable {fs : T EF} {h : H} {v w u : V} {C : List (Int × Int)} {l : List Int} {a b : Int}
structure CallsAt (fs : T EF) : Prop extends CallsHa fs where
  c60 : fs.get (K.ofNat 60) = some f60
  c81 : fs.get (K.ofNat 81) = some f81
theorem f40_ret (k : CallsAt fs) (hl : C.length ≤ 1000000) (hv : Srp h v C) (hc : HC h) : Ret fs f40 [v, .agg [.i .i64 a, .i .i64 b]] h fun r h' => ((gvB C = true ∧ ptB a b 16 = true ∧ r = .tup [.agg (frL (atQ C a.toNat b.toNat)), .i .i64 0]) ∨ ((gvB C = false ∨ ptB a b 16 = false) ∧ r = .tup [.agg [.i .i64 0, .i .i64 0], .i .i64 1])) ∧ Grow h.nx.nat h h' := by
  apply ret_of rfl
  show W fs none f40_c _ _ _
  unfold f40_c
  have gA := Grow.new (Nat.le_refl h.nx.nat) (.cells 2 [.i .i64 a, .i .i64 b])
  have n1 := nx_new h (.cells 2 [.i .i64 a, .i .i64 b])
  have c3 : (h.new (.cells 2 [.i .i64 a, .i .i64 b])).get h.nx = .cells 2 [.i .i64 a, .i .i64 b] := get_new_same
  simp (disch := omega) only [f40_r0, ↓reduceIte, bz]
  generalize h.new (.cells 2 [.i .i64 a, .i .i64 b]) = hA at *
  have gB := Grow.new (Nat.le_refl hA.nx.nat) (.cells 2 [.i .i64 0, .i .i64 0])
  have n2 := nx_new hA (.cells 2 [.i .i64 0, .i .i64 0])
  have c4 : (hA.new (.cells 2 [.i .i64 0, .i .i64 0])).get hA.nx = .cells 2 [.i .i64 0, .i .i64 0] := get_new_same
  have c3 := (gB.old h.nx (by omega)).trans c3
  have GB := gA.trans (gB.low gA.nx)
  have hi4 : h.nx.nat < hA.nx.nat := by omega
  generalize hA.nx = i4 at *
  generalize hA.new (.cells 2 [.i .i64 0, .i .i64 0]) = hB at *
  have hcB := GB.hc hc
  simp (disch := omega) only [f40_r1, Nat.reduceEqDiff, ↓reduceIte, bz]
  refine (callP_0 (ef := f78) k.c78 rfl (f78_ret k.c104 k.c101 hl (hv.grow hc GB) hcB)).mono ?_
  rintro r h1 ⟨hr, g1⟩
  have c3 := (g1.old _ (by omega)).trans c3
  have c4 := (g1.old _ (by omega)).trans c4
  have G1 := GB.trans (g1.low GB.nx)
  have hc1 := G1.hc hc
  have g1n := g1.nx
  rcases hr with ⟨hb, u, rfl, su, ou⟩ | ⟨hb, rfl⟩
  · obtain ⟨b1, b7, bC⟩ := gvB_iff.1 hb
    have st : storeV (h1.new (.cells 2 [.sn, .i .i64 0])) 2 (.p h1.nx 0) (.agg [u, .i .i64 240]) = .ok undefV ((h1.new (.cells 2 [.sn, .i .i64 0])).put h1.nx (.cells 2 [u, .i .i64 240])) := store2 get_new_same
    have gN := (Grow.new (Nat.le_refl h1.nx.nat) (.cells 2 [.sn, .i .i64 0])).trans (Grow.put (b := h1.nx.nat) (h := h1.new (.cells 2 [.sn, .i .i64 0])) (k := h1.nx) (Nat.le_refl _) (by rw [nx_new]; omega) (.cells 2 [u, .i .i64 240]))
    have b6 : ((h1.new (.cells 2 [.sn, .i .i64 0])).put h1.nx (.cells 2 [u, .i .i64 240])).get h1.nx = .cells 2 [u, .i .i64 240] := get_put_same
    have nN : h1.nx.nat < ((h1.new (.cells 2 [.sn, .i .i64 0])).put h1.nx (.cells 2 [u, .i .i64 240])).nx.nat := by rw [nx_put, nx_new]; omega
    have su := su.sr.grow hc1 gN
    have c3 := (gN.old h.nx (by omega)).trans c3
    have c4 := (gN.old i4 (by omega)).trans c4
    have G2 := G1.trans (gN.low G1.nx)
    have hc2 := G2.hc hc
    have m3 := load2 c3
    simp (disch := omega) only [f40_r2, f40_r4, Nat.reduceEqDiff, ↓reduceIte, Bool.false_eq_true, Bool.not_true, of16, st, m3, bz]
    clear st gN m3
    generalize h1.nx = i6 at *
    generalize (h1.new (.cells 2 [.sn, .i .i64 0])).put i6 (.cells 2 [u, .i .i64 240]) = h2 at *
    refine (callP_0 (ef := f60) k.c60 rfl (f60_ret (m := 16) k.c89 k.c104 (by omega))).mono ?_
    rintro _ h3 ⟨rfl, g3⟩
    have c4 := (g3.old i4 (by omega)).trans c4
    have b6 := (g3.old i6 nN).trans b6
    have su := su.grow hc2 g3
    have G3 := G2.trans (g3.low G2.nx)
    have hc3 := G3.hc hc
    have g3n := g3.nx
    unfold shV
    cases hp : ptB a b 16 with
    | true =>
      rw [if_pos rfl]
      have st := store2 (h := h3.new (.cells 2 [.i .i64 0, .i .i64 0])) (id := h3.nx) (x := .i .i64 a) (y := .i .i64 b) get_new_same
      have gN := (Grow.new (Nat.le_refl h3.nx.nat) (.cells 2 [.i .i64 0, .i .i64 0])).trans (Grow.put (b := h3.nx.nat) (h := h3.new (.cells 2 [.i .i64 0, .i .i64 0])) (k := h3.nx) (Nat.le_refl _) (by rw [nx_new]; omega) (.cells 2 [.i .i64 a, .i .i64 b]))
      have m8 := load2 (h := (h3.new (.cells 2 [.i .i64 0, .i .i64 0])).put h3.nx (.cells 2 [.i .i64 a, .i .i64 b])) (id := h3.nx) get_put_same
      have b6 := (gN.old i6 (by omega)).trans b6
      have c4 := (gN.old i4 (by omega)).trans c4
      have m6 := load2 b6
      have su := su.grow hc3 gN
      have G4 := G3.trans (gN.low G3.nx)
      have hc4 := G4.hc hc
      have gNn := gN.nx
      simp (disch := omega) only [f40_r5, f40_r7, Nat.reduceEqDiff, ↓reduceIte, Bool.false_eq_true, Bool.not_true, st, m6, m8, bz]
      obtain ⟨p1, p2, p3, p4, _⟩ := ptB_iff.1 hp
      have ea : a = ((a.toNat : Nat) : Int) := by omega
      have eb : b = ((b.toNat : Nat) : Int) := by omega
      clear m6 m8 st
      generalize (h3.new (.cells 2 [.i .i64 0, .i .i64 0])).put h3.nx (.cells 2 [.i .i64 a, .i .i64 b]) = h4 at *
      rw [ea, eb]
      refine (callP_0 (ef := f81) k.c81 rfl (f81_ret k.toCallsHa (by omega) (by omega) (by omega) hb su hc4)).mono ?_
      rintro _ h5 ⟨rfl, g5⟩
      have c4 := (g5.old i4 (by omega)).trans c4
      have G5 := G4.trans (g5.low G4.nx)
      have hc5 := G5.hc hc
      have g5n := g5.nx
      simp (disch := omega) only [↓reduceIte, bz]
      refine (callP_0 (ef := f62) k.c62 rfl f62_ret).mono ?_
      rintro _ h6 ⟨rfl, g6⟩
      have c4 := (g6.old i4 (by omega)).trans c4
      have G6 := G5.trans (g6.low G5.nx)
      have st := fr_store (q := atQ C a.toNat b.toNat) c4 rfl
      have rd : readP (h6.put i4 (.cells 2 (frL (atQ C a.toNat b.toNat)))) (.p i4 0) (many? 2) = some (.agg (frL (atQ C a.toNat b.toNat))) := read2 get_put_same
      have l4 := (G6.hc hc).cells c4
      have st' : storeV h6 2 (.p i4 0) (.agg [.i .i64 (atQ C a.toNat b.toNat).num, .i .i64 ((atQ C a.toNat b.toNat).den : Int)]) = .ok undefV (h6.put i4 (.cells 2 (frL (atQ C a.toNat b.toNat)))) := st
      simp (disch := omega) only [f40_rs, Option.some.injEq, exists_eq_left', Nat.reduceEqDiff, ↓reduceIte, st', rd, bz]
      exact ⟨.inl ⟨hb, by rw [← ea, ← eb]⟩, G6.trans (Grow.put (by omega) l4 _)⟩
    | false =>
      rw [if_neg (by decide)]
      have st := store2 (h := h3.new (.cells 2 [.i .i64 0, .i .i64 0])) (id := h3.nx) (x := .i .i64 0) (y := .i .i64 0) get_new_same
      have gN := (Grow.new (Nat.le_refl h3.nx.nat) (.cells 2 [.i .i64 0, .i .i64 0])).trans (Grow.put (b := h3.nx.nat) (h := h3.new (.cells 2 [.i .i64 0, .i .i64 0])) (k := h3.nx) (Nat.le_refl _) (by rw [nx_new]; omega) (.cells 2 [.i .i64 0, .i .i64 0]))
      have c4 := (gN.old i4 (by omega)).trans c4
      have G4 := G3.trans (gN.low G3.nx)
      have l4 := (G4.hc hc).cells c4
      have st2 := store2 (x := .i .i64 0) (y := .i .i64 0) c4
      have fl : ∀ fr : Fr, fillE fr [V.i .i64 0, .i .i64 0] [] = some [.i .i64 0, .i .i64 0] := fun fr => rfl
      have rd := read2 (h := ((h3.new (.cells 2 [.i .i64 0, .i .i64 0])).put h3.nx (.cells 2 [.i .i64 0, .i .i64 0])).put i4 (.cells 2 [.i .i64 0, .i .i64 0])) (id := i4) get_put_same
      simp (disch := omega) only [f40_r5, f40_r6, f40_rs, Option.some.injEq, exists_eq_left', Nat.reduceEqDiff, ↓reduceIte, Bool.false_eq_true, Bool.not_false, st, fl, st2, rd, bz]
      exact ⟨.inr ⟨.inr trivial, trivial⟩, G4.trans (Grow.put (by omega) l4 _)⟩
  · have st : storeV (h1.new (.cells 2 [.sn, .i .i64 0])) 2 (.p h1.nx 0) (.agg [.sn, .i .i64 0]) = .ok undefV ((h1.new (.cells 2 [.sn, .i .i64 0])).put h1.nx (.cells 2 [.sn, .i .i64 0])) := store2 get_new_same
    have gN := (Grow.new (Nat.le_refl h1.nx.nat) (.cells 2 [.sn, .i .i64 0])).trans (Grow.put (b := h1.nx.nat) (h := h1.new (.cells 2 [.sn, .i .i64 0])) (k := h1.nx) (Nat.le_refl _) (by rw [nx_new]; omega) (.cells 2 [.sn, .i .i64 0]))
    have c4 := (gN.old i4 (by omega)).trans c4
    have G4 := G1.trans (gN.low G1.nx)
    have l4 := (G4.hc hc).cells c4
    have st2 := store2 (x := .i .i64 0) (y := .i .i64 0) c4
    have fl : ∀ fr : Fr, fillE fr [V.i .i64 0, .i .i64 0] [] = some [.i .i64 0, .i .i64 0] := fun fr => rfl
    have rd := read2 (h := ((h1.new (.cells 2 [.sn, .i .i64 0])).put h1.nx (.cells 2 [.sn, .i .i64 0])).put i4 (.cells 2 [.i .i64 0, .i .i64 0])) (id := i4) get_put_same
    simp (disch := omega) only [f40_r2, f40_r3, f40_rs, Option.some.injEq, exists_eq_left', Nat.reduceEqDiff, ↓reduceIte, Bool.not_false, st, fl, st2, rd, bz]
    exact ⟨.inr ⟨.inl hb, trivial⟩, G4.trans (Grow.put (by omega) l4 _)⟩
def gmB (C : List (Int × Int)) (m : Nat) : Bool := C.all (fun x => coB x.1 x.2) && (decide (1 ≤ C.length) && decide (C.length ≤ m))
theorem gmB_7 : gmB C 7 = gvB C := by
  unfold gmB gvB
  rw [← Bool.and_assoc, Bool.and_assoc, Bool.and_comm, Bool.and_assoc]
theorem f42_bad {i m : Nat} (hi : i < C.length) (hb : coB C[i].1 C[i].2 = false) : gmB C m = false := by
  unfold gmB
  have : C.all (fun x => coB x.1 x.2) = false := by
    rw [List.all_eq_false]
    exact ⟨C[i], List.getElem_mem hi, by rw [hb]; decide⟩
  rw [this]; rfl
def f42_I (h0 : H) (v : V) (C : List (Int × Int)) (m i : Nat) (fr : Fr) (h1 : H) : Prop := i ≤ C.length ∧ (∀ j (hj : j < C.length), j < i → coB C[j].1 C[j].2 = true) ∧ h1 = h0 ∧ fr.get (K.ofNat 0) = some (v) ∧ fr.get (K.ofNat 1) = some (.i .i64 (m : Int)) ∧ fr.get (K.ofNat 5) = some (.i .i64 (i : Int))
theorem f42_ret {m : Nat} (k73 : fs.get (.ofNat 73) = some f73) (hl : C.length ≤ 1000000) (_ : m ≤ 1000) (hv : Srp h v C) : Ret fs f42 [v, .i .i64 (m : Int)] h fun r h' => r = .b (gmB C m) ∧ h' = h := by
  apply ret_of rfl
  show W fs none f42_c _ _ _
  unfold f42_c
  simp (disch := omega) only [f42_r0, f42_r1, bz]
  refine W_loop (f42_I h v C m) (fun i => C.length - i) ?_ 0 ⟨by omega, (fun j _ hj => by omega), rfl, by simp (disch := omega) only [getK_set, Nat.reduceEqDiff, ↓reduceIte, and_self, Int.natCast_zero]⟩
  rintro i fr h1 ⟨hi, hC, rfl, g0, g1, g5⟩
  have e1 := hv.len
  unfold f42_l0
  by_cases hlt : i < C.length
  · have d1 : decide ((i : Int) < (C.length : Int)) = true := decide_eq_true (by omega)
    have ee : fw .i64 ((i : Int) + 1) = ((i + 1 : Nat) : Int) := by rw [fw64 (by omega) (by omega)]; rfl
    obtain ⟨id, q, p1, p2, p3, p4⟩ := hv.at2 hlt
    have bad := f42_bad (C := C) (m := m) hlt
    have iff := coB_iff (a := C[i].1) (b := C[i].2)
    have good : coB C[i].1 C[i].2 = true → ∀ j (hj : j < C.length), j < i + 1 → coB C[j].1 C[j].2 = true := fun hc j hj h2 => by
      by_cases e : j = i
      · subst e; exact hc
      · exact hC j hj (by omega)
    have bv := hv.beq
    generalize C[i].1 = a at *
    generalize C[i].2 = b at *
    have no : ¬ (-1000000 ≤ a ∧ a ≤ 1000000 ∧ 1 ≤ b ∧ (240 : Int).tmod b = 0 ∧ Int.gcd a b = 1) → gmB C m = false := fun hn => bad (by cases hc : coB a b with | false => rfl | true => exact absurd (iff.1 hc) hn)
    have ng : Int.negSucc 999999 = -1000000 := ng6
    by_cases c1 : a < -1000000
    · have q1 : decide (a < -1000000) = true := decide_eq_true c1
      have nn := no (by omega)
      simp (disch := omega) only [f42_r2, f42_r3, f42_r4, f42_rs, Option.some.injEq, exists_eq_left', Nat.reduceEqDiff, ↓reduceIte, Bool.false_eq_true, Bool.not_true, g0, g5, e1, d1, p1, p3, ng, of1e6, of240, q1, nn, bz]
    have q1 : decide (a < -1000000) = false := decide_eq_false c1
    by_cases c2 : a > 1000000
    · have q2 : decide (a > 1000000) = true := decide_eq_true c2
      have nn := no (by omega)
      simp (disch := omega) only [f42_r2, f42_r3, f42_r4, f42_rs, Option.some.injEq, exists_eq_left', Nat.reduceEqDiff, ↓reduceIte, Bool.false_eq_true, Bool.not_true, Bool.not_false, g0, g5, e1, d1, p1, p3, ng, of1e6, of240, q1, q2, nn, bz]
    have q2 : decide (a > 1000000) = false := decide_eq_false c2
    by_cases c3 : b < 1
    · have q3 : decide (b < 1) = true := decide_eq_true c3
      have nn := no (by omega)
      simp (disch := omega) only [f42_r2, f42_r3, f42_r4, f42_rs, Option.some.injEq, exists_eq_left', Nat.reduceEqDiff, ↓reduceIte, Bool.false_eq_true, Bool.not_true, Bool.not_false, g0, g5, e1, d1, p1, p3, p4, ng, of1e6, of240, q1, q2, q3, nn, bz]
    have q3 : decide (b < 1) = false := decide_eq_false c3
    by_cases c4 : b > 240
    · have q4 : decide (b > 240) = true := decide_eq_true c4
      have nn := no (fun e => by have := (dv240 e.2.2.1 e.2.2.2.1).1; omega)
      simp (disch := omega) only [f42_r2, f42_r3, f42_r4, f42_rs, Option.some.injEq, exists_eq_left', Nat.reduceEqDiff, ↓reduceIte, Bool.false_eq_true, Bool.not_true, Bool.not_false, g0, g5, e1, d1, p1, p3, p4, ng, of1e6, of240, q1, q2, q3, q4, nn, bz]
    have q4 : decide (b > 240) = false := decide_eq_false c4
    have b0 : decide (b = 0) = false := decide_eq_false (by omega)
    by_cases c5 : (240 : Int).tmod b = 0
    · have q5 : decide ((240 : Int).tmod b ≠ 0) = false := decide_eq_false (fun e => e c5)
      have eg := fun P => f73_eq (fs := fs) (h := h1) k73 (a := a) (b := b) (by unfold M63; omega) (by unfold M63; omega) (.inr (by omega)) (P := P)
      by_cases c6 : (Int.gcd a b : Int) = 1
      · have q6 : decide ((Int.gcd a b : Int) ≠ 1) = false := decide_eq_false (fun e => e c6)
        have cc := iff.2 ⟨by omega, by omega, by omega, c5, by omega⟩
        simp (disch := omega) only [f42_r2, f42_r3, f42_r5, Nat.reduceEqDiff, ↓reduceIte, Bool.false_eq_true, Bool.not_false, g0, g5, e1, d1, p1, p3, p4, ng, of1e6, of240, q1, q2, q3, q4, q5, eg, q6, ee, bz]
        exact ⟨i + 1, by omega, by omega, good cc, rfl, by simp (disch := omega) only [getK_set, Nat.reduceEqDiff, ↓reduceIte, g0, g1, and_self]⟩
      · have q6 : decide ((Int.gcd a b : Int) ≠ 1) = true := decide_eq_true c6
        have nn := no (by omega)
        simp (disch := omega) only [f42_r2, f42_r3, f42_r4, f42_rs, Option.some.injEq, exists_eq_left', Nat.reduceEqDiff, ↓reduceIte, Bool.false_eq_true, Bool.not_false, g0, g5, e1, d1, p1, p3, p4, ng, of1e6, of240, q1, q2, q3, q4, q5, eg, q6, nn, bz]
    · have q5 : decide ((240 : Int).tmod b ≠ 0) = true := decide_eq_true c5
      have nn := no (fun e => c5 e.2.2.2.1)
      simp (disch := omega) only [f42_r2, f42_r3, f42_r4, f42_rs, Option.some.injEq, exists_eq_left', Nat.reduceEqDiff, ↓reduceIte, Bool.false_eq_true, Bool.not_true, Bool.not_false, g0, g5, e1, d1, p1, p3, p4, ng, of1e6, of240, q1, q2, q3, q4, q5, nn, bz]
  · have d1 : decide ((i : Int) < (C.length : Int)) = false := decide_eq_false (by omega)
    have all : C.all (fun x => coB x.1 x.2) = true := by
      rw [List.all_eq_true]
      intro x hx
      obtain ⟨j, hj, rfl⟩ := List.mem_iff_getElem.1 hx
      exact hC j hj (by omega)
    by_cases c1 : 1 ≤ C.length
    · have d2 : decide ((C.length : Int) ≥ 1) = true := decide_eq_true (by omega)
      by_cases c2 : C.length ≤ m
      · have d3 : decide ((C.length : Int) ≤ (m : Int)) = true := decide_eq_true (by omega)
        simp (disch := omega) only [f42_r2, f42_r6, f42_rs, Option.some.injEq, exists_eq_left', Nat.reduceEqDiff, ↓reduceIte, Bool.false_eq_true, g0, g1, g5, e1, d1, d2, d3, bz]
        exact ⟨by unfold gmB; rw [all, decide_eq_true c1, decide_eq_true c2]; rfl, trivial⟩
      · have d3 : decide ((C.length : Int) ≤ (m : Int)) = false := decide_eq_false (by omega)
        simp (disch := omega) only [f42_r2, f42_r6, f42_rs, Option.some.injEq, exists_eq_left', Nat.reduceEqDiff, ↓reduceIte, Bool.false_eq_true, g0, g1, g5, e1, d1, d2, d3, bz]
        exact ⟨by unfold gmB; rw [all, decide_eq_true c1, decide_eq_false c2]; rfl, trivial⟩
    · have d2 : decide ((C.length : Int) ≥ 1) = false := decide_eq_false (by omega)
      simp (disch := omega) only [f42_r2, f42_r6, f42_rs, Option.some.injEq, exists_eq_left', Nat.reduceEqDiff, ↓reduceIte, Bool.false_eq_true, g0, g5, e1, d1, d2, bz]
      exact ⟨by unfold gmB; rw [all, decide_eq_false c1]; rfl, trivial⟩
theorem f42_eq {m : Nat} (k : fs.get (.ofNat 42) = some f42) (k73 : fs.get (.ofNat 73) = some f73) (hl : C.length ≤ 1000000) (hm : m ≤ 1000) (hv : Srp h v C) {P : V → H → Prop} : CallP fs (.fn (.ofNat 42) []) [v, .i .i64 (m : Int)] h P = P (.b (gmB C m)) h := callP_eq2 (callP_0 k rfl (f42_ret k73 hl hm hv))
end
end Go.Ev
namespace Go.Ev
open Go Go.RowKit
noncomputable def f44_r0 : List EOper := [oG 3 (.box 2 (tG 1)), oG 4 (.as (.c .sn)), oG 5 (.as (.c .sn))]
noncomputable def f44_r1 : List EOper := [oG 6 (.as (.c .sn)), oG 7 (.as (.c .sn)), oG 8 (.as (.c .sn))]
noncomputable def f44_r2 : List EOper := [oG 11 (.mv (tG 6)), oG 12 (.mv (tG 0)), oG 13 (.app 2 (tG 11) (tG 12)), oG 6 (.as (tG 13))]
noncomputable def f44_r3 : List EOper := [oG 14 (.mv (tG 6)), oG 15 (.len (tG 14)), oG 16 (.bin .gtr (tG 15) (cG 0))]
noncomputable def f44_r4 : List EOper := [oG 17 (.mv (tG 7)), oG 18 (.mv (tG 6)), oG 19 (.iads 2 (tG 18) (cG 0)), oG 20 (.ldn 2 (tG 19)), oG 21 (.bslice 1 2 [(.i .i64 (.ofNat 0)), (.i .i64 (.ofNat 0))] [(0, 2, (tG 20))]), oG 22 (.app 2 (tG 17) (tG 21)), oG 7 (.as (tG 22))]
noncomputable def f44_r5 : List EOper := [oG 23 (.mv (tG 6)), oG 24 (.mv (tG 6)), oG 25 (.len (tG 24)), oG 26 (.bin .sub (tG 25) (cG 1)), oG 27 (.iads 2 (tG 23) (tG 26)), oG 28 (.ldn 2 (tG 27)), oG 29 (.bslice 1 2 [(.i .i64 (.ofNat 0)), (.i .i64 (.ofNat 0))] [(0, 2, (tG 28))]), oG 30 (.mv (tG 8)), oG 31 (.app 2 (tG 29) (tG 30)), oG 8 (.as (tG 31))]
noncomputable def f44_r6 : List EOper := [oG 9 (.as (.c .sn))]
noncomputable def f44_r7 : List EOper := [oG 10 (.as (cG 1))]
noncomputable def f44_r8 : List EOper := [oG 32 (.mv (tG 10)), oG 33 (.mv (tG 6)), oG 34 (.len (tG 33)), oG 35 (.bin .lss (tG 32) (tG 34))]
noncomputable def f44_r9 : List Stage := [⟨[oG 38 (.mv (tG 9)), oG 39 (.mv (tG 6)), oG 40 (.mv (tG 10)), oG 41 (.bin .sub (tG 40) (cG 1)), oG 42 (.iads 2 (tG 39) (tG 41)), oG 43 (.ldn 2 (tG 42)), oG 44 (.iadr 2 1 (tG 3) (cG 1)), oG 45 (.ld (tG 44)), oG 46 (.iadr 2 1 (tG 3) (cG 0)), oG 47 (.ld (tG 46)), oG 48 (.bin .sub (tG 45) (tG 47)), oG 49 (.iadr 2 1 (tG 3) (cG 1)), oG 50 (.ld (tG 49)), oG 51 (.build [(.i .i64 (.ofNat 0)), (.i .i64 (.ofNat 0))] [(0, 1, (tG 48)), (1, 1, (tG 50))]), oG 53 (.mv (tG 6)), oG 54 (.mv (tG 10)), oG 55 (.iads 2 (tG 53) (tG 54)), oG 56 (.ldn 2 (tG 55)), oG 57 (.ldn 2 (tG 3))], [], (some (oG 52 (.call (fG 75) [(tG 43), (tG 51)]))), []⟩, ⟨[], [oG 38 (.mv (tG 9)), oG 53 (.mv (tG 6)), oG 54 (.mv (tG 10)), oG 55 (.iads 2 (tG 53) (tG 54)), oG 56 (.ldn 2 (tG 55)), oG 57 (.ldn 2 (tG 3))], (some (oG 58 (.call (fG 75) [(tG 56), (tG 57)]))), []⟩, ⟨[], [oG 38 (.mv (tG 9))], (some (oG 59 (.call (fG 74) [(tG 52), (tG 58)]))), []⟩, ⟨[oG 60 (.bslice 1 2 [(.i .i64 (.ofNat 0)), (.i .i64 (.ofNat 0))] [(0, 2, (tG 59))])], [oG 38 (.mv (tG 9))], (some (oG 61 (.app 2 (tG 38) (tG 60)))), [(.ofNat 60)]⟩, ⟨[], [], (some (oG 9 (.as (tG 61)))), []⟩, ⟨[], [], none, []⟩]
noncomputable def f44_r10 : List EOper := [oG 36 (.mv (tG 10)), oG 37 (.bin .add (tG 36) (cG 1)), oG 10 (.as (tG 37))]
noncomputable def f44_l0 : EC := (.seq (.seq (.reg f44_r8) (.cond (tG 35) .skip (.exit 2))) (.seq (.block 3 (.draw f44_r9)) (.reg f44_r10)))
noncomputable def f44_r11 : List EOper := [oG 62 (.mv (tG 9)), oG 6 (.as (tG 62))]
noncomputable def f44_l1 : EC := (.seq (.seq (.reg f44_r3) (.cond (tG 16) .skip (.exit 0))) (.block 1 (.seq (.reg f44_r4) (.seq (.reg f44_r5) (.seq (.reg f44_r6) (.seq (.seq (.reg f44_r7) (.block 2 (.loop f44_l0))) (.reg f44_r11)))))))
noncomputable def f44_r12 : List EOper := [oG 63 (.mv (tG 7)), oG 64 (.mv (tG 8)), oG 4 (.as (tG 63)), oG 5 (.as (tG 64))]
noncomputable def f44_c : EC := (.seq (.reg f44_r0) (.seq (.reg f44_r1) (.seq (.reg f44_r2) (.seq (.block 0 (.loop f44_l1)) (.seq (.reg f44_r12) .ret)))))
noncomputable def f44 : EF := ⟨65, [.tmp (.ofNat 4), .tmp (.ofNat 5)], f44_c, none⟩
theorem f44_rs : f44.rs = [.tmp (.ofNat 4), .tmp (.ofNat 5)] := of_eq_true (eq_self _)
section
variable {fs : T EF} {h : H} {v w u : V} {b : Nat} {L M : List (Int × Int)}
theorem Srp.addOf2 (hs : Srp h u M) : Go.Ev.addOf 2 h u = some (M.length, M.flatMap qE) := by
  rcases hs with ⟨rfl, h0, h1⟩ | ⟨id, off, m, cs, rfl, hb, hll, hm, hx⟩
  · rw [h1, h0]; rfl
  · show (h.get id).onC none (fun len cs => bif Nat.beq 2 2 && Nat.ble (off + M.length * 2) len then some (M.length, takeN (M.length * 2) (dropN off cs)) else none) = _
    have e0 : (h.get id).onC none (fun len cs => bif Nat.beq 2 2 && Nat.ble (off + M.length * 2) len then some (M.length, takeN (M.length * 2) (dropN off cs)) else none) = (bif Nat.beq 2 2 && Nat.ble (off + M.length * 2) m then some (M.length, takeN (M.length * 2) (dropN off cs)) else none) := by
      rcases hb with hb | hb <;> rw [hb] <;> rfl
    rw [e0, Nat.ble_eq_true_of_le hm, takeN_eq, dropN_eq, hx]; rfl
theorem Sk.appP (hs : Sk 2 qE h v L) (ho : Own b v) (hb : b ≤ h.nx.nat) (hu : Srp h u M) (hc : HC h) (hn : L.length + M.length ≤ 16777216) : ∃ v' h', appV 2 h v u = .ok v' h' ∧ Sk 2 qE h' v' (L ++ M) ∧ Own b v' ∧ Grow b h h' := by
  have ht : v.tight = false := by rcases hs with ⟨rfl, _⟩ | ⟨_, _, _, _, rfl, _⟩ <;> rfl
  unfold appV
  rw [hu.addOf2]
  simp only [oGet, ht, cond_false]
  rcases hs with ⟨rfl, rfl⟩ | ⟨id, off, m, cs, rfl, hb', hl, hm, hx⟩
  · show ∃ v' h', (bif Nat.ble M.length 16777216 then app0 2 h M.length (M.flatMap qE) else RV.no) = .ok v' h' ∧ _
    rw [Nat.ble_eq_true_of_le (by simp at hn; omega)]
    show ∃ v' h', app0 2 h M.length (M.flatMap qE) = .ok v' h' ∧ _
    unfold app0
    by_cases hz : M.length = 0
    · have : M = [] := List.length_eq_zero_iff.1 hz
      subst this
      exact ⟨.sn, h, rfl, Sk.nil, Own.sn, Grow.refl _ _⟩
    · rw [show Nat.beq M.length 0 = false by rw [← Bool.not_eq_true]; intro h; exact hz (Nat.eq_of_beq_eq_true h)]
      exact ⟨_, _, rfl, .inr ⟨h.nx, 0, M.length * 2, M.flatMap qE, rfl, get_new_same, flat_len qE_len M, by simp, by rw [List.drop_zero, List.nil_append, List.take_of_length_le (by rw [flat_len qE_len]; omega)]⟩, fun _ _ _ _ h => by cases h; exact hb, Grow.new hb _⟩
  · have hid := hc.cells hb'
    show ∃ v' h', (h.get id).onW RV.no (fun len cs => bif Nat.beq 2 2 && Nat.ble (off + L.length * 2) len && Nat.ble (L.length + M.length) 16777216 then app1 2 h id off L.length cs M.length (M.flatMap qE) else .no) = .ok v' h' ∧ _
    rw [hb']
    show ∃ v' h', (bif Nat.beq 2 2 && Nat.ble (off + L.length * 2) m && Nat.ble (L.length + M.length) 16777216 then app1 2 h id off L.length cs M.length (M.flatMap qE) else .no) = .ok v' h' ∧ _
    rw [show (Nat.beq 2 2 && Nat.ble (off + L.length * 2) m && Nat.ble (L.length + M.length) 16777216) = true by rw [Nat.beq_refl, Nat.ble_eq_true_of_le hm, Nat.ble_eq_true_of_le hn]; rfl]
    show ∃ v' h', app1 2 h id off L.length cs M.length (M.flatMap qE) = .ok v' h' ∧ _
    unfold app1
    by_cases hz : M.length = 0
    · have : M = [] := List.length_eq_zero_iff.1 hz
      subst this
      refine ⟨_, h, rfl, ?_, ho, Grow.refl _ _⟩
      rw [List.append_nil]
      exact .inr ⟨id, off, m, cs, rfl, hb', hl, hm, hx⟩
    · rw [show Nat.beq M.length 0 = false by rw [← Bool.not_eq_true]; intro h; exact hz (Nat.eq_of_beq_eq_true h)]
      refine ⟨_, _, rfl, .inr ⟨h.nx, 0, (L.length + M.length) * 2, cat (takeN (L.length * 2) (dropN off cs)) (M.flatMap qE), by simp, get_new_same, ?_, by simp, ?_⟩, fun _ _ _ _ h => by cases h; exact hb, (Grow.put (ho _ _ _ _ rfl) hid _).trans (Grow.new (by rw [nx_put]; exact hb) _)⟩
      · rw [cat_eq, takeN_eq, dropN_eq, hx, List.length_append, flat_len qE_len, flat_len qE_len, Nat.add_mul]
      · rw [cat_eq, takeN_eq, dropN_eq, hx, List.drop_zero, List.flatMap_append, List.take_of_length_le (by rw [List.length_append, flat_len qE_len, flat_len qE_len]; simp [Nat.add_mul])]
end
section
variable {fs : T EF} {h : H} {v : V} {C : List (Int × Int)}
def rwD (C : List (Int × Int)) (x : Rat) (r : Nat) : Nat → Rat := rq (qv C) x r
def rgL (C : List (Int × Int)) (x : Rat) (n r : Nat) : List (Int × Int) := (List.range r).map fun t => frP (rwD C x (r - 1 - t) (n - r + t))
theorem rgL_s {x : Rat} {n r : Nat} (hr : r < n) : rgL C x n (r + 1) = frP (rwD C x r (n - r - 1)) :: rgL C x n r := by
  unfold rgL
  rw [List.range_succ_eq_map, List.map_cons, List.map_map]
  congr 1
  apply List.map_congr_left
  · intro t ht
    have := List.mem_range.1 ht
    show frP (rwD C x (r + 1 - 1 - (t + 1)) (n - (r + 1) + (t + 1))) = _
    rw [show r + 1 - 1 - (t + 1) = r - 1 - t by omega, show n - (r + 1) + (t + 1) = n - r + t by omega]
theorem C_rw {x : Rat} (hC : ∀ y ∈ C, coB y.1 y.2 = true) : C = rwL (rwD C x 0) C.length := by
  apply List.ext_getElem
  · rw [rwL_len]
  · intro i h1 h2
    have e := qv_fr h1 (hC _ (List.getElem_mem h1))
    simp only [rwL, List.getElem_map, List.getElem_range]
    show C[i] = frP (qv C i)
    unfold frL at e
    injection e with e1 e2
    injection e2 with e2 _
    injection e1 with _ e1
    injection e2 with _ e2
    exact Prod.ext e1 e2
theorem one_sub {o u : Nat} (hu : 0 < u) : (1 : Rat) - Rat.divInt (o : Int) (u : Int) = Rat.divInt ((u : Int) - (o : Int)) (u : Int) := by
  rw [Rat.divInt_eq_div, Rat.divInt_eq_div, Rat.intCast_sub]
  have : ((u : Int) : Rat) ≠ 0 := by intro e; have := Rat.intCast_eq_zero_iff.1 e; omega
  grind
theorem gcd_sub {o u : Nat} (hg : Int.gcd (o : Int) (u : Int) = 1) : Int.gcd ((u : Int) - (o : Int)) (u : Int) = 1 := by
  rw [Int.gcd_comm, Int.gcd_self_sub_right, Int.gcd_comm]; exact hg
theorem pw7 {u r : Nat} (hu : u ≤ 16) (hr : r ≤ 7) : u ^ r ≤ 268435456 := Nat.le_trans (Nat.pow_le_pow_left hu r) (show 16 ^ r ≤ 16 ^ 7 from Nat.pow_le_pow_right (by omega) hr)
theorem rwD_ov {o u : Nat} (hC : ∀ y ∈ C, coB y.1 y.2 = true) (hu : 0 < u) (ho : o ≤ u) (r i : Nat) : Ov (rwD C (Rat.divInt (o : Int) (u : Int)) r i) (240 * u ^ r) (240000000 * u ^ r) := rq_ov (by decide) hu ho (gv_le hC) r i
theorem dv_mlb {o u r i a : Nat} (hC : ∀ y ∈ C, coB y.1 y.2 = true) (hu : 0 < u) (hu16 : u ≤ 16) (ho : o ≤ u) (hr : r ≤ 6) (ha : a ≤ u) : MlB (rwD C (Rat.divInt (o : Int) (u : Int)) r i) (Rat.divInt (a : Int) (u : Int)) := by
  have p := pw7 (r := r) hu16 (by omega)
  have m : u ^ r * u ≤ 268435456 * 16 := Nat.mul_le_mul p hu16
  refine mlb_ov (rwD_ov hC hu ho r i) (show Ov (Rat.divInt (a : Int) (u : Int)) u u from ⟨hu, (a : Int), by omega, rfl⟩) (by unfold M63; omega) (by unfold M63; omega) (by unfold M63; omega) (by unfold M63; omega) ?_ ?_
  · rw [Nat.mul_assoc]; unfold M63; omega
  · rw [Nat.mul_assoc]; unfold M63; omega
theorem dv_adb {o u r i j a c : Nat} (hC : ∀ y ∈ C, coB y.1 y.2 = true) (hu : 0 < u) (hu16 : u ≤ 16) (ho : o ≤ u) (hr : r ≤ 6) (ha : a ≤ u) (hc : c ≤ u) : AdB (rwD C (Rat.divInt (o : Int) (u : Int)) r i * Rat.divInt (a : Int) (u : Int)) (rwD C (Rat.divInt (o : Int) (u : Int)) r j * Rat.divInt (c : Int) (u : Int)) := by
  have p := pw7 (r := r) hu16 (by omega)
  have m : u ^ r * u ≤ 268435456 * 16 := Nat.mul_le_mul p hu16
  have q : ∀ {a : Nat}, a ≤ u → Ov (Rat.divInt (a : Int) (u : Int)) u u := fun {a} ha => ⟨hu, (a : Int), by omega, rfl⟩
  refine adb_ov ((rwD_ov hC hu ho r i).mul (q ha)) ((rwD_ov hC hu ho r j).mul (q hc)) ?_ ?_
  · rw [Nat.mul_assoc]; unfold M63; omega
  · rw [Nat.mul_assoc]; unfold M63; omega
def Sep (x y : V) : Prop := ∀ id off m sz, x = .sl id off m sz → NotIn id y
theorem Sep.sn {x : V} : Sep x .sn := fun _ _ _ _ _ _ _ _ e => by cases e
theorem Sep.symm {x y : V} (s : Sep x y) : Sep y x := fun _ _ _ _ e _ _ _ e' => s _ _ _ _ e' _ _ _ e
theorem Sep.own {x y : V} {b : Nat} (hx : ∀ id off m sz, x = .sl id off m sz → id.nat < b) (hy : Own b y) : Sep x y := fun _ _ _ _ e _ _ _ e' => by
  have := hx _ _ _ _ e
  have := hy _ _ _ _ e'
  omega
structure F44 (h1 : H) (C : List (Int × Int)) (x : Rat) (n r rl : Nat) (b : Nat) (row lf rg : V) : Prop where
  sr : Sk 2 qE h1 row (rwL (rwD C x r) rl)
  sl : Sk 2 qE h1 lf (rwL (fun j => rwD C x j 0) n)
  o1 : Own b row
  o2 : Own b lf
  o3 : Own b rg
  p1 : Sep row lf
  p2 : Sep row rg
  p3 : Sep lf rg
def f44_I1 (h0 : H) (i3 : K) (C : List (Int × Int)) (x : Rat) (n r : Nat) (fr : Fr) (h1 : H) : Prop := r ≤ n ∧ Grow h0.nx.nat h0 h1 ∧ h1.get i3 = .cells 2 (frL x) ∧ ∃ row lf rg, F44 h1 C x r r (n - r) h0.nx.nat row lf rg ∧ Sk 2 qE h1 rg (rgL C x n r) ∧ fr.get (K.ofNat 3) = some (.p i3 0) ∧ fr.get (K.ofNat 6) = some (row) ∧ fr.get (K.ofNat 7) = some (lf) ∧ fr.get (K.ofNat 8) = some (rg)
def f44_I0 (h0 : H) (i3 : K) (C : List (Int × Int)) (x : Rat) (row lf rg : V) (n r m i : Nat) (fr : Fr) (h1 : H) : Prop := 1 ≤ i ∧ i ≤ m + 1 ∧ Grow h0.nx.nat h0 h1 ∧ h1.get i3 = .cells 2 (frL x) ∧ F44 h1 C x (r + 1) r (m + 1) h0.nx.nat row lf rg ∧ Sk 2 qE h1 rg (rgL C x n (r + 1)) ∧ ∃ nx, Sk 2 qE h1 nx (rwL (rwD C x (r + 1)) (i - 1)) ∧ Own h0.nx.nat nx ∧ Sep row nx ∧ Sep lf nx ∧ Sep rg nx ∧ fr.get (K.ofNat 3) = some (.p i3 0) ∧ fr.get (K.ofNat 6) = some (row) ∧ fr.get (K.ofNat 7) = some (lf) ∧ fr.get (K.ofNat 8) = some (rg) ∧ fr.get (K.ofNat 9) = some (nx) ∧ fr.get (K.ofNat 10) = some (.i .i64 (i : Int))
theorem f44_ret {o u n : Nat} (k : CallsF fs) (hn1 : 1 ≤ n) (hn : n ≤ 7) (hl : C.length = n) (hC : ∀ y ∈ C, coB y.1 y.2 = true) (hu : 0 < u) (hu16 : u ≤ 16) (ho : o ≤ u) (hg : Int.gcd (o : Int) (u : Int) = 1) (hv : Srp h v C) (hc : HC h) : Ret fs f44 [v, .agg [.i .i64 (o : Int), .i .i64 (u : Int)]] h fun z h' => (∃ w1 w2, z = .tup [w1, w2] ∧ Sk 2 qE h' w1 (rwL (fun j => rwD C (Rat.divInt (o : Int) (u : Int)) j 0) n) ∧ Sk 2 qE h' w2 (rgL C (Rat.divInt (o : Int) (u : Int)) n n) ∧ Own h.nx.nat w1 ∧ Own h.nx.nat w2) ∧ Grow h.nx.nat h h' := by
  apply ret_of rfl
  show W fs none f44_c _ _ _
  unfold f44_c
  have ex : [V.i .i64 (o : Int), .i .i64 (u : Int)] = frL (Rat.divInt (o : Int) (u : Int)) := frL_low (by omega) hg
  have gs := gcd_sub hg
  have ey : [V.i .i64 ((u : Int) - (o : Int)), .i .i64 (u : Int)] = frL (1 - Rat.divInt (o : Int) (u : Int)) := by rw [one_sub hu]; exact frL_low (by omega) gs
  have eo : (1 : Rat) - Rat.divInt (o : Int) (u : Int) = Rat.divInt ((u - o : Nat) : Int) (u : Int) := by rw [one_sub hu, show ((u - o : Nat) : Int) = (u : Int) - (o : Int) by omega]
  have MA := fun (r i : Nat) (hr : r ≤ 6) => dv_mlb (C := C) (i := i) hC hu hu16 ho hr (show u - o ≤ u by omega)
  have MB := fun (r i : Nat) (hr : r ≤ 6) => dv_mlb (C := C) (i := i) hC hu hu16 ho hr ho
  have AB := fun (r i j : Nat) (hr : r ≤ 6) => dv_adb (C := C) (i := i) (j := j) hC hu hu16 ho hr (show u - o ≤ u by omega) ho
  rw [← eo] at MA AB
  have euo : fw .i64 ((u : Int) - (o : Int)) = (u : Int) - (o : Int) := fw64 (by omega) (by omega)
  have gA := Grow.new (Nat.le_refl h.nx.nat) (.cells 2 [V.i .i64 (o : Int), .i .i64 (u : Int)])
  have n1 := nx_new h (.cells 2 [V.i .i64 (o : Int), .i .i64 (u : Int)])
  have b3 : (h.new (.cells 2 [V.i .i64 (o : Int), .i .i64 (u : Int)])).get h.nx = .cells 2 [V.i .i64 (o : Int), .i .i64 (u : Int)] := get_new_same
  have hcA := gA.hc hc
  obtain ⟨row, hB, ap, sr, orow, gB⟩ := (hv.grow hc gA).appN hcA (by omega)
  have b3 := (gB.old h.nx (by omega)).trans b3
  rw [ex] at b3
  have GB := gA.trans (gB.low gA.nx)
  simp (disch := omega) only [f44_r0, f44_r1, f44_r2, Nat.reduceEqDiff, ↓reduceIte, ap, bz]
  have gA0 := gA
  generalize h.new (.cells 2 [V.i .i64 (o : Int), .i .i64 (u : Int)]) = hA0 at *
  generalize hx : Rat.divInt (o : Int) (u : Int) = x at *
  rw [C_rw (x := x) hC, hl] at sr
  clear ap
  have h3A : h.nx.nat < hA0.nx.nat := by omega
  refine W_loop (f44_I1 hA0 h.nx C x n) (fun r => n - r) ?_ 0 ⟨Nat.zero_le _, gB, b3, row, .sn, .sn, ⟨sr, .inl ⟨rfl, rfl⟩, orow, (fun _ _ _ _ e => by cases e), (fun _ _ _ _ e => by cases e), Sep.sn, Sep.sn, Sep.sn⟩, .inl ⟨rfl, rfl⟩, by simp (disch := omega) only [getK_set, Nat.reduceEqDiff, ↓reduceIte, and_self]⟩
  clear sr b3 GB gB orow
  rintro r fr h1 ⟨hr, G1, b3, row, lf, rg, F, sg, g3, g6, g7, g8⟩
  have hc1 := G1.hc hcA
  have sr := F.sr
  have er := sr.srp.len
  rw [rwL_len] at er
  unfold f44_l1
  by_cases hlt : r < n
  · obtain ⟨m, hm⟩ : ∃ m, n - r = m + 1 := ⟨n - r - 1, by omega⟩
    rw [hm] at sr er
    have d1 : decide (((m + 1 : Nat) : Int) > 0) = true := decide_eq_true (by omega)
    have em : fw .i64 (((m + 1 : Nat) : Int) - 1) = (m : Int) := by rw [fw64 (by omega) (by omega)]; omega
    have G1n := G1.nx
    -- the first element, onto the left
    obtain ⟨ia, iq, p1, p2⟩ := sr.srp.at2g hc1 (i := 0) (by rw [rwL_len]; omega)
    have p2 : ∀ h', Grow h1.nx.nat h1 h' → loadV h' (.p ia iq) (many? 2) = .ok (.agg (frL (rwD C x r 0))) h' := by
      intro h' g; rw [p2 h' g]; simp [rwL, frP, frL]
    have p1 : ∀ kk (X : H), iadsV 2 row (.i kk 0) X = .ok (.p ia iq) X := p1
    have ld1 := p2 h1 (Grow.refl _ _)
    obtain ⟨lf2, h2, y1, sl2, ol2, g2, k2⟩ := Sk.push qE_len (by omega) (x := frP (rwD C x r 0)) F.sl F.o2 G1n hc1 (by rw [rwL_len]; omega)
    have y1' : appV 2 (h1.new (.cells (1 * 2) (frL (rwD C x r 0)))) lf (.sl h1.nx 0 1 2) = .ok lf2 h2 := y1
    rw [← rwL_s (R := fun j => rwD C x j 0)] at sl2
    have kr := fun id off m sz e => k2 id (sr.lt hc1 id off m sz e) (F.p1 id off m sz e)
    have kg := fun id off m sz e => k2 id (sg.lt hc1 id off m sz e) (F.p3.symm id off m sz e)
    have sr2 := sr.same fun id off m sz e => (kr id off m sz e).1
    have sg2 := sg.same fun id off m sz e => (kg id off m sz e).1
    have G2 := G1.trans g2
    have hc2 := G2.hc hcA
    have b32 := (g2.old h.nx h3A).trans b3
    have q1 : Sep row lf2 := fun id off m sz e => (kr id off m sz e).2
    have q3 : Sep rg lf2 := fun id off m sz e => (kg id off m sz e).2
    -- the last element, in front of the right
    obtain ⟨ja, jq, r1, r2⟩ := sr2.srp.at2g hc2 (i := m) (by rw [rwL_len]; omega)
    have r2 : ∀ h', Grow h2.nx.nat h2 h' → loadV h' (.p ja jq) (many? 2) = .ok (.agg (frL (rwD C x r m))) h' := by
      intro h' g; rw [r2 h' g]; simp [rwL, frP, frL]
    have ld2 := r2 h2 (Grow.refl _ _)
    have gN := Grow.new (Nat.le_refl h2.nx.nat) (.cells (1 * 2) (frL (rwD C x r m)))
    have nN := nx_new h2 (.cells (1 * 2) (frL (rwD C x r m)))
    have sN : Sk 2 qE (h2.new (.cells (1 * 2) (frL (rwD C x r m)))) (.sl h2.nx 0 1 2) [frP (rwD C x r m)] := .inr ⟨h2.nx, 0, 2, frL (rwD C x r m), rfl, get_new_same, rfl, by simp, rfl⟩
    obtain ⟨rg3, h3, z1, sg3, og3, g3'⟩ := sN.appP (b := h2.nx.nat) (fun id off m sz e => by cases e; exact Nat.le_refl _) gN.nx (sg2.srp.grow hc2 gN) (gN.hc hc2) (by simp [rgL]; omega)
    rw [List.singleton_append, show m = n - r - 1 by omega, ← rgL_s hlt] at sg3
    have g23 := gN.trans g3'
    have sr3 := sr2.grow hc2 g23
    have sl3 := sl2.grow hc2 g23
    have G3 := G2.trans (g23.low G2.nx)
    have b33 := (g23.old h.nx (Nat.lt_of_lt_of_le h3A G2.nx)).trans b32
    have G2n := G2.nx
    have F3 : F44 h3 C x (r + 1) r (m + 1) hA0.nx.nat row lf2 rg3 := ⟨sr3, sl3, F.o1, ol2, fun id off m sz e => Nat.le_trans G2n (og3 id off m sz e), q1, Sep.own (sr2.lt hc2) og3, Sep.own (sl2.lt hc2) og3⟩
    simp (disch := omega) only [f44_r3, f44_r4, f44_r5, f44_r6, f44_r7, Nat.reduceEqDiff, ↓reduceIte, g6, g7, g8, er, d1, em, p1, ld1, y1', r1, ld2, z1, fill_q, fr_cells, set_q, bz]
    refine W_loop (f44_I0 hA0 h.nx C x row lf2 rg3 n r m) (fun i => m + 1 - i) ?_ 1 ⟨Nat.le_refl _, by omega, G3, b33, F3, sg3, .sn, .inl ⟨rfl, rfl⟩, (fun _ _ _ _ e => by cases e), Sep.sn, Sep.sn, Sep.sn, by simp (disch := omega) only [getK_set, Nat.reduceEqDiff, ↓reduceIte, g3, g6, and_self, Int.natCast_one]⟩
    clear F3 sg3 b33 G3 sl3 sr3 g23 z1 ld2 r1 r2 ld1 p1 p2 y1 y1' k2 kr kg sg2 sr2 sl2 g2 gN g3' sN nN hc2 b32 G2 G2n q1 q3 og3 ol2 g3 g6 g7 g8 sg sr F b3 G1 hc1 fr d1 G1n
    rintro i fr h4 ⟨hi1, hi, G, b3, F, sg, nx, sn, on, t1, t2, t3, g3, g6, g7, g8, g9, g10⟩
    have hc4 := G.hc hcA
    have Gn := G.nx
    have sr := F.sr
    unfold f44_l0
    by_cases hli : i < m + 1
    · obtain ⟨j, rfl⟩ : ∃ j, i = j + 1 := ⟨i - 1, by omega⟩
      rw [Nat.add_sub_cancel] at sn
      have d1 : decide (((j + 1 : Nat) : Int) < ((m + 1 : Nat) : Int)) = true := decide_eq_true (by omega)
      have ei : fw .i64 (((j + 1 : Nat) : Int) - 1) = (j : Int) := by rw [fw64 (by omega) (by omega)]; omega
      have ee : fw .i64 (((j + 1 : Nat) : Int) + 1) = ((j + 1 + 1 : Nat) : Int) := by rw [fw64 (by omega) (by omega)]; rfl
      have er := sr.srp.len
      rw [rwL_len] at er
      obtain ⟨ia, iq, p1, p2⟩ := sr.srp.at2g hc4 (i := j) (by rw [rwL_len]; omega)
      have p2 : ∀ h', Grow h4.nx.nat h4 h' → loadV h' (.p ia iq) (many? 2) = .ok (.agg (frL (rwD C x r j))) h' := by
        intro h' g; rw [p2 h' g]; simp [rwL, frP, frL]
      obtain ⟨ja, jq, r1, r2⟩ := sr.srp.at2g hc4 (i := j + 1) (by rw [rwL_len]; omega)
      have r2 : ∀ h', Grow h4.nx.nat h4 h' → loadV h' (.p ja jq) (many? 2) = .ok (.agg (frL (rwD C x r (j + 1)))) h' := by
        intro h' g; rw [r2 h' g]; simp [rwL, frP, frL]
      have a1 := p2 h4 (Grow.refl _ _)
      have a2 := r2 h4 (Grow.refl _ _)
      have b3' : h4.get h.nx = .cells 2 [.i .i64 (o : Int), .i .i64 (u : Int)] := by rw [ex]; exact b3
      have l3 := hc4.cells b3
      have u1 : loadV h4 (.p h.nx (0 + 1 * 1)) one? = .ok (.i .i64 (u : Int)) h4 := load_p b3' rfl
      have u0 : loadV h4 (.p h.nx (0 + 0 * 1)) one? = .ok (.i .i64 (o : Int)) h4 := load_p b3' rfl
      have m3 := fr_load b3
      have bn := sn.srp.beq
      have br := sr.srp.beq
      simp (disch := omega) only [f44_r8, f44_r9, Nat.reduceEqDiff, ↓reduceIte, g3, g6, g9, g10, er, d1, ei, p1, a1, r1, a2, u1, u0, euo, m3, bz]
      rw [ey]
      refine (callP_0 (ef := f75) k.c75 rfl (mul_ret k (MA r j (by omega)))).mono ?_
      rintro _ h5 ⟨rfl, g5'⟩
      have b35 := (g5'.old h.nx l3).trans b3
      have a2 := r2 h5 g5'
      have m3 := fr_load b35
      have hc5 := g5'.hc hc4
      have g5n := g5'.nx
      simp (disch := omega) only [stay_iads, Nat.reduceEqDiff, ↓reduceIte, g3, g6, g9, g10, bn, br, r1, a2, m3, fr_beq, bz]
      refine (callP_0 (ef := f75) k.c75 rfl (mul_ret k (MB r (j + 1) (by omega)))).mono ?_
      rintro _ h6 ⟨rfl, g6'⟩
      have g46 := g5'.trans (g6'.low g5n)
      simp (disch := omega) only [Nat.reduceEqDiff, ↓reduceIte, g9, bn, bz]
      refine (callP_0 (ef := f74) k.c74 rfl (add_ret k (AB r j (j + 1) (by omega)))).mono ?_
      rintro _ h7 ⟨rfl, g7'⟩
      have g47 := g46.trans (g7'.low g46.nx)
      have hc7 := g47.hc hc4
      have b37 := (g47.old h.nx l3).trans b3
      have G7 := G.trans (g47.low Gn)
      have sn7 := sn.grow hc4 g47
      have F7r := F.sr.grow hc4 g47
      have F7l := F.sl.grow hc4 g47
      have sg7 := sg.grow hc4 g47
      obtain ⟨nx2, h8, y1, s8, o8, g8', k8⟩ := Sk.push qE_len (by omega) (x := frP (rwD C x r j * (1 - x) + rwD C x r (j + 1) * x)) sn7 on G7.nx hc7 (by rw [rwL_len]; omega)
      have y1' : appV 2 (h7.new (.cells (1 * 2) (frL (rwD C x r j * (1 - x) + rwD C x r (j + 1) * x)))) nx (.sl h7.nx 0 1 2) = .ok nx2 h8 := y1
      rw [show rwD C x r j * (1 - x) + rwD C x r (j + 1) * x = rwD C x (r + 1) j from rfl, ← rwL_s] at s8
      simp (disch := omega) only [xg_bslice, Option.some.injEq, exists_eq_left', Nat.reduceEqDiff, ↓reduceIte, g9, bn, fill_q, fr_cells, set_q, bz]
      refine ⟨hc7.dead, fresh_one (n := 1) (sz := 2) (by simp (disch := omega) only [getK_set, ↓reduceIte]), ?_⟩
      simp (disch := omega) only [f44_r10, Nat.reduceEqDiff, ↓reduceIte, g10, y1', ee, bz]
      have kr := fun id off m sz e => k8 id (F7r.lt hc7 id off m sz e) (t1 id off m sz e)
      have kl := fun id off m sz e => k8 id (F7l.lt hc7 id off m sz e) (t2 id off m sz e)
      have kg := fun id off m sz e => k8 id (sg7.lt hc7 id off m sz e) (t3 id off m sz e)
      exact ⟨j + 1 + 1, by omega, by omega, by omega, G7.trans g8', (g8'.old h.nx h3A).trans b37, ⟨F7r.same fun id off m sz e => (kr id off m sz e).1, F7l.same fun id off m sz e => (kl id off m sz e).1, F.o1, F.o2, F.o3, F.p1, F.p2, F.p3⟩, sg7.same fun id off m sz e => (kg id off m sz e).1, nx2, s8, o8, (fun id off m sz e => (kr id off m sz e).2), (fun id off m sz e => (kl id off m sz e).2), (fun id off m sz e => (kg id off m sz e).2), by simp (disch := omega) only [getK_set, Nat.reduceEqDiff, ↓reduceIte, g3, g6, g7, g8, and_self]⟩
    · have d1 : decide ((i : Int) < ((m + 1 : Nat) : Int)) = false := decide_eq_false (by omega)
      obtain rfl : i = m + 1 := by omega
      have er := sr.srp.len
      rw [rwL_len] at er
      rw [show m + 1 - 1 = n - (r + 1) by omega] at sn
      simp (disch := omega) only [f44_r8, f44_r11, Nat.reduceEqDiff, ↓reduceIte, Bool.false_eq_true, g6, g9, g10, er, d1, bz]
      exact ⟨r + 1, by omega, by omega, G, b3, nx, lf2, rg3, ⟨sn, F.sl, on, F.o2, F.o3, t2.symm, t3.symm, F.p3⟩, sg, by simp (disch := omega) only [getK_set, Nat.reduceEqDiff, ↓reduceIte, g3, g7, g8, and_self]⟩
  · have d1 : decide (((n - r : Nat) : Int) > 0) = false := decide_eq_false (by omega)
    obtain rfl : r = n := by omega
    simp (disch := omega) only [f44_r3, f44_r12, f44_rs, Option.some.injEq, exists_eq_left', Nat.reduceEqDiff, ↓reduceIte, Bool.false_eq_true, g6, g7, g8, er, d1, bz]
    exact ⟨⟨lf, rg, rfl, F.sl, sg, fun id off m sz e => by have := F.o2 _ _ _ _ e; omega, fun id off m sz e => by have := F.o3 _ _ _ _ e; omega⟩, gA0.trans (G1.low gA0.nx)⟩
end
end Go.Ev
namespace Go.Ev
open Go Go.RowKit
noncomputable def f6_r0 : List EOper := [oG 3 (.box 2 (tG 1)), oG 4 (.as (.c (.b false)))]
noncomputable def f6_r1 : List EOper := [oG 5 (.as (.c .sn))]
noncomputable def f6_r2 : List EOper := [oG 19 (.mv (tG 5)), oG 20 (.mv (tG 0)), oG 21 (.mv (tG 0)), oG 22 (.len (tG 21)), oG 23 (.min (tG 22) (cG 9)), oG 24 (.slice 2 (tG 20) none (some (tG 23)) none), oG 25 (.app 2 (tG 19) (tG 24)), oG 5 (.as (tG 25))]
noncomputable def f6_r3 : List EOper := [oG 6 (.as (cG 0))]
noncomputable def f6_r4 : List EOper := [oG 26 (.mv (tG 6)), oG 27 (.bin .lss (tG 26) (cG 2))]
noncomputable def f6_r5 : List EOper := [oG 31 (.mv (tG 5)), oG 32 (.call (fG 38) [(tG 31)]), oG 30 (.mv (tG 32)), oG 33 (.ext (tG 30) 0), oG 34 (.ext (tG 30) 1), oG 7 (.as (tG 33)), oG 8 (.as (tG 34))]
noncomputable def f6_r6 : List EOper := [oG 36 (.mv (tG 5)), oG 37 (.call (fG 39) [(tG 36)]), oG 35 (.mv (tG 37)), oG 38 (.ext (tG 35) 0), oG 39 (.ext (tG 35) 1), oG 9 (.alloc 2 [.sn, .sn]), ⟨none, none, .st 2 (tG 9) (tG 38)⟩, oG 10 (.as (tG 39))]
noncomputable def f6_r7 : List EOper := [oG 41 (.mv (tG 5)), oG 42 (.ldn 2 (tG 3)), oG 43 (.call (fG 40) [(tG 41), (tG 42)]), oG 40 (.mv (tG 43)), oG 44 (.ext (tG 40) 0), oG 45 (.ext (tG 40) 1), oG 11 (.alloc 2 [(.i .i64 (.ofNat 0)), (.i .i64 (.ofNat 0))]), ⟨none, none, .st 2 (tG 11) (tG 44)⟩, oG 12 (.as (tG 45))]
noncomputable def f6_r8 : List EOper := [oG 47 (.mv (tG 5)), oG 48 (.call (fG 41) [(tG 47)]), oG 46 (.mv (tG 48)), oG 49 (.ext (tG 46) 0), oG 50 (.ext (tG 46) 1), oG 13 (.as (tG 49)), oG 14 (.as (tG 50))]
noncomputable def f6_r9 : List EOper := [oG 51 (.mv (tG 5)), oG 52 (.call (fG 42) [(tG 51), (cG 6)]), oG 53 (.not (tG 52)), oG 54 (.mv (tG 53)), gG 55 54 true (.mv (tG 8)), gG 56 54 true (.bin .neq (tG 55) (cG 1)), gG 57 54 true (.mv (tG 56)), gG 58 57 false (.mv (tG 7)), gG 59 57 false (.len (tG 58)), gG 60 57 false (.bin .neq (tG 59) (cG 0)), gG 61 54 true (.pick (tG 57) (.c (.b true)) (tG 60)), oG 62 (.pick (tG 54) (tG 61) (.c (.b false))), oG 63 (.mv (tG 62)), gG 64 63 false (.mv (tG 5)), gG 65 63 false (.call (fG 42) [(tG 64), (cG 6)]), gG 66 63 false (.mv (tG 65)), gG 67 66 true (.mv (tG 8)), gG 68 66 true (.bin .neq (tG 67) (cG 0)), gG 69 66 true (.mv (tG 68)), gG 70 69 false (.mv (tG 7)), gG 71 69 false (.mv (tG 5)), gG 72 69 false (.call (fG 43) [(tG 71)]), gG 73 69 false (.call (fG 35) [(tG 70), (tG 72)]), gG 74 69 false (.not (tG 73)), gG 75 66 true (.pick (tG 69) (.c (.b true)) (tG 74)), gG 76 63 false (.pick (tG 66) (tG 75) (.c (.b false))), oG 77 (.pick (tG 63) (.c (.b true)) (tG 76))]
noncomputable def f6_r10 : List EOper := [oG 4 (.as (.c (.b false)))]
noncomputable def f6_r11 : List EOper := [oG 78 (.mv (tG 5)), oG 79 (.call (fG 42) [(tG 78), (cG 7)]), oG 80 (.not (tG 79))]
noncomputable def f6_r12 : List EOper := [oG 81 (.mv (tG 10)), oG 82 (.bin .neq (tG 81) (cG 1)), oG 83 (.mv (tG 82)), gG 84 83 false (.mv (tG 12)), gG 85 83 false (.bin .neq (tG 84) (cG 1)), oG 86 (.pick (tG 83) (.c (.b true)) (tG 85)), oG 87 (.mv (tG 86)), gG 88 87 false (.mv (tG 14)), gG 89 87 false (.bin .neq (tG 88) (cG 1)), oG 90 (.pick (tG 87) (.c (.b true)) (tG 89)), oG 91 (.mv (tG 90)), gG 92 91 false (.iadr 2 1 (tG 9) (cG 0)), gG 93 91 false (.ld (tG 92)), gG 94 91 false (.len (tG 93)), gG 95 91 false (.iadr 2 1 (tG 9) (cG 1)), gG 96 91 false (.ld (tG 95)), gG 97 91 false (.len (tG 96)), gG 98 91 false (.bin .add (tG 94) (tG 97)), gG 99 91 false (.mv (tG 13)), gG 100 91 false (.bin .add (tG 98) (tG 99)), gG 101 91 false (.bin .neq (tG 100) (cG 0)), oG 102 (.pick (tG 91) (.c (.b true)) (tG 101)), oG 103 (.mv (tG 102)), gG 104 103 false (.ldn 2 (tG 11)), gG 105 103 false (.build [(.i .i64 (.ofNat 0)), (.i .i64 (.ofNat 0))] []), gG 106 103 false (.eqk (.many [(some .i64), (some .i64)]) true (tG 104) (tG 105)), oG 107 (.pick (tG 103) (.c (.b true)) (tG 106))]
noncomputable def f6_r13 : List EOper := [oG 4 (.as (.c (.b false)))]
noncomputable def f6_r14 : List EOper := [oG 109 (.mv (tG 5)), oG 110 (.build [(.i .i64 (.ofNat 0)), (.i .i64 (.ofNat 0))] [(0, 1, (cG 1)), (1, 1, (cG 2))]), oG 111 (.call (fG 44) [(tG 109), (tG 110)]), oG 108 (.mv (tG 111)), oG 112 (.ext (tG 108) 0), oG 113 (.ext (tG 108) 1), oG 15 (.as (tG 112)), oG 16 (.as (tG 113))]
noncomputable def f6_r15 : List EOper := [oG 114 (.mv (tG 10)), oG 115 (.bin .neq (tG 114) (cG 0)), oG 116 (.mv (tG 115)), gG 117 116 false (.iadr 2 1 (tG 9) (cG 0)), gG 118 116 false (.ld (tG 117)), gG 119 116 false (.mv (tG 15)), gG 120 116 false (.call (fG 35) [(tG 118), (tG 119)]), gG 121 116 false (.not (tG 120)), oG 122 (.pick (tG 116) (.c (.b true)) (tG 121)), oG 123 (.mv (tG 122)), gG 124 123 false (.iadr 2 1 (tG 9) (cG 1)), gG 125 123 false (.ld (tG 124)), gG 126 123 false (.mv (tG 16)), gG 127 123 false (.call (fG 35) [(tG 125), (tG 126)]), gG 128 123 false (.not (tG 127)), oG 129 (.pick (tG 123) (.c (.b true)) (tG 128)), oG 130 (.mv (tG 129)), gG 131 130 false (.mv (tG 14)), gG 132 130 false (.bin .neq (tG 131) (cG 0)), oG 133 (.pick (tG 130) (.c (.b true)) (tG 132)), oG 134 (.mv (tG 133)), gG 135 134 false (.mv (tG 13)), gG 136 134 false (.mv (tG 5)), gG 137 134 false (.call (fG 45) [(tG 136)]), gG 138 134 false (.bin .neq (tG 135) (tG 137)), oG 139 (.pick (tG 134) (.c (.b true)) (tG 138))]
noncomputable def f6_r16 : List EOper := [oG 4 (.as (.c (.b false)))]
noncomputable def f6_r17 : List EOper := [oG 140 (.ldn 2 (tG 3)), oG 141 (.call (fG 27) [(tG 140), (cG 16)]), oG 142 (.not (tG 141))]
noncomputable def f6_r18 : List EOper := [oG 143 (.mv (tG 12)), oG 144 (.bin .neq (tG 143) (cG 1)), oG 145 (.mv (tG 144)), gG 146 145 false (.ldn 2 (tG 11)), gG 147 145 false (.build [(.i .i64 (.ofNat 0)), (.i .i64 (.ofNat 0))] []), gG 148 145 false (.eqk (.many [(some .i64), (some .i64)]) true (tG 146) (tG 147)), oG 149 (.pick (tG 145) (.c (.b true)) (tG 148))]
noncomputable def f6_r19 : List EOper := [oG 4 (.as (.c (.b false)))]
noncomputable def f6_r20 : List EOper := [oG 151 (.mv (tG 5)), oG 152 (.ldn 2 (tG 3)), oG 153 (.call (fG 44) [(tG 151), (tG 152)]), oG 150 (.mv (tG 153)), oG 154 (.ext (tG 150) 0), oG 155 (.ext (tG 150) 1), oG 17 (.as (tG 154)), oG 18 (.as (tG 155))]
noncomputable def f6_r21 : List Stage := [⟨[oG 156 (.mv (tG 12)), oG 157 (.bin .neq (tG 156) (cG 0)), oG 158 (.mv (tG 157)), gG 159 158 false (.ldn 2 (tG 11)), gG 160 158 false (.mv (tG 17)), gG 161 158 false (.mv (tG 17)), gG 162 158 false (.len (tG 161)), gG 163 158 false (.bin .sub (tG 162) (cG 1)), gG 164 158 false (.iads 2 (tG 160) (tG 163)), gG 165 158 false (.ldn 2 (tG 164)), gG 166 158 false (.eqk (.many [(some .i64), (some .i64)]) true (tG 159) (tG 165)), oG 167 (.pick (tG 158) (.c (.b true)) (tG 166))], [], none, []⟩]
noncomputable def f6_r22 : List EOper := [oG 4 (.as (.c (.b false)))]
noncomputable def f6_r23 : List EOper := [oG 168 (.mv (tG 0)), oG 169 (.mv (tG 0)), oG 170 (.len (tG 169)), oG 171 (.bin .rem (tG 170) (cG 2)), oG 172 (.bin .sub (cG 7) (tG 171)), oG 173 (.call (fG 46) [(tG 168), (tG 172)]), oG 5 (.as (tG 173))]
noncomputable def f6_r24 : List EOper := [oG 174 (.ldn 2 (tG 3)), oG 175 (.call (fG 29) [(tG 174), (cG 16)]), ⟨none, none, .st 2 (tG 3) (tG 175)⟩]
noncomputable def f6_r25 : List EOper := [oG 28 (.mv (tG 6)), oG 29 (.bin .add (tG 28) (cG 1)), oG 6 (.as (tG 29))]
noncomputable def f6_l0 : EC := (.seq (.seq (.reg f6_r4) (.cond (tG 27) .skip (.exit 0))) (.seq (.block 1 (.seq (.reg f6_r5) (.seq (.reg f6_r6) (.seq (.reg f6_r7) (.seq (.reg f6_r8) (.seq (.seq (.reg f6_r9) (.cond (tG 77) (.seq (.reg f6_r10) .ret) .skip)) (.seq (.seq (.reg f6_r11) (.cond (tG 80) (.seq (.reg f6_r12) (.cond (tG 107) (.seq (.reg f6_r13) .ret) .skip)) (.seq (.reg f6_r14) (.seq (.seq (.reg f6_r15) (.cond (tG 139) (.seq (.reg f6_r16) .ret) .skip)) (.seq (.reg f6_r17) (.cond (tG 142) (.seq (.reg f6_r18) (.cond (tG 149) (.seq (.reg f6_r19) .ret) .skip)) (.seq (.reg f6_r20) (.seq (.draw f6_r21) (.cond (tG 167) (.seq (.reg f6_r22) .ret) .skip))))))))) (.seq (.reg f6_r23) (.reg f6_r24))))))))) (.reg f6_r25)))
noncomputable def f6_r26 : List EOper := [oG 176 (.call (fG 17) []), oG 4 (.as (tG 176))]
noncomputable def f6_c : EC := (.seq (.reg f6_r0) (.seq (.reg f6_r1) (.seq (.reg f6_r2) (.seq (.seq (.reg f6_r3) (.block 0 (.loop f6_l0))) (.seq (.reg f6_r26) .ret)))))
noncomputable def f6 : EF := ⟨177, [.tmp (.ofNat 4)], f6_c, none⟩
theorem f6_rs : f6.rs = [.tmp (.ofNat 4)] := of_eq_true (eq_self _)
section
variable {fs : T EF} {h : H} {v w : V} {C P : List (Int × Int)} {a b : Int}
theorem rwD_iv {o u : Nat} (hu : 0 < u) (r i : Nat) : rwD C (Rat.divInt (o : Int) (u : Int)) r i = Rat.divInt (ri (fun j => (gvL C).getD j 0) (o : Int) (u : Int) r i) ((240 * u ^ r : Nat) : Int) := rq_ri (l := fun j => (gvL C).getD j 0) (D := 240) (by decide) hu r i
theorem up_iv {z : Int} {D u r k n : Nat} (hu : 0 < u) (hk : r + k = n) : Rat.divInt (z * ((u ^ k : Nat) : Int)) ((D * u ^ n : Nat) : Int) = Rat.divInt z ((D * u ^ r : Nat) : Int) := by
  have h0 : ((u ^ k : Nat) : Int) ≠ 0 := by have := Nat.pow_pos (n := k) hu; omega
  rw [← hk, Nat.pow_add, ← Nat.mul_assoc, Int.natCast_mul, Rat.divInt_mul_right h0]
theorem lf_eq {o u : Nat} (hu : 0 < u) : lfP C o u = rwL (fun j => rwD C (Rat.divInt (o : Int) (u : Int)) j 0) C.length := by
  unfold lfP
  refine rwL_c fun j hj => ?_
  have e : (cLp (fun j => (gvL C).getD j 0) o u C.length C.length).getD j 0 = cLf (fun j => (gvL C).getD j 0) o u C.length j := by
    rw [List.getD_eq_getElem?_getD, List.getElem?_eq_getElem (by rw [cLp_len]; exact hj)]
    simp only [cLp, List.getElem_map, List.getElem_range, if_pos hj, Option.getD_some]
  rw [paR, e, cLf, up_iv hu (show j + (C.length - 1 - j) = C.length - 1 by omega), rwD_iv hu]
theorem rt_eq {o u : Nat} (hu : 0 < u) : rtP C o u = rgL C (Rat.divInt (o : Int) (u : Int)) C.length C.length := by
  unfold rtP rgL rwL
  apply List.map_congr_left
  intro j hj
  have hj := List.mem_range.1 hj
  have e : (cRp (fun j => (gvL C).getD j 0) o u C.length C.length).getD j 0 = cRf (fun j => (gvL C).getD j 0) o u C.length j := by
    rw [List.getD_eq_getElem?_getD, List.getElem?_eq_getElem (by rw [cRp_len]; exact hj)]
    simp only [cRp, List.getElem_map, List.getElem_range, Option.getD_some]
    rw [if_pos (by omega)]
  rw [paR, e, cRf, up_iv hu (show (C.length - 1 - j) + j = C.length - 1 by omega), rwD_iv hu, Nat.sub_self, Nat.zero_add]
theorem at_eq {o u : Nat} (hu : 0 < u) : atQ C o u = rwD C (Rat.divInt (o : Int) (u : Int)) (C.length - 1) 0 := by
  unfold atQ cRf
  rw [rwD_iv hu, Nat.sub_zero, Nat.pow_zero, Int.natCast_one, Int.mul_one]
theorem gm6 : gmB C 6 = true ↔ gvB C = true ∧ C.length ≠ 7 := by
  unfold gmB
  rw [gvB_iff, Bool.and_eq_true, Bool.and_eq_true, List.all_eq_true, decide_eq_true_eq, decide_eq_true_eq]
  constructor
  · rintro ⟨q, r, s⟩; exact ⟨⟨r, by omega, q⟩, by omega⟩
  · rintro ⟨⟨q, r, s⟩, t⟩; exact ⟨s, q, by omega⟩
def f6_I (h0 : H) (v : V) (i3 : K) (n : Nat) (fr : Fr) (h1 : H) : Prop := n ≤ 2 ∧ Grow h0.nx.nat h0 h1 ∧ (∃ x y : Int, h1.get i3 = .cells 2 [.i .i64 x, .i .i64 y]) ∧ ∃ c C, Srp h1 c C ∧ C.length ≤ 9 ∧ (∀ id off m sz, c = .sl id off m sz → id ≠ i3) ∧ fr.get (K.ofNat 0) = some (v) ∧ fr.get (K.ofNat 3) = some (.p i3 0) ∧ fr.get (K.ofNat 5) = some (c) ∧ fr.get (K.ofNat 6) = some (.i .i64 (n : Int))
structure CallsLi (fs : T EF) : Prop extends CallsOw fs, CallsAt fs where
  c41 : fs.get (K.ofNat 41) = some f41
  c40 : fs.get (K.ofNat 40) = some f40
  c42 : fs.get (K.ofNat 42) = some f42
  c44 : fs.get (K.ofNat 44) = some f44
  c45 : fs.get (K.ofNat 45) = some f45
  c82 : fs.get (K.ofNat 82) = some f82
  c83 : fs.get (K.ofNat 83) = some f83
theorem f6_g1 {Q : Ex → Fr → H → Prop} {fr : Fr} {c z : V} {i3 i9 i11 : K} {n : Nat} {e f g mm hh : Int} (k : CallsLi fs) (hc : HC h) (sc : Srp h c C) (lC : C.length ≤ 9) (H1 : (gmB C 6 = true ∧ e = 0 ∧ Srp h z (rwL (sB C C.length) (C.length + 1))) ∨ (gmB C 6 = false ∧ e = 1 ∧ z = .sn))
    (P1 : fr.get (K.ofNat 0) = some (v) ∧ fr.get (K.ofNat 3) = some (.p i3 0) ∧ fr.get (K.ofNat 5) = some (c) ∧ fr.get (K.ofNat 6) = some (.i .i64 (n : Int)) ∧ fr.get (K.ofNat 7) = some (z) ∧ fr.get (K.ofNat 8) = some (.i .i64 e) ∧ fr.get (K.ofNat 9) = some (.p i9 0) ∧ fr.get (K.ofNat 10) = some (.i .i64 f) ∧ fr.get (K.ofNat 11) = some (.p i11 0) ∧ fr.get (K.ofNat 12) = some (.i .i64 g) ∧ fr.get (K.ofNat 13) = some (.i .i64 mm) ∧ fr.get (K.ofNat 14) = some (.i .i64 hh))
    (hQ : ∀ fr h', Grow h.nx.nat h h' → fr.get (K.ofNat 0) = some (v) ∧ fr.get (K.ofNat 3) = some (.p i3 0) ∧ fr.get (K.ofNat 5) = some (c) ∧ fr.get (K.ofNat 6) = some (.i .i64 (n : Int)) ∧ fr.get (K.ofNat 9) = some (.p i9 0) ∧ fr.get (K.ofNat 10) = some (.i .i64 f) ∧ fr.get (K.ofNat 11) = some (.p i11 0) ∧ fr.get (K.ofNat 12) = some (.i .i64 g) ∧ fr.get (K.ofNat 13) = some (.i .i64 mm) ∧ fr.get (K.ofNat 14) = some (.i .i64 hh) → Q .normal fr h') : W fs none (.seq (.reg f6_r9) (.cond (.t (K.ofNat 77)) (.seq (.reg f6_r10) .ret) .skip)) Q fr h := by
  obtain ⟨g0, g3, g5, g6, g7, g8, g9, g10, g11, g12, g13, g14⟩ := P1
  have q42 : ∀ P, CallP fs (.fn (K.ofNat 42) []) [c, .i .i64 6] h P = P (.b (gmB C 6)) h := fun P => f42_eq (m := 6) k.c42 k.c73 (by omega) (by omega) sc (P := P)
  rcases H1 with ⟨hg, rfl, sz⟩ | ⟨hg, rfl, rfl⟩
  · obtain ⟨gv, l7⟩ := gm6.1 hg
    obtain ⟨c1, c7, cC⟩ := gvB_iff.1 gv
    have d1 : decide ((0 : Int) ≠ 0) = false := rfl
    rw [hg] at q42
    simp (disch := omega) only [f6_r9, okG_u, asG_u, of6, Nat.reduceEqDiff, ↓reduceIte, Bool.false_eq_true, Bool.not_true, Bool.not_false, g5, g7, g8, q42, d1, bz]
    refine (callP_0 (ef := f43) k.c43 rfl (f43_ret (n := C.length) k.toCallsF c1 c7 rfl cC sc hc)).mono ?_
    rintro w h' ⟨sw, _, g⟩
    have q35 := fun P => f35_eq k.c35 (sB_in cC (n := C.length) (by omega) c7) (sz.grow hc g) sw.srp (P := P)
    simp (disch := omega) only [Nat.reduceEqDiff, ↓reduceIte, Bool.false_eq_true, Bool.not_true, Bool.not_false, q35, bz]
    exact hQ _ _ g (by simp (disch := omega) only [getK_set, Nat.reduceEqDiff, ↓reduceIte, g0, g3, g5, g6, g9, g10, g11, g12, g13, g14, and_self])
  · have d1 : decide ((1 : Int) ≠ 1) = false := rfl
    have d2 : decide ((0 : Int) ≠ 0) = false := rfl
    have ll : ∀ X : H, lenV .sn X = .ok (.i .i64 0) X := fun _ => rfl
    rw [hg] at q42
    simp (disch := omega) only [f6_r9, okG_u, asG_u, of6, Nat.reduceEqDiff, ↓reduceIte, Bool.false_eq_true, Bool.not_false, g5, g7, g8, q42, d1, d2, ll, bz]
    exact hQ _ _ (Grow.refl _ _) (by simp (disch := omega) only [getK_set, Nat.reduceEqDiff, ↓reduceIte, g0, g3, g5, g6, g9, g10, g11, g12, g13, g14, and_self])
theorem f6_end {Q : Ex → Fr → H → Prop} {fr : Fr} {h0 : H} {i3 : K} {n : Nat} {x y : Int} (k : CallsLi fs) (hc : HC h0) (sP : Srp h0 v P) (hb3 : h0.nx.nat ≤ i3.nat) (G : Grow h0.nx.nat h0 h) (b3 : h.get i3 = .cells 2 [.i .i64 x, .i .i64 y])
    (P1 : fr.get (K.ofNat 0) = some (v) ∧ fr.get (K.ofNat 3) = some (.p i3 0) ∧ fr.get (K.ofNat 6) = some (.i .i64 (n : Int)))
    (hQ : ∀ fr h', n ≤ 2 → f6_I h0 v i3 n fr h' → Q .normal fr h') (hn : n ≤ 2) : W fs none (.seq (.reg f6_r23) (.reg f6_r24)) Q fr h := by
  obtain ⟨g0, g3, g6⟩ := P1
  have hc1 := G.hc hc
  have l3 := hc1.cells b3
  have sv := sP.grow hc G
  have el := sv.len
  have er : fw .i64 (7 - ((P.length : Int).tmod 2)) = ((7 - P.length % 2 : Nat) : Int) := by
    rw [Int.tmod_eq_emod_of_nonneg (by omega), fw64 (by omega) (by omega)]; omega
  have d2 : decide ((2 : Int) = 0) = false := rfl
  simp (disch := omega) only [f6_r23, Nat.reduceEqDiff, ↓reduceIte, g0, el, er, bz]
  refine (callP_0 (ef := f46) k.c46 rfl (f46_ret (m := 7 - P.length % 2) k.toCallsF (by omega) (by omega) sv hc1)).mono ?_
  rintro c h2 ⟨C', sc, oc, gC, lC, g2⟩
  have b32 := (g2.old i3 l3).trans b3
  have m3 := load2 b32
  have G2 := G.trans (g2.low G.nx)
  have hc2 := G2.hc hc
  have g2n := g2.nx
  simp (disch := omega) only [f6_r24, Nat.reduceEqDiff, ↓reduceIte, of16, g3, m3, bz]
  refine (callP_0 (ef := f29) k.c29 rfl (f29_ret (m := 16) k.toCallsF (by omega) (by omega))).mono ?_
  rintro _ h3 ⟨⟨o, u, _, _, _, rfl⟩, g3'⟩
  have b33 := (g3'.old i3 (by omega)).trans b32
  have st := fr_store (q := Rat.divInt (o : Int) (u : Int)) b33 rfl
  have G3 := G2.trans (g3'.low G2.nx)
  have hc3 := G3.hc hc
  have l33 := hc3.cells b33
  have sc3 := sc.grow hc2 g3'
  have nc : ∀ id off m sz, c = .sl id off m sz → id ≠ i3 := fun id off m sz e e' => by
    have := oc _ _ _ _ e
    rw [e'] at this; omega
  simp (disch := omega) only [Nat.reduceEqDiff, ↓reduceIte, g3, st, bz]
  exact hQ _ _ hn ⟨hn, G3.trans (Grow.put hb3 l33 _), ⟨_, _, get_put_same⟩, c, C', (sc3.put (fun off m sz e => nc _ _ _ _ e rfl) _).srp, by omega, nc, by simp (disch := omega) only [getK_set, Nat.reduceEqDiff, ↓reduceIte, g0, g3, g6, and_self]⟩
theorem rwD_in {o u r i : Nat} (hC : ∀ y ∈ C, coB y.1 y.2 = true) (hu : 0 < u) (hu16 : u ≤ 16) (ho : o ≤ u) (hr : r ≤ 6) : Fr' (rwD C (Rat.divInt (o : Int) (u : Int)) r i) 64424509440000000 64424509440 := by
  have p := pw7 (r := r) hu16 (by omega)
  obtain ⟨f1, f2⟩ := (rwD_ov (C := C) (i := i) hC hu ho r).fr
  exact ⟨by omega, by omega⟩
theorem in_fr {q : Rat} (h : Fr' q 64424509440000000 64424509440) : inR .i64 (frP q).1 = true ∧ inR .i64 (frP q).2 = true := by
  obtain ⟨f1, f2⟩ := h
  exact ⟨in63 (by show _ ≤ q.num; omega) (by show q.num ≤ _; omega), in63 (by show _ ≤ (q.den : Int); omega) (by show (q.den : Int) ≤ _; omega)⟩
theorem lf_in {o u : Nat} (hC : ∀ y ∈ C, coB y.1 y.2 = true) (hu : 0 < u) (hu16 : u ≤ 16) (ho : o ≤ u) (l7 : C.length ≤ 7) : InP (rwL (fun j => rwD C (Rat.divInt (o : Int) (u : Int)) j 0) C.length) ∧ InP (rgL C (Rat.divInt (o : Int) (u : Int)) C.length C.length) := by
  constructor
  · refine ⟨by rw [rwL_len]; omega, fun y hy => ?_⟩
    obtain ⟨j, hj, rfl⟩ := List.mem_map.1 hy
    have := List.mem_range.1 hj
    exact in_fr (rwD_in hC hu hu16 ho (by omega))
  · refine ⟨by simp [rgL]; omega, fun y hy => ?_⟩
    obtain ⟨j, hj, rfl⟩ := List.mem_map.1 hy
    have := List.mem_range.1 hj
    exact in_fr (rwD_in hC hu hu16 ho (by omega))
theorem f6_ret (k : CallsLi fs) (hw : Srp h v P) (hc : HC h) : Ret fs f6 [v, .agg [.i .i64 a, .i .i64 b]] h fun r h' => r = .b true ∧ Grow h.nx.nat h h' := by
  apply ret_of rfl
  show W fs none f6_c _ _ _
  unfold f6_c
  have gA := Grow.new (Nat.le_refl h.nx.nat) (.cells 2 [.i .i64 a, .i .i64 b])
  have n1 := nx_new h (.cells 2 [.i .i64 a, .i .i64 b])
  have bA : (h.new (.cells 2 [.i .i64 a, .i .i64 b])).get h.nx = .cells 2 [.i .i64 a, .i .i64 b] := get_new_same
  have hcA := gA.hc hc
  have lA := (hw.grow hc gA).len
  have emn : min (P.length : Int) 9 = ((min P.length 9 : Nat) : Int) := by omega
  obtain ⟨v1, cut, sv1, _⟩ := (hw.grow hc gA).cut (u := min P.length 9) (kk := .i64) (by omega)
  obtain ⟨c0, hB, ap, sc0, oc0, gB⟩ := sv1.appN hcA (by rw [List.length_take]; omega)
  have GB := gA.trans (gB.low gA.nx)
  have bB := (gB.old h.nx (by omega)).trans bA
  simp (disch := omega) only [f6_r0, f6_r1, f6_r2, f6_r3, x_slice, sliceV_eq, Option.map_none, Option.map_some, x_min, min_ii, Nat.reduceEqDiff, ↓reduceIte, of9, lA, emn, cut, ap, bz]
  clear lA cut ap
  refine W_loop (f6_I h v h.nx) (fun n => 2 - n) ?_ 0 ⟨by omega, GB, ⟨_, _, bB⟩, c0, _, sc0.srp, by rw [List.length_take]; omega, (fun id off m sz e e' => by have := oc0 _ _ _ _ e; rw [e'] at this; omega), by simp (disch := omega) only [getK_set, Nat.reduceEqDiff, ↓reduceIte, and_self, Int.natCast_zero]⟩
  clear bB GB sc0 oc0 gB sv1 bA gA
  rintro n fr h1 ⟨hn, G1, ⟨x, y, b3⟩, c, C, sc, lC, nc, g0, g3, g5, g6⟩
  have hc1 := G1.hc hc
  have G1n := G1.nx
  unfold f6_l0
  by_cases hlt : n < 2
  · have d1 : decide ((n : Int) < 2) = true := decide_eq_true (by omega)
    have ee : fw .i64 ((n : Int) + 1) = ((n + 1 : Nat) : Int) := by rw [fw64 (by omega) (by omega)]; rfl
    have lb := hc1.cells b3
    -- 38
    have s38 : ∀ {h : H}, HC h → Srp h c C → CallP fs (.fn (K.ofNat 38) []) [c] h fun r h' => (∃ z e, r = .tup [z, .i .i64 e] ∧ cellsN 1 z = some [z] ∧ ((gmB C 6 = true ∧ e = 0 ∧ Sk 2 qE h' z (rwL (sB C C.length) (C.length + 1))) ∨ (gmB C 6 = false ∧ e = 1 ∧ z = .sn))) ∧ Grow h.nx.nat h h' := fun {h} hc sc => by
      refine (callP_0 (ef := f38) k.c38 rfl (f38_ret k.toCallsRa (by omega) sc hc)).mono ?_
      rintro r h' ⟨hr, g⟩
      refine ⟨?_, g⟩
      rcases hr with ⟨q1, q2, o, rfl, so, _⟩ | ⟨q, rfl⟩
      · obtain ⟨c1, c7, _⟩ := gvB_iff.1 q1
        rw [← rwL_c fun i hi => sB_iv (C := C) (n := C.length) (i := i) (by omega) rfl (by omega)] at so
        exact ⟨o, 0, rfl, so.one, .inl ⟨gm6.2 ⟨q1, q2⟩, rfl, so⟩⟩
      · exact ⟨.sn, 1, rfl, rfl, .inr ⟨Bool.eq_false_iff.2 fun e => q (gm6.1 e), rfl, rfl⟩⟩
    have s39 : ∀ {h : H}, HC h → Srp h c C → CallP fs (.fn (K.ofNat 39) []) [c] h fun r h' => (∃ o1 o2 e, r = .tup [.agg [o1, o2], .i .i64 e] ∧ cellsN 1 o1 = some [o1] ∧ cellsN 1 o2 = some [o2] ∧ ((gvB C = true ∧ e = 0 ∧ Sk 2 qE h' o1 (rwL (fun j => rwD C (Rat.divInt 1 2) j 0) C.length) ∧ Sk 2 qE h' o2 (rgL C (Rat.divInt 1 2) C.length C.length)) ∨ (gvB C = false ∧ e = 1 ∧ o1 = .sn ∧ o2 = .sn))) ∧ Grow h.nx.nat h h' := fun {h} hc sc => by
      refine (callP_0 (ef := f39) k.c39 rfl (f39_ret k.toCallsHa (by omega) sc hc)).mono ?_
      rintro r h' ⟨hr, g⟩
      refine ⟨?_, g⟩
      rcases hr with ⟨q1, o1, o2, rfl, s1, s2, _, _⟩ | ⟨q, rfl⟩
      · rw [lf_eq (by decide)] at s1
        rw [rt_eq (by decide)] at s2
        exact ⟨o1, o2, 0, rfl, s1.one, s2.one, .inl ⟨q1, rfl, s1, s2⟩⟩
      · exact ⟨.sn, .sn, 1, rfl, rfl, rfl, .inr ⟨q, rfl, rfl, rfl⟩⟩
    have s40 : ∀ {h : H}, HC h → Srp h c C → CallP fs (.fn (K.ofNat 40) []) [c, .agg [.i .i64 x, .i .i64 y]] h fun r h' => (∃ z1 z2 e : Int, r = .tup [.agg [.i .i64 z1, .i .i64 z2], .i .i64 e] ∧ ((gvB C = true ∧ ptB x y 16 = true ∧ e = 0 ∧ [V.i .i64 z1, .i .i64 z2] = frL (rwD C (Rat.divInt (x.toNat : Int) (y.toNat : Int)) (C.length - 1) 0)) ∨ ((gvB C = false ∨ ptB x y 16 = false) ∧ e = 1 ∧ z1 = 0 ∧ z2 = 0))) ∧ Grow h.nx.nat h h' := fun {h} hc sc => by
      refine (callP_0 (ef := f40) k.c40 rfl (f40_ret k.toCallsAt (by omega) sc hc)).mono ?_
      rintro r h' ⟨hr, g⟩
      refine ⟨?_, g⟩
      rcases hr with ⟨q1, q2, rfl⟩ | ⟨q, rfl⟩
      · obtain ⟨p1, _⟩ := ptB_iff.1 q2
        rw [at_eq (by omega)]
        exact ⟨_, _, 0, rfl, .inl ⟨q1, q2, rfl, rfl⟩⟩
      · exact ⟨0, 0, 1, rfl, .inr ⟨q, rfl, rfl, rfl⟩⟩
    have s41 : ∀ {h : H}, HC h → Srp h c C → CallP fs (.fn (K.ofNat 41) []) [c] h fun r h' => (∃ z e : Int, r = .tup [.i .i64 z, .i .i64 e] ∧ ((gvB C = true ∧ e = 0 ∧ z = ((chS (C.map Prod.fst)).1 : Int)) ∨ (gvB C = false ∧ e = 1 ∧ z = 0))) ∧ Grow h.nx.nat h h' := fun {h} hc sc => by
      refine (callP_0 (ef := f41) k.c41 rfl (f41_ret k.c78 k.c101 k.c104 k.c82 (by omega) sc hc)).mono ?_
      rintro r h' ⟨hr, g⟩
      refine ⟨?_, g⟩
      rcases hr with ⟨q1, rfl⟩ | ⟨q, rfl⟩
      · exact ⟨_, 0, rfl, .inl ⟨q1, rfl, rfl⟩⟩
      · exact ⟨0, 1, rfl, .inr ⟨q, rfl, rfl⟩⟩

    simp (disch := omega) only [f6_r4, f6_r5, Nat.reduceEqDiff, ↓reduceIte, g5, g6, d1, bz]
    refine (s38 hc1 sc).mono ?_
    rintro _ h2 ⟨⟨z, e, rfl, one1, H1⟩, g2⟩
    have hc2 := g2.hc hc1
    have sc2 := sc.grow hc1 g2
    simp (disch := omega) only [f6_r6, Nat.reduceEqDiff, ↓reduceIte, g5, bz]
    refine (s39 hc2 sc2).mono ?_
    rintro _ h3 ⟨⟨o1, o2, f, rfl, one2, one3, H2⟩, g3'⟩
    have g23 := g2.trans (g3'.low g2.nx)
    have hc3 := g3'.hc hc2
    have st := store2 (h := h3.new (.cells 2 [.sn, .sn])) (id := h3.nx) (x := o1) (y := o2) get_new_same
    have gN := (Grow.new (Nat.le_refl h3.nx.nat) (.cells 2 [.sn, .sn])).trans (Grow.put (b := h3.nx.nat) (h := h3.new (.cells 2 [.sn, .sn])) (k := h3.nx) (Nat.le_refl _) (by rw [nx_new]; omega) (.cells 2 [o1, o2]))
    have b9 : ((h3.new (.cells 2 [.sn, .sn])).put h3.nx (.cells 2 [o1, o2])).get h3.nx = .cells 2 [o1, o2] := get_put_same
    have g14 := g23.trans (gN.low g23.nx)
    have g34 := gN
    have b34 := (g14.old h.nx lb).trans b3
    have m3 := load2 b34
    simp (disch := omega) only [f6_r7, Nat.reduceEqDiff, ↓reduceIte, g3, g5, st, m3, bz]
    have n34 := gN.nx
    have n23 := g3'.nx
    clear st m3 gN
    generalize hi9 : h3.nx = i9 at *
    generalize (h3.new (.cells 2 [.sn, .sn])).put i9 (.cells 2 [o1, o2]) = h4 at *
    have hc4 := g14.hc hc1
    have sc4 := sc.grow hc1 g14
    refine (s40 hc4 sc4).mono ?_
    rintro _ h5 ⟨⟨z1, z2, g, rfl, H3⟩, g5'⟩
    have g15 := g14.trans (g5'.low g14.nx)
    have hc5 := g5'.hc hc4
    have b9 := (g5'.old i9 (hc4.cells b9)).trans b9
    have st := store2 (h := h5.new (.cells 2 [.i .i64 0, .i .i64 0])) (id := h5.nx) (x := .i .i64 z1) (y := .i .i64 z2) get_new_same
    have gN2 := (Grow.new (Nat.le_refl h5.nx.nat) (.cells 2 [.i .i64 0, .i .i64 0])).trans (Grow.put (b := h5.nx.nat) (h := h5.new (.cells 2 [.i .i64 0, .i .i64 0])) (k := h5.nx) (Nat.le_refl _) (by rw [nx_new]; omega) (.cells 2 [.i .i64 z1, .i .i64 z2]))
    have b11 : ((h5.new (.cells 2 [.i .i64 0, .i .i64 0])).put h5.nx (.cells 2 [.i .i64 z1, .i .i64 z2])).get h5.nx = .cells 2 [.i .i64 z1, .i .i64 z2] := get_put_same
    have b9 := (gN2.old i9 (hc5.cells b9)).trans b9
    have g16 := g15.trans (gN2.low g15.nx)
    have g46 := g5'.trans (gN2.low g5'.nx)
    simp (disch := omega) only [f6_r8, Nat.reduceEqDiff, ↓reduceIte, g5, st, bz]
    clear st gN2
    generalize h5.nx = i11 at *
    generalize (h5.new (.cells 2 [.i .i64 0, .i .i64 0])).put i11 (.cells 2 [.i .i64 z1, .i .i64 z2]) = h6 at *
    have hc6 := g16.hc hc1
    have sc6 := sc.grow hc1 g16
    refine (s41 hc6 sc6).mono ?_
    rintro _ h7 ⟨⟨mm, hh, rfl, H4⟩, g7'⟩
    have g17 := g16.trans (g7'.low g16.nx)
    have hc7 := g7'.hc hc6
    have b9 := (g7'.old i9 (hc6.cells b9)).trans b9
    have b11 := (g7'.old i11 (hc6.cells b11)).trans b11
    have sc7 := sc.grow hc1 g17
    have g47 := g46.trans (g7'.low g46.nx)
    simp (disch := omega) only [Nat.reduceEqDiff, ↓reduceIte, bz]
    have g37 := g34.trans (g47.low n34)
    have g27 := g3'.trans (g37.low n23)
    have H1 : (gmB C 6 = true ∧ e = 0 ∧ Srp h7 z (rwL (sB C C.length) (C.length + 1))) ∨ (gmB C 6 = false ∧ e = 1 ∧ z = .sn) := H1.imp (fun ⟨p, q, s⟩ => ⟨p, q, s.srp.grow hc2 g27⟩) id
    refine f6_g1 (v := v) (i3 := h.nx) (i9 := i9) (i11 := i11) (n := n) (f := f) (g := g) (mm := mm) (hh := hh) k hc7 sc7 lC H1 (by simp (disch := omega) only [getK_set, Nat.reduceEqDiff, ↓reduceIte, g0, g3, g5, g6, and_self]) ?_
    clear g0 g3 g5 g6 H1 d1 fr s38 s39 s40 s41
    rintro fr h8 g8' ⟨g0, g3, g5, g6, g9, g10, g11, g12, g13, g14⟩
    have g18 := g17.trans (g8'.low g17.nx)
    have hc8 := g8'.hc hc7
    have b9 := (g8'.old i9 (hc7.cells b9)).trans b9
    have b11 := (g8'.old i11 (hc7.cells b11)).trans b11
    have b38 := (g18.old h.nx lb).trans b3
    have sc8 := sc.grow hc1 g18
    have g38 : Grow h3.nx.nat h3 h8 := by rw [hi9]; exact g37.trans (g8'.low (by rw [← hi9]; exact g37.nx))
    have G8 := G1.trans (g18.low G1n)
    have q42 : ∀ P, CallP fs (.fn (K.ofNat 42) []) [c, .i .i64 7] h8 P = P (.b (gvB C)) h8 := fun P => by rw [← gmB_7]; exact f42_eq (m := 7) k.c42 k.c73 (by omega) (by omega) sc8 (P := P)
    have ll : ∀ X : H, lenV .sn X = .ok (.i .i64 0) X := fun _ => rfl
    have q0 : decide ((0 : Int) ≠ 0) = false := rfl
    have q1 : decide ((1 : Int) ≠ 1) = false := rfl
    have fl : ∀ fr : Fr, fillE fr [V.i .i64 0, .i .i64 0] [] = some [.i .i64 0, .i .i64 0] := fun fr => rfl
    have w0 : fw .i64 ((0 : Int) + 0) = 0 := rfl
    have k0 : keyEq (.many [some .i64, some .i64]) (.agg [.i .i64 0, .i .i64 0]) (.agg [.i .i64 0, .i .i64 0]) = some true := key_00
    have fin : ∀ {fr : Fr} {h9 : H}, Grow h8.nx.nat h8 h9 → fr.get (K.ofNat 0) = some (v) ∧ fr.get (K.ofNat 3) = some (.p h.nx 0) ∧ fr.get (K.ofNat 6) = some (.i .i64 (n : Int)) → W fs none (.seq (.reg f6_r23) (.reg f6_r24)) (atK 1 (seqK (W fs none (.reg f6_r25)) (loopK (f6_I h v h.nx) (fun n => 2 - n) n (atK 0 (seqK (W fs none (.seq (.reg f6_r26) .ret)) (retK f6 fun r h' => r = .b true ∧ Grow h.nx.nat h h')))))) fr h9 := by
      intro fr h9 g9 hP
      refine f6_end k hc hw (Nat.le_refl _) (G8.trans (g9.low G8.nx)) ((g9.old h.nx (hc8.cells b38)).trans b38) hP ?_ hn
      rintro fr h' _ ⟨i1, i2, i3, c', C', s1, s2, s3, g0, g3, g5, g6⟩
      simp (disch := omega) only [f6_r25, ↓reduceIte, g6, ee, bz]
      exact ⟨n + 1, by omega, by omega, i2, i3, c', C', s1, s2, s3, by simp (disch := omega) only [getK_set, Nat.reduceEqDiff, ↓reduceIte, g0, g3, g5, and_self]⟩
    cases gv : gvB C with
    | false =>
      rw [gv] at q42
      have H2 : f = 1 ∧ o1 = .sn ∧ o2 = .sn := by
        rcases H2 with ⟨q, _⟩ | ⟨_, q⟩
        · rw [gv] at q; cases q
        · exact q
      have H3 : g = 1 ∧ z1 = 0 ∧ z2 = 0 := by
        rcases H3 with ⟨q, _⟩ | ⟨_, q⟩
        · rw [gv] at q; cases q
        · exact q
      have H4 : hh = 1 ∧ mm = 0 := by
        rcases H4 with ⟨q, _⟩ | ⟨_, q⟩
        · rw [gv] at q; cases q
        · exact q
      obtain ⟨rfl, rfl, rfl⟩ := H2
      obtain ⟨rfl, rfl, rfl⟩ := H3
      obtain ⟨rfl, rfl⟩ := H4
      have m1 : loadV h8 (.p i9 (0 + 0 * 1)) one? = .ok .sn h8 := load_p b9 rfl
      have m2 : loadV h8 (.p i9 (0 + 1 * 1)) one? = .ok .sn h8 := load_p b9 rfl
      have m11 := load2 b11
      simp (disch := omega) only [f6_r11, f6_r12, x_eqk, Nat.reduceEqDiff, ↓reduceIte, Bool.false_eq_true, Bool.not_true, Bool.not_false, g5, g9, g10, g11, g12, g13, g14, q42, q0, q1, m1, m2, ll, w0, m11, fl, k0, cond_true, bz]
      exact fin (Grow.refl _ _) (by simp (disch := omega) only [getK_set, Nat.reduceEqDiff, ↓reduceIte, g0, g3, g6, and_self])
    | true =>
      rw [gv] at q42
      obtain ⟨c1, c7, cC⟩ := gvB_iff.1 gv
      obtain ⟨rfl, so1, so2⟩ : f = 0 ∧ Srp h8 o1 (rwL (fun j => rwD C (Rat.divInt ((1 : Nat) : Int) ((2 : Nat) : Int)) j 0) C.length) ∧ Srp h8 o2 (rgL C (Rat.divInt ((1 : Nat) : Int) ((2 : Nat) : Int)) C.length C.length) := by
        rcases H2 with ⟨_, q, s1, s2⟩ | ⟨q, _⟩
        · exact ⟨q, s1.srp.grow hc3 g38, s2.srp.grow hc3 g38⟩
        · rw [gv] at q; cases q
      obtain ⟨rfl, rfl⟩ : hh = 0 ∧ mm = ((chS (C.map Prod.fst)).1 : Int) := by
        rcases H4 with ⟨_, q⟩ | ⟨q, _⟩
        · exact q
        · rw [gv] at q; cases q
      simp (disch := omega) only [f6_r11, f6_r14, Nat.reduceEqDiff, ↓reduceIte, Bool.false_eq_true, Bool.not_true, g5, q42, bz]
      refine (callP_0 (ef := f44) k.c44 rfl (f44_ret (o := 1) (u := 2) k.toCallsF c1 c7 rfl cC (by omega) (by omega) (by omega) (by decide) sc8 hc8)).mono ?_
      rintro _ h9 ⟨⟨w1, w2, rfl, s1, s2, _, _⟩, g9'⟩
      obtain ⟨i1, i2⟩ := lf_in (C := C) (o := 1) (u := 2) cC (by omega) (by omega) (by omega) c7
      have hc9 := g9'.hc hc8
      have b9 := (g9'.old i9 (hc8.cells b9)).trans b9
      have b11 := (g9'.old i11 (hc8.cells b11)).trans b11
      have e1 := fun P => f35_eq k.c35 i1 (so1.grow hc8 g9') s1.srp (P := P)
      have e2 := fun P => f35_eq k.c35 i2 (so2.grow hc8 g9') s2.srp (P := P)
      have m1 : loadV h9 (.p i9 (0 + 0 * 1)) one? = .ok o1 h9 := load_p b9 rfl
      have m2 : loadV h9 (.p i9 (0 + 1 * 1)) one? = .ok o2 h9 := load_p b9 rfl
      simp (disch := omega) only [f6_r15, Nat.reduceEqDiff, ↓reduceIte, Bool.false_eq_true, Bool.not_true, Bool.not_false, g5, g9, g10, g13, g14, q0, m1, m2, e1, e2, bz]
      refine (callP_0 (ef := f45) k.c45 rfl (f45_ret k.c83 (by omega) (sc8.grow hc8 g9') hc9)).mono ?_
      rintro _ hX ⟨rfl, gX⟩
      have g8X := g9'.trans (gX.low g9'.nx)
      have hcX := gX.hc hc9
      have b11 := (gX.old i11 (hc9.cells b11)).trans b11
      have b3X := (g8X.old h.nx (hc8.cells b38)).trans b38
      have m3 := load2 b3X
      have dd : decide (((chS (C.map Prod.fst)).1 : Int) ≠ ((chS (C.map Prod.fst)).1 : Int)) = false := decide_eq_false fun e => e rfl
      simp (disch := omega) only [f6_r17, Nat.reduceEqDiff, ↓reduceIte, Bool.false_eq_true, Bool.not_false, of16, g3, dd, m3, bz]
      refine (callP_0 (ef := f27) k.c27 rfl (f27_ret (m := 16) k.c73 (by omega))).mono ?_
      rintro _ hY ⟨rfl, gY⟩
      have g8Y := g8X.trans (gY.low g8X.nx)
      have hcY := gY.hc hcX
      have b11 := (gY.old i11 (hcX.cells b11)).trans b11
      have b3Y := (gY.old h.nx (hcX.cells b3X)).trans b3X
      have m3 := load2 b3Y
      cases pt : ptB x y 16 with
      | false =>
        obtain ⟨rfl, rfl, rfl⟩ : g = 1 ∧ z1 = 0 ∧ z2 = 0 := by
          rcases H3 with ⟨_, q, _⟩ | ⟨_, q⟩
          · rw [pt] at q; cases q
          · exact q
        have m11 := load2 b11
        simp (disch := omega) only [f6_r18, x_eqk, Nat.reduceEqDiff, ↓reduceIte, Bool.false_eq_true, Bool.not_true, Bool.not_false, g11, g12, q1, m11, fl, k0, cond_true, bz]
        exact fin g8Y (by simp (disch := omega) only [getK_set, Nat.reduceEqDiff, ↓reduceIte, g0, g3, g6, and_self])
      | true =>
        obtain ⟨p1, p2, p3, p4, p5⟩ := ptB_iff.1 pt
        obtain ⟨rfl, ez⟩ : g = 0 ∧ [V.i .i64 z1, .i .i64 z2] = frL (rwD C (Rat.divInt (x.toNat : Int) (y.toNat : Int)) (C.length - 1) 0) := by
          rcases H3 with ⟨_, _, q⟩ | ⟨q | q, _⟩
          · exact q
          · rw [gv] at q; cases q
          · rw [pt] at q; cases q
        have ea : x = ((x.toNat : Nat) : Int) := by omega
        have eb : y = ((y.toNat : Nat) : Int) := by omega
        simp (disch := omega) only [f6_r20, Nat.reduceEqDiff, ↓reduceIte, Bool.false_eq_true, Bool.not_true, g3, g5, m3, bz]
        have hg : Int.gcd ((x.toNat : Nat) : Int) ((y.toNat : Nat) : Int) = 1 := by rw [← ea, ← eb]; omega
        have h44 := f44_ret (fs := fs) (C := C) (h := hY) (v := c) (o := x.toNat) (u := y.toNat) k.toCallsF c1 c7 rfl cC (by omega) (by omega) (by omega) hg (sc8.grow hc8 g8Y) hcY
        rw [← ea, ← eb] at h44
        refine (callP_0 (ef := f44) k.c44 rfl h44).mono ?_
        rintro _ hZ ⟨⟨w3, w4, rfl, s3, s4, _, _⟩, gZ⟩
        have b11 := (gZ.old i11 (hcY.cells b11)).trans b11
        have g8Z := g8Y.trans (gZ.low g8Y.nx)
        have m11 := load2 b11
        rw [ez] at m11
        have len := s3.srp.len
        rw [rwL_len] at len
        have el : fw .i64 ((C.length : Int) - 1) = ((C.length - 1 : Nat) : Int) := by rw [fw64 (by omega) (by omega)]; omega
        obtain ⟨ia, iq, r1, r2, _, _⟩ := s3.srp.at2 (i := C.length - 1) (by rw [rwL_len]; omega)
        have r2 : loadV hZ (.p ia iq) (many? 2) = .ok (.agg (frL (rwD C (Rat.divInt x y) (C.length - 1) 0))) hZ := by
          rw [r2]; simp [rwL, frP, frL]
        rw [← ea, ← eb] at m11
        have fr := rwD_in (C := C) (o := x.toNat) (u := y.toNat) (r := C.length - 1) (i := 0) cC (by omega) (by omega) (by omega) (by omega)
        rw [← ea, ← eb] at fr
        have kq := fr_key fr (by unfold M63; omega) (by unfold M63; omega)
        have b4 := s3.srp.beq
        simp (disch := omega) only [f6_r21, xg_eqk, xg_len, Nat.reduceEqDiff, ↓reduceIte, Bool.false_eq_true, Bool.not_true, Bool.not_false, g11, g12, q0, m11, len, el, r1, r2, kq, cond_true, bz]
        exact fin g8Z (by simp (disch := omega) only [getK_set, Nat.reduceEqDiff, ↓reduceIte, g0, g3, g6, and_self])
  · have d1 : decide ((n : Int) < 2) = false := decide_eq_false (by omega)
    simp (disch := omega) only [f6_r4, f6_r26, f6_rs, Option.some.injEq, exists_eq_left', ↓reduceIte, Bool.false_eq_true, g6, d1, k.aw, bz]
    exact G1
end
end Go.Ev
