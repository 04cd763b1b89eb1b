/-
  Bern: the reference's value (28), points of any numbers (29), Value (18)., and what follows.
-/
import Derived.Test.YtahogmegmjpndaaDoorPd
import Derived.Test.YtahogmegmjpndaaDoorPe
namespace Go.Ev
open Go Go.RowKit
noncomputable def f28_r0 : List EOper := [oG 3 (.box 2 (tG 1)), oG 4 (.alloc 2 [(.i .i64 (.ofNat 0)), (.i .i64 (.ofNat 0))])]
noncomputable def f28_r1 : List EOper := [oG 7 (.build [(.i .i64 (.ofNat 0)), (.i .i64 (.ofNat 0))] [(0, 1, (cG 0)), (1, 1, (cG 1))]), oG 5 (.alloc 2 [(.i .i64 (.ofNat 0)), (.i .i64 (.ofNat 0))]), ⟨none, none, .st 2 (tG 5) (tG 7)⟩]
noncomputable def f28_r2 : List EOper := [oG 8 (.mv (tG 0)), oG 9 (.len (tG 8)), oG 10 (.bin .sub (tG 9) (cG 1)), oG 6 (.as (tG 10))]
noncomputable def f28_r3 : List EOper := [oG 11 (.mv (tG 6)), oG 12 (.bin .geq (tG 11) (cG 0))]
noncomputable def f28_r4 : List Stage := [⟨[oG 15 (.ldn 2 (tG 5)), oG 16 (.ldn 2 (tG 3)), oG 18 (.mv (tG 0)), oG 19 (.mv (tG 6)), oG 20 (.iads 1 (tG 18) (tG 19)), oG 21 (.ld (tG 20)), oG 22 (.build [(.i .i64 (.ofNat 0)), (.i .i64 (.ofNat 0))] [(0, 1, (tG 21)), (1, 1, (cG 1))])], [], (some (oG 17 (.call (fG 75) [(tG 15), (tG 16)]))), []⟩, ⟨[], [oG 18 (.mv (tG 0)), oG 19 (.mv (tG 6)), oG 20 (.iads 1 (tG 18) (tG 19)), oG 21 (.ld (tG 20)), oG 22 (.build [(.i .i64 (.ofNat 0)), (.i .i64 (.ofNat 0))] [(0, 1, (tG 21)), (1, 1, (cG 1))])], (some (oG 23 (.call (fG 74) [(tG 17), (tG 22)]))), []⟩, ⟨[], [], (some ⟨none, none, .st 2 (tG 5) (tG 23)⟩), []⟩, ⟨[], [], none, []⟩]
noncomputable def f28_r5 : List EOper := [oG 13 (.mv (tG 6)), oG 14 (.bin .sub (tG 13) (cG 1)), oG 6 (.as (tG 14))]
noncomputable def f28_l0 : EC := (.seq (.seq (.reg f28_r3) (.cond (tG 12) .skip (.exit 0))) (.seq (.block 1 (.draw f28_r4)) (.reg f28_r5)))
noncomputable def f28_r6 : List EOper := [oG 24 (.ldn 2 (tG 5)), ⟨none, none, .st 2 (tG 4) (tG 24)⟩]
noncomputable def f28_c : EC := (.seq (.reg f28_r0) (.seq (.reg f28_r1) (.seq (.seq (.reg f28_r2) (.block 0 (.loop f28_l0))) (.seq (.reg f28_r6) .ret))))
noncomputable def f28 : EF := ⟨25, [.celln (.ofNat 4) 2], f28_c, none⟩
theorem f28_rs : f28.rs = [.celln (.ofNat 4) 2] := of_eq_true (eq_self _)
noncomputable def f29_r0 : List EOper := [oG 2 (.box 2 (tG 0)), oG 4 (.alloc 2 [(.i .i64 (.ofNat 0)), (.i .i64 (.ofNat 0))])]
noncomputable def f29_r1 : List EOper := [oG 6 (.iadr 2 1 (tG 2) (cG 1)), oG 7 (.ld (tG 6)), oG 8 (.conv .u64 (tG 7)), oG 9 (.mv (tG 1)), oG 10 (.conv .u64 (tG 9)), oG 11 (.bin .rem (tG 8) (tG 10)), oG 12 (.conv .i64 (tG 11)), oG 13 (.bin .add (cG 1) (tG 12)), oG 5 (.as (tG 13))]
noncomputable def f29_r2 : List EOper := [oG 14 (.iadr 2 1 (tG 2) (cG 0)), oG 15 (.ld (tG 14)), oG 16 (.conv .u64 (tG 15)), oG 17 (.mv (tG 5)), oG 18 (.bin .add (tG 17) (cG 1)), oG 19 (.conv .u64 (tG 18)), oG 20 (.bin .rem (tG 16) (tG 19)), oG 21 (.conv .i64 (tG 20)), oG 22 (.mv (tG 5)), oG 23 (.call (fG 54) [(tG 21), (tG 22)]), ⟨none, none, .st 2 (tG 4) (tG 23)⟩]
noncomputable def f29_c : EC := (.seq (.reg f29_r0) (.seq (.reg f29_r1) (.seq (.reg f29_r2) .ret)))
noncomputable def f29 : EF := ⟨24, [.celln (.ofNat 4) 2], f29_c, none⟩
theorem f29_rs : f29.rs = [.celln (.ofNat 4) 2] := of_eq_true (eq_self _)
noncomputable def f18_r0 : List EOper := [oG 3 (.box 2 (tG 1)), oG 4 (.alloc 2 [(.i .i64 (.ofNat 0)), (.i .i64 (.ofNat 0))]), oG 5 (.as (cG 0))]
noncomputable def f18_r1 : List EOper := [oG 9 (.mv (tG 0)), oG 10 (.call (fG 14) [(tG 9)]), oG 6 (.as (tG 10))]
noncomputable def f18_r2 : List EOper := [oG 11 (.mv (tG 6)), oG 12 (.bin .neq (tG 11) (cG 0))]
noncomputable def f18_r3 : List EOper := [oG 13 (.build [(.i .i64 (.ofNat 0)), (.i .i64 (.ofNat 0))] []), oG 14 (.mv (tG 6)), ⟨none, none, .st 2 (tG 4) (tG 13)⟩, oG 5 (.as (tG 14))]
noncomputable def f18_r4 : List EOper := [oG 16 (.ldn 2 (tG 3)), oG 17 (.call (fG 60) [(tG 16), (cG 64)]), oG 15 (.mv (tG 17)), oG 18 (.ext (tG 15) 0), oG 19 (.ext (tG 15) 1), oG 7 (.alloc 2 [(.i .i64 (.ofNat 0)), (.i .i64 (.ofNat 0))]), ⟨none, none, .st 2 (tG 7) (tG 18)⟩, oG 8 (.as (tG 19))]
noncomputable def f18_r5 : List EOper := [oG 20 (.mv (tG 8)), oG 21 (.not (tG 20))]
noncomputable def f18_r6 : List EOper := [oG 22 (.build [(.i .i64 (.ofNat 0)), (.i .i64 (.ofNat 0))] []), ⟨none, none, .st 2 (tG 4) (tG 22)⟩, oG 5 (.as (cG 1))]
noncomputable def f18_r7 : List EOper := [oG 23 (.mv (tG 0)), oG 24 (.ldn 2 (tG 7)), oG 25 (.call (fG 61) [(tG 23), (tG 24)]), oG 26 (.call (fG 62) [(tG 25)]), ⟨none, none, .st 2 (tG 4) (tG 26)⟩, oG 5 (.as (cG 0))]
noncomputable def f18_c : EC := (.seq (.reg f18_r0) (.seq (.seq (.reg f18_r1) (.seq (.reg f18_r2) (.cond (tG 12) (.seq (.reg f18_r3) .ret) .skip))) (.seq (.reg f18_r4) (.seq (.seq (.reg f18_r5) (.cond (tG 21) (.seq (.reg f18_r6) .ret) .skip)) (.seq (.reg f18_r7) .ret)))))
noncomputable def f18 : EF := ⟨27, [.celln (.ofNat 4) 2, .tmp (.ofNat 5)], f18_c, none⟩
theorem f18_rs : f18.rs = [.celln (.ofNat 4) 2, .tmp (.ofNat 5)] := of_eq_true (eq_self _)
section
variable {fs : T EF} {h : H} {v w : V} {L : List Int} {a b m : Int}
structure CallsF (fs : T EF) : Prop where
  c73 : fs.get (K.ofNat 73) = some f73
  c54 : fs.get (K.ofNat 54) = some f54
  c75 : fs.get (K.ofNat 75) = some f75
  c74 : fs.get (K.ofNat 74) = some f74
theorem mul_ret {p q : Rat} (k : CallsF fs) (b : MlB p q) : Ret fs f75 [.agg (frL p), .agg (frL q)] h fun r h' => r = .agg (frL (p * q)) ∧ Grow h.nx.nat h h' := f75_ret k.c54 k.c73 b.p1 b.p2 b.q1 b.q2 b.b1 b.b2
theorem add_ret {p q : Rat} (k : CallsF fs) (b : AdB p q) : Ret fs f74 [.agg (frL p), .agg (frL q)] h fun r h' => r = .agg (frL (p + q)) ∧ Grow h.nx.nat h h' := f74_ret k.c54 k.c73 b.p2 b.q2 b.b1 b.b2 b.b3 b.b4
theorem frL_int {x : Int} : frL (x : Rat) = [.i .i64 x, .i .i64 1] := by unfold frL; simp
theorem frL_low {a b : Int} (hb : 0 < b) (hg : Int.gcd a b = 1) : [V.i .i64 a, .i .i64 b] = frL (Rat.divInt a b) := by
  obtain ⟨e1, e2⟩ := (low_iff hb).2 hg
  unfold frL
  rw [← e1, ← e2]
theorem fr_beq {q : Rat} : beqV (.agg (frL q)) (.agg (frL q)) = true := beq_2
theorem fr_load {id : K} {q : Rat} (hb : h.get id = .cells 2 (frL q)) : loadV h (.p id 0) (many? 2) = .ok (.agg (frL q)) h := load2 hb
theorem fr_store {id : K} {cs : List V} {c1 c2 : V} {q : Rat} (hb : h.get id = .cells 2 cs) (hcs : cs = [c1, c2]) : storeV h 2 (.p id 0) (.agg (frL q)) = .ok undefV (h.put id (.cells 2 (frL q))) := by subst hcs; exact store2 hb
theorem fr_cells {q : Rat} : cellsN 2 (.agg (frL q)) = some (frL q) := cell2_agg
theorem vq_bounds {o u j : Nat} (hu : 0 < u) (hu64 : u ≤ 64) (ho : o ≤ u) (hL : ∀ i, (L.getD i 0).natAbs ≤ 100) (hj : j < 7) : MlB (vQ L (Rat.divInt (o : Int) (u : Int)) j) (Rat.divInt (o : Int) (u : Int)) ∧ AdB (vQ L (Rat.divInt (o : Int) (u : Int)) j * Rat.divInt (o : Int) (u : Int)) ((L.getD (L.length - 1 - j) 0 : Int) : Rat) := by
  have a := vQ_ov hu ho hL j
  have hq : Ov (Rat.divInt (o : Int) (u : Int)) u u := ⟨hu, (o : Int), by simpa using ho, rfl⟩
  have P7 := pow_le7 hu64 (j := j) (by omega)
  have P8 := pow_le7 hu64 (j := j + 1) (by omega)
  have Pp := Nat.pow_pos (n := j) hu
  have e1 : u ^ j * u = u ^ (j + 1) := (Nat.pow_succ ..).symm
  have h1 : j * 100 * u ^ j ≤ 600 * 4398046511104 := Nat.mul_le_mul (by omega) P7
  have h2 : j * 100 * u ^ j * u ≤ 600 * 4398046511104 := by rw [Nat.mul_assoc, e1]; exact Nat.mul_le_mul (by omega) P8
  refine ⟨mlb_ov a hq (by unfold M63; omega) (by unfold M63; omega) (by unfold M63; omega) (by unfold M63; omega) (by unfold M63; omega) (by rw [e1]; unfold M63; omega), ?_⟩
  have hm := a.mul hq
  have hi := Ov.intc (D := u ^ j * u) (by rw [e1]; exact Nat.pow_pos hu) (hL (L.length - 1 - j))
  refine adb_ov hm hi (by rw [e1]; unfold M63; omega) ?_
  rw [e1] at hi ⊢
  unfold M63; omega
def f28_I (h0 : H) (v : V) (L : List Int) (q : Rat) (i3 i4 i5 : K) (j : Nat) (fr : Fr) (h1 : H) : Prop := j ≤ L.length ∧ Grow h0.nx.nat h0 h1 ∧ h1.get i3 = .cells 2 (frL q) ∧ h1.get i4 = .cells 2 [.i .i64 0, .i .i64 0] ∧ h1.get i5 = .cells 2 (frL (vQ L q j)) ∧ fr.get (K.ofNat 0) = some (v) ∧ fr.get (K.ofNat 3) = some (.p i3 0) ∧ fr.get (K.ofNat 4) = some (.p i4 0) ∧ fr.get (K.ofNat 5) = some (.p i5 0) ∧ fr.get (K.ofNat 6) = some (.i .i64 ((L.length : Int) - 1 - (j : Int)))
theorem f28_ret {o u : Nat} (k : CallsF fs) (h7 : L.length ≤ 7) (hL : ∀ i, (L.getD i 0).natAbs ≤ 100) (hu : 0 < u) (hu64 : u ≤ 64) (ho : o ≤ u) (hv : Sr iE h v L) (hc : HC h) : Ret fs f28 [v, .agg (frL (Rat.divInt (o : Int) (u : Int)))] h fun r h' => r = .agg (frL (vQ L (Rat.divInt (o : Int) (u : Int)) L.length)) ∧ Grow h.nx.nat h h' := by
  have bnd := fun j hj => vq_bounds (L := L) (j := j) hu hu64 ho hL hj
  generalize Rat.divInt (o : Int) (u : Int) = q at *
  apply ret_of rfl
  show W fs none f28_c _ _ _
  unfold f28_c
  have gA := Grow.new (Nat.le_refl h.nx.nat) (.cells 2 (frL q))
  have n1 := nx_new h (.cells 2 (frL q))
  have b3 : (h.new (.cells 2 (frL q))).get h.nx = .cells 2 (frL q) := get_new_same
  have hf := fr_cells (q := q)
  simp (disch := omega) only [f28_r0, ↓reduceIte, hf, bz]
  generalize h.new (.cells 2 (frL q)) = hA at *
  have gB := Grow.new (Nat.le_refl hA.nx.nat) (.cells 2 [.i .i64 0, .i .i64 0])
  have n2 := nx_new hA (.cells 2 [.i .i64 0, .i .i64 0])
  have b4 : (hA.new (.cells 2 [.i .i64 0, .i .i64 0])).get hA.nx = .cells 2 [.i .i64 0, .i .i64 0] := get_new_same
  have b3 := (gB.old h.nx (by omega)).trans b3
  have GB := gA.trans (gB.low gA.nx)
  have hi4 : h.nx.nat < hA.nx.nat := by omega
  generalize hA.nx = i4 at *
  generalize hA.new (.cells 2 [.i .i64 0, .i .i64 0]) = hB at *
  have gC := Grow.new (Nat.le_refl hB.nx.nat) (.cells 2 [.i .i64 0, .i .i64 0])
  have n3 := nx_new hB (.cells 2 [.i .i64 0, .i .i64 0])
  have b5 : (hB.new (.cells 2 [.i .i64 0, .i .i64 0])).get hB.nx = .cells 2 [.i .i64 0, .i .i64 0] := get_new_same
  have st := store2 (x := .i .i64 0) (y := .i .i64 1) b5
  have b3 := (gC.old h.nx (by omega)).trans b3
  have b4 := (gC.old i4 (by omega)).trans b4
  have GC := (GB.trans (gC.low GB.nx)).trans (Grow.put (b := h.nx.nat) (k := hB.nx) (by omega) (by omega) (.cells 2 [.i .i64 0, .i .i64 1]))
  have e1 := hv.len
  have ei : fw .i64 ((L.length : Int) - 1) = (L.length : Int) - 1 := fw64 (by omega) (by omega)
  simp (disch := omega) only [f28_r1, f28_r2, Nat.reduceEqDiff, ↓reduceIte, st, e1, ei, bz]
  have c3 : ((hB.new (.cells 2 [.i .i64 0, .i .i64 0])).put hB.nx (.cells 2 [.i .i64 0, .i .i64 1])).get h.nx = .cells 2 (frL q) := (get_put_other (fun e => by rw [← e] at n2; omega)).trans b3
  have c4 : ((hB.new (.cells 2 [.i .i64 0, .i .i64 0])).put hB.nx (.cells 2 [.i .i64 0, .i .i64 1])).get i4 = .cells 2 [.i .i64 0, .i .i64 0] := (get_put_other (fun e => by rw [e] at n2; omega)).trans b4
  have c5 : ((hB.new (.cells 2 [.i .i64 0, .i .i64 0])).put hB.nx (.cells 2 [.i .i64 0, .i .i64 1])).get hB.nx = .cells 2 (frL (vQ L q 0)) := get_put_same
  have hi5 : i4.nat < hB.nx.nat := by omega
  generalize (hB.new (.cells 2 [.i .i64 0, .i .i64 0])).put hB.nx (.cells 2 [.i .i64 0, .i .i64 1]) = hC at *
  generalize hB.nx = i5 at *
  refine W_loop (f28_I h v L q h.nx i4 i5) (fun j => L.length - j) ?_ 0 ⟨Nat.zero_le _, GC, c3, c4, c5, by simp (disch := omega) only [getK_set, Nat.reduceEqDiff, ↓reduceIte, and_self, Int.natCast_zero, Int.sub_zero]⟩
  rintro j fr h1 ⟨hj, G1, d3, d4, d5, g0, g3, g4, g5, g6⟩
  have hc1 := G1.hc hc
  have sv := hv.grow hc G1
  have l3 := hc1.cells d3
  have l4 := hc1.cells d4
  have l5 := hc1.cells d5
  unfold f28_l0
  by_cases hlt : j < L.length
  · have d1 : decide ((L.length : Int) - 1 - (j : Int) ≥ 0) = true := decide_eq_true (by omega)
    have ec : (L.length : Int) - 1 - (j : Int) = ((L.length - 1 - j : Nat) : Int) := by omega
    obtain ⟨b1, b2⟩ := bnd j (by omega)
    obtain ⟨p, p1, p2, p3⟩ := sv.atb (L.length - 1 - j) (by omega)
    have eg : L[L.length - 1 - j] = L.getD (L.length - 1 - j) 0 := by rw [List.getD_eq_getElem?_getD, List.getElem?_eq_getElem (by omega)]; rfl
    have p2 : loadV h1 p one? = .ok (.i .i64 (L.getD (L.length - 1 - j) 0)) h1 := by rw [← eg]; exact p2
    have m5 := fr_load d5
    have m3 := fr_load d3
    rw [ec] at g6 d1
    simp (disch := omega) only [f28_r3, f28_r4, xg_build, xg_ldn, xg_iads, Nat.reduceEqDiff, ↓reduceIte, g0, g3, g5, g6, d1, m5, m3, p1, p2, bz]
    refine (callP_0 (ef := f75) k.c75 rfl (mul_ret k b1)).mono ?_
    rintro r h2 ⟨rfl, g2⟩
    have hc2 := g2.hc hc1
    obtain ⟨p', r1, r2, r3⟩ := (sv.grow hc1 g2).atb (L.length - 1 - j) (by omega)
    obtain rfl : p = p' := (RV.ok.inj ((p1 .i64 h1).symm.trans (r1 .i64 h1))).1
    have r2 : loadV h2 p one? = .ok (.i .i64 (L.getD (L.length - 1 - j) 0)) h2 := by rw [← eg]; exact r2
    have e3 := (g2.old _ l3).trans d3
    have e4 := (g2.old _ l4).trans d4
    have e5 := (g2.old _ l5).trans d5
    have ea : V.agg [.i .i64 (L.getD (L.length - 1 - j) 0), .i .i64 1] = .agg (frL ((L.getD (L.length - 1 - j) 0 : Int) : Rat)) := by rw [frL_int]
    simp (disch := omega) only [stay_mv, stay_iads, stay_ld, Nat.reduceEqDiff, ↓reduceIte, stay_build, g0, g6, p1, r2, r3, sv.beq, bz]
    rw [ea]
    refine (callP_0 (ef := f74) k.c74 rfl (add_ret k b2)).mono ?_
    rintro r h3 ⟨rfl, g3'⟩
    have hc3 := g3'.hc hc2
    have n2' := g2.nx
    have e3 := (g3'.old _ (by omega)).trans e3
    have e4 := (g3'.old _ (by omega)).trans e4
    have e5 := (g3'.old _ (by omega)).trans e5
    have s5 := fr_store (q := vQ L q j * q + ((L.getD (L.length - 1 - j) 0 : Int) : Rat)) e5 (c1 := .i .i64 (vQ L q j).num) (c2 := .i .i64 ((vQ L q j).den : Int)) rfl
    have ew : fw .i64 (((L.length - 1 - j : Nat) : Int) - 1) = (L.length : Int) - 1 - ((j + 1 : Nat) : Int) := by rw [fw64 (by omega) (by omega)]; omega
    simp (disch := omega) only [f28_r5, Nat.reduceEqDiff, ↓reduceIte, g5, g6, s5, ew, bz]
    have n3' := g3'.nx
    have ne : ∀ {x y : K}, x.nat ≠ y.nat → x ≠ y := fun h e => h (by rw [e])
    refine ⟨j + 1, by omega, by omega, ((G1.trans (g2.low G1.nx)).trans (g3'.low (by have := G1.nx; omega))).trans (Grow.put (by omega) (by omega) _), (get_put_other (ne (by omega))).trans e3, (get_put_other (ne (by omega))).trans e4, get_put_same, by simp (disch := omega) only [getK_set, Nat.reduceEqDiff, ↓reduceIte, g0, g3, g4, g5, and_self]⟩
  · have d1 : decide ((L.length : Int) - 1 - (j : Int) ≥ 0) = false := decide_eq_false (by omega)
    obtain rfl : j = L.length := by omega
    have m5 := fr_load d5
    have s4 := fr_store (q := vQ L q L.length) d4 rfl
    have rd := read2 (h := h1.put i4 (.cells 2 (frL (vQ L q L.length)))) (id := i4) get_put_same
    have rd : readP (h1.put i4 (.cells 2 (frL (vQ L q L.length)))) (.p i4 0) (many? 2) = some (.agg (frL (vQ L q L.length))) := rd
    simp (disch := omega) only [f28_r3, f28_r6, f28_rs, Option.some.injEq, exists_eq_left', Nat.reduceEqDiff, ↓reduceIte, Bool.false_eq_true, g4, g5, g6, d1, m5, s4, rd, bz]
    exact G1.trans (Grow.put (by omega) (by omega) _)
theorem f29_ret {m : Nat} (k : CallsF fs) (hm : 0 < m) (hm64 : m ≤ 64) : Ret fs f29 [.agg [.i .i64 a, .i .i64 b], .i .i64 (m : Int)] h fun r h' => (∃ o u : Nat, 0 < u ∧ u ≤ m ∧ o ≤ u ∧ r = .agg (frL (Rat.divInt (o : Int) (u : Int)))) ∧ Grow h.nx.nat h h' := by
  apply ret_of rfl
  show W fs none f29_c _ _ _
  unfold f29_c
  have gA := Grow.new (Nat.le_refl h.nx.nat) (.cells 2 [.i .i64 a, .i .i64 b])
  have n1 := nx_new h (.cells 2 [.i .i64 a, .i .i64 b])
  have b1 : (h.new (.cells 2 [.i .i64 a, .i .i64 b])).get h.nx = .cells 2 [.i .i64 a, .i .i64 b] := get_new_same
  simp (disch := omega) only [f29_r0, Nat.reduceEqDiff, ↓reduceIte, bz]
  generalize h.new (.cells 2 [.i .i64 a, .i .i64 b]) = hA at *
  have gB := Grow.new (Nat.le_refl hA.nx.nat) (.cells 2 [.i .i64 0, .i .i64 0])
  have n2 := nx_new hA (.cells 2 [.i .i64 0, .i .i64 0])
  have c1 : (hA.new (.cells 2 [.i .i64 0, .i .i64 0])).get h.nx = .cells 2 [.i .i64 a, .i .i64 b] := (get_new_old (by omega)).trans b1
  have c2 : (hA.new (.cells 2 [.i .i64 0, .i .i64 0])).get hA.nx = .cells 2 [.i .i64 0, .i .i64 0] := get_new_same
  have GB := gA.trans (gB.low gA.nx)
  generalize hA.nx = i2 at *
  generalize hA.new (.cells 2 [.i .i64 0, .i .i64 0]) = hB at *
  have l1 : loadV hB (.p h.nx 0) one? = .ok (.i .i64 a) hB := load_p c1 rfl
  have l2 : loadV hB (.p h.nx 1) one? = .ok (.i .i64 b) hB := load_p c1 rfl
  have ua := u64_bd a
  have ub := u64_bd b
  have um : fw .u64 (m : Int) = (m : Int) := fwu64 (by omega) (by omega)
  have d0 : decide ((m : Int) = 0) = false := decide_eq_false (by omega)
  have hr := Int.emod_lt_of_pos (fw .u64 b) (show (0 : Int) < (m : Int) by omega)
  have hr0 := Int.emod_nonneg (fw .u64 b) (show (m : Int) ≠ 0 by omega)
  obtain ⟨u, hu⟩ : ∃ u : Nat, (u : Int) = 1 + (fw .u64 b) % (m : Int) := ⟨(1 + (fw .u64 b) % (m : Int)).toNat, by omega⟩
  have ed : fw .i64 (1 + fw .i64 ((fw .u64 b).tmod (m : Int))) = (u : Int) := by
    rw [Int.tmod_eq_emod_of_nonneg ub.1, fw64 (a := (fw .u64 b) % (m : Int)) (by omega) (by omega), fw64 (by omega) (by omega), hu]
  have e1 : fw .u64 (fw .i64 ((u : Int) + 1)) = ((u : Int) + 1) := by rw [fw64 (by omega) (by omega), fwu64 (by omega) (by omega)]
  have hq := Int.emod_lt_of_pos (fw .u64 a) (show (0 : Int) < (u : Int) + 1 by omega)
  have hq0 := Int.emod_nonneg (fw .u64 a) (show (u : Int) + 1 ≠ 0 by omega)
  obtain ⟨o, ho⟩ : ∃ o : Nat, (o : Int) = (fw .u64 a) % ((u : Int) + 1) := ⟨((fw .u64 a) % ((u : Int) + 1)).toNat, by omega⟩
  have eo : fw .i64 ((fw .u64 a).tmod ((u : Int) + 1)) = (o : Int) := by
    rw [Int.tmod_eq_emod_of_nonneg ua.1, fw64 (by omega) (by omega), ho]
  have d1 : decide ((u : Int) + 1 = 0) = false := decide_eq_false (by omega)
  simp (disch := omega) only [f29_r1, f29_r2, x_conv, onI_i, Nat.reduceEqDiff, ↓reduceIte, l1, l2, um, ed, e1, eo, bz]
  refine (callP_0 (ef := f54) k.c54 rfl (f54_ret k.c73 (by unfold M63; omega) (by unfold M63; omega) (by omega))).mono ?_
  rintro r h' ⟨rfl, g⟩
  have st := fr_store (q := Rat.divInt (o : Int) (u : Int)) ((g.old i2 (by omega)).trans c2) rfl
  have rd : readP (h'.put i2 (.cells 2 (frL (Rat.divInt (o : Int) (u : Int))))) (.p i2 0) (many? 2) = some (.agg (frL (Rat.divInt (o : Int) (u : Int)))) := read2 get_put_same
  have gn := g.nx
  simp (disch := omega) only [f29_rs, Option.some.injEq, exists_eq_left', Nat.reduceEqDiff, ↓reduceIte, st, rd, bz]
  exact ⟨⟨o, u, by omega, by omega, by omega, rfl⟩, (GB.trans (g.low GB.nx)).trans (Grow.put (by omega) (by omega) _)⟩
structure CallsVa (fs : T EF) : Prop extends CallsV fs, CSm fs where
  c60 : fs.get (K.ofNat 60) = some f60
  c61 : fs.get (K.ofNat 61) = some f61
  c62 : fs.get (K.ofNat 62) = some f62
noncomputable def vaV (L : List Int) (a b : Int) : V := if ptB a b 64 = true then .tup [.agg (frL (vQ L (Rat.divInt a b) L.length)), .i .i64 0] else .tup [.agg [.i .i64 0, .i .i64 0], .i .i64 1]
theorem pl_get {L : List Int} (h : plB L = true) (i : Nat) : (L.getD i 0).natAbs ≤ 100 := by
  have := sm_get (plB_len h).2.2 i
  omega
theorem f18_ret (k : CallsVa fs) (hL : plB L = true) (hv : Sr iE h v L) (hc : HC h) : Ret fs f18 [v, .agg [.i .i64 a, .i .i64 b]] h fun r h' => r = vaV L a b ∧ Grow h.nx.nat h h' := by
  obtain ⟨l1, l7, ls⟩ := plB_len hL
  apply ret_of rfl
  show W fs none f18_c _ _ _
  unfold f18_c
  have ca : ckI L = 0 := by unfold ckI; rw [if_pos hL]
  have q0 : decide ((0 : Int) ≠ 0) = false := rfl
  have gA := Grow.new (Nat.le_refl h.nx.nat) (.cells 2 [.i .i64 a, .i .i64 b])
  have n1 := nx_new h (.cells 2 [.i .i64 a, .i .i64 b])
  have b1 : (h.new (.cells 2 [.i .i64 a, .i .i64 b])).get h.nx = .cells 2 [.i .i64 a, .i .i64 b] := get_new_same
  simp (disch := omega) only [f18_r0, ↓reduceIte, bz]
  generalize h.new (.cells 2 [.i .i64 a, .i .i64 b]) = hA at *
  have gB := Grow.new (Nat.le_refl hA.nx.nat) (.cells 2 [.i .i64 0, .i .i64 0])
  have n2 := nx_new hA (.cells 2 [.i .i64 0, .i .i64 0])
  have c1 : (hA.new (.cells 2 [.i .i64 0, .i .i64 0])).get h.nx = .cells 2 [.i .i64 a, .i .i64 b] := (get_new_old (by omega)).trans b1
  have c2 : (hA.new (.cells 2 [.i .i64 0, .i .i64 0])).get hA.nx = .cells 2 [.i .i64 0, .i .i64 0] := get_new_same
  have GB := gA.trans (gB.low gA.nx)
  have hi2 : h.nx.nat < hA.nx.nat := by omega
  generalize hA.nx = i2 at *
  generalize hA.new (.cells 2 [.i .i64 0, .i .i64 0]) = hB at *
  have hcB := GB.hc hc
  have eA := fun P => f14_eq k.toCSm (hv.grow hc GB) (by omega) (P := P)
  rw [ca] at eA
  have m1 := load2 c1
  simp (disch := omega) only [f18_r1, f18_r2, f18_r4, of64, Nat.reduceEqDiff, ↓reduceIte, Bool.false_eq_true, eA, q0, m1, bz]
  refine (callP_0 (ef := f60) k.c60 rfl (f60_ret k.c89 k.c104 (by omega))).mono ?_
  rintro r h3 ⟨rfl, g3⟩
  have hc3 := g3.hc hcB
  have d2 := (g3.old i2 (by omega)).trans c2
  have G3 := GB.trans (g3.low GB.nx)
  have n3 := g3.nx
  unfold shV vaV
  cases hp : ptB a b 64 with
  | false =>
    have e1 : storeV (h3.new (.cells 2 [.i .i64 0, .i .i64 0])) 2 (.p h3.nx 0) (.agg [.i .i64 0, .i .i64 0]) = .ok undefV ((h3.new (.cells 2 [.i .i64 0, .i .i64 0])).put h3.nx (.cells 2 [.i .i64 0, .i .i64 0])) := store2 get_new_same
    have gN := (Grow.new (Nat.le_refl h3.nx.nat) (.cells 2 [.i .i64 0, .i .i64 0])).trans (Grow.put (b := h3.nx.nat) (h := h3.new (.cells 2 [.i .i64 0, .i .i64 0])) (k := h3.nx) (Nat.le_refl _) (by rw [nx_new]; omega) (.cells 2 [.i .i64 0, .i .i64 0]))
    have d3 : ((h3.new (.cells 2 [.i .i64 0, .i .i64 0])).put h3.nx (.cells 2 [.i .i64 0, .i .i64 0])).get i2 = .cells 2 [.i .i64 0, .i .i64 0] := (gN.old i2 (by omega)).trans d2
    have st := store2 (x := .i .i64 0) (y := .i .i64 0) d3
    have rd := read2 (h := ((h3.new (.cells 2 [.i .i64 0, .i .i64 0])).put h3.nx (.cells 2 [.i .i64 0, .i .i64 0])).put i2 (.cells 2 [.i .i64 0, .i .i64 0])) (id := i2) get_put_same
    have n4 := gN.nx
    simp (disch := omega) only [f18_r5, f18_r6, f18_rs, Option.some.injEq, exists_eq_left', Nat.reduceEqDiff, ↓reduceIte, Bool.false_eq_true, Bool.not_false, Bool.false_eq_true, e1, st, rd, bz]
    exact (G3.trans (gN.low G3.nx)).trans (Grow.put (by omega) (by omega) _)
  | true =>
    obtain ⟨x1, x2, x3, x4, xg⟩ := ptB_iff.1 hp
    obtain ⟨o, rfl⟩ : ∃ o : Nat, a = (o : Int) := ⟨a.toNat, by omega⟩
    obtain ⟨u, rfl⟩ : ∃ u : Nat, b = (u : Int) := ⟨b.toNat, by omega⟩
    have e1 : storeV (h3.new (.cells 2 [.i .i64 0, .i .i64 0])) 2 (.p h3.nx 0) (.agg [.i .i64 (o : Int), .i .i64 (u : Int)]) = .ok undefV ((h3.new (.cells 2 [.i .i64 0, .i .i64 0])).put h3.nx (.cells 2 [.i .i64 (o : Int), .i .i64 (u : Int)])) := store2 get_new_same
    have gN := (Grow.new (Nat.le_refl h3.nx.nat) (.cells 2 [.i .i64 0, .i .i64 0])).trans (Grow.put (b := h3.nx.nat) (h := h3.new (.cells 2 [.i .i64 0, .i .i64 0])) (k := h3.nx) (Nat.le_refl _) (by rw [nx_new]; omega) (.cells 2 [.i .i64 (o : Int), .i .i64 (u : Int)]))
    have d3 : ((h3.new (.cells 2 [.i .i64 0, .i .i64 0])).put h3.nx (.cells 2 [.i .i64 (o : Int), .i .i64 (u : Int)])).get i2 = .cells 2 [.i .i64 0, .i .i64 0] := (gN.old i2 (by omega)).trans d2
    have m5 := load2 (h := (h3.new (.cells 2 [.i .i64 0, .i .i64 0])).put h3.nx (.cells 2 [.i .i64 (o : Int), .i .i64 (u : Int)])) (id := h3.nx) get_put_same
    have n4 := gN.nx
    have G4 := G3.trans (gN.low G3.nx)
    have hc4 := G4.hc hc
    have l2 := hc4.cells d3
    simp (disch := omega) only [f18_r5, f18_r7, Nat.reduceEqDiff, ↓reduceIte, Bool.false_eq_true, Bool.not_true, e1, m5, bz]
    refine (callP_0 (ef := f61) k.c61 rfl (f61_ret k.toCallsV l7 (pl_get hL) (by omega) (by omega) (by omega) (hv.grow hc G4) hc4)).mono ?_
    rintro r h5 ⟨rfl, g5⟩
    unfold frL
    simp (disch := omega) only [↓reduceIte, bz]
    refine (callP_0 (ef := f62) k.c62 rfl f62_ret).mono ?_
    rintro r h6 ⟨rfl, g6⟩
    have n5 := g5.nx
    have n6 := g6.nx
    have d6 := (g6.old i2 (by omega)).trans ((g5.old i2 l2).trans d3)
    have st := store2 (x := .i .i64 (vQ L (Rat.divInt (o : Int) (u : Int)) L.length).num) (y := .i .i64 ((vQ L (Rat.divInt (o : Int) (u : Int)) L.length).den : Int)) d6
    have rd := read2 (h := h6.put i2 (.cells 2 [.i .i64 (vQ L (Rat.divInt (o : Int) (u : Int)) L.length).num, .i .i64 ((vQ L (Rat.divInt (o : Int) (u : Int)) L.length).den : Int)])) (id := i2) get_put_same
    simp (disch := omega) only [f18_rs, Option.some.injEq, exists_eq_left', Nat.reduceEqDiff, ↓reduceIte, st, rd, bz]
    exact ((G4.trans (g5.low G4.nx)).trans (g6.low (by have := G4.nx; omega))).trans (Grow.put (by omega) (by omega) _)
end
end Go.Ev
namespace Go.Ev
open Go Go.RowKit
noncomputable def f76_r0 : List EOper := [oG 4 (.as (cG 0))]
noncomputable def f76_r1 : List EOper := [oG 5 (.as (cG 1))]
noncomputable def f76_r2 : List EOper := [oG 6 (.as (cG 1))]
noncomputable def f76_r3 : List EOper := [oG 7 (.mv (tG 6)), oG 8 (.mv (tG 1)), oG 9 (.bin .leq (tG 7) (tG 8))]
noncomputable def f76_r4 : List EOper := [oG 12 (.mv (tG 5)), oG 13 (.mv (tG 0)), oG 14 (.mv (tG 6)), oG 15 (.bin .sub (tG 13) (tG 14)), oG 16 (.bin .add (tG 15) (cG 1)), oG 17 (.bin .mul (tG 12) (tG 16)), oG 18 (.mv (tG 6)), oG 19 (.bin .quo (tG 17) (tG 18)), oG 5 (.as (tG 19))]
noncomputable def f76_r5 : List EOper := [oG 10 (.mv (tG 6)), oG 11 (.bin .add (tG 10) (cG 1)), oG 6 (.as (tG 11))]
noncomputable def f76_l0 : EC := (.seq (.seq (.reg f76_r3) (.cond (tG 9) .skip (.exit 0))) (.seq (.block 1 (.reg f76_r4)) (.reg f76_r5)))
noncomputable def f76_r6 : List EOper := [oG 20 (.mv (tG 5)), oG 4 (.as (tG 20))]
noncomputable def f76_c : EC := (.seq (.reg f76_r0) (.seq (.reg f76_r1) (.seq (.seq (.reg f76_r2) (.block 0 (.loop f76_l0))) (.seq (.reg f76_r6) .ret))))
noncomputable def f76 : EF := ⟨21, [.tmp (.ofNat 4)], f76_c, none⟩
theorem f76_rs : f76.rs = [.tmp (.ofNat 4)] := of_eq_true (eq_self _)
noncomputable def f100_r0 : List EOper := [oG 4 (.as (cG 0))]
noncomputable def f100_r1 : List EOper := [oG 5 (.as (cG 1))]
noncomputable def f100_r2 : List EOper := [oG 7 (.mv (tG 1)), oG 8 (.mv (cG 0))]
noncomputable def f100_r3 : List EOper := [oG 9 (.bin .lss (tG 8) (tG 7))]
noncomputable def f100_r4 : List EOper := [oG 10 (.mv (tG 8)), oG 6 (.as (tG 10))]
noncomputable def f100_r5 : List EOper := [oG 11 (.mv (tG 5)), oG 12 (.mv (tG 0)), oG 13 (.mv (tG 6)), oG 14 (.bin .sub (tG 12) (tG 13)), oG 15 (.bin .mul (tG 11) (tG 14)), oG 16 (.mv (tG 6)), oG 17 (.bin .add (tG 16) (cG 1)), oG 18 (.bin .quo (tG 15) (tG 17)), oG 5 (.as (tG 18))]
noncomputable def f100_r6 : List EOper := [oG 19 (.bin .add (tG 8) (cG 1)), oG 8 (.mv (tG 19))]
noncomputable def f100_l0 : EC := (.seq (.reg f100_r3) (.seq (.cond (tG 9) .skip (.exit 0)) (.seq (.block 1 (.seq (.reg f100_r4) (.reg f100_r5))) (.reg f100_r6))))
noncomputable def f100_r7 : List EOper := [oG 20 (.mv (tG 5)), oG 4 (.as (tG 20))]
noncomputable def f100_c : EC := (.seq (.reg f100_r0) (.seq (.reg f100_r1) (.seq (.seq (.reg f100_r2) (.block 0 (.loop f100_l0))) (.seq (.reg f100_r7) .ret))))
noncomputable def f100 : EF := ⟨21, [.tmp (.ofNat 4)], f100_c, none⟩
theorem f100_rs : f100.rs = [.tmp (.ofNat 4)] := of_eq_true (eq_self _)
noncomputable def f30_r0 : List EOper := [oG 2 (.as (.c .sn))]
noncomputable def f30_r1 : List EOper := [oG 6 (.mv (tG 0)), oG 7 (.len (tG 6)), oG 8 (.mkslice 1 [(.i .i64 (.ofNat 0))] (tG 7)), oG 3 (.as (tG 8))]
noncomputable def f30_r2 : List EOper := [oG 4 (.as (cG 0))]
noncomputable def f30_r3 : List EOper := [oG 9 (.mv (tG 4)), oG 10 (.mv (tG 0)), oG 11 (.len (tG 10)), oG 12 (.bin .lss (tG 9) (tG 11))]
noncomputable def f30_r4 : List EOper := [oG 5 (.as (cG 0))]
noncomputable def f30_r5 : List EOper := [oG 15 (.mv (tG 5)), oG 16 (.mv (tG 4)), oG 17 (.bin .leq (tG 15) (tG 16))]
noncomputable def f30_r6 : List Stage := [⟨[oG 20 (.mv (tG 3)), oG 21 (.mv (tG 5)), oG 22 (.mv (tG 3)), oG 23 (.mv (tG 5)), oG 24 (.iads 1 (tG 22) (tG 23)), oG 25 (.ld (tG 24)), oG 26 (.mv (tG 0)), oG 27 (.mv (tG 4)), oG 28 (.iads 1 (tG 26) (tG 27)), oG 29 (.ld (tG 28)), oG 30 (.mv (tG 4)), oG 31 (.mv (tG 5)), oG 34 (.mv (tG 5)), oG 35 (.bin .rem (tG 34) (cG 2)), oG 36 (.bin .mul (cG 2) (tG 35)), oG 37 (.bin .sub (cG 1) (tG 36))], [], (some (oG 32 (.call (fG 76) [(tG 30), (tG 31)]))), []⟩, ⟨[oG 33 (.bin .mul (tG 29) (tG 32)), oG 38 (.bin .mul (tG 33) (tG 37)), oG 39 (.bin .add (tG 25) (tG 38)), oG 40 (.iads 1 (tG 20) (tG 21))], [oG 20 (.mv (tG 3)), oG 21 (.mv (tG 5)), oG 22 (.mv (tG 3)), oG 23 (.mv (tG 5)), oG 24 (.iads 1 (tG 22) (tG 23)), oG 25 (.ld (tG 24)), oG 26 (.mv (tG 0)), oG 27 (.mv (tG 4)), oG 28 (.iads 1 (tG 26) (tG 27)), oG 29 (.ld (tG 28)), oG 34 (.mv (tG 5)), oG 35 (.bin .rem (tG 34) (cG 2)), oG 36 (.bin .mul (cG 2) (tG 35)), oG 37 (.bin .sub (cG 1) (tG 36))], (some ⟨none, none, .st 1 (tG 40) (tG 39)⟩), []⟩, ⟨[], [], none, []⟩]
noncomputable def f30_r7 : List EOper := [oG 18 (.mv (tG 5)), oG 19 (.bin .add (tG 18) (cG 1)), oG 5 (.as (tG 19))]
noncomputable def f30_l0 : EC := (.seq (.seq (.reg f30_r5) (.cond (tG 17) .skip (.exit 2))) (.seq (.block 3 (.draw f30_r6)) (.reg f30_r7)))
noncomputable def f30_r8 : List EOper := [oG 13 (.mv (tG 4)), oG 14 (.bin .add (tG 13) (cG 1)), oG 4 (.as (tG 14))]
noncomputable def f30_l1 : EC := (.seq (.seq (.reg f30_r3) (.cond (tG 12) .skip (.exit 0))) (.seq (.block 1 (.seq (.reg f30_r4) (.block 2 (.loop f30_l0)))) (.reg f30_r8)))
noncomputable def f30_r9 : List EOper := [oG 41 (.mv (tG 3)), oG 2 (.as (tG 41))]
noncomputable def f30_c : EC := (.seq (.reg f30_r0) (.seq (.reg f30_r1) (.seq (.seq (.reg f30_r2) (.block 0 (.loop f30_l1))) (.seq (.reg f30_r9) .ret))))
noncomputable def f30 : EF := ⟨42, [.tmp (.ofNat 2)], f30_c, none⟩
theorem f30_rs : f30.rs = [.tmp (.ofNat 2)] := of_eq_true (eq_self _)
noncomputable def f71_r0 : List EOper := [oG 2 (.as (.c .sn))]
noncomputable def f71_r1 : List EOper := [oG 8 (.mv (tG 0)), oG 9 (.len (tG 8)), oG 10 (.mkslice 1 [(.i .i64 (.ofNat 0))] (tG 9)), oG 3 (.as (tG 10))]
noncomputable def f71_r2 : List EOper := [oG 11 (.mv (tG 0)), oG 12 (.len (tG 11)), oG 13 (.mv (cG 0))]
noncomputable def f71_r3 : List EOper := [oG 14 (.bin .lss (tG 13) (tG 12))]
noncomputable def f71_r4 : List EOper := [oG 15 (.mv (tG 13)), oG 16 (.iads 1 (tG 11) (tG 13)), oG 17 (.ld (tG 16)), oG 4 (.as (tG 15)), oG 5 (.as (tG 17))]
noncomputable def f71_r5 : List EOper := [oG 18 (.mv (tG 4)), oG 19 (.bin .add (tG 18) (cG 1)), oG 20 (.mv (cG 0))]
noncomputable def f71_r6 : List EOper := [oG 21 (.bin .lss (tG 20) (tG 19))]
noncomputable def f71_r7 : List EOper := [oG 22 (.mv (tG 20)), oG 6 (.as (tG 22))]
noncomputable def f71_r8 : List EOper := [oG 23 (.mv (tG 6)), oG 24 (.bin .rem (tG 23) (cG 2)), oG 25 (.bin .mul (cG 2) (tG 24)), oG 26 (.bin .sub (cG 1) (tG 25)), oG 7 (.as (tG 26))]
noncomputable def f71_r9 : List Stage := [⟨[oG 27 (.mv (tG 3)), oG 28 (.mv (tG 6)), oG 29 (.iads 1 (tG 27) (tG 28)), oG 30 (.ld (tG 29)), oG 31 (.mv (tG 7)), oG 32 (.mv (tG 4)), oG 33 (.mv (tG 6)), oG 36 (.mv (tG 5))], [], (some (oG 34 (.call (fG 100) [(tG 32), (tG 33)]))), []⟩, ⟨[oG 35 (.bin .mul (tG 31) (tG 34)), oG 37 (.bin .mul (tG 35) (tG 36)), oG 38 (.bin .add (tG 30) (tG 37)), oG 39 (.iads 1 (tG 27) (tG 28))], [oG 27 (.mv (tG 3)), oG 28 (.mv (tG 6)), oG 29 (.iads 1 (tG 27) (tG 28)), oG 30 (.ld (tG 29)), oG 31 (.mv (tG 7)), oG 36 (.mv (tG 5))], (some ⟨none, none, .st 1 (tG 39) (tG 38)⟩), []⟩, ⟨[], [], none, []⟩]
noncomputable def f71_r10 : List EOper := [oG 40 (.bin .add (tG 20) (cG 1)), oG 20 (.mv (tG 40))]
noncomputable def f71_l0 : EC := (.seq (.reg f71_r6) (.seq (.cond (tG 21) .skip (.exit 2)) (.seq (.block 3 (.seq (.reg f71_r7) (.seq (.reg f71_r8) (.draw f71_r9)))) (.reg f71_r10))))
noncomputable def f71_r11 : List EOper := [oG 41 (.bin .add (tG 13) (cG 1)), oG 13 (.mv (tG 41))]
noncomputable def f71_l1 : EC := (.seq (.reg f71_r3) (.seq (.cond (tG 14) .skip (.exit 0)) (.seq (.block 1 (.seq (.reg f71_r4) (.seq (.reg f71_r5) (.block 2 (.loop f71_l0))))) (.reg f71_r11))))
noncomputable def f71_r12 : List EOper := [oG 42 (.mv (tG 3)), oG 2 (.as (tG 42))]
noncomputable def f71_c : EC := (.seq (.reg f71_r0) (.seq (.reg f71_r1) (.seq (.seq (.reg f71_r2) (.block 0 (.loop f71_l1))) (.seq (.reg f71_r12) .ret))))
noncomputable def f71 : EF := ⟨43, [.tmp (.ofNat 2)], f71_c, none⟩
theorem f71_rs : f71.rs = [.tmp (.ofNat 2)] := of_eq_true (eq_self _)
noncomputable def f31_r0 : List EOper := [oG 2 (.as (.c .sn))]
noncomputable def f31_r1 : List EOper := [oG 5 (.mv (tG 0)), oG 6 (.len (tG 5)), oG 7 (.bin .eql (tG 6) (cG 1))]
noncomputable def f31_r2 : List EOper := [oG 8 (.bslice 1 1 [(.i .i64 (.ofNat 0))] [(0, 1, (cG 0))]), oG 2 (.as (tG 8))]
noncomputable def f31_r3 : List EOper := [oG 3 (.as (.c .sn))]
noncomputable def f31_r4 : List EOper := [oG 4 (.as (cG 1))]
noncomputable def f31_r5 : List EOper := [oG 9 (.mv (tG 4)), oG 10 (.mv (tG 0)), oG 11 (.len (tG 10)), oG 12 (.bin .lss (tG 9) (tG 11))]
noncomputable def f31_r6 : List EOper := [oG 15 (.mv (tG 3)), oG 16 (.mv (tG 4)), oG 17 (.mv (tG 0)), oG 18 (.mv (tG 4)), oG 19 (.iads 1 (tG 17) (tG 18)), oG 20 (.ld (tG 19)), oG 21 (.bin .mul (tG 16) (tG 20)), oG 22 (.bslice 1 1 [(.i .i64 (.ofNat 0))] [(0, 1, (tG 21))]), oG 23 (.app 1 (tG 15) (tG 22)), oG 3 (.as (tG 23))]
noncomputable def f31_r7 : List EOper := [oG 13 (.mv (tG 4)), oG 14 (.bin .add (tG 13) (cG 1)), oG 4 (.as (tG 14))]
noncomputable def f31_l0 : EC := (.seq (.seq (.reg f31_r5) (.cond (tG 12) .skip (.exit 0))) (.seq (.block 1 (.reg f31_r6)) (.reg f31_r7)))
noncomputable def f31_r8 : List EOper := [oG 24 (.mv (tG 3)), oG 2 (.as (tG 24))]
noncomputable def f31_c : EC := (.seq (.reg f31_r0) (.seq (.seq (.reg f31_r1) (.cond (tG 7) (.seq (.reg f31_r2) .ret) .skip)) (.seq (.reg f31_r3) (.seq (.seq (.reg f31_r4) (.block 0 (.loop f31_l0))) (.seq (.reg f31_r8) .ret)))))
noncomputable def f31 : EF := ⟨25, [.tmp (.ofNat 2)], f31_c, none⟩
theorem f31_rs : f31.rs = [.tmp (.ofNat 2)] := of_eq_true (eq_self _)
noncomputable def f72_r0 : List EOper := [oG 2 (.as (.c .sn))]
noncomputable def f72_r1 : List EOper := [oG 5 (.mv (tG 0)), oG 6 (.len (tG 5)), oG 7 (.bin .eql (tG 6) (cG 1))]
noncomputable def f72_r2 : List EOper := [oG 8 (.bslice 1 1 [(.i .i64 (.ofNat 0))] [(0, 1, (cG 0))]), oG 2 (.as (tG 8))]
noncomputable def f72_r3 : List EOper := [oG 9 (.mv (tG 0)), oG 10 (.len (tG 9)), oG 11 (.bin .sub (tG 10) (cG 1)), oG 12 (.mkslice 1 [(.i .i64 (.ofNat 0))] (tG 11)), oG 3 (.as (tG 12))]
noncomputable def f72_r4 : List EOper := [oG 13 (.mv (tG 3)), oG 14 (.len (tG 13)), oG 15 (.mv (cG 0))]
noncomputable def f72_r5 : List EOper := [oG 16 (.bin .lss (tG 15) (tG 14))]
noncomputable def f72_r6 : List EOper := [oG 17 (.mv (tG 15)), oG 4 (.as (tG 17))]
noncomputable def f72_r7 : List EOper := [oG 18 (.mv (tG 3)), oG 19 (.mv (tG 4)), oG 20 (.mv (tG 4)), oG 21 (.bin .add (tG 20) (cG 1)), oG 22 (.mv (tG 0)), oG 23 (.mv (tG 4)), oG 24 (.bin .add (tG 23) (cG 1)), oG 25 (.iads 1 (tG 22) (tG 24)), oG 26 (.ld (tG 25)), oG 27 (.bin .mul (tG 21) (tG 26)), oG 28 (.iads 1 (tG 18) (tG 19)), ⟨none, none, .st 1 (tG 28) (tG 27)⟩]
noncomputable def f72_r8 : List EOper := [oG 29 (.bin .add (tG 15) (cG 1)), oG 15 (.mv (tG 29))]
noncomputable def f72_l0 : EC := (.seq (.reg f72_r5) (.seq (.cond (tG 16) .skip (.exit 0)) (.seq (.block 1 (.seq (.reg f72_r6) (.reg f72_r7))) (.reg f72_r8))))
noncomputable def f72_r9 : List EOper := [oG 30 (.mv (tG 3)), oG 2 (.as (tG 30))]
noncomputable def f72_c : EC := (.seq (.reg f72_r0) (.seq (.seq (.reg f72_r1) (.cond (tG 7) (.seq (.reg f72_r2) .ret) .skip)) (.seq (.reg f72_r3) (.seq (.seq (.reg f72_r4) (.block 0 (.loop f72_l0))) (.seq (.reg f72_r9) .ret)))))
noncomputable def f72 : EF := ⟨31, [.tmp (.ofNat 2)], f72_c, none⟩
theorem f72_rs : f72.rs = [.tmp (.ofNat 2)] := of_eq_true (eq_self _)
section
variable {fs : T EF} {h : H} {v w : V} {L M : List Int} {n k : Nat}
theorem ch_div {n i : Nat} (hn : n ≤ 6) (hi : i < n) : fw .i64 ((fw .i64 ((chR n i : Int) * ((n : Int) - (i : Int)))).tdiv ((i : Int) + 1)) = (chR n (i + 1) : Int) := by
  have b := (ch_le ⟨n, by omega⟩ ⟨i, by omega⟩).1
  have c := (ch_le ⟨n, by omega⟩ ⟨i + 1, by omega⟩).2
  have b : chR n i * (n - i) ≤ 140 := b
  have c : chR n (i + 1) ≤ 35 := c
  have e1 : (chR n i : Int) * ((n : Int) - (i : Int)) = ((chR n i * (n - i) : Nat) : Int) := by rw [Int.natCast_mul, show ((n : Int) - (i : Int)) = ((n - i : Nat) : Int) by omega]
  have e2 : ((chR n i * (n - i) : Nat) : Int).tdiv ((i : Int) + 1) = ((chR n (i + 1) : Nat) : Int) := by
    rw [Int.tdiv_eq_ediv_of_nonneg (by omega)]
    show _ = ((chR n i * (n - i) / (i + 1) : Nat) : Int)
    rw [Int.natCast_ediv]; rfl
  rw [e1, fw64 (a := ((chR n i * (n - i) : Nat) : Int)) (by omega) (by omega), e2]
  exact fw64 (by omega) (by omega)
def f100_I (h0 : H) (n k i : Nat) (fr : Fr) (h1 : H) : Prop := i ≤ k ∧ h1 = h0 ∧ fr.get (K.ofNat 0) = some (.i .i64 (n : Int)) ∧ fr.get (K.ofNat 5) = some (.i .i64 (chR n i : Int)) ∧ fr.get (K.ofNat 7) = some (.i .i64 (k : Int)) ∧ fr.get (K.ofNat 8) = some (.i .i64 (i : Int))
theorem f100_ret (hn : n ≤ 6) (hk : k ≤ n) : Ret fs f100 [.i .i64 (n : Int), .i .i64 (k : Int)] h fun r h' => r = .i .i64 (chR n k : Int) ∧ h' = h := by
  apply ret_of rfl
  show W fs none f100_c _ _ _
  unfold f100_c
  have hr : ((chR n 0 : Nat) : Int) = 1 := rfl
  simp (disch := omega) only [f100_r0, f100_r1, f100_r2, Nat.reduceEqDiff, ↓reduceIte, bz]
  refine W_loop (f100_I h n k) (fun i => k - i) ?_ 0 ⟨by omega, rfl, by simp (disch := omega) only [getK_set, Nat.reduceEqDiff, ↓reduceIte, and_self, Int.natCast_zero, hr]⟩
  rintro i fr h1 ⟨hi, rfl, g0, g5, g7, g8⟩
  unfold f100_l0
  by_cases hlt : i < k
  · have d1 : decide ((i : Int) < (k : Int)) = true := decide_eq_true (by omega)
    have e4 : fw .i64 ((i : Int) + 1) = (i : Int) + 1 := fw64 (by omega) (by omega)
    have en : fw .i64 ((n : Int) - (i : Int)) = (n : Int) - (i : Int) := fw64 (by omega) (by omega)
    have d0 : decide ((i : Int) + 1 = 0) = false := decide_eq_false (by omega)
    have ed := ch_div hn (show i < n by omega)
    simp (disch := omega) only [f100_r3, f100_r4, f100_r5, f100_r6, Nat.reduceEqDiff, ↓reduceIte, g0, g5, g7, g8, d1, e4, en, ed, bz]
    exact ⟨i + 1, by omega, by omega, rfl, by simp (disch := omega) only [getK_set, Nat.reduceEqDiff, ↓reduceIte, g0, g7, and_self, Int.natCast_add, Int.natCast_one]⟩
  · have d1 : decide ((i : Int) < (k : Int)) = false := decide_eq_false (by omega)
    obtain rfl : i = k := by omega
    simp (disch := omega) only [f100_r3, f100_r7, f100_rs, Option.some.injEq, exists_eq_left', Nat.reduceEqDiff, ↓reduceIte, Bool.false_eq_true, g5, g7, g8, d1, and_self, bz]
theorem f100_eq (k100 : fs.get (.ofNat 100) = some f100) (hn : n ≤ 6) (hk : k ≤ n) {P : V → H → Prop} : CallP fs (.fn (.ofNat 100) []) [.i .i64 (n : Int), .i .i64 (k : Int)] h P = P (.i .i64 (chR n k : Int)) h := callP_eq2 (callP_0 k100 rfl (f100_ret hn hk))
def f76_I (h0 : H) (n k i : Nat) (fr : Fr) (h1 : H) : Prop := i ≤ k ∧ h1 = h0 ∧ fr.get (K.ofNat 0) = some (.i .i64 (n : Int)) ∧ fr.get (K.ofNat 1) = some (.i .i64 (k : Int)) ∧ fr.get (K.ofNat 5) = some (.i .i64 (chR n i : Int)) ∧ fr.get (K.ofNat 6) = some (.i .i64 ((i : Int) + 1))
theorem f76_ret (hn : n ≤ 6) (hk : k ≤ n) : Ret fs f76 [.i .i64 (n : Int), .i .i64 (k : Int)] h fun r h' => r = .i .i64 (chR n k : Int) ∧ h' = h := by
  apply ret_of rfl
  show W fs none f76_c _ _ _
  unfold f76_c
  have hr : ((chR n 0 : Nat) : Int) = 1 := rfl
  simp (disch := omega) only [f76_r0, f76_r1, f76_r2, bz]
  refine W_loop (f76_I h n k) (fun i => k - i) ?_ 0 ⟨by omega, rfl, by simp (disch := omega) only [getK_set, Nat.reduceEqDiff, ↓reduceIte, and_self, Int.natCast_zero, Int.zero_add, hr]⟩
  rintro i fr h1 ⟨hi, rfl, g0, g1, g5, g6⟩
  unfold f76_l0
  by_cases hlt : i < k
  · have d1 : decide ((i : Int) + 1 ≤ (k : Int)) = true := decide_eq_true (by omega)
    have e4 : fw .i64 ((i : Int) + 1 + 1) = (i : Int) + 1 + 1 := fw64 (by omega) (by omega)
    have en : fw .i64 (fw .i64 ((n : Int) - ((i : Int) + 1)) + 1) = (n : Int) - (i : Int) := by rw [fw64 (a := (n : Int) - ((i : Int) + 1)) (by omega) (by omega), fw64 (by omega) (by omega)]; omega
    have d0 : decide ((i : Int) + 1 = 0) = false := decide_eq_false (by omega)
    have ed := ch_div hn (show i < n by omega)
    simp (disch := omega) only [f76_r3, f76_r4, f76_r5, Nat.reduceEqDiff, ↓reduceIte, g0, g1, g5, g6, d1, e4, en, ed, bz]
    exact ⟨i + 1, by omega, by omega, rfl, by simp (disch := omega) only [getK_set, Nat.reduceEqDiff, ↓reduceIte, g0, g1, and_self, Int.natCast_add, Int.natCast_one]⟩
  · have d1 : decide ((i : Int) + 1 ≤ (k : Int)) = false := decide_eq_false (by omega)
    obtain rfl : i = k := by omega
    simp (disch := omega) only [f76_r3, f76_r6, f76_rs, Option.some.injEq, exists_eq_left', Nat.reduceEqDiff, ↓reduceIte, Bool.false_eq_true, g1, g5, g6, d1, and_self, bz]
theorem f76_eq (k76 : fs.get (.ofNat 76) = some f76) (hn : n ≤ 6) (hk : k ≤ n) {P : V → H → Prop} : CallP fs (.fn (.ofNat 76) []) [.i .i64 (n : Int), .i .i64 (k : Int)] h P = P (.i .i64 (chR n k : Int)) h := callP_eq2 (callP_0 k76 rfl (f76_ret hn hk))
def tmM (L : List Int) (i k : Nat) : Int := (1 - 2 * ((k : Int) % 2)) * (chR i k : Int) * L.getD i 0
def mIn (L : List Int) (i : Nat) (M : List Int) : Nat → List Int
  | 0 => M
  | k + 1 => (mIn L i M k).set k (fw .i64 ((mIn L i M k).getD k 0 + tmM L i k))
def mOut (L : List Int) (n : Nat) : Nat → List Int
  | 0 => List.replicate n 0
  | i + 1 => mIn L i (mOut L n i) (i + 1)
theorem mIn_len {i : Nat} : ∀ k, (mIn L i M k).length = M.length
  | 0 => rfl
  | k + 1 => by show ((mIn L i M k).set k _).length = _; rw [List.length_set]; exact mIn_len k
theorem mOut_len : ∀ i, (mOut L n i).length = n
  | 0 => by simp [mOut]
  | i + 1 => by show (mIn L i _ _).length = _; rw [mIn_len]; exact mOut_len i
theorem tm_wr (hL : ∀ i, (L.getD i 0).natAbs ≤ 100) {i k : Nat} (hi : i ≤ 6) (hk : k ≤ i) :
    fw .i64 (1 - fw .i64 (2 * (k : Int).tmod 2)) = 1 - 2 * ((k : Int) % 2) ∧ fw .i64 ((1 - 2 * ((k : Int) % 2)) * (chR i k : Int)) = (1 - 2 * ((k : Int) % 2)) * (chR i k : Int) ∧ fw .i64 ((1 - 2 * ((k : Int) % 2)) * (chR i k : Int) * L.getD i 0) = tmM L i k ∧ fw .i64 (L.getD i 0 * (chR i k : Int)) = L.getD i 0 * (chR i k : Int) ∧ fw .i64 (L.getD i 0 * (chR i k : Int) * (1 - 2 * ((k : Int) % 2))) = tmM L i k := by
  have c : chR i k ≤ 35 := (ch_le ⟨i, by omega⟩ ⟨k, by omega⟩).2
  have hs : 1 - 2 * ((k : Int) % 2) = 1 ∨ 1 - 2 * ((k : Int) % 2) = -1 := by omega
  have et : (k : Int).tmod 2 = (k : Int) % 2 := Int.tmod_eq_emod_of_nonneg (by omega)
  have b := nm (hL i) (show (chR i k : Int).natAbs ≤ 35 by omega)
  have e : L.getD i 0 * (chR i k : Int) * (1 - 2 * ((k : Int) % 2)) = tmM L i k := by unfold tmM; rw [Int.mul_comm (L.getD i 0), Int.mul_comm _ (1 - 2 * ((k : Int) % 2)), Int.mul_assoc]
  have bt : (tmM L i k).natAbs ≤ 3500 := by
    rw [← e]
    have := nm b (show (1 - 2 * ((k : Int) % 2)).natAbs ≤ 1 by omega)
    omega
  refine ⟨by rw [et, fw64 (a := 2 * ((k : Int) % 2)) (by omega) (by omega)]; exact fw64 (by omega) (by omega), ?_, ?_, fw64 (by omega) (by omega), by rw [e]; exact fw64 (by omega) (by omega)⟩
  · rcases hs with hs | hs <;> rw [hs] <;> exact fw64 (by omega) (by omega)
  · exact fw64 (a := tmM L i k) (by omega) (by omega)
def slL (L : List Int) : List Int := if L.length = 1 then [0] else (List.range (L.length - 1)).map fun i => ((i + 1 : Nat) : Int) * L.getD (i + 1) 0
def f31_I (h0 : H) (v : V) (L : List Int) (j : Nat) (fr : Fr) (h1 : H) : Prop := j + 1 ≤ L.length ∧ Grow h0.nx.nat h0 h1 ∧ ∃ u, Sl iE h1 u ((List.range j).map fun i => ((i + 1 : Nat) : Int) * L.getD (i + 1) 0) ∧ Own h0.nx.nat u ∧ fr.get (K.ofNat 0) = some (v) ∧ fr.get (K.ofNat 3) = some (u) ∧ fr.get (K.ofNat 4) = some (.i .i64 ((j + 1 : Nat) : Int))
theorem f31_ret (h1 : 1 ≤ L.length) (h7 : L.length ≤ 7) (hL : ∀ i, (L.getD i 0).natAbs ≤ 100) (hv : Sr iE h v L) (hc : HC h) : Ret fs f31 [v] h fun r h' => Sl iE h' r (slL L) ∧ Own h.nx.nat r ∧ Grow h.nx.nat h h' := by
  apply ret_of rfl
  show W fs none f31_c _ _ _
  unfold f31_c
  have e1 := hv.len
  by_cases hone : L.length = 1
  · have d1 : decide ((L.length : Int) = 1) = true := decide_eq_true (by omega)
    have es : slL L = [0] := by unfold slL; rw [if_pos hone]
    have hl : Sl iE (h.new (.cells (1 * 1) [.i .i64 0])) (.sl h.nx 0 1 1) [0] := mks_sl (n := 1)
    simp (disch := omega) only [f31_r0, f31_r1, f31_r2, f31_rs, Option.some.injEq, exists_eq_left', Nat.reduceEqDiff, ↓reduceIte, e1, d1, bz]
    rw [es]
    exact ⟨hl, fun id off n sz e => by cases e; exact Nat.le_refl _, Grow.new (Nat.le_refl _) _⟩
  · have d1 : decide ((L.length : Int) = 1) = false := decide_eq_false (by omega)
    simp (disch := omega) only [f31_r0, f31_r1, f31_r3, f31_r4, Nat.reduceEqDiff, ↓reduceIte, Bool.false_eq_true, e1, d1, bz]
    refine W_loop (f31_I h v L) (fun j => L.length - j) ?_ 0 ⟨by omega, Grow.refl _ _, .sn, Sl.nil, Own.sn, by simp (disch := omega) only [getK_set, Nat.reduceEqDiff, ↓reduceIte, and_self, Nat.zero_add, Int.natCast_one]⟩
    rintro j fr h1 ⟨hj, G, u, su, ou, g0, g3, g4⟩
    have hc1 := G.hc hc
    have sv := hv.grow hc G
    have e1 := sv.len
    unfold f31_l0
    by_cases hlt : j + 1 < L.length
    · have d2 : decide (((j + 1 : Nat) : Int) < (L.length : Int)) = true := decide_eq_true (by omega)
      have e4 : fw .i64 (((j + 1 : Nat) : Int) + 1) = ((j + 1 + 1 : Nat) : Int) := by rw [fw64 (by omega) (by omega)]; rfl
      obtain ⟨p, p1, p2⟩ := sv.at (j + 1) hlt
      have eg : L[j + 1] = L.getD (j + 1) 0 := by rw [List.getD_eq_getElem?_getD, List.getElem?_eq_getElem (by omega)]; rfl
      have p2 : loadV h1 p one? = .ok (.i .i64 (L.getD (j + 1) 0)) h1 := by rw [← eg]; exact p2
      have b := nm (show ((j + 1 : Nat) : Int).natAbs ≤ 7 by omega) (hL (j + 1))
      have ew : fw .i64 (((j + 1 : Nat) : Int) * L.getD (j + 1) 0) = ((j + 1 : Nat) : Int) * L.getD (j + 1) 0 := fw64 (by omega) (by omega)
      obtain ⟨u', h2, a1, a2, a3, a4, _⟩ := Sl.push (e := iE) (x := ((j + 1 : Nat) : Int) * L.getD (j + 1) 0) (c := .i .i64 (((j + 1 : Nat) : Int) * L.getD (j + 1) 0)) rfl su ou G.nx hc1 (by simp; omega)
      rw [show ((List.range j).map fun i => ((i + 1 : Nat) : Int) * L.getD (i + 1) 0) ++ [((j + 1 : Nat) : Int) * L.getD (j + 1) 0] = (List.range (j + 1)).map fun i => ((i + 1 : Nat) : Int) * L.getD (i + 1) 0 by rw [List.range_succ, List.map_append]; rfl] at a2
      simp (disch := omega) only [f31_r5, f31_r6, f31_r7, x_app, Nat.reduceEqDiff, ↓reduceIte, g0, g3, g4, e1, d2, p1, p2, ew, a1, e4, bz]
      exact ⟨j + 1, by omega, by omega, G.trans a4, u', a2, a3, by simp (disch := omega) only [getK_set, Nat.reduceEqDiff, ↓reduceIte, g0, and_self]⟩
    · have d2 : decide (((j + 1 : Nat) : Int) < (L.length : Int)) = false := decide_eq_false (by omega)
      have es : slL L = (List.range j).map fun i => ((i + 1 : Nat) : Int) * L.getD (i + 1) 0 := by unfold slL; rw [if_neg hone, show L.length - 1 = j by omega]
      simp (disch := omega) only [f31_r5, f31_r8, f31_rs, Option.some.injEq, exists_eq_left', Nat.reduceEqDiff, ↓reduceIte, Bool.false_eq_true, g0, g3, g4, e1, d2, bz]
      rw [es]
      exact ⟨su, ou, G⟩
def f72_I (h0 : H) (v : V) (u : V) (L : List Int) (j : Nat) (fr : Fr) (h1 : H) : Prop := j + 1 ≤ L.length ∧ Grow h0.nx.nat h0 h1 ∧ Sl iE h1 u (((List.range j).map fun i => ((i + 1 : Nat) : Int) * L.getD (i + 1) 0) ++ List.replicate (L.length - 1 - j) 0) ∧ fr.get (K.ofNat 0) = some (v) ∧ fr.get (K.ofNat 3) = some (u) ∧ fr.get (K.ofNat 14) = some (.i .i64 ((L.length - 1 : Nat) : Int)) ∧ fr.get (K.ofNat 15) = some (.i .i64 (j : Int))
theorem f72_ret (h1 : 1 ≤ L.length) (h7 : L.length ≤ 7) (hL : ∀ i, (L.getD i 0).natAbs ≤ 100) (hv : Sr iE h v L) (hc : HC h) : Ret fs f72 [v] h fun r h' => Sl iE h' r (slL L) ∧ Own h.nx.nat r ∧ Grow h.nx.nat h h' := by
  apply ret_of rfl
  show W fs none f72_c _ _ _
  unfold f72_c
  have e1 := hv.len
  by_cases hone : L.length = 1
  · have d1 : decide ((L.length : Int) = 1) = true := decide_eq_true (by omega)
    have es : slL L = [0] := by unfold slL; rw [if_pos hone]
    have hl : Sl iE (h.new (.cells (1 * 1) [.i .i64 0])) (.sl h.nx 0 1 1) [0] := mks_sl (n := 1)
    simp (disch := omega) only [f72_r0, f72_r1, f72_r2, f72_rs, Option.some.injEq, exists_eq_left', Nat.reduceEqDiff, ↓reduceIte, e1, d1, bz]
    rw [es]
    exact ⟨hl, fun id off n sz e => by cases e; exact Nat.le_refl _, Grow.new (Nat.le_refl _) _⟩
  · have d1 : decide ((L.length : Int) = 1) = false := decide_eq_false (by omega)
    have em : fw .i64 ((L.length : Int) - 1) = ((L.length - 1 : Nat) : Int) := by rw [fw64 (by omega) (by omega)]; omega
    have mk := mks_ints (h := h) (k := .i64) (n := L.length - 1) (by omega)
    have sl0 := mks_sl (h := h) (n := L.length - 1)
    have g0' := Grow.new (Nat.le_refl h.nx.nat) (.cells ((L.length - 1) * 1) (rep [V.i .i64 0] (L.length - 1)))
    have ll : ∀ h0 : H, lenV (.sl h.nx 0 (L.length - 1) 1) h0 = .ok (.i .i64 ((L.length - 1 : Nat) : Int)) h0 := fun _ => rfl
    simp (disch := omega) only [f72_r0, f72_r1, f72_r3, f72_r4, x_mks, Nat.reduceEqDiff, ↓reduceIte, Bool.false_eq_true, e1, d1, em, mk, ll, bz]
    have own : Own h.nx.nat (.sl h.nx 0 (L.length - 1) 1) := fun id off n sz e => by cases e; exact Nat.le_refl _
    generalize V.sl h.nx 0 (L.length - 1) 1 = u at *
    refine W_loop (f72_I h v u L) (fun j => L.length - j) ?_ 0 ⟨by omega, g0', by simpa using sl0, by simp (disch := omega) only [getK_set, Nat.reduceEqDiff, ↓reduceIte, and_self, Int.natCast_zero]⟩
    clear ll sl0 mk g0'
    rintro j fr h1 ⟨hj, G, su, g0, g3, g14, g15⟩
    have hc1 := G.hc hc
    have sv := hv.grow hc G
    unfold f72_l0
    by_cases hlt : j + 1 < L.length
    · have d2 : decide ((j : Int) < ((L.length - 1 : Nat) : Int)) = true := decide_eq_true (by omega)
      have e4 : fw .i64 ((j : Int) + 1) = ((j + 1 : Nat) : Int) := by rw [fw64 (by omega) (by omega)]; rfl
      obtain ⟨p, p1, p2⟩ := sv.at (j + 1) hlt
      have eg : L[j + 1] = L.getD (j + 1) 0 := by rw [List.getD_eq_getElem?_getD, List.getElem?_eq_getElem (by omega)]; rfl
      have p2 : loadV h1 p one? = .ok (.i .i64 (L.getD (j + 1) 0)) h1 := by rw [← eg]; exact p2
      have b := nm (show ((j + 1 : Nat) : Int).natAbs ≤ 7 by omega) (hL (j + 1))
      have ew : fw .i64 (((j + 1 : Nat) : Int) * L.getD (j + 1) 0) = ((j + 1 : Nat) : Int) * L.getD (j + 1) 0 := fw64 (by omega) (by omega)
      obtain ⟨p', id, m, cs', a1, a2, a3, ⟨off, n', sz, a4⟩, a5⟩ := su.st (i := j) (by simp; omega) (x := ((j + 1 : Nat) : Int) * L.getD (j + 1) 0) (c := .i .i64 (((j + 1 : Nat) : Int) * L.getD (j + 1) 0)) rfl rfl hc1
      have es : (((List.range j).map fun i => ((i + 1 : Nat) : Int) * L.getD (i + 1) 0) ++ List.replicate (L.length - 1 - j) 0).set j (((j + 1 : Nat) : Int) * L.getD (j + 1) 0) = ((List.range (j + 1)).map fun i => ((i + 1 : Nat) : Int) * L.getD (i + 1) 0) ++ List.replicate (L.length - 1 - (j + 1)) 0 := by
        rw [List.set_append_right _ _ (by simp), List.range_succ, List.map_append, List.append_assoc]
        congr 1
        rw [show j - ((List.range j).map fun i => ((i + 1 : Nat) : Int) * L.getD (i + 1) 0).length = 0 by simp, show L.length - 1 - j = (L.length - 1 - (j + 1)) + 1 by omega, List.replicate_succ]
        rfl
      rw [es] at a3
      simp (disch := omega) only [f72_r5, f72_r6, f72_r7, f72_r8, Nat.reduceEqDiff, ↓reduceIte, g0, g3, g14, g15, d2, p1, p2, e4, ew, a1, a2, bz]
      exact ⟨j + 1, by omega, by omega, G.trans (Grow.put (own _ _ _ _ a4) a5 _), a3, by simp (disch := omega) only [getK_set, Nat.reduceEqDiff, ↓reduceIte, g0, g3, g14, and_self]⟩
    · have d2 : decide ((j : Int) < ((L.length - 1 : Nat) : Int)) = false := decide_eq_false (by omega)
      have es : slL L = ((List.range j).map fun i => ((i + 1 : Nat) : Int) * L.getD (i + 1) 0) ++ List.replicate (L.length - 1 - j) 0 := by unfold slL; rw [if_neg hone, show L.length - 1 = j by omega]; simp
      simp (disch := omega) only [f72_r5, f72_r9, f72_rs, Option.some.injEq, exists_eq_left', Nat.reduceEqDiff, ↓reduceIte, Bool.false_eq_true, g3, g14, g15, d2, bz]
      rw [es]
      exact ⟨su, own, G⟩
def f30_I (h0 : H) (v u : V) (L : List Int) (i : Nat) (fr : Fr) (h1 : H) : Prop := i ≤ L.length ∧ Grow h0.nx.nat h0 h1 ∧ Sl iE h1 u (mOut L L.length i) ∧ fr.get (K.ofNat 0) = some (v) ∧ fr.get (K.ofNat 3) = some (u) ∧ fr.get (K.ofNat 4) = some (.i .i64 (i : Int))
def f30_J (h0 : H) (v u : V) (L : List Int) (i k : Nat) (fr : Fr) (h1 : H) : Prop := k ≤ i + 1 ∧ Grow h0.nx.nat h0 h1 ∧ Sl iE h1 u (mIn L i (mOut L L.length i) k) ∧ fr.get (K.ofNat 0) = some (v) ∧ fr.get (K.ofNat 3) = some (u) ∧ fr.get (K.ofNat 4) = some (.i .i64 (i : Int)) ∧ fr.get (K.ofNat 5) = some (.i .i64 (k : Int))
theorem f30_ret (k76 : fs.get (.ofNat 76) = some f76) (h7 : L.length ≤ 7) (hL : ∀ i, (L.getD i 0).natAbs ≤ 100) (hv : Sr iE h v L) (hc : HC h) : Ret fs f30 [v] h fun r h' => Sl iE h' r (mOut L L.length L.length) ∧ Own h.nx.nat r ∧ Grow h.nx.nat h h' := by
  apply ret_of rfl
  show W fs none f30_c _ _ _
  unfold f30_c
  have e1 := hv.len
  have mk := mks_ints (h := h) (k := .i64) (n := L.length) (by omega)
  have sl0 := mks_sl (h := h) (n := L.length)
  have g0' := Grow.new (Nat.le_refl h.nx.nat) (.cells (L.length * 1) (rep [V.i .i64 0] L.length))
  simp (disch := omega) only [f30_r0, f30_r1, f30_r2, x_mks, Nat.reduceEqDiff, ↓reduceIte, e1, mk, bz]
  have own : Own h.nx.nat (.sl h.nx 0 L.length 1) := fun id off n sz e => by cases e; exact Nat.le_refl _
  generalize V.sl h.nx 0 L.length 1 = u at *
  refine W_loop (f30_I h v u L) (fun j => L.length - j) ?_ 0 ⟨by omega, g0', sl0, by simp (disch := omega) only [getK_set, Nat.reduceEqDiff, ↓reduceIte, and_self, Int.natCast_zero]⟩
  clear sl0 mk g0'
  rintro i fr h1 ⟨hi, G, su, g0, g3, g4⟩
  have e1 := (hv.grow hc G).len
  unfold f30_l1
  by_cases hlt : i < L.length
  · have d1 : decide ((i : Int) < (L.length : Int)) = true := decide_eq_true (by omega)
    have e4 : fw .i64 ((i : Int) + 1) = ((i + 1 : Nat) : Int) := by rw [fw64 (by omega) (by omega)]; rfl
    simp (disch := omega) only [f30_r3, f30_r4, Nat.reduceEqDiff, ↓reduceIte, g0, g4, e1, d1, bz]
    refine W_loop (f30_J h v u L i) (fun k => i + 1 - k) ?_ 0 ⟨by omega, G, su, by simp (disch := omega) only [getK_set, Nat.reduceEqDiff, ↓reduceIte, g0, g3, g4, and_self, Int.natCast_zero]⟩
    clear g0 g3 g4 fr G su e1 h1
    rintro k fr h2 ⟨hk, G, su, g0, g3, g4, g5⟩
    have hc2 := G.hc hc
    have sv := hv.grow hc G
    unfold f30_l0
    by_cases hle : k ≤ i
    · have d2 : decide ((k : Int) ≤ (i : Int)) = true := decide_eq_true (by omega)
      have d0 : decide ((2 : Int) = 0) = false := rfl
      have e5 : fw .i64 ((k : Int) + 1) = ((k + 1 : Nat) : Int) := by rw [fw64 (by omega) (by omega)]; rfl
      obtain ⟨w1, w2, w3, w4, w5⟩ := tm_wr hL (show i ≤ 6 by omega) hle
      have hl : k < (mIn L i (mOut L L.length i) k).length := by rw [mIn_len, mOut_len]; omega
      obtain ⟨p, p1, p2, p3⟩ := su.atb k hl
      have ep : (mIn L i (mOut L L.length i) k)[k] = (mIn L i (mOut L L.length i) k).getD k 0 := by rw [List.getD_eq_getElem?_getD, List.getElem?_eq_getElem hl]; rfl
      have p2 : loadV h2 p one? = .ok (.i .i64 ((mIn L i (mOut L L.length i) k).getD k 0)) h2 := by rw [← ep]; exact p2
      obtain ⟨q, q1, q2, q3⟩ := sv.atb i hlt
      have eq : L[i] = L.getD i 0 := by rw [List.getD_eq_getElem?_getD, List.getElem?_eq_getElem (by omega)]; rfl
      have q2 : loadV h2 q one? = .ok (.i .i64 (L.getD i 0)) h2 := by rw [← eq]; exact q2
      have e76 := fun P => f76_eq (fs := fs) (h := h2) (P := P) k76 (show i ≤ 6 by omega) hle
      obtain ⟨p', id, m, cs', a1, a2, a3, ⟨off, n', sz, a4⟩, a5⟩ := su.st (i := k) hl (x := fw .i64 ((mIn L i (mOut L L.length i) k).getD k 0 + tmM L i k)) (c := .i .i64 (fw .i64 ((mIn L i (mOut L L.length i) k).getD k 0 + tmM L i k))) rfl rfl hc2
      obtain rfl : p = p' := by have := p1 .i64 h2; rw [a1] at this; cases this; rfl
      simp (disch := omega) only [f30_r5, f30_r6, f30_r7, xg_iads, stay_mv, stay_iads, stay_ld, stay_bin, of2, Nat.reduceEqDiff, ↓reduceIte, g0, g3, g4, g5, d2, p1, p2, p3, q1, q2, q3, w1, e76, w4, w5, a2, e5, su.sr.beq, sv.beq, bz]
      exact ⟨k + 1, by omega, by omega, G.trans (Grow.put (own _ _ _ _ a4) a5 _), a3, by simp (disch := omega) only [getK_set, Nat.reduceEqDiff, ↓reduceIte, g0, g3, g4, and_self]⟩
    · have d2 : decide ((k : Int) ≤ (i : Int)) = false := decide_eq_false (by omega)
      obtain rfl : k = i + 1 := by omega
      simp (disch := omega) only [f30_r5, f30_r8, Nat.reduceEqDiff, ↓reduceIte, Bool.false_eq_true, g4, g5, d2, e4, bz]
      exact ⟨i + 1, by omega, by omega, G, su, by simp (disch := omega) only [getK_set, Nat.reduceEqDiff, ↓reduceIte, g0, g3, and_self]⟩
  · have d1 : decide ((i : Int) < (L.length : Int)) = false := decide_eq_false (by omega)
    obtain rfl : i = L.length := by omega
    simp (disch := omega) only [f30_r3, f30_r9, f30_rs, Option.some.injEq, exists_eq_left', Nat.reduceEqDiff, ↓reduceIte, Bool.false_eq_true, g0, g3, g4, e1, d1, bz]
    exact ⟨su, own, G⟩
end
end Go.Ev
namespace Go.Ev
open Go Go.RowKit
noncomputable def f70_r0 : List EOper := [oG 4 (.as (.c .sn)), oG 5 (.as (cG 0))]
noncomputable def f70_r1 : List EOper := [oG 8 (.mv (tG 0)), oG 9 (.call (fG 14) [(tG 8)]), oG 6 (.as (tG 9))]
noncomputable def f70_r2 : List EOper := [oG 10 (.mv (tG 6)), oG 11 (.bin .neq (tG 10) (cG 0))]
noncomputable def f70_r3 : List EOper := [oG 12 (.mv (tG 6)), oG 4 (.as (.c .sn)), oG 5 (.as (tG 12))]
noncomputable def f70_r4 : List EOper := [oG 13 (.mv (tG 1)), oG 14 (.mv (tG 0)), oG 15 (.call (tG 13) [(tG 14)]), oG 7 (.as (tG 15))]
noncomputable def f70_r5 : List EOper := [oG 16 (.mv (tG 7)), oG 17 (.call (fG 56) [(tG 16)]), oG 18 (.not (tG 17))]
noncomputable def f70_r6 : List EOper := [oG 4 (.as (.c .sn)), oG 5 (.as (cG 8))]
noncomputable def f70_r7 : List EOper := [oG 19 (.mv (tG 7)), oG 4 (.as (tG 19)), oG 5 (.as (cG 0))]
noncomputable def f70_c : EC := (.seq (.reg f70_r0) (.seq (.seq (.reg f70_r1) (.seq (.reg f70_r2) (.cond (tG 11) (.seq (.reg f70_r3) .ret) .skip))) (.seq (.reg f70_r4) (.seq (.seq (.reg f70_r5) (.cond (tG 18) (.seq (.reg f70_r6) .ret) .skip)) (.seq (.reg f70_r7) .ret)))))
noncomputable def f70 : EF := ⟨20, [.tmp (.ofNat 4), .tmp (.ofNat 5)], f70_c, none⟩
theorem f70_rs : f70.rs = [.tmp (.ofNat 4), .tmp (.ofNat 5)] := of_eq_true (eq_self _)
noncomputable def f24_r0 : List EOper := [oG 2 (.as (.c .sn)), oG 3 (.as (cG 0))]
noncomputable def f24_r1 : List EOper := [oG 4 (.mv (tG 0)), oG 5 (.call (fG 70) [(tG 4), (fG 71)]), oG 6 (.ext (tG 5) 0), oG 7 (.ext (tG 5) 1), oG 2 (.as (tG 6)), oG 3 (.as (tG 7))]
noncomputable def f24_c : EC := (.seq (.reg f24_r0) (.seq (.reg f24_r1) .ret))
noncomputable def f24 : EF := ⟨8, [.tmp (.ofNat 2), .tmp (.ofNat 3)], f24_c, none⟩
theorem f24_rs : f24.rs = [.tmp (.ofNat 2), .tmp (.ofNat 3)] := of_eq_true (eq_self _)
noncomputable def f25_r0 : List EOper := [oG 2 (.as (.c .sn)), oG 3 (.as (cG 0))]
noncomputable def f25_r1 : List EOper := [oG 4 (.mv (tG 0)), oG 5 (.call (fG 70) [(tG 4), (fG 72)]), oG 6 (.ext (tG 5) 0), oG 7 (.ext (tG 5) 1), oG 2 (.as (tG 6)), oG 3 (.as (tG 7))]
noncomputable def f25_c : EC := (.seq (.reg f25_r0) (.seq (.reg f25_r1) .ret))
noncomputable def f25 : EF := ⟨8, [.tmp (.ofNat 2), .tmp (.ofNat 3)], f25_c, none⟩
theorem f25_rs : f25.rs = [.tmp (.ofNat 2), .tmp (.ofNat 3)] := of_eq_true (eq_self _)
noncomputable def f4_r0 : List EOper := [oG 3 (.box 2 (tG 1)), oG 4 (.as (.c (.b false)))]
noncomputable def f4_r1 : List EOper := [oG 15 (.mv (tG 0)), oG 16 (.call (fG 26) [(tG 15)]), oG 5 (.as (tG 16))]
noncomputable def f4_r2 : List EOper := [oG 6 (.as (cG 0))]
noncomputable def f4_r3 : List EOper := [oG 17 (.mv (tG 6)), oG 18 (.bin .lss (tG 17) (cG 2))]
noncomputable def f4_r4 : List EOper := [oG 22 (.mv (tG 5)), oG 23 (.ldn 2 (tG 3)), oG 24 (.call (fG 18) [(tG 22), (tG 23)]), oG 21 (.mv (tG 24)), oG 25 (.ext (tG 21) 0), oG 26 (.ext (tG 21) 1), oG 7 (.alloc 2 [(.i .i64 (.ofNat 0)), (.i .i64 (.ofNat 0))]), ⟨none, none, .st 2 (tG 7) (tG 25)⟩, oG 8 (.as (tG 26))]
noncomputable def f4_r5 : List EOper := [oG 27 (.ldn 2 (tG 3)), oG 28 (.call (fG 27) [(tG 27), (cG 64)]), oG 29 (.not (tG 28))]
noncomputable def f4_r6 : List EOper := [oG 30 (.mv (tG 8)), oG 31 (.bin .neq (tG 30) (cG 1)), oG 32 (.mv (tG 31)), gG 33 32 false (.ldn 2 (tG 7)), gG 34 32 false (.build [(.i .i64 (.ofNat 0)), (.i .i64 (.ofNat 0))] []), gG 35 32 false (.eqk (.many [(some .i64), (some .i64)]) true (tG 33) (tG 34)), oG 36 (.pick (tG 32) (.c (.b true)) (tG 35))]
noncomputable def f4_r7 : List EOper := [oG 4 (.as (.c (.b false)))]
noncomputable def f4_r8 : List Stage := [⟨[oG 37 (.mv (tG 8)), oG 38 (.bin .neq (tG 37) (cG 0)), oG 39 (.mv (tG 38)), gG 40 39 false (.ldn 2 (tG 7)), gG 41 39 false (.mv (tG 5)), gG 42 39 false (.ldn 2 (tG 3))], [], (some (gG 43 39 false (.call (fG 28) [(tG 41), (tG 42)]))), []⟩, ⟨[gG 44 39 false (.eqk (.many [(some .i64), (some .i64)]) true (tG 40) (tG 43)), oG 45 (.pick (tG 39) (.c (.b true)) (tG 44))], [gG 40 39 false (.ldn 2 (tG 7))], none, []⟩]
noncomputable def f4_r9 : List EOper := [oG 4 (.as (.c (.b false)))]
noncomputable def f4_r10 : List EOper := [oG 46 (.ldn 2 (tG 3)), oG 47 (.call (fG 29) [(tG 46), (cG 64)]), ⟨none, none, .st 2 (tG 3) (tG 47)⟩]
noncomputable def f4_r11 : List EOper := [oG 19 (.mv (tG 6)), oG 20 (.bin .add (tG 19) (cG 1)), oG 6 (.as (tG 20))]
noncomputable def f4_l0 : EC := (.seq (.seq (.reg f4_r3) (.cond (tG 18) .skip (.exit 0))) (.seq (.block 1 (.seq (.reg f4_r4) (.seq (.seq (.reg f4_r5) (.cond (tG 29) (.seq (.reg f4_r6) (.cond (tG 36) (.seq (.reg f4_r7) .ret) .skip)) (.seq (.draw f4_r8) (.cond (tG 45) (.seq (.reg f4_r9) .ret) .skip)))) (.reg f4_r10)))) (.reg f4_r11)))
noncomputable def f4_r12 : List EOper := [oG 49 (.mv (tG 5)), oG 50 (.call (fG 24) [(tG 49)]), oG 48 (.mv (tG 50)), oG 51 (.ext (tG 48) 0), oG 52 (.ext (tG 48) 1), oG 9 (.as (tG 51)), oG 10 (.as (tG 52))]
noncomputable def f4_r13 : List EOper := [oG 54 (.mv (tG 5)), oG 55 (.call (fG 25) [(tG 54)]), oG 53 (.mv (tG 55)), oG 56 (.ext (tG 53) 0), oG 57 (.ext (tG 53) 1), oG 11 (.as (tG 56)), oG 12 (.as (tG 57))]
noncomputable def f4_r14 : List EOper := [oG 58 (.mv (tG 5)), oG 59 (.call (fG 30) [(tG 58)]), oG 60 (.mv (tG 5)), oG 61 (.call (fG 31) [(tG 60)]), oG 13 (.as (tG 59)), oG 14 (.as (tG 61))]
noncomputable def f4_r15 : List EOper := [oG 62 (.mv (tG 13)), oG 63 (.call (fG 32) [(tG 62)]), oG 64 (.mv (tG 63)), gG 65 64 true (.mv (tG 10)), gG 66 64 true (.bin .neq (tG 65) (cG 0)), gG 67 64 true (.mv (tG 66)), gG 68 67 false (.mv (tG 9)), gG 69 67 false (.mv (tG 13)), gG 70 67 false (.call (fG 33) [(tG 68), (tG 69)]), gG 71 67 false (.not (tG 70)), gG 72 64 true (.pick (tG 67) (.c (.b true)) (tG 71)), oG 73 (.pick (tG 64) (tG 72) (.c (.b false))), oG 74 (.mv (tG 73)), gG 75 74 false (.mv (tG 13)), gG 76 74 false (.call (fG 32) [(tG 75)]), gG 77 74 false (.not (tG 76)), gG 78 74 false (.mv (tG 77)), gG 79 78 true (.mv (tG 10)), gG 80 78 true (.bin .neq (tG 79) (cG 8)), gG 81 78 true (.mv (tG 80)), gG 82 81 false (.mv (tG 9)), gG 83 81 false (.len (tG 82)), gG 84 81 false (.bin .neq (tG 83) (cG 0)), gG 85 78 true (.pick (tG 81) (.c (.b true)) (tG 84)), gG 86 74 false (.pick (tG 78) (tG 85) (.c (.b false))), oG 87 (.pick (tG 74) (.c (.b true)) (tG 86))]
noncomputable def f4_r16 : List EOper := [oG 4 (.as (.c (.b false)))]
noncomputable def f4_r17 : List EOper := [oG 88 (.mv (tG 14)), oG 89 (.call (fG 32) [(tG 88)]), oG 90 (.mv (tG 89)), gG 91 90 true (.mv (tG 12)), gG 92 90 true (.bin .eql (tG 91) (cG 0)), oG 93 (.pick (tG 90) (tG 92) (.c (.b false))), oG 94 (.mv (tG 93)), gG 95 94 true (.mv (tG 11)), gG 96 94 true (.mv (tG 14)), gG 97 94 true (.call (fG 33) [(tG 95), (tG 96)]), oG 98 (.pick (tG 94) (tG 97) (.c (.b false))), oG 99 (.mv (tG 98)), gG 100 99 false (.mv (tG 14)), gG 101 99 false (.call (fG 32) [(tG 100)]), gG 102 99 false (.not (tG 101)), gG 103 99 false (.mv (tG 102)), gG 104 103 true (.mv (tG 12)), gG 105 103 true (.bin .eql (tG 104) (cG 8)), gG 106 99 false (.pick (tG 103) (tG 105) (.c (.b false))), gG 107 99 false (.mv (tG 106)), gG 108 107 true (.mv (tG 11)), gG 109 107 true (.len (tG 108)), gG 110 107 true (.bin .eql (tG 109) (cG 0)), gG 111 99 false (.pick (tG 107) (tG 110) (.c (.b false))), oG 112 (.pick (tG 99) (.c (.b true)) (tG 111)), oG 113 (.mv (tG 112)), gG 114 113 true (.call (fG 17) []), oG 115 (.pick (tG 113) (tG 114) (.c (.b false))), oG 4 (.as (tG 115))]
noncomputable def f4_c : EC := (.seq (.reg f4_r0) (.seq (.reg f4_r1) (.seq (.seq (.reg f4_r2) (.block 0 (.loop f4_l0))) (.seq (.reg f4_r12) (.seq (.reg f4_r13) (.seq (.reg f4_r14) (.seq (.seq (.reg f4_r15) (.cond (tG 87) (.seq (.reg f4_r16) .ret) .skip)) (.seq (.reg f4_r17) .ret))))))))
noncomputable def f4 : EF := ⟨116, [.tmp (.ofNat 4)], f4_c, none⟩
theorem f4_rs : f4.rs = [.tmp (.ofNat 4)] := of_eq_true (eq_self _)
section
variable {fs : T EF} {h : H} {v w : V} {L M : List Int} {a b : Int}
def f71_I (h0 : H) (v u : V) (L : List Int) (i : Nat) (fr : Fr) (h1 : H) : Prop := i ≤ L.length ∧ Grow h0.nx.nat h0 h1 ∧ Sl iE h1 u (mOut L L.length i) ∧ fr.get (K.ofNat 3) = some (u) ∧ fr.get (K.ofNat 11) = some (v) ∧ fr.get (K.ofNat 12) = some (.i .i64 (L.length : Int)) ∧ fr.get (K.ofNat 13) = some (.i .i64 (i : Int))
def f71_J (h0 : H) (v u : V) (L : List Int) (i k : Nat) (fr : Fr) (h1 : H) : Prop := k ≤ i + 1 ∧ Grow h0.nx.nat h0 h1 ∧ Sl iE h1 u (mIn L i (mOut L L.length i) k) ∧ fr.get (K.ofNat 3) = some (u) ∧ fr.get (K.ofNat 4) = some (.i .i64 (i : Int)) ∧ fr.get (K.ofNat 5) = some (.i .i64 (L.getD i 0)) ∧ fr.get (K.ofNat 11) = some (v) ∧ fr.get (K.ofNat 12) = some (.i .i64 (L.length : Int)) ∧ fr.get (K.ofNat 13) = some (.i .i64 (i : Int)) ∧ fr.get (K.ofNat 19) = some (.i .i64 ((i + 1 : Nat) : Int)) ∧ fr.get (K.ofNat 20) = some (.i .i64 (k : Int))
theorem f71_ret (k100 : fs.get (.ofNat 100) = some f100) (h7 : L.length ≤ 7) (hL : ∀ i, (L.getD i 0).natAbs ≤ 100) (hv : Sr iE h v L) (hc : HC h) : Ret fs f71 [v] h fun r h' => Sl iE h' r (mOut L L.length L.length) ∧ Own h.nx.nat r ∧ Grow h.nx.nat h h' := by
  apply ret_of rfl
  show W fs none f71_c _ _ _
  unfold f71_c
  have e1 := hv.len
  have mk := mks_ints (h := h) (k := .i64) (n := L.length) (by omega)
  have sl0 := mks_sl (h := h) (n := L.length)
  have g0' := Grow.new (Nat.le_refl h.nx.nat) (.cells (L.length * 1) (rep [V.i .i64 0] L.length))
  simp (disch := omega) only [f71_r0, f71_r1, f71_r2, x_mks, Nat.reduceEqDiff, ↓reduceIte, e1, mk, bz]
  have own : Own h.nx.nat (.sl h.nx 0 L.length 1) := fun id off n sz e => by cases e; exact Nat.le_refl _
  generalize V.sl h.nx 0 L.length 1 = u at *
  refine W_loop (f71_I h v u L) (fun j => L.length - j) ?_ 0 ⟨by omega, g0', sl0, by simp (disch := omega) only [getK_set, Nat.reduceEqDiff, ↓reduceIte, and_self, Int.natCast_zero]⟩
  clear sl0 mk g0'
  rintro i fr h1 ⟨hi, G, su, g3, g11, g12, g13⟩
  have sv1 := hv.grow hc G
  unfold f71_l1
  by_cases hlt : i < L.length
  · have d1 : decide ((i : Int) < (L.length : Int)) = true := decide_eq_true (by omega)
    have e4 : fw .i64 ((i : Int) + 1) = ((i + 1 : Nat) : Int) := by rw [fw64 (by omega) (by omega)]; rfl
    obtain ⟨q, q1, q2⟩ := sv1.at i hlt
    have eq : L[i] = L.getD i 0 := by rw [List.getD_eq_getElem?_getD, List.getElem?_eq_getElem (by omega)]; rfl
    have q2 : loadV h1 q one? = .ok (.i .i64 (L.getD i 0)) h1 := by rw [← eq]; exact q2
    simp (disch := omega) only [f71_r3, f71_r4, f71_r5, Nat.reduceEqDiff, ↓reduceIte, g11, g12, g13, d1, q1, q2, e4, bz]
    refine W_loop (f71_J h v u L i) (fun k => i + 1 - k) ?_ 0 ⟨by omega, G, su, by simp (disch := omega) only [getK_set, Nat.reduceEqDiff, ↓reduceIte, g3, g11, g12, g13, and_self, Int.natCast_zero]⟩
    clear g3 g11 g12 g13 fr G su
    rintro k fr h2 ⟨hk, G, su, g3, g4, g5, g11, g12, g13, g19, g20⟩
    have hc2 := G.hc hc
    unfold f71_l0
    by_cases hle : k ≤ i
    · have d2 : decide ((k : Int) < ((i + 1 : Nat) : Int)) = true := decide_eq_true (by omega)
      have d0 : decide ((2 : Int) = 0) = false := rfl
      have e5 : fw .i64 ((k : Int) + 1) = ((k + 1 : Nat) : Int) := by rw [fw64 (by omega) (by omega)]; rfl
      obtain ⟨w1, w2, w3, w4, w5⟩ := tm_wr hL (show i ≤ 6 by omega) hle
      have hl : k < (mIn L i (mOut L L.length i) k).length := by rw [mIn_len, mOut_len]; omega
      obtain ⟨p, p1, p2, p3⟩ := su.atb k hl
      have ep : (mIn L i (mOut L L.length i) k)[k] = (mIn L i (mOut L L.length i) k).getD k 0 := by rw [List.getD_eq_getElem?_getD, List.getElem?_eq_getElem hl]; rfl
      have p2 : loadV h2 p one? = .ok (.i .i64 ((mIn L i (mOut L L.length i) k).getD k 0)) h2 := by rw [← ep]; exact p2
      have e100 := fun P => f100_eq (fs := fs) (h := h2) (P := P) k100 (show i ≤ 6 by omega) hle
      obtain ⟨p', id, m, cs', a1, a2, a3, ⟨off, n', sz, a4⟩, a5⟩ := su.st (i := k) hl (x := fw .i64 ((mIn L i (mOut L L.length i) k).getD k 0 + tmM L i k)) (c := .i .i64 (fw .i64 ((mIn L i (mOut L L.length i) k).getD k 0 + tmM L i k))) rfl rfl hc2
      obtain rfl : p = p' := by have := p1 .i64 h2; rw [a1] at this; cases this; rfl
      simp (disch := omega) only [f71_r6, f71_r7, f71_r8, f71_r9, f71_r10, xg_iads, stay_mv, stay_iads, stay_ld, of2, Nat.reduceEqDiff, ↓reduceIte, g3, g4, g5, g19, g20, d2, p1, p2, p3, w1, w2, w3, e100, a2, e5, su.sr.beq, bz]
      exact ⟨k + 1, by omega, by omega, G.trans (Grow.put (own _ _ _ _ a4) a5 _), a3, by simp (disch := omega) only [getK_set, Nat.reduceEqDiff, ↓reduceIte, g3, g4, g5, g11, g12, g13, g19, and_self]⟩
    · have d2 : decide ((k : Int) < ((i + 1 : Nat) : Int)) = false := decide_eq_false (by omega)
      obtain rfl : k = i + 1 := by omega
      simp (disch := omega) only [f71_r6, f71_r11, Nat.reduceEqDiff, ↓reduceIte, Bool.false_eq_true, g13, g19, g20, d2, e4, bz]
      exact ⟨i + 1, by omega, by omega, G, su, by simp (disch := omega) only [getK_set, Nat.reduceEqDiff, ↓reduceIte, g3, g11, g12, and_self]⟩
  · have d1 : decide ((i : Int) < (L.length : Int)) = false := decide_eq_false (by omega)
    obtain rfl : i = L.length := by omega
    simp (disch := omega) only [f71_r3, f71_r12, f71_rs, Option.some.injEq, exists_eq_left', Nat.reduceEqDiff, ↓reduceIte, Bool.false_eq_true, g3, g12, g13, d1, bz]
    exact ⟨su, own, G⟩
theorem f70_ret {g : V} (k : CSm fs) (hL : plB L = true) (hv : Sr iE h v L) (_ : HC h) (hM : M.length ≤ 1000) (hg : CallP fs g [v] h fun r h' => Sl iE h' r M ∧ Own h.nx.nat r ∧ Grow h.nx.nat h h') : Ret fs f70 [v, g] h fun r h' => ((plB M = true ∧ ∃ u, r = .tup [u, .i .i64 0] ∧ Sl iE h' u M) ∨ (plB M = false ∧ r = .tup [.sn, .i .i64 8])) ∧ Grow h.nx.nat h h' := by
  obtain ⟨l1, l7, ls⟩ := plB_len hL
  apply ret_of rfl
  show W fs none f70_c _ _ _
  unfold f70_c
  have ca : ckI L = 0 := by unfold ckI; rw [if_pos hL]
  have q0 : decide ((0 : Int) ≠ 0) = false := rfl
  have eA := fun P => f14_eq k hv (by omega) (P := P)
  rw [ca] at eA
  simp (disch := omega) only [f70_r0, f70_r1, f70_r2, f70_r4, Nat.reduceEqDiff, ↓reduceIte, Bool.false_eq_true, eA, q0, bz]
  refine hg.mono ?_
  rintro u h1 ⟨su, ou, g1⟩
  have eB := fun P => f56_eq k su.sr (by omega) (P := P)
  cases hp : plB M with
  | true =>
    rw [hp] at eB
    simp (disch := omega) only [f70_r5, f70_r7, f70_rs, Option.some.injEq, exists_eq_left', Nat.reduceEqDiff, ↓reduceIte, Bool.false_eq_true, Bool.not_true, eB, bz]
    exact ⟨.inl ⟨u, rfl, su⟩, g1⟩
  | false =>
    rw [hp] at eB
    simp (disch := omega) only [f70_r5, f70_r6, f70_rs, of8, Option.some.injEq, exists_eq_left', Nat.reduceEqDiff, ↓reduceIte, Bool.false_eq_true, Bool.not_false, eB, bz]
    exact ⟨.inr trivial, g1⟩
structure CallsVl (fs : T EF) : Prop extends CallsVa fs, CallsF fs where
  c100 : fs.get (K.ofNat 100) = some f100
  c76 : fs.get (K.ofNat 76) = some f76
  c70 : fs.get (K.ofNat 70) = some f70
  c71 : fs.get (K.ofNat 71) = some f71
  c72 : fs.get (K.ofNat 72) = some f72
  c24 : fs.get (K.ofNat 24) = some f24
  c25 : fs.get (K.ofNat 25) = some f25
  c30 : fs.get (K.ofNat 30) = some f30
  c31 : fs.get (K.ofNat 31) = some f31
  c32 : fs.get (K.ofNat 32) = some f32
  c33 : fs.get (K.ofNat 33) = some f33
  c26 : fs.get (K.ofNat 26) = some f26
  c27 : fs.get (K.ofNat 27) = some f27
  c28 : fs.get (K.ofNat 28) = some f28
  c29 : fs.get (K.ofNat 29) = some f29
  c18 : fs.get (K.ofNat 18) = some f18
  aw : ∀ (h : H) (P : V → H → Prop), CallP fs (.fn (K.ofNat 17) []) [] h P = P (.b true) h
theorem slL_len (h : 1 ≤ L.length) (h7 : L.length ≤ 7) : 1 ≤ (slL L).length ∧ (slL L).length ≤ 7 := by
  unfold slL
  split
  · simp
  · rw [List.length_map, List.length_range]; omega
theorem f24_ret (k : CallsVl fs) (hL : plB L = true) (hv : Sr iE h v L) (hc : HC h) : Ret fs f24 [v] h fun r h' => ((plB (mOut L L.length L.length) = true ∧ ∃ u, r = .tup [u, .i .i64 0] ∧ Sl iE h' u (mOut L L.length L.length)) ∨ (plB (mOut L L.length L.length) = false ∧ r = .tup [.sn, .i .i64 8])) ∧ Grow h.nx.nat h h' := by
  obtain ⟨l1, l7, ls⟩ := plB_len hL
  apply ret_of rfl
  show W fs none f24_c _ _ _
  unfold f24_c
  simp (disch := omega) only [f24_r0, f24_r1, Nat.reduceEqDiff, ↓reduceIte, bz]
  refine (callP_0 (ef := f70) k.c70 rfl (f70_ret k.toCSm hL hv hc (M := mOut L L.length L.length) (by rw [mOut_len]; omega) (callP_0 (ef := f71) k.c71 rfl (f71_ret k.c100 l7 (pl_get hL) hv hc)))).mono ?_
  rintro r h1 ⟨hr, g1⟩
  rcases hr with ⟨hp, u, rfl, su⟩ | ⟨hp, rfl⟩
  · simp (disch := omega) only [f24_rs, Option.some.injEq, exists_eq_left', Nat.reduceEqDiff, ↓reduceIte, bz]
    exact ⟨.inl ⟨hp, u, rfl, su⟩, g1⟩
  · simp (disch := omega) only [f24_rs, Option.some.injEq, exists_eq_left', Nat.reduceEqDiff, ↓reduceIte, bz]
    exact ⟨.inr ⟨hp, trivial⟩, g1⟩
theorem f25_ret (k : CallsVl fs) (hL : plB L = true) (hv : Sr iE h v L) (hc : HC h) : Ret fs f25 [v] h fun r h' => ((plB (slL L) = true ∧ ∃ u, r = .tup [u, .i .i64 0] ∧ Sl iE h' u (slL L)) ∨ (plB (slL L) = false ∧ r = .tup [.sn, .i .i64 8])) ∧ Grow h.nx.nat h h' := by
  obtain ⟨l1, l7, ls⟩ := plB_len hL
  have sl := slL_len l1 l7
  apply ret_of rfl
  show W fs none f25_c _ _ _
  unfold f25_c
  simp (disch := omega) only [f25_r0, f25_r1, Nat.reduceEqDiff, ↓reduceIte, bz]
  refine (callP_0 (ef := f70) k.c70 rfl (f70_ret k.toCSm hL hv hc (M := slL L) (by omega) (callP_0 (ef := f72) k.c72 rfl (f72_ret l1 l7 (pl_get hL) hv hc)))).mono ?_
  rintro r h1 ⟨hr, g1⟩
  rcases hr with ⟨hp, u, rfl, su⟩ | ⟨hp, rfl⟩
  · simp (disch := omega) only [f25_rs, Option.some.injEq, exists_eq_left', Nat.reduceEqDiff, ↓reduceIte, bz]
    exact ⟨.inl ⟨hp, u, rfl, su⟩, g1⟩
  · simp (disch := omega) only [f25_rs, Option.some.injEq, exists_eq_left', Nat.reduceEqDiff, ↓reduceIte, bz]
    exact ⟨.inr ⟨hp, trivial⟩, g1⟩
def f4_I (h0 : H) (w : V) (i3 : K) (A : List Int) (n : Nat) (fr : Fr) (h1 : H) : Prop := n ≤ 2 ∧ Grow h0.nx.nat h0 h1 ∧ Sr iE h1 w A ∧ (∃ x y : Int, h1.get i3 = .cells 2 [.i .i64 x, .i .i64 y]) ∧ fr.get (K.ofNat 3) = some (.p i3 0) ∧ fr.get (K.ofNat 5) = some (w) ∧ fr.get (K.ofNat 6) = some (.i .i64 (n : Int))
theorem key_00 : keyEq (.many [some .i64, some .i64]) (.agg [.i .i64 0, .i .i64 0]) (.agg [.i .i64 0, .i .i64 0]) = some true := rfl
theorem fr_key {q : Rat} {M N : Nat} (h : Fr' q M N) (hM : M ≤ M63) (hN : N ≤ M63) : keyEq (.many [some .i64, some .i64]) (.agg (frL q)) (.agg (frL q)) = some true := by
  have a := h.1
  have b := h.2
  unfold M63 at hM hN
  unfold frL
  rw [keyEq_2 (in63 (by omega) (by omega)) (in63 (by omega) (by omega)) (in63 (by omega) (by omega)) (in63 (by omega) (by omega))]
  simp
theorem f4_round {Q : Ex → Fr → H → Prop} {h0 h1 : H} {i3 : K} {A : List Int} {n : Nat} {fr : Fr} (k : CallsVl fs) (pA : plB A = true) (nw : NotIn i3 w) (hb3 : h0.nx.nat ≤ i3.nat) (hc : HC h0) (I : f4_I h0 w i3 A n fr h1) (hn : n < 2)
    (hq : ∀ fr' h', f4_I h0 w i3 A (n + 1) fr' h' → Q .normal fr' h') : W fs none (.seq (.block 1 (.seq (.reg f4_r4) (.seq (.seq (.reg f4_r5) (.cond (.t (K.ofNat 29)) (.seq (.reg f4_r6) (.cond (.t (K.ofNat 36)) (.seq (.reg f4_r7) .ret) .skip)) (.seq (.draw f4_r8) (.cond (.t (K.ofNat 45)) (.seq (.reg f4_r9) .ret) .skip)))) (.reg f4_r10)))) (.reg f4_r11)) Q fr h1 := by
  obtain ⟨_, G, sw, ⟨x, y, b3⟩, g3, g5, g6⟩ := I
  obtain ⟨l1, l7, ls⟩ := plB_len pA
  have hc1 := G.hc hc
  have m3 := load2 b3
  have l3 := hc1.cells b3
  have q0 : decide ((0 : Int) ≠ 0) = false := rfl
  have q1 : decide ((1 : Int) ≠ 1) = false := rfl
  have e4 : fw .i64 ((n : Int) + 1) = ((n + 1 : Nat) : Int) := by rw [fw64 (by omega) (by omega)]; rfl
  have last : ∀ {fr : Fr} {h2 : H}, Grow h1.nx.nat h1 h2 → fr.get (K.ofNat 3) = some (.p i3 0) ∧ fr.get (K.ofNat 5) = some (w) ∧ fr.get (K.ofNat 6) = some (.i .i64 (n : Int)) → W fs none (.seq (.reg f4_r10) (.reg f4_r11)) Q fr h2 := by
    clear g3 g5 g6 fr
    rintro fr h2 g2 ⟨g3, g5, g6⟩
    have b2 := (g2.old i3 l3).trans b3
    have m2 := load2 b2
    simp (disch := omega) only [f4_r10, of64, ↓reduceIte, g3, m2, bz]
    refine (callP_0 (ef := f29) k.c29 rfl (f29_ret (m := 64) k.toCallsF (by decide) (by decide))).mono ?_
    rintro r h3 ⟨⟨o, u, _, _, _, rfl⟩, g3'⟩
    have n2 := g2.nx
    have b3' := (g3'.old i3 (by omega)).trans b2
    have st := fr_store (q := Rat.divInt (o : Int) (u : Int)) b3' rfl
    have n3 := g3'.nx
    simp (disch := omega) only [f4_r11, Nat.reduceEqDiff, ↓reduceIte, g3, g6, st, e4, bz]
    have G3 := (G.trans (g2.low G.nx)).trans (g3'.low (by have := G.nx; omega))
    have GP := G3.trans (Grow.put (b := h0.nx.nat) (h := h3) (k := i3) hb3 (by omega) (.cells 2 (frL (Rat.divInt (o : Int) (u : Int)))))
    exact hq _ _ ⟨by omega, GP, ((sw.grow hc1 g2).grow (g2.hc hc1) g3').put nw _, ⟨_, _, get_put_same⟩, by simp (disch := omega) only [getK_set, Nat.reduceEqDiff, ↓reduceIte, g3, g5, and_self]⟩
  simp only [w_seq, w_reg] at last
  simp (disch := omega) only [f4_r4, Nat.reduceEqDiff, ↓reduceIte, g3, g5, m3, bz]
  refine (callP_0 (ef := f18) k.c18 rfl (f18_ret k.toCallsVa pA sw hc1)).mono ?_
  rintro r h2 ⟨rfl, g2⟩
  have hc2 := g2.hc hc1
  have c3 := (g2.old i3 l3).trans b3
  have n2 := g2.nx
  unfold vaV
  cases hp : ptB x y 64 with
  | false =>
    have st : storeV (h2.new (.cells 2 [.i .i64 0, .i .i64 0])) 2 (.p h2.nx 0) (.agg [.i .i64 0, .i .i64 0]) = .ok undefV ((h2.new (.cells 2 [.i .i64 0, .i .i64 0])).put h2.nx (.cells 2 [.i .i64 0, .i .i64 0])) := store2 get_new_same
    have gN := (Grow.new (Nat.le_refl h2.nx.nat) (.cells 2 [.i .i64 0, .i .i64 0])).trans (Grow.put (b := h2.nx.nat) (h := h2.new (.cells 2 [.i .i64 0, .i .i64 0])) (k := h2.nx) (Nat.le_refl _) (by rw [nx_new]; omega) (.cells 2 [.i .i64 0, .i .i64 0]))
    have c7 : ((h2.new (.cells 2 [.i .i64 0, .i .i64 0])).put h2.nx (.cells 2 [.i .i64 0, .i .i64 0])).get h2.nx = .cells 2 [.i .i64 0, .i .i64 0] := get_put_same
    have d3 := (gN.old i3 (by omega)).trans c3
    have n7 : h2.nx.nat < ((h2.new (.cells 2 [.i .i64 0, .i .i64 0])).put h2.nx (.cells 2 [.i .i64 0, .i .i64 0])).nx.nat := by rw [nx_put, nx_new]; omega
    have m3 := load2 d3
    simp (disch := omega) only [f4_r5, of64, Nat.reduceEqDiff, ↓reduceIte, Bool.false_eq_true, g3, Bool.false_eq_true, st, m3, bz]
    generalize (h2.new (.cells 2 [.i .i64 0, .i .i64 0])).put h2.nx (.cells 2 [.i .i64 0, .i .i64 0]) = h3 at *
    refine (callP_0 (ef := f27) k.c27 rfl (f27_ret k.c73 (by decide))).mono ?_
    rintro r h4 ⟨rfl, g4'⟩
    rw [hp]
    have c7' := (g4'.old h2.nx n7).trans c7
    have m7 := load2 c7'
    simp (disch := omega) only [f4_r6, x_eqk, Nat.reduceEqDiff, ↓reduceIte, Bool.false_eq_true, Bool.not_true, Bool.not_false, q1, m7, key_00, cond_true, bz]
    exact last ((g2.trans (gN.low g2.nx)).trans (g4'.low (by have := gN.nx; omega))) (by simp (disch := omega) only [getK_set, Nat.reduceEqDiff, ↓reduceIte, g3, g5, g6, and_self])
  | true =>
    obtain ⟨x1, x2, x3, x4, xg⟩ := ptB_iff.1 hp
    obtain ⟨o, rfl⟩ : ∃ o : Nat, x = (o : Int) := ⟨x.toNat, by omega⟩
    obtain ⟨u, rfl⟩ : ∃ u : Nat, y = (u : Int) := ⟨y.toNat, by omega⟩
    have hlow := frL_low (a := (o : Int)) (b := (u : Int)) (by omega) xg
    have bnd := (vQ_ov (L := A) (o := o) (u := u) (by omega) (by omega) (pl_get pA) A.length).fr
    have P7 := pow_le7 (u := u) (by omega) (j := A.length) l7
    have kq := fr_key bnd (by have := Nat.mul_le_mul (show A.length * 100 ≤ 700 by omega) P7; unfold M63; omega) (by unfold M63; omega)
    have bq := fr_beq (q := vQ A (Rat.divInt (o : Int) (u : Int)) A.length)
    have st : storeV (h2.new (.cells 2 [.i .i64 0, .i .i64 0])) 2 (.p h2.nx 0) (.agg (frL (vQ A (Rat.divInt (o : Int) (u : Int)) A.length))) = .ok undefV ((h2.new (.cells 2 [.i .i64 0, .i .i64 0])).put h2.nx (.cells 2 (frL (vQ A (Rat.divInt (o : Int) (u : Int)) A.length)))) := fr_store get_new_same rfl
    have gN := (Grow.new (Nat.le_refl h2.nx.nat) (.cells 2 [.i .i64 0, .i .i64 0])).trans (Grow.put (b := h2.nx.nat) (h := h2.new (.cells 2 [.i .i64 0, .i .i64 0])) (k := h2.nx) (Nat.le_refl _) (by rw [nx_new]; omega) (.cells 2 (frL (vQ A (Rat.divInt (o : Int) (u : Int)) A.length))))
    have c7 : ((h2.new (.cells 2 [.i .i64 0, .i .i64 0])).put h2.nx (.cells 2 (frL (vQ A (Rat.divInt (o : Int) (u : Int)) A.length)))).get h2.nx = .cells 2 (frL (vQ A (Rat.divInt (o : Int) (u : Int)) A.length)) := get_put_same
    have d3 := (gN.old i3 (by omega)).trans c3
    have n7 : h2.nx.nat < ((h2.new (.cells 2 [.i .i64 0, .i .i64 0])).put h2.nx (.cells 2 (frL (vQ A (Rat.divInt (o : Int) (u : Int)) A.length)))).nx.nat := by rw [nx_put, nx_new]; omega
    have m3 := load2 d3
    simp (disch := omega) only [f4_r5, of64, Nat.reduceEqDiff, ↓reduceIte, g3, st, m3, bz]
    generalize (h2.new (.cells 2 [.i .i64 0, .i .i64 0])).put h2.nx (.cells 2 (frL (vQ A (Rat.divInt (o : Int) (u : Int)) A.length))) = h3 at *
    have hc3 := gN.hc hc2
    refine (callP_0 (ef := f27) k.c27 rfl (f27_ret k.c73 (by decide))).mono ?_
    rintro r h4 ⟨rfl, g4'⟩
    rw [hp]
    have hc4 := g4'.hc hc3
    have c7' := (g4'.old h2.nx n7).trans c7
    have m7 := fr_load c7'
    have n4 := g4'.nx
    have d3' := (g4'.old i3 (by have := gN.nx; omega)).trans d3
    have m3' := load2 d3'
    have G4 := (g2.trans (gN.low g2.nx)).trans (g4'.low (by have := gN.nx; omega))
    simp (disch := omega) only [f4_r8, xg_g, xg_ldn, Nat.reduceEqDiff, ↓reduceIte, Bool.false_eq_true, Bool.not_true, Bool.not_false, g3, g5, q0, m7, m3', bz]
    rw [hlow]
    refine (callP_0 (ef := f28) k.c28 rfl (f28_ret k.toCallsF l7 (pl_get pA) (by omega) (by omega) (by omega) (sw.grow hc1 G4) hc4)).mono ?_
    rintro r h5 ⟨rfl, g5'⟩
    have c7'' := (g5'.old h2.nx (by omega)).trans c7'
    have m7' := fr_load c7''
    simp (disch := omega) only [xg_g, xg_pick, xg_eqk, Nat.reduceEqDiff, ↓reduceIte, Bool.false_eq_true, Bool.not_true, Bool.not_false, stay_ldn, stay_g, kq, bq, m7', cond_true, bz]
    exact last (G4.trans (g5'.low G4.nx)) (by simp (disch := omega) only [getK_set, Nat.reduceEqDiff, ↓reduceIte, g3, g5, g6, and_self])
theorem f4_ret (k : CallsVl fs) (hv : Sr iE h v L) (_ : L.length ≤ 9223372036854775807) (hc : HC h) : Ret fs f4 [v, .agg [.i .i64 a, .i .i64 b]] h fun r h' => r = .b true ∧ Grow h.nx.nat h h' := by
  apply ret_of rfl
  show W fs none f4_c _ _ _
  unfold f4_c
  have gA := Grow.new (Nat.le_refl h.nx.nat) (.cells 2 [.i .i64 a, .i .i64 b])
  have n1 := nx_new h (.cells 2 [.i .i64 a, .i .i64 b])
  have b1 : (h.new (.cells 2 [.i .i64 a, .i .i64 b])).get h.nx = .cells 2 [.i .i64 a, .i .i64 b] := get_new_same
  simp (disch := omega) only [f4_r0, f4_r1, Nat.reduceEqDiff, ↓reduceIte, bz]
  generalize h.new (.cells 2 [.i .i64 a, .i .i64 b]) = hA at *
  refine (callP_0 (ef := f26) k.c26 rfl (f26_ret (hv.grow hc gA) (gA.hc hc))).mono ?_
  rintro w h1 ⟨A, sA, oA, pA, g1⟩
  have b1 := (g1.old h.nx (by omega)).trans b1
  have G1 := gA.trans (g1.low gA.nx)
  obtain ⟨l1, l7, ls⟩ := plB_len pA
  have hiw : NotIn h.nx w := fun off n sz e => by have := oA _ _ _ _ e; omega
  simp (disch := omega) only [f4_r2, ↓reduceIte, bz]
  have key : ∀ {Q : Ex → Fr → H → Prop} {fr : Fr} {h2 : H}, f4_I h w h.nx A 0 fr h2 → (∀ fr h2, f4_I h w h.nx A 2 fr h2 → Q (.exit 0) fr h2) → W fs none (.loop f4_l0) Q fr h2 := by
    intro Q fr h2 hI hQ
    refine W_loop (f4_I h w h.nx A) (fun n => 2 - n) ?_ 0 hI
    clear hI fr h2
    intro n fr h2 hI
    unfold f4_l0
    by_cases hlt : n < 2
    · have d1 : decide ((n : Int) < 2) = true := decide_eq_true (by omega)
      obtain ⟨a1, a2, a3, a4, g3, g5, g6⟩ := hI
      have rd := fun (fr : Fr) (hP : fr.get (K.ofNat 3) = some (.p h.nx 0) ∧ fr.get (K.ofNat 5) = some (w) ∧ fr.get (K.ofNat 6) = some (.i .i64 (n : Int))) => f4_round (Q := loopK (f4_I h w h.nx A) (fun n => 2 - n) n Q) k pA hiw (Nat.le_refl _) hc (show f4_I h w h.nx A n fr h2 from ⟨a1, a2, a3, a4, hP⟩) hlt (fun fr' h' hI' => ⟨n + 1, by show 2 - (n + 1) < 2 - n; omega, hI'⟩)
      simp only [w_seq, w_block, w_reg] at rd
      simp (disch := omega) only [f4_r3, of2, ↓reduceIte, g6, d1, bz]
      exact rd _ (by simp (disch := omega) only [getK_set, Nat.reduceEqDiff, ↓reduceIte, g3, g5, g6, and_self])
    · have d1 : decide ((n : Int) < 2) = false := decide_eq_false (by omega)
      obtain ⟨a1, a2, a3, a4, g3, g5, g6⟩ := hI
      obtain rfl : n = 2 := by omega
      simp (disch := omega) only [f4_r3, of2, ↓reduceIte, Bool.false_eq_true, g6, d1, bz]
      exact hQ _ _ ⟨a1, a2, a3, a4, by simp (disch := omega) only [getK_set, Nat.reduceEqDiff, ↓reduceIte, g3, g5, g6, and_self]⟩
  refine key ⟨by omega, G1, sA.sr, ⟨_, _, b1⟩, by simp (disch := omega) only [getK_set, Nat.reduceEqDiff, ↓reduceIte, and_self, Int.natCast_zero]⟩ ?_
  clear key b1 n1 gA g1 G1
  rintro fr h2 ⟨_, G2, sw, _, g3, g5, g6⟩
  have hc2 := G2.hc hc
  simp (disch := omega) only [f4_r12, ↓reduceIte, g5, bz]
  refine (callP_0 (ef := f24) k.c24 rfl (f24_ret k pA sw hc2)).mono ?_
  rintro r h3 ⟨hM, g3'⟩
  have hc3 := g3'.hc hc2
  have G3 := G2.trans (g3'.low G2.nx)
  have mlen : (mOut A A.length A.length).length = A.length := mOut_len _
  obtain ⟨m, e, rfl, hm1, hM⟩ : ∃ m e, r = .tup [m, .i .i64 e] ∧ cellsN 1 m = some [m] ∧ ((plB (mOut A A.length A.length) = true ∧ e = 0 ∧ Sr iE h3 m (mOut A A.length A.length)) ∨ (plB (mOut A A.length A.length) = false ∧ e = 8 ∧ m = .sn)) := by
    rcases hM with ⟨hp, u, rfl, su⟩ | ⟨hp, rfl⟩
    · exact ⟨u, 0, rfl, su.sr.one, .inl ⟨hp, rfl, su.sr⟩⟩
    · exact ⟨.sn, 8, rfl, rfl, .inr ⟨hp, rfl, rfl⟩⟩
  simp (disch := omega) only [f4_r13, Nat.reduceEqDiff, ↓reduceIte, g5, bz]
  refine (callP_0 (ef := f25) k.c25 rfl (f25_ret k pA (sw.grow hc2 g3') hc3)).mono ?_
  rintro r h4 ⟨hS, g4'⟩
  have hc4 := g4'.hc hc3
  have G4 := G3.trans (g4'.low G3.nx)
  obtain ⟨slen1, slen7⟩ := slL_len l1 l7
  obtain ⟨s, f, rfl, hs1, hS⟩ : ∃ s f, r = .tup [s, .i .i64 f] ∧ cellsN 1 s = some [s] ∧ ((plB (slL A) = true ∧ f = 0 ∧ Sr iE h4 s (slL A)) ∨ (plB (slL A) = false ∧ f = 8 ∧ s = .sn)) := by
    rcases hS with ⟨hp, u, rfl, su⟩ | ⟨hp, rfl⟩
    · exact ⟨u, 0, rfl, su.sr.one, .inl ⟨hp, rfl, su.sr⟩⟩
    · exact ⟨.sn, 8, rfl, rfl, .inr ⟨hp, rfl, rfl⟩⟩
  simp (disch := omega) only [f4_r14, Nat.reduceEqDiff, ↓reduceIte, g5, bz]
  have sw4 := (sw.grow hc2 g3').grow hc3 g4'
  refine (callP_0 (ef := f30) k.c30 rfl (f30_ret k.c76 l7 (pl_get pA) sw4 hc4)).mono ?_
  rintro ra h5 ⟨sa, _, g5'⟩
  have hc5 := g5'.hc hc4
  have G5 := G4.trans (g5'.low G4.nx)
  simp (disch := omega) only [Nat.reduceEqDiff, ↓reduceIte, g5, bz]
  refine (callP_0 (ef := f31) k.c31 rfl (f31_ret l1 l7 (pl_get pA) (sw4.grow hc4 g5') hc5)).mono ?_
  rintro rb h6 ⟨sb, _, g6'⟩
  have hc6 := g6'.hc hc5
  have G6 := G5.trans (g6'.low G5.nx)
  have sa6 := sa.sr.grow hc5 g6'
  have hM6 : (smB (mOut A A.length A.length) = true ∧ e = 0 ∧ Sr iE h6 m (mOut A A.length A.length)) ∨ (smB (mOut A A.length A.length) = false ∧ e = 8 ∧ m = .sn) := by
    have pe : plB (mOut A A.length A.length) = smB (mOut A A.length A.length) := by
      unfold plB; rw [mlen, decide_eq_true l1, decide_eq_true l7]; rfl
    rw [pe] at hM
    exact hM.imp (fun ⟨a, b, c⟩ => ⟨a, b, ((c.grow hc3 g4').grow hc4 g5').grow hc5 g6'⟩) id
  have hS6 : (smB (slL A) = true ∧ f = 0 ∧ Sr iE h6 s (slL A)) ∨ (smB (slL A) = false ∧ f = 8 ∧ s = .sn) := by
    have pe : plB (slL A) = smB (slL A) := by
      unfold plB; rw [decide_eq_true slen1, decide_eq_true slen7]; rfl
    rw [pe] at hS
    exact hS.imp (fun ⟨a, b, c⟩ => ⟨a, b, (c.grow hc4 g5').grow hc5 g6'⟩) id
  clear hM hS
  have ea := fun P => f32_eq k.c32 sa6 (by rw [mlen]; omega) (P := P)
  have eb := fun P => f32_eq k.c32 sb.sr (by omega) (P := P)
  have q0 : decide ((0 : Int) ≠ 0) = false := rfl
  have q0' : decide ((0 : Int) = 0) = true := rfl
  have q8 : decide ((8 : Int) ≠ 0) = true := rfl
  have q88 : decide ((8 : Int) ≠ 8) = false := rfl
  have q88' : decide ((8 : Int) = 8) = true := rfl
  have ll : ∀ h0 : H, lenV .sn h0 = .ok (.i .i64 0) h0 := fun _ => rfl
  have dT : ∀ {X : List Int}, decide (X = X) = true := decide_eq_true rfl
  have fin : ∀ fr : Fr, fr.get (K.ofNat 11) = some (s) ∧ fr.get (K.ofNat 12) = some (.i .i64 f) ∧ fr.get (K.ofNat 14) = some (rb) → W fs none (.seq (.reg f4_r17) .ret) (retK f4 fun r h' => r = .b true ∧ Grow h.nx.nat h h') fr h6 := by
    clear g3 g5 g6 fr
    rintro fr ⟨g11, g12, g14⟩
    rcases hS6 with ⟨hs, rfl, ss⟩ | ⟨hs, rfl, rfl⟩
    · have e33 := fun P => f33_eq k.c33 ss sb.sr (by omega) (P := P)
      rw [hs] at eb
      rw [dT] at e33
      simp (disch := omega) only [f4_r17, f4_rs, okG_u, asG_u, of8, Option.some.injEq, exists_eq_left', Nat.reduceEqDiff, ↓reduceIte, Bool.false_eq_true, decide_eq_true_eq, Bool.not_true, g11, g12, g14, eb, e33, k.aw, bz]
      exact G6
    · rw [hs] at eb
      simp (disch := omega) only [f4_r17, f4_rs, of8, Option.some.injEq, exists_eq_left', Nat.reduceEqDiff, ↓reduceIte, Bool.false_eq_true, decide_eq_true_eq, Bool.not_false, g11, g12, g14, eb, ll, k.aw, bz]
      exact G6
  simp only [w_seq, w_reg] at fin
  rcases hM6 with ⟨hs, rfl, ss⟩ | ⟨hs, rfl, rfl⟩
  · have e33 := fun P => f33_eq k.c33 ss sa6 (by rw [mlen]; omega) (P := P)
    rw [hs] at ea
    rw [dT] at e33
    simp (disch := omega) only [f4_r15, okG_u, asG_u, of8, Nat.reduceEqDiff, ↓reduceIte, Bool.false_eq_true, Bool.not_true, Bool.not_false, ea, e33, q0, bz]
    exact fin _ (by simp (disch := omega) only [getK_set, Nat.reduceEqDiff, ↓reduceIte, and_self])
  · rw [hs] at ea
    simp (disch := omega) only [f4_r15, okG_u, asG_u, of8, Nat.reduceEqDiff, ↓reduceIte, Bool.false_eq_true, Bool.not_false, ea, q88, ll, q0, bz]
    exact fin _ (by simp (disch := omega) only [getK_set, Nat.reduceEqDiff, ↓reduceIte, and_self])
end
end Go.Ev
