/-
  Bern: one degree more, as the reference has it (43)., and what follows.
-/
import Derived.Test.YtahogmegmjpndaaDoorPe
import Derived.Test.YtahogmegmjpndaaDoorPf
namespace Go.Ev
open Go Go.RowKit
section
variable {fs : T EF} {h : H} {v w u : V} {C : List (Int × Int)}
theorem fill_q {fr : Fr} {x : EO} {z1 z2 : V} : fillE fr [z1, z2] [(0, 2, x)] = oGet (cellsN 2 (ev fr x)) none fun cs => some (setMany [z1, z2] 0 cs) := of_eq_true (eq_self _)
theorem set_q {z1 z2 : V} {q : Rat} : setMany [z1, z2] 0 (frL q) = frL q := of_eq_true (eq_self _)
def f43_I (h0 : H) (v : V) (C : List (Int × Int)) (n i : Nat) (fr : Fr) (h1 : H) : Prop := i ≤ n + 1 ∧ Grow h0.nx.nat h0 h1 ∧ ∃ o, Sk 2 qE h1 o (rwL (sB C n) i) ∧ Own h0.nx.nat o ∧ fr.get (K.ofNat 0) = some (v) ∧ fr.get (K.ofNat 3) = some (.i .i64 (n : Int)) ∧ fr.get (K.ofNat 4) = some (o) ∧ fr.get (K.ofNat 5) = some (.i .i64 (i : Int))
theorem f43_ret {n : Nat} (k : CallsF fs) (hn1 : 1 ≤ n) (hn : n ≤ 7) (hl : C.length = n) (hC : ∀ x ∈ C, coB x.1 x.2 = true) (hv : Srp h v C) (hc : HC h) : Ret fs f43 [v] h fun r h' => Sk 2 qE h' r (rwL (sB C n) (n + 1)) ∧ Own h.nx.nat r ∧ Grow h.nx.nat h h' := by
  apply ret_of rfl
  show W fs none f43_c _ _ _
  unfold f43_c
  have e1 := hv.len
  rw [hl] at e1
  simp (disch := omega) only [f43_r0, f43_r1, f43_r2, f43_r3, Nat.reduceEqDiff, ↓reduceIte, e1, bz]
  refine W_loop (f43_I h v C n) (fun i => n + 1 - i) ?_ 0 ⟨by omega, Grow.refl _ _, .sn, .inl ⟨rfl, rfl⟩, (fun _ _ _ _ e => by cases e), by simp (disch := omega) only [getK_set, Nat.reduceEqDiff, ↓reduceIte, and_self, Int.natCast_zero]⟩
  rintro i fr h1 ⟨hi, G1, o, so, oo, g0, g3, g4, g5⟩
  have hc1 := G1.hc hc
  unfold f43_l0
  by_cases hle : i ≤ n
  · have d1 : decide ((i : Int) ≤ (n : Int)) = true := decide_eq_true (by omega)
    have gN := Grow.new (Nat.le_refl h1.nx.nat) (.cells 2 [.i .i64 0, .i .i64 0])
    have nN := nx_new h1 (.cells 2 [.i .i64 0, .i .i64 0])
    have bN : (h1.new (.cells 2 [.i .i64 0, .i .i64 0])).get h1.nx = .cells 2 [.i .i64 0, .i .i64 0] := get_new_same
    have st0 := store2 (x := .i .i64 0) (y := .i .i64 1) bN
    have Bq : ((h1.new (.cells 2 [.i .i64 0, .i .i64 0])).put h1.nx (.cells 2 [.i .i64 0, .i .i64 1])).get h1.nx = .cells 2 (frL 0) := get_put_same
    have gq := gN.trans (Grow.put (b := h1.nx.nat) (h := h1.new (.cells 2 [.i .i64 0, .i .i64 0])) (k := h1.nx) (Nat.le_refl _) (by omega) (.cells 2 [.i .i64 0, .i .i64 1]))
    have Gq := G1.trans (gq.low G1.nx)
    have Sq := so.grow hc1 gq
    have lo := so.lt hc1
    have G1n := G1.nx
    have ee : fw .i64 ((i : Int) + 1) = ((i + 1 : Nat) : Int) := by rw [fw64 (by omega) (by omega)]; rfl
    have hcq := Gq.hc hc
    have Jq := hcq.cells Bq
    have ni : NotIn h1.nx o := fun off m sz e => by have := lo _ _ _ _ e; omega
    have eC : fw .i64 ((n : Int) - (i : Int)) = ((n : Int) - (i : Int)) := fw64 (by omega) (by omega)
    have mq := fr_load Bq
    have MB : ∀ j, MlB (qv C j) (Rat.divInt (i : Int) (n : Int)) := fun j => mlb_ov (qv_ov hC j) (rt_ov (a := i) (n := n) hn1 (by omega)) (by unfold M63; omega) (by unfold M63; omega) (by unfold M63; omega) (by unfold M63; omega) (by unfold M63; omega) (by unfold M63; omega)
    have AB : ∀ j, AdB 0 (qv C j * Rat.divInt (i : Int) (n : Int)) := fun j => adb_ov (ov_0 (D := 240 * n) (by omega)) (pr_ov hC j (a := i) (n := n) hn1 (by omega)) (by unfold M63; omega) (by unfold M63; omega)
    have en : ((n - i : Nat) : Int) = (n : Int) - (i : Int) := by omega
    have MB2 : ∀ j, MlB (qv C j) (Rat.divInt ((n : Int) - (i : Int)) (n : Int)) := fun j => by
      rw [← en]
      exact mlb_ov (qv_ov hC j) (rt_ov (a := n - i) (n := n) hn1 (by omega)) (by unfold M63; omega) (by unfold M63; omega) (by unfold M63; omega) (by unfold M63; omega) (by unfold M63; omega) (by unfold M63; omega)
    have AB2 : ∀ j, AdB (sA C n i) (qv C j * Rat.divInt ((n : Int) - (i : Int)) (n : Int)) := fun j => by
      rw [← en]
      exact adb_ov (sA_ov hC hn1 (by omega)) (pr_ov hC j (a := n - i) (n := n) hn1 (by omega)) (by unfold M63; omega) (by unfold M63; omega)
    by_cases h0 : 0 < i
    · have dA : decide ((i : Int) > 0) = true := decide_eq_true (by omega)
      have em : fw .i64 ((i : Int) - 1) = ((i - 1 : Nat) : Int) := by rw [fw64 (by omega) (by omega)]; omega
      obtain ⟨ia, iq, p1, p2⟩ := hv.at2g hc (i := i - 1) (by omega)
      rw [qv_fr (by omega) (hC _ (List.getElem_mem _))] at p2
      have ldq := p2 _ Gq
      have eA : sA C n i = 0 + qv C (i - 1) * Rat.divInt (i : Int) (n : Int) := if_pos h0
      simp (disch := omega) only [f43_r4, f43_r5, f43_r6, f43_r7, bin_leq, Nat.reduceEqDiff, ↓reduceIte, g0, g3, g5, d1, dA, st0, em, p1, ldq, mq, bz]
      generalize h1.nx = i6 at *
      generalize (h1.new (.cells 2 [.i .i64 0, .i .i64 0])).put i6 (.cells 2 [.i .i64 0, .i .i64 1]) = q at *
      clear mq ldq
      refine (callP_0 (ef := f54) k.c54 rfl (f54_ret (a := (i : Int)) (b := (n : Int)) k.c73 (by unfold M63; omega) (by unfold M63; omega) (by omega))).mono ?_
      rintro _ a1 ⟨rfl, ga1⟩
      have Ga1 := Gq.trans (ga1.low Gq.nx)
      have hca1 := Ga1.hc hc
      have Ba1 := (ga1.old i6 Jq).trans Bq
      have Ja1 := hca1.cells Ba1
      have Sa1 := Sq.grow hcq ga1
      have lda1 := p2 _ Ga1
      have ma1 := fr_load Ba1
      simp (disch := omega) only [stay_iads, stay_bin, Nat.reduceEqDiff, ↓reduceIte, g0, g5, em, p1, lda1, ma1, hv.beq, fr_beq, bz]
      refine (callP_0 (ef := f75) k.c75 rfl (mul_ret k (MB (i - 1)))).mono ?_
      rintro _ a2 ⟨rfl, ga2⟩
      have Ga2 := Ga1.trans (ga2.low Ga1.nx)
      have hca2 := Ga2.hc hc
      have Ba2 := (ga2.old i6 Ja1).trans Ba1
      have Ja2 := hca2.cells Ba2
      have Sa2 := Sa1.grow hca1 ga2
      have ma2 := fr_load Ba2
      simp (disch := omega) only [Nat.reduceEqDiff, ↓reduceIte, ma2, fr_beq, bz]
      refine (callP_0 (ef := f74) k.c74 rfl (add_ret k (AB (i - 1)))).mono ?_
      rintro _ a3 ⟨rfl, ga3⟩
      have Ga3 := Ga2.trans (ga3.low Ga2.nx)
      have hca3 := Ga3.hc hc
      have Ba3 := (ga3.old i6 Ja2).trans Ba2
      have Ja3 := hca3.cells Ba3
      have Sa3 := Sa2.grow hca2 ga3
      rw [← eA]
      have sta3 := fr_store (q := sA C n i) Ba3 rfl
      have Ga4 := Ga3.trans (Grow.put (b := h.nx.nat) (k := i6) (by omega) Ja3 (.cells 2 (frL (sA C n i))))
      have Ba4 : (a3.put i6 (.cells 2 (frL (sA C n i)))).get i6 = .cells 2 (frL (sA C n i)) := get_put_same
      have Sa4 := Sa3.put (id := i6) ni (.cells 2 (frL (sA C n i)))
      simp (disch := omega) only [Nat.reduceEqDiff, ↓reduceIte, sta3, bz]
      generalize a3.put i6 (.cells 2 (frL (sA C n i))) = a4 at *
      have hca4 := Ga4.hc hc
      have Ja4 := hca4.cells Ba4
      by_cases hlt : i < n
      · have dB : decide ((i : Int) < (n : Int)) = true := decide_eq_true (by omega)
        obtain ⟨ja, jq, r1, r2⟩ := hv.at2g hc (i := i) (by omega)
        rw [qv_fr (by omega) (hC _ (List.getElem_mem _))] at r2
        have lda4 := r2 _ Ga4
        have ma4 := fr_load Ba4
        have eB : sB C n i = sA C n i + qv C i * Rat.divInt ((n : Int) - (i : Int)) (n : Int) := if_pos hlt
        simp (disch := omega) only [f43_r8, f43_r9, Nat.reduceEqDiff, ↓reduceIte, g0, g3, g5, dB, eC, r1, lda4, ma4, bz]
        clear lda4 ma4
        refine (callP_0 (ef := f54) k.c54 rfl (f54_ret (a := ((n : Int) - (i : Int))) (b := (n : Int)) k.c73 (by unfold M63; omega) (by unfold M63; omega) (by omega))).mono ?_
        rintro _ b1 ⟨rfl, gb1⟩
        have Gb1 := Ga4.trans (gb1.low Ga4.nx)
        have hcb1 := Gb1.hc hc
        have Bb1 := (gb1.old i6 Ja4).trans Ba4
        have Jb1 := hcb1.cells Bb1
        have Sb1 := Sa4.grow hca4 gb1
        have ldb1 := r2 _ Gb1
        have mb1 := fr_load Bb1
        simp (disch := omega) only [stay_iads, Nat.reduceEqDiff, ↓reduceIte, g0, g5, r1, ldb1, mb1, hv.beq, fr_beq, bz]
        refine (callP_0 (ef := f75) k.c75 rfl (mul_ret k (MB2 i))).mono ?_
        rintro _ b2 ⟨rfl, gb2⟩
        have Gb2 := Gb1.trans (gb2.low Gb1.nx)
        have hcb2 := Gb2.hc hc
        have Bb2 := (gb2.old i6 Jb1).trans Bb1
        have Jb2 := hcb2.cells Bb2
        have Sb2 := Sb1.grow hcb1 gb2
        have mb2 := fr_load Bb2
        simp (disch := omega) only [Nat.reduceEqDiff, ↓reduceIte, mb2, fr_beq, bz]
        refine (callP_0 (ef := f74) k.c74 rfl (add_ret k (AB2 i))).mono ?_
        rintro _ b3 ⟨rfl, gb3⟩
        have Gb3 := Gb2.trans (gb3.low Gb2.nx)
        have hcb3 := Gb3.hc hc
        have Bb3 := (gb3.old i6 Jb2).trans Bb2
        have Jb3 := hcb3.cells Bb3
        have Sb3 := Sb2.grow hcb2 gb3
        rw [← eB]
        have stb3 := fr_store (q := sB C n i) Bb3 rfl
        have Gb4 := Gb3.trans (Grow.put (b := h.nx.nat) (k := i6) (by omega) Jb3 (.cells 2 (frL (sB C n i))))
        have Bb4 : (b3.put i6 (.cells 2 (frL (sB C n i)))).get i6 = .cells 2 (frL (sB C n i)) := get_put_same
        have Sb4 := Sb3.put (id := i6) ni (.cells 2 (frL (sB C n i)))
        simp (disch := omega) only [Nat.reduceEqDiff, ↓reduceIte, stb3, bz]
        generalize b3.put i6 (.cells 2 (frL (sB C n i))) = b4 at *
        have hcb4 := Gb4.hc hc
        have Jb4 := hcb4.cells Bb4
        have m9 := fr_load Bb4
        obtain ⟨w9, h9, y1, y2, y3, y4, _⟩ := Sk.push qE_len (by omega) (x := frP (sB C n i)) Sb4 oo Gb4.nx hcb4 (by rw [rwL_len]; omega)
        have y1' : appV 2 (b4.new (.cells (1 * 2) (frL (sB C n i)))) o (.sl b4.nx 0 1 2) = .ok w9 h9 := y1
        rw [← rwL_s] at y2
        simp (disch := omega) only [f43_r10, f43_r11, Nat.reduceEqDiff, ↓reduceIte, g4, g5, m9, fill_q, fr_cells, set_q, y1', ee, bz]
        exact ⟨i + 1, by omega, by omega, Gb4.trans y4, w9, y2, y3, by simp (disch := omega) only [getK_set, Nat.reduceEqDiff, ↓reduceIte, g0, g3, and_self]⟩
      · have dB : decide ((i : Int) < (n : Int)) = false := decide_eq_false (by omega)
        have eB : sB C n i = sA C n i := if_neg hlt
        simp (disch := omega) only [f43_r8, Nat.reduceEqDiff, ↓reduceIte, Bool.false_eq_true, g3, g5, dB, bz]
        rw [← eB] at Ba4
        have m9 := fr_load Ba4
        obtain ⟨w9, h9, y1, y2, y3, y4, _⟩ := Sk.push qE_len (by omega) (x := frP (sB C n i)) Sa4 oo Ga4.nx hca4 (by rw [rwL_len]; omega)
        have y1' : appV 2 (a4.new (.cells (1 * 2) (frL (sB C n i)))) o (.sl a4.nx 0 1 2) = .ok w9 h9 := y1
        rw [← rwL_s] at y2
        simp (disch := omega) only [f43_r10, f43_r11, Nat.reduceEqDiff, ↓reduceIte, g4, g5, m9, fill_q, fr_cells, set_q, y1', ee, bz]
        exact ⟨i + 1, by omega, by omega, Ga4.trans y4, w9, y2, y3, by simp (disch := omega) only [getK_set, Nat.reduceEqDiff, ↓reduceIte, g0, g3, and_self]⟩
    · have dA : decide ((i : Int) > 0) = false := decide_eq_false (by omega)
      have dB : decide ((i : Int) < (n : Int)) = true := decide_eq_true (by omega)
      obtain ⟨ja, jq, r1, r2⟩ := hv.at2g hc (i := i) (by omega)
      rw [qv_fr (by omega) (hC _ (List.getElem_mem _))] at r2
      have ldq := r2 _ Gq
      have e0 : sA C n i = 0 := if_neg h0
      have eB : sB C n i = 0 + qv C i * Rat.divInt ((n : Int) - (i : Int)) (n : Int) := by rw [← e0]; exact if_pos (by omega)
      rw [e0] at AB2
      simp (disch := omega) only [f43_r4, f43_r5, f43_r6, f43_r8, f43_r9, bin_leq, Nat.reduceEqDiff, ↓reduceIte, Bool.false_eq_true, g0, g3, g5, d1, dA, dB, st0, eC, r1, ldq, mq, bz]
      generalize h1.nx = i6 at *
      generalize (h1.new (.cells 2 [.i .i64 0, .i .i64 0])).put i6 (.cells 2 [.i .i64 0, .i .i64 1]) = q at *
      clear mq ldq
      refine (callP_0 (ef := f54) k.c54 rfl (f54_ret (a := ((n : Int) - (i : Int))) (b := (n : Int)) k.c73 (by unfold M63; omega) (by unfold M63; omega) (by omega))).mono ?_
      rintro _ b1 ⟨rfl, gb1⟩
      have Gb1 := Gq.trans (gb1.low Gq.nx)
      have hcb1 := Gb1.hc hc
      have Bb1 := (gb1.old i6 Jq).trans Bq
      have Jb1 := hcb1.cells Bb1
      have Sb1 := Sq.grow hcq gb1
      have ldb1 := r2 _ Gb1
      have mb1 := fr_load Bb1
      simp (disch := omega) only [stay_iads, Nat.reduceEqDiff, ↓reduceIte, g0, g5, r1, ldb1, mb1, hv.beq, fr_beq, bz]
      refine (callP_0 (ef := f75) k.c75 rfl (mul_ret k (MB2 i))).mono ?_
      rintro _ b2 ⟨rfl, gb2⟩
      have Gb2 := Gb1.trans (gb2.low Gb1.nx)
      have hcb2 := Gb2.hc hc
      have Bb2 := (gb2.old i6 Jb1).trans Bb1
      have Jb2 := hcb2.cells Bb2
      have Sb2 := Sb1.grow hcb1 gb2
      have mb2 := fr_load Bb2
      simp (disch := omega) only [Nat.reduceEqDiff, ↓reduceIte, mb2, fr_beq, bz]
      refine (callP_0 (ef := f74) k.c74 rfl (add_ret k (AB2 i))).mono ?_
      rintro _ b3 ⟨rfl, gb3⟩
      have Gb3 := Gb2.trans (gb3.low Gb2.nx)
      have hcb3 := Gb3.hc hc
      have Bb3 := (gb3.old i6 Jb2).trans Bb2
      have Jb3 := hcb3.cells Bb3
      have Sb3 := Sb2.grow hcb2 gb3
      rw [← eB]
      have stb3 := fr_store (q := sB C n i) Bb3 rfl
      have Gb4 := Gb3.trans (Grow.put (b := h.nx.nat) (k := i6) (by omega) Jb3 (.cells 2 (frL (sB C n i))))
      have Bb4 : (b3.put i6 (.cells 2 (frL (sB C n i)))).get i6 = .cells 2 (frL (sB C n i)) := get_put_same
      have Sb4 := Sb3.put (id := i6) ni (.cells 2 (frL (sB C n i)))
      simp (disch := omega) only [Nat.reduceEqDiff, ↓reduceIte, stb3, bz]
      generalize b3.put i6 (.cells 2 (frL (sB C n i))) = b4 at *
      have hcb4 := Gb4.hc hc
      have Jb4 := hcb4.cells Bb4
      have m9 := fr_load Bb4
      obtain ⟨w9, h9, y1, y2, y3, y4, _⟩ := Sk.push qE_len (by omega) (x := frP (sB C n i)) Sb4 oo Gb4.nx hcb4 (by rw [rwL_len]; omega)
      have y1' : appV 2 (b4.new (.cells (1 * 2) (frL (sB C n i)))) o (.sl b4.nx 0 1 2) = .ok w9 h9 := y1
      rw [← rwL_s] at y2
      simp (disch := omega) only [f43_r10, f43_r11, Nat.reduceEqDiff, ↓reduceIte, g4, g5, m9, fill_q, fr_cells, set_q, y1', ee, bz]
      exact ⟨i + 1, by omega, by omega, Gb4.trans y4, w9, y2, y3, by simp (disch := omega) only [getK_set, Nat.reduceEqDiff, ↓reduceIte, g0, g3, and_self]⟩
  · have d1 : decide ((i : Int) ≤ (n : Int)) = false := decide_eq_false (by omega)
    obtain rfl : i = n + 1 := by omega
    simp (disch := omega) only [f43_r4, f43_r12, f43_rs, bin_leq, Option.some.injEq, exists_eq_left', Nat.reduceEqDiff, ↓reduceIte, Bool.false_eq_true, g3, g4, g5, d1, bz]
    exact ⟨so, oo, G1⟩
end
end Go.Ev
namespace Go.Ev
open Go Go.RowKit
noncomputable def f46_r0 : List EOper := [oG 4 (.as (.c .sn))]
noncomputable def f46_r1 : List EOper := [oG 5 (.as (.c .sn))]
noncomputable def f46_r2 : List EOper := [oG 6 (.as (cG 0))]
noncomputable def f46_r3 : List EOper := [oG 8 (.mv (tG 6)), oG 9 (.mv (tG 0)), oG 10 (.len (tG 9)), oG 11 (.bin .lss (tG 8) (tG 10)), oG 12 (.mv (tG 11)), gG 13 12 true (.mv (tG 6)), gG 14 12 true (.mv (tG 1)), gG 15 12 true (.bin .lss (tG 13) (tG 14)), oG 16 (.pick (tG 12) (tG 15) (.c (.b false)))]
noncomputable def f46_r4 : List EOper := [oG 19 (.build [(.i .i64 (.ofNat 0)), (.i .i64 (.ofNat 0)), (.i .i64 (.ofNat 0)), (.i .i64 (.ofNat 0)), (.i .i64 (.ofNat 0)), (.i .i64 (.ofNat 0))] [(0, 1, (cG 1)), (1, 1, (cG 2)), (2, 1, (cG 3)), (3, 1, (cG 5)), (4, 1, (cG 48)), (5, 1, (cG 240))]), oG 20 (.mv (tG 0)), oG 21 (.mv (tG 6)), oG 22 (.iads 2 (tG 20) (tG 21)), oG 23 (.iadr 2 1 (tG 22) (cG 1)), oG 24 (.ld (tG 23)), oG 25 (.conv .u64 (tG 24)), oG 26 (.bin .rem (tG 25) (.c (.i .u64 (.ofNat 6)))), oG 27 (.ix 6 1 false (tG 19) (tG 26)), oG 7 (.as (tG 27))]
noncomputable def f46_r5 : List EOper := [oG 28 (.mv (tG 5)), oG 29 (.mv (tG 0)), oG 30 (.mv (tG 6)), oG 31 (.iads 2 (tG 29) (tG 30)), oG 32 (.iadr 2 1 (tG 31) (cG 0)), oG 33 (.ld (tG 32)), oG 34 (.conv .u64 (tG 33)), oG 35 (.bin .rem (tG 34) (.c (.i .u64 (.ofNat 2001)))), oG 36 (.conv .i64 (tG 35)), oG 37 (.bin .sub (tG 36) (cG 1000)), oG 38 (.mv (tG 7)), oG 39 (.call (fG 54) [(tG 37), (tG 38)]), oG 40 (.bslice 1 2 [(.i .i64 (.ofNat 0)), (.i .i64 (.ofNat 0))] [(0, 2, (tG 39))]), oG 41 (.app 2 (tG 28) (tG 40)), oG 5 (.as (tG 41))]
noncomputable def f46_r6 : List EOper := [oG 17 (.mv (tG 6)), oG 18 (.bin .add (tG 17) (cG 1)), oG 6 (.as (tG 18))]
noncomputable def f46_l0 : EC := (.seq (.seq (.reg f46_r3) (.cond (tG 16) .skip (.exit 0))) (.seq (.block 1 (.seq (.reg f46_r4) (.reg f46_r5))) (.reg f46_r6)))
noncomputable def f46_r7 : List EOper := [oG 42 (.mv (tG 5)), oG 43 (.len (tG 42)), oG 44 (.bin .eql (tG 43) (cG 0))]
noncomputable def f46_r8 : List EOper := [oG 45 (.mv (tG 5)), oG 46 (.build [(.i .i64 (.ofNat 0)), (.i .i64 (.ofNat 0))] [(0, 1, (.c (.i .i64 (.negSucc 0)))), (1, 1, (cG 2))]), oG 47 (.bslice 1 2 [(.i .i64 (.ofNat 0)), (.i .i64 (.ofNat 0))] [(0, 2, (tG 46))]), oG 48 (.app 2 (tG 45) (tG 47)), oG 5 (.as (tG 48))]
noncomputable def f46_r9 : List EOper := [oG 49 (.mv (tG 5)), oG 4 (.as (tG 49))]
noncomputable def f46_c : EC := (.seq (.reg f46_r0) (.seq (.reg f46_r1) (.seq (.seq (.reg f46_r2) (.block 0 (.loop f46_l0))) (.seq (.seq (.reg f46_r7) (.cond (tG 44) (.reg f46_r8) .skip)) (.seq (.reg f46_r9) .ret)))))
noncomputable def f46 : EF := ⟨50, [.tmp (.ofNat 4)], f46_c, none⟩
theorem f46_rs : f46.rs = [.tmp (.ofNat 4)] := of_eq_true (eq_self _)
section
variable {fs : T EF} {h : H} {v w u : V} {L C : List (Int × Int)}
theorem Sk.srp {L : List (Int × Int)} (hs : Sk 2 qE h v L) : Srp h v L := by
  rcases hs with ⟨rfl, rfl⟩ | ⟨id, off, m, cs, rfl, hb, hl, hm, hx⟩
  · exact .inl ⟨rfl, rfl, rfl⟩
  · exact .inr ⟨id, off, m, cs, rfl, .inl hb, hl, hm, hx⟩
theorem set_p2 {z1 z2 a b : V} : setMany [z1, z2] 0 [a, b] = [a, b] := of_eq_true (eq_self _)
theorem of48 : Int.ofNat 48 = 48 := of_eq_true (eq_self _)
theorem of2001 : Int.ofNat 2001 = 2001 := of_eq_true (eq_self _)
theorem ng0 : Int.negSucc 0 = -1 := of_eq_true (eq_self _)
def t2001 (x : Int) : Int := fw .i64 ((fw .u64 x).tmod 2001) - 1000
theorem t2001_bd (x : Int) : -1000 ≤ t2001 x ∧ t2001 x ≤ 1000 := by
  have h := u64_bd x
  unfold t2001
  rw [Int.tmod_eq_emod_of_nonneg h.1, fw64 (by omega) (by omega)]
  omega
theorem co_fr {a b : Int} (ha : a.natAbs ≤ 1000) (hb : 0 < b) (hd : b ∣ 240) : coB (frP (Rat.divInt a b)).1 (frP (Rat.divInt a b)).2 = true := by
  have h1 := (div_le (a := a) (b := b) (by omega)).1
  have h2 := den_dvd' (a := a) hb
  have h3 := (Rat.divInt a b).den_nz
  have h4 := (Rat.divInt a b).reduced
  rw [coB_iff]
  refine ⟨?_, ?_, ?_, ?_, h4⟩
  · show -1000000 ≤ (Rat.divInt a b).num; omega
  · show (Rat.divInt a b).num ≤ 1000000; omega
  · show 1 ≤ ((Rat.divInt a b).den : Int); omega
  · show (240 : Int).tmod ((Rat.divInt a b).den : Int) = 0
    exact Int.tmod_eq_zero_of_dvd (Int.dvd_trans h2 hd)
theorem ix6 {m : Nat} {kk : IntKind} (hm : m < 6) : ∃ d : Int, (∀ h1 : H, ixV 6 1 false (.agg [.i .i64 1, .i .i64 2, .i .i64 3, .i .i64 5, .i .i64 48, .i .i64 240]) (.i kk (m : Int)) h1 = .ok (.i .i64 d) h1) ∧ 0 < d ∧ d ≤ 240 ∧ d ∣ 240 := by
  match m, hm with
  | 0, _ => exact ⟨1, fun _ => rfl, by decide, by decide, by decide⟩
  | 1, _ => exact ⟨2, fun _ => rfl, by decide, by decide, by decide⟩
  | 2, _ => exact ⟨3, fun _ => rfl, by decide, by decide, by decide⟩
  | 3, _ => exact ⟨5, fun _ => rfl, by decide, by decide, by decide⟩
  | 4, _ => exact ⟨48, fun _ => rfl, by decide, by decide, by decide⟩
  | 5, _ => exact ⟨240, fun _ => rfl, by decide, by decide, by decide⟩
  | m + 6, hm => omega
def f46_I (h0 : H) (v : V) (L : List (Int × Int)) (m j : Nat) (fr : Fr) (h1 : H) : Prop := j ≤ L.length ∧ j ≤ m ∧ Grow h0.nx.nat h0 h1 ∧ ∃ u C, Sk 2 qE h1 u C ∧ Own h0.nx.nat u ∧ C.length = j ∧ (∀ x ∈ C, coB x.1 x.2 = true) ∧ fr.get (K.ofNat 0) = some (v) ∧ fr.get (K.ofNat 1) = some (.i .i64 (m : Int)) ∧ fr.get (K.ofNat 5) = some (u) ∧ fr.get (K.ofNat 6) = some (.i .i64 (j : Int))
theorem f46_ret {m : Nat} (k : CallsF fs) (hm1 : 1 ≤ m) (hm : m ≤ 7) (hv : Srp h v L) (hc : HC h) : Ret fs f46 [v, .i .i64 (m : Int)] h fun r h' => ∃ C, Sk 2 qE h' r C ∧ Own h.nx.nat r ∧ gvB C = true ∧ C.length ≤ m ∧ Grow h.nx.nat h h' := by
  apply ret_of rfl
  show W fs none f46_c _ _ _
  unfold f46_c
  simp (disch := omega) only [f46_r0, f46_r1, f46_r2, bz]
  refine W_loop (f46_I h v L m) (fun j => m - j) ?_ 0 ⟨by omega, by omega, Grow.refl _ _, .sn, [], .inl ⟨rfl, rfl⟩, (fun _ _ _ _ e => by cases e), rfl, (fun x hx => by cases hx), by simp (disch := omega) only [getK_set, Nat.reduceEqDiff, ↓reduceIte, and_self, Int.natCast_zero]⟩
  rintro j fr h1 ⟨hj, hjm, hG, u, C, hs, ho, hT, hC, g0, g1, g5, g6⟩
  have hc1 := hG.hc hc
  have hv1 := hv.grow hc hG
  have e1 := hv1.len
  have el := hs.srp.len
  unfold f46_l0
  have out : ∀ fr : Fr, fr.get (K.ofNat 5) = some u → W fs none (.seq (.seq (.reg f46_r7) (.cond (.t (K.ofNat 44)) (.reg f46_r8) .skip)) (.seq (.reg f46_r9) .ret)) (retK f46 fun r h' => ∃ C, Sk 2 qE h' r C ∧ Own h.nx.nat r ∧ gvB C = true ∧ C.length ≤ m ∧ Grow h.nx.nat h h') fr h1 := by
    clear g0 g1 g5 g6 fr
    intro fr g5
    by_cases h0 : C.length = 0
    · have d1 : decide ((C.length : Int) = 0) = true := decide_eq_true (by omega)
      obtain ⟨u', h2, a1, a2, a3, a4, _⟩ := Sk.push qE_len (by omega) (x := ((-1 : Int), (2 : Int))) hs ho hG.nx hc1 (by omega)
      have a1' : appV 2 (h1.new (.cells (1 * 2) [.i .i64 (-1), .i .i64 2])) u (.sl h1.nx 0 1 2) = .ok u' h2 := a1
      simp (disch := omega) only [f46_r7, f46_r8, f46_r9, f46_rs, of2, Option.some.injEq, exists_eq_left', Nat.reduceEqDiff, ↓reduceIte, g5, el, d1, ng0, fill_q, set_p2, a1', bz]
      refine ⟨_, a2, a3, gvB_iff.2 ⟨by simp, by simp; omega, fun x hx => ?_⟩, by simp; omega, hG.trans a4⟩
      have hC0 : C = [] := List.length_eq_zero_iff.1 h0
      rw [hC0] at hx
      obtain rfl : x = (-1, 2) := by simpa using hx
      decide
    · have d1 : decide ((C.length : Int) = 0) = false := decide_eq_false (by omega)
      simp (disch := omega) only [f46_r7, f46_r9, f46_rs, Option.some.injEq, exists_eq_left', Nat.reduceEqDiff, ↓reduceIte, Bool.false_eq_true, g5, el, d1, bz]
      exact ⟨_, hs, ho, gvB_iff.2 ⟨by omega, by omega, hC⟩, by omega, hG⟩
  simp only [w_seq, w_reg] at out
  by_cases hlt : j < L.length
  · have d1 : decide ((j : Int) < (L.length : Int)) = true := decide_eq_true (by omega)
    by_cases h6 : j < m
    · have d2 : decide ((j : Int) < (m : Int)) = true := decide_eq_true (by omega)
      obtain ⟨id, q, p1, p2, p3, p4⟩ := hv1.at2 hlt
      have ub := u64_bd L[j].2
      have hr := Int.emod_lt_of_pos (fw .u64 L[j].2) (show (0 : Int) < 6 by omega)
      have hr0 := Int.emod_nonneg (fw .u64 L[j].2) (show (6 : Int) ≠ 0 by omega)
      obtain ⟨mm, hmm⟩ : ∃ mm : Nat, (mm : Int) = (fw .u64 L[j].2) % 6 := ⟨((fw .u64 L[j].2) % 6).toNat, by omega⟩
      have e6 : (fw .u64 L[j].2).tmod 6 = (mm : Int) := by
        rw [Int.tmod_eq_emod_of_nonneg ub.1, ← hmm]
      obtain ⟨d, ix, dp, dl, dd⟩ := ix6 (m := mm) (kk := .u64) (by omega)
      have d6 : decide ((6 : Int) = 0) = false := rfl
      have d3 : decide ((2001 : Int) = 0) = false := rfl
      have ua := u64_bd L[j].1
      have hb := t2001_bd L[j].1
      have hq := Int.emod_lt_of_pos (fw .u64 L[j].1) (show (0 : Int) < 2001 by omega)
      have hq0 := Int.emod_nonneg (fw .u64 L[j].1) (show (2001 : Int) ≠ 0 by omega)
      have et : fw .i64 (fw .i64 ((fw .u64 L[j].1).tmod 2001) - 1000) = t2001 L[j].1 := fw64 (a := t2001 L[j].1) (by omega) (by omega)
      have e4 : fw .i64 ((j : Int) + 1) = ((j + 1 : Nat) : Int) := by rw [fw64 (by omega) (by omega)]; rfl
      have fl : ∀ fr : Fr, fillE fr [V.i .i64 0, .i .i64 0, .i .i64 0, .i .i64 0, .i .i64 0, .i .i64 0] [(0, 1, .c (.i .i64 1)), (1, 1, .c (.i .i64 2)), (2, 1, .c (.i .i64 3)), (3, 1, .c (.i .i64 5)), (4, 1, .c (.i .i64 48)), (5, 1, .c (.i .i64 240))] = some [.i .i64 1, .i .i64 2, .i .i64 3, .i .i64 5, .i .i64 48, .i .i64 240] := fun _ => rfl
      simp (disch := omega) only [f46_r3, f46_r4, f46_r5, x_conv, x_iadr, x_ix, onI_i, of2, of3, of6, Nat.reduceEqDiff, ↓reduceIte, of5, of1000, g0, g1, g5, g6, e1, d1, d2, of48, of240, of2001, of1000, fl, p1, p3, p4, e6, ix, et, bz]
      refine (callP_0 (ef := f54) k.c54 rfl (f54_ret k.c73 (by unfold M63; omega) (by unfold M63; omega) dp)).mono ?_
      rintro _ h2 ⟨rfl, g2⟩
      have hc2 := g2.hc hc1
      obtain ⟨w9, h9, y1, y2, y3, y4, _⟩ := Sk.push qE_len (by omega) (x := frP (Rat.divInt (t2001 L[j].1) d)) (hs.grow hc1 g2) ho (Nat.le_trans hG.nx g2.nx) hc2 (by omega)
      have y1' : appV 2 (h2.new (.cells (1 * 2) (frL (Rat.divInt (t2001 L[j].1) d)))) u (.sl h2.nx 0 1 2) = .ok w9 h9 := y1
      simp (disch := omega) only [f46_r6, Nat.reduceEqDiff, ↓reduceIte, g6, fill_q, fr_cells, set_q, y1', e4, bz]
      refine ⟨j + 1, by omega, by omega, by omega, (hG.trans (g2.low hG.nx)).trans y4, w9, _, y2, y3, by simp [hT], fun x hx => ?_, by simp (disch := omega) only [getK_set, Nat.reduceEqDiff, ↓reduceIte, g0, g1, and_self]⟩
      rcases List.mem_append.1 hx with hx | hx
      · exact hC x hx
      · obtain rfl : x = frP (Rat.divInt (t2001 L[j].1) d) := by simpa using hx
        exact co_fr (by omega) dp dd
    · have d2 : decide ((j : Int) < (m : Int)) = false := decide_eq_false (by omega)
      simp (disch := omega) only [f46_r3, Nat.reduceEqDiff, ↓reduceIte, Bool.false_eq_true, g0, g1, g6, e1, d1, d2, bz]
      exact out _ (by simp (disch := omega) only [getK_set, Nat.reduceEqDiff, ↓reduceIte, g5])
  · have d1 : decide ((j : Int) < (L.length : Int)) = false := decide_eq_false (by omega)
    simp (disch := omega) only [f46_r3, Nat.reduceEqDiff, ↓reduceIte, Bool.false_eq_true, g0, g6, e1, d1, bz]
    exact out _ (by simp (disch := omega) only [getK_set, Nat.reduceEqDiff, ↓reduceIte, g5])
end
end Go.Ev
namespace Go.Ev
open Go Go.RowKit
noncomputable def f11_r0 : List EOper := [oG 4 (.as (.c (.b false)))]
noncomputable def f11_r1 : List EOper := [oG 21 (.mv (tG 0)), oG 22 (.call (fG 26) [(tG 21)]), oG 5 (.as (tG 22))]
noncomputable def f11_r2 : List EOper := [oG 23 (.mv (tG 5)), oG 24 (.call (fG 12) [(tG 23), (cG 9)]), oG 6 (.as (tG 24))]
noncomputable def f11_r3 : List EOper := [oG 25 (.mv (tG 1)), oG 26 (.call (fG 46) [(tG 25), (cG 6)]), oG 7 (.as (tG 26))]
noncomputable def f11_r4 : List EOper := [oG 8 (.as (.c .sn))]
noncomputable def f11_r5 : List EOper := [oG 27 (.mv (tG 8)), oG 28 (.mv (tG 7)), oG 29 (.app 2 (tG 27) (tG 28)), oG 8 (.as (tG 29))]
noncomputable def f11_r6 : List EOper := [oG 31 (.mv (tG 5)), oG 32 (.call (fG 24) [(tG 31)]), oG 30 (.mv (tG 32)), oG 33 (.ext (tG 30) 0), oG 34 (.ext (tG 30) 1), oG 9 (.as (tG 33)), oG 10 (.as (tG 34))]
noncomputable def f11_r7 : List EOper := [oG 36 (.mv (tG 7)), oG 37 (.call (fG 39) [(tG 36)]), oG 35 (.mv (tG 37)), oG 38 (.ext (tG 35) 0), oG 39 (.ext (tG 35) 1), oG 11 (.alloc 2 [.sn, .sn]), ⟨none, none, .st 2 (tG 11) (tG 38)⟩, oG 12 (.as (tG 39))]
noncomputable def f11_r8 : List EOper := [oG 41 (.mv (tG 7)), oG 42 (.call (fG 38) [(tG 41)]), oG 40 (.mv (tG 42)), oG 43 (.ext (tG 40) 0), oG 44 (.ext (tG 40) 1), oG 13 (.as (tG 43)), oG 14 (.as (tG 44))]
noncomputable def f11_r9 : List EOper := [oG 15 (.as (cG 0))]
noncomputable def f11_r10 : List EOper := [oG 45 (.mv (tG 15)), oG 46 (.mv (tG 9)), oG 47 (.len (tG 46)), oG 48 (.bin .lss (tG 45) (tG 47))]
noncomputable def f11_r11 : List EOper := [oG 51 (.mv (tG 9)), oG 52 (.mv (tG 15)), oG 53 (.iads 1 (tG 51) (tG 52)), ⟨none, none, .st 1 (tG 53) (.c (.i .i64 (.negSucc 6)))⟩]
noncomputable def f11_r12 : List EOper := [oG 49 (.mv (tG 15)), oG 50 (.bin .add (tG 49) (cG 1)), oG 15 (.as (tG 50))]
noncomputable def f11_l0 : EC := (.seq (.seq (.reg f11_r10) (.cond (tG 48) .skip (.exit 0))) (.seq (.block 1 (.reg f11_r11)) (.reg f11_r12)))
noncomputable def f11_r13 : List EOper := [oG 54 (.iadr 2 1 (tG 11) (cG 0)), oG 55 (.ld (tG 54)), oG 56 (.iadr 2 1 (tG 11) (cG 1)), oG 57 (.ld (tG 56)), oG 58 (.mv (tG 13)), oG 59 (.bslice 3 1 [.sn, .sn, .sn] [(0, 1, (tG 55)), (1, 1, (tG 57)), (2, 1, (tG 58))]), oG 16 (.as (tG 59))]
noncomputable def f11_r14 : List EOper := [oG 17 (.as (cG 0))]
noncomputable def f11_r15 : List EOper := [oG 60 (.mv (tG 17)), oG 61 (.bin .lss (tG 60) (cG 3))]
noncomputable def f11_r16 : List EOper := [oG 18 (.as (cG 0))]
noncomputable def f11_r17 : List EOper := [oG 64 (.mv (tG 18)), oG 65 (.mv (tG 16)), oG 66 (.mv (tG 17)), oG 67 (.iads 1 (tG 65) (tG 66)), oG 68 (.ld (tG 67)), oG 69 (.len (tG 68)), oG 70 (.bin .lss (tG 64) (tG 69))]
noncomputable def f11_r18 : List EOper := [oG 73 (.mv (tG 16)), oG 74 (.mv (tG 17)), oG 75 (.iads 1 (tG 73) (tG 74)), oG 76 (.ld (tG 75)), oG 77 (.mv (tG 18)), oG 78 (.build [(.i .i64 (.ofNat 0)), (.i .i64 (.ofNat 0))] [(0, 1, (.c (.i .i64 (.negSucc 6)))), (1, 1, (cG 1))]), oG 79 (.iads 2 (tG 76) (tG 77)), ⟨none, none, .st 2 (tG 79) (tG 78)⟩]
noncomputable def f11_r19 : List EOper := [oG 71 (.mv (tG 18)), oG 72 (.bin .add (tG 71) (cG 1)), oG 18 (.as (tG 72))]
noncomputable def f11_l1 : EC := (.seq (.seq (.reg f11_r17) (.cond (tG 70) .skip (.exit 4))) (.seq (.block 5 (.reg f11_r18)) (.reg f11_r19)))
noncomputable def f11_r20 : List EOper := [oG 62 (.mv (tG 17)), oG 63 (.bin .add (tG 62) (cG 1)), oG 17 (.as (tG 63))]
noncomputable def f11_l2 : EC := (.seq (.seq (.reg f11_r15) (.cond (tG 61) .skip (.exit 2))) (.seq (.block 3 (.seq (.reg f11_r16) (.block 4 (.loop f11_l1)))) (.reg f11_r20)))
noncomputable def f11_r21 : List EOper := [oG 81 (.mv (tG 7)), oG 82 (.call (fG 38) [(tG 81)]), oG 80 (.mv (tG 82)), oG 83 (.ext (tG 80) 0), oG 84 (.ext (tG 80) 1), oG 19 (.as (tG 83)), oG 20 (.as (tG 84))]
noncomputable def f11_r22 : List EOper := [oG 85 (.mv (tG 10)), oG 86 (.bin .eql (tG 85) (cG 0)), oG 87 (.mv (tG 86)), gG 88 87 false (.mv (tG 10)), gG 89 87 false (.bin .eql (tG 88) (cG 8)), oG 90 (.pick (tG 87) (.c (.b true)) (tG 89)), oG 91 (.mv (tG 90)), gG 92 91 true (.mv (tG 12)), gG 93 91 true (.bin .eql (tG 92) (cG 0)), oG 94 (.pick (tG 91) (tG 93) (.c (.b false))), oG 95 (.mv (tG 94)), gG 96 95 true (.mv (tG 14)), gG 97 95 true (.bin .eql (tG 96) (cG 0)), oG 98 (.pick (tG 95) (tG 97) (.c (.b false))), oG 99 (.mv (tG 98)), gG 100 99 true (.mv (tG 20)), gG 101 99 true (.bin .eql (tG 100) (cG 0)), oG 102 (.pick (tG 99) (tG 101) (.c (.b false))), oG 103 (.mv (tG 102)), gG 104 103 true (.mv (tG 5)), gG 105 103 true (.mv (tG 6)), gG 106 103 true (.call (fG 33) [(tG 104), (tG 105)]), oG 107 (.pick (tG 103) (tG 106) (.c (.b false))), oG 108 (.mv (tG 107)), gG 109 108 true (.mv (tG 7)), gG 110 108 true (.mv (tG 8)), gG 111 108 true (.call (fG 35) [(tG 109), (tG 110)]), oG 112 (.pick (tG 108) (tG 111) (.c (.b false))), oG 113 (.mv (tG 112)), gG 114 113 true (.mv (tG 19)), gG 115 113 true (.mv (tG 8)), gG 116 113 true (.call (fG 43) [(tG 115)]), gG 117 113 true (.call (fG 35) [(tG 114), (tG 116)]), oG 118 (.pick (tG 113) (tG 117) (.c (.b false))), oG 119 (.mv (tG 118)), gG 120 119 true (.call (fG 17) []), oG 121 (.pick (tG 119) (tG 120) (.c (.b false))), oG 4 (.as (tG 121))]
noncomputable def f11_c : EC := (.seq (.reg f11_r0) (.seq (.reg f11_r1) (.seq (.reg f11_r2) (.seq (.reg f11_r3) (.seq (.reg f11_r4) (.seq (.reg f11_r5) (.seq (.reg f11_r6) (.seq (.reg f11_r7) (.seq (.reg f11_r8) (.seq (.seq (.reg f11_r9) (.block 0 (.loop f11_l0))) (.seq (.reg f11_r13) (.seq (.seq (.reg f11_r14) (.block 2 (.loop f11_l2))) (.seq (.reg f11_r21) (.seq (.reg f11_r22) .ret))))))))))))))
noncomputable def f11 : EF := ⟨122, [.tmp (.ofNat 4)], f11_c, none⟩
theorem f11_rs : f11.rs = [.tmp (.ofNat 4)] := of_eq_true (eq_self _)
section
variable {fs : T EF} {h h1 : H} {v w u : V} {L M : List Int} {C : List (Int × Int)}
theorem f70_own {g : V} (k : CSm fs) (hL : plB L = true) (hv : Sr iE h v L) (_ : HC h) (hM : M.length ≤ 1000) (hg : CallP fs g [v] h fun r h' => Sl iE h' r M ∧ Own h.nx.nat r ∧ Grow h.nx.nat h h') : Ret fs f70 [v, g] h fun r h' => ((plB M = true ∧ ∃ u, r = .tup [u, .i .i64 0] ∧ Sl iE h' u M ∧ Own h.nx.nat u) ∨ (plB M = false ∧ r = .tup [.sn, .i .i64 8])) ∧ Grow h.nx.nat h h' := by
  obtain ⟨l1, l7, ls⟩ := plB_len hL
  apply ret_of rfl
  show W fs none f70_c _ _ _
  unfold f70_c
  have ca : ckI L = 0 := by unfold ckI; rw [if_pos hL]
  have q0 : decide ((0 : Int) ≠ 0) = false := rfl
  have eA := fun P => f14_eq k hv (by omega) (P := P)
  rw [ca] at eA
  simp (disch := omega) only [f70_r0, f70_r1, f70_r2, f70_r4, Nat.reduceEqDiff, ↓reduceIte, Bool.false_eq_true, eA, q0, bz]
  refine hg.mono ?_
  rintro u h1 ⟨su, ou, g1⟩
  have eB := fun P => f56_eq k su.sr (by omega) (P := P)
  cases hp : plB M with
  | true =>
    rw [hp] at eB
    simp (disch := omega) only [f70_r5, f70_r7, f70_rs, Option.some.injEq, exists_eq_left', Nat.reduceEqDiff, ↓reduceIte, Bool.false_eq_true, Bool.not_true, eB, bz]
    exact ⟨.inl ⟨u, rfl, su, ou⟩, g1⟩
  | false =>
    rw [hp] at eB
    simp (disch := omega) only [f70_r5, f70_r6, f70_rs, of8, Option.some.injEq, exists_eq_left', Nat.reduceEqDiff, ↓reduceIte, Bool.false_eq_true, Bool.not_false, eB, bz]
    exact ⟨.inr trivial, g1⟩
theorem f24_own (k : CallsVl fs) (hL : plB L = true) (hv : Sr iE h v L) (hc : HC h) : Ret fs f24 [v] h fun r h' => (∃ a e n, r = .tup [a, .i .i64 e] ∧ (e = 0 ∨ e = 8) ∧ Sl iE h' a n ∧ n.length ≤ 7 ∧ Own h.nx.nat a) ∧ Grow h.nx.nat h h' := by
  obtain ⟨l1, l7, ls⟩ := plB_len hL
  apply ret_of rfl
  show W fs none f24_c _ _ _
  unfold f24_c
  simp (disch := omega) only [f24_r0, f24_r1, Nat.reduceEqDiff, ↓reduceIte, bz]
  refine (callP_0 (ef := f70) k.c70 rfl (f70_own k.toCSm hL hv hc (M := mOut L L.length L.length) (by rw [mOut_len]; omega) (callP_0 (ef := f71) k.c71 rfl (f71_ret k.c100 l7 (pl_get hL) hv hc)))).mono ?_
  rintro r h1 ⟨hr, g1⟩
  rcases hr with ⟨hp, u, rfl, su, ou⟩ | ⟨hp, rfl⟩
  · simp (disch := omega) only [f24_rs, Option.some.injEq, exists_eq_left', Nat.reduceEqDiff, ↓reduceIte, bz]
    exact ⟨⟨u, 0, _, rfl, .inl rfl, su, by rw [mOut_len]; exact l7, ou⟩, g1⟩
  · simp (disch := omega) only [f24_rs, Option.some.injEq, exists_eq_left', Nat.reduceEqDiff, ↓reduceIte, bz]
    exact ⟨⟨.sn, 8, [], rfl, .inr rfl, .inl ⟨rfl, rfl⟩, by simp, fun _ _ _ _ e => by cases e⟩, g1⟩
def Wr (k : Nat) (h : H) (v : V) (n : Nat) : Prop := (v = .sn ∧ n = 0) ∨ ∃ id off m cs, v = .sl id off n k ∧ h.get id = .cells m cs ∧ off + n * k ≤ m
theorem Wr.len {k n : Nat} (s : Wr k h v n) (h1 : H) : lenV v h1 = .ok (.i .i64 (n : Int)) h1 := by
  rcases s with ⟨rfl, rfl⟩ | ⟨id, off, m, cs, rfl, _⟩ <;> rfl
theorem Wr.put {k n m : Nat} {id : K} {c0 c1 : List V} (s : Wr k h v n) (hg : h.get id = .cells m c0) : Wr k (h.put id (.cells m c1)) v n := by
  rcases s with e | ⟨id', off, m', cs, rfl, hb, hm⟩
  · exact .inl e
  · by_cases e : id' = id
    · subst e
      rw [hg] at hb
      cases hb
      exact .inr ⟨id', off, m, c1, rfl, get_put_same, hm⟩
    · exact .inr ⟨id', off, m', cs, rfl, (get_put_other e).trans hb, hm⟩
theorem Wr.grow {k n b : Nat} {h' : H} (s : Wr k h v n) (hc : HC h) (g : Grow b h h') (hb : h.nx.nat ≤ b) : Wr k h' v n := by
  rcases s with e | ⟨id', off, m', cs, rfl, hg, hm⟩
  · exact .inl e
  · exact .inr ⟨id', off, m', cs, rfl, (g.old _ (Nat.lt_of_lt_of_le (hc.cells hg) hb)).trans hg, hm⟩
theorem Wr.lt {k n : Nat} (s : Wr k h v n) (hc : HC h) : ∀ id off n sz, v = .sl id off n sz → id.nat < h.nx.nat := fun id off n sz e => by
  rcases s with ⟨rfl, _⟩ | ⟨id', off', m', cs, rfl, hg, hm⟩
  · cases e
  · cases e; exact hc.cells hg
theorem Sl.wr (s : Sl iE h v L) : Wr 1 h v L.length := by
  rcases s with ⟨rfl, rfl⟩ | ⟨id, off, m, cs, rfl, hb, hl, hm, _⟩
  · exact .inl ⟨rfl, rfl⟩
  · exact .inr ⟨id, off, m, cs, rfl, hb, by omega⟩
theorem Sk.wr (s : Sk 2 qE h v C) : Wr 2 h v C.length := by
  rcases s with ⟨rfl, rfl⟩ | ⟨id, off, m, cs, rfl, hb, hl, hm, _⟩
  · exact .inl ⟨rfl, rfl⟩
  · exact .inr ⟨id, off, m, cs, rfl, hb, hm⟩
theorem Wr.st {k n i : Nat} {val : V} {xs : List V} (s : Wr k h v n) (hx : cellsN k val = some xs) (hi : i < n) : ∃ id m c0 c1 p off, (∀ kk h1, iadsV k v (.i kk (i : Int)) h1 = .ok p h1) ∧ storeV h k p val = .ok undefV (h.put id (.cells m c1)) ∧ h.get id = .cells m c0 ∧ v = .sl id off n k := by
  rcases s with ⟨_, e⟩ | ⟨id, off, m, cs, rfl, hb, hm⟩
  · omega
  · have : i * k + k ≤ n * k := by rw [← Nat.succ_mul]; exact Nat.mul_le_mul_right k hi
    exact ⟨id, m, cs, _, .p id (off + i * k), off, fun kk h1 => by rw [iads_sl, idx_n hi], store_p hb hx (by omega), hb, rfl⟩
theorem fill_3 {fr : Fr} {x y z : EO} {z1 z2 z3 : V} : fillE fr [z1, z2, z3] [(0, 1, x), (1, 1, y), (2, 1, z)] = oGet (cellsN 1 (ev fr x)) none fun cs => oGet (cellsN 1 (ev fr y)) none fun ds => oGet (cellsN 1 (ev fr z)) none fun es => some (setMany (setMany (setMany [z1, z2, z3] 0 cs) 1 ds) 2 es) := of_eq_true (eq_self _)
theorem set_3 {z1 z2 z3 a b c : V} : setMany (setMany (setMany [z1, z2, z3] 0 [a]) 1 [b]) 2 [c] = [a, b, c] := of_eq_true (eq_self _)
theorem ng6' : Int.negSucc 6 = -7 := of_eq_true (eq_self _)
structure OwS (N : Nat) (h0 h1 : H) (ib : K) (a o1 o2 d : V) (na n1 n2 n3 : Nat) : Prop where
  g : Grow N h0 h1
  wa : Wr 1 h1 a na
  w1 : Wr 2 h1 o1 n1
  w2 : Wr 2 h1 o2 n2
  w3 : Wr 2 h1 d n3
  b : h1.get ib = .cells 2 [o1, o2]
def ou (o1 o2 d : V) (i : Nat) : V := match i with | 0 => o1 | 1 => o2 | _ => d
def nu (n1 n2 n3 : Nat) (i : Nat) : Nat := match i with | 0 => n1 | 1 => n2 | _ => n3
structure OwZ (N : Nat) (h0 h1 : H) (iz : K) (o1 o2 d : V) (n1 n2 n3 : Nat) : Prop where
  g : Grow N h0 h1
  w : ∀ i, Wr 2 h1 (ou o1 o2 d i) (nu n1 n2 n3 i)
  b : h1.get iz = .cells (3 * 1) [o1, o2, d]
theorem OwZ.ld {N n1 n2 n3 i : Nat} {h0 : H} {iz : K} {o1 o2 d : V} (s : OwZ N h0 h1 iz o1 o2 d n1 n2 n3) (hi : i < 3) : loadV h1 (.p iz (0 + i * 1)) one? = .ok (ou o1 o2 d i) h1 := by
  match i, hi with
  | 0, _ => exact load_p s.b rfl
  | 1, _ => exact load_p s.b rfl
  | 2, _ => exact load_p s.b rfl
  | i + 3, hi => omega
theorem OwZ.put {N n1 n2 n3 m : Nat} {h0 : H} {iz id : K} {o1 o2 d : V} {c0 c1 : List V} (s : OwZ N h0 h1 iz o1 o2 d n1 n2 n3) (hc : HC h1) (hN : N ≤ id.nat) (hg : h1.get id = .cells m c0) (hne : id ≠ iz) : OwZ N h0 (h1.put id (.cells m c1)) iz o1 o2 d n1 n2 n3 :=
  ⟨s.g.trans (Grow.put hN (hc.cells hg) _), fun i => (s.w i).put hg, (get_put_other (Ne.symm hne)).trans s.b⟩
theorem co_in (hb : ∀ x ∈ C, coB x.1 x.2 = true) (hl : C.length ≤ 1000) : InP C := by
  refine ⟨hl, fun x hx => ?_⟩
  obtain ⟨c1, c2, c3, c4, _⟩ := coB_iff.1 (hb x hx)
  have := dv240 c3 c4
  exact ⟨in63 (by omega) (by omega), in63 (by omega) (by omega)⟩
theorem sB_in {n : Nat} (hb : ∀ x ∈ C, coB x.1 x.2 = true) (h0 : 0 < n) (hn : n ≤ 7) : InP (rwL (sB C n) (n + 1)) := by
  refine ⟨by rw [rwL_len]; omega, fun x hx => ?_⟩
  obtain ⟨i, hi, rfl⟩ := List.mem_map.1 hx
  have hi := List.mem_range.1 hi
  have o : Ov (sB C n i) (240 * n) (240000000 * 7 + 240000000 * 7) := by
    unfold sB
    by_cases h : i < n
    · rw [if_pos h, show (n : Int) - (i : Int) = ((n - i : Nat) : Int) by omega]
      exact (sA_ov hb h0 (by omega)).add (pr_ov hb i h0 (by omega))
    · rw [if_neg h]; exact (sA_ov hb h0 (by omega)).le (by omega)
  obtain ⟨f1, f2⟩ := o.fr
  have f3 : ((sB C n i).den : Int) ≤ 240 * 7 := by omega
  exact ⟨in63 (by show _ ≤ (sB C n i).num; omega) (by show (sB C n i).num ≤ _; omega), in63 (by show _ ≤ ((sB C n i).den : Int); omega) (by show ((sB C n i).den : Int) ≤ _; omega)⟩
def f11_I0 (N : Nat) (h0 : H) (w q x y : V) (ib : K) (a o1 o2 d : V) (e : Int) (na n1 n2 n3 i : Nat) (fr : Fr) (h1 : H) : Prop := i ≤ na ∧ OwS N h0 h1 ib a o1 o2 d na n1 n2 n3 ∧ fr.get (K.ofNat 5) = some (w) ∧ fr.get (K.ofNat 6) = some (q) ∧ fr.get (K.ofNat 7) = some (x) ∧ fr.get (K.ofNat 8) = some (y) ∧ fr.get (K.ofNat 9) = some (a) ∧ fr.get (K.ofNat 10) = some (.i .i64 e) ∧ fr.get (K.ofNat 11) = some (.p ib 0) ∧ fr.get (K.ofNat 12) = some (.i .i64 0) ∧ fr.get (K.ofNat 13) = some (d) ∧ fr.get (K.ofNat 14) = some (.i .i64 0) ∧ fr.get (K.ofNat 15) = some (.i .i64 (i : Int))
def f11_I2 (N : Nat) (h0 : H) (w q x y : V) (iz : K) (o1 o2 d : V) (e : Int) (n1 n2 n3 i : Nat) (fr : Fr) (h1 : H) : Prop := i ≤ 3 ∧ OwZ N h0 h1 iz o1 o2 d n1 n2 n3 ∧ fr.get (K.ofNat 5) = some (w) ∧ fr.get (K.ofNat 6) = some (q) ∧ fr.get (K.ofNat 7) = some (x) ∧ fr.get (K.ofNat 8) = some (y) ∧ fr.get (K.ofNat 10) = some (.i .i64 e) ∧ fr.get (K.ofNat 12) = some (.i .i64 0) ∧ fr.get (K.ofNat 14) = some (.i .i64 0) ∧ fr.get (K.ofNat 16) = some (.sl iz 0 3 1) ∧ fr.get (K.ofNat 17) = some (.i .i64 (i : Int))
def f11_I1 (N : Nat) (h0 : H) (w q x y : V) (iz : K) (o1 o2 d : V) (e : Int) (n1 n2 n3 i j : Nat) (fr : Fr) (h1 : H) : Prop := j ≤ nu n1 n2 n3 i ∧ OwZ N h0 h1 iz o1 o2 d n1 n2 n3 ∧ fr.get (K.ofNat 5) = some (w) ∧ fr.get (K.ofNat 6) = some (q) ∧ fr.get (K.ofNat 7) = some (x) ∧ fr.get (K.ofNat 8) = some (y) ∧ fr.get (K.ofNat 10) = some (.i .i64 e) ∧ fr.get (K.ofNat 12) = some (.i .i64 0) ∧ fr.get (K.ofNat 14) = some (.i .i64 0) ∧ fr.get (K.ofNat 16) = some (.sl iz 0 3 1) ∧ fr.get (K.ofNat 17) = some (.i .i64 (i : Int)) ∧ fr.get (K.ofNat 18) = some (.i .i64 (j : Int))
structure CallsOw (fs : T EF) : Prop extends CallsVl fs, CallsHa fs where
  c12 : fs.get (K.ofNat 12) = some f12
  c39 : fs.get (K.ofNat 39) = some f39
  c38 : fs.get (K.ofNat 38) = some f38
  c35 : fs.get (K.ofNat 35) = some f35
  c43 : fs.get (K.ofNat 43) = some f43
  c46 : fs.get (K.ofNat 46) = some f46
theorem f11_ret {P : List (Int × Int)} (k : CallsOw fs) (hv : Sr iE h v L) (hw : Srp h w P) (_ : L.length ≤ 9223372036854775807) (hc : HC h) : Ret fs f11 [v, w] h fun r h' => r = .b true ∧ Grow h.nx.nat h h' := by
  apply ret_of rfl
  show W fs none f11_c _ _ _
  unfold f11_c
  simp (disch := omega) only [f11_r0, f11_r1, Nat.reduceEqDiff, ↓reduceIte, bz]
  refine (callP_0 (ef := f26) k.c26 rfl (f26_ret hv hc)).mono ?_
  rintro p hA ⟨A, sp, op, pA, gA⟩
  have hcA := gA.hc hc
  obtain ⟨l1, l7, ls⟩ := plB_len pA
  simp (disch := omega) only [f11_r2, ↓reduceIte, of9, bz]
  refine (callP_0 (ef := f12) k.c12 rfl (f12_ret (m := 9) sp.sr hcA (by omega))).mono ?_
  rintro q hB ⟨sq, oq, gB⟩
  rw [List.take_of_length_le (by omega)] at sq
  have GB := gA.trans (gB.low gA.nx)
  have hcB := GB.hc hc
  have sp := sp.grow hcA gB
  simp (disch := omega) only [f11_r3, of6, Nat.reduceEqDiff, ↓reduceIte, bz]
  refine (callP_0 (ef := f46) k.c46 rfl (f46_ret (m := 6) k.toCallsF (by omega) (by omega) (hw.grow hc GB) hcB)).mono ?_
  rintro x hC ⟨C, sx, ox, gC, lC, gC'⟩
  have GC := GB.trans (gC'.low GB.nx)
  have hcC := GC.hc hc
  have sp := sp.grow hcB gC'
  have sq := sq.grow hcB gC'
  obtain ⟨y, hD, ap, sy, oy, gD⟩ := sx.srp.appN hcC (by omega)
  have GD := GC.trans (gD.low GC.nx)
  have hcD := GD.hc hc
  have sp := sp.grow hcC gD
  have sq := sq.grow hcC gD
  have sx := sx.grow hcC gD
  simp (disch := omega) only [f11_r4, f11_r5, f11_r6, Nat.reduceEqDiff, ↓reduceIte, ap, bz]
  clear ap
  refine (callP_0 (ef := f24) k.c24 rfl (f24_own k.toCallsVl pA sp.sr hcD)).mono ?_
  rintro r hE ⟨⟨a, e, ml, rfl, he, sa, ml7, oa⟩, gE⟩
  have hcE := gE.hc hcD
  have one := sa.one
  simp (disch := omega) only [f11_r7, Nat.reduceEqDiff, ↓reduceIte, bz]
  obtain ⟨c1, c7, cC⟩ := gvB_iff.1 gC
  refine (callP_0 (ef := f39) k.c39 rfl (f39_ret k.toCallsHa (by omega) (sx.srp.grow hcD gE) hcE)).mono ?_
  rintro r hF ⟨hr, gF⟩
  obtain ⟨o1, o2, rfl, so1, so2, oo1, oo2⟩ : ∃ o1 o2, r = .tup [.agg [o1, o2], .i .i64 0] ∧ Sk 2 qE hF o1 (lfP C 1 2) ∧ Sk 2 qE hF o2 (rtP C 1 2) ∧ Own hE.nx.nat o1 ∧ Own hE.nx.nat o2 := by
    rcases hr with ⟨_, hr⟩ | ⟨e, _⟩
    · exact hr
    · rw [gC] at e; cases e
  clear hr
  have GF := gE.trans (gF.low gE.nx)
  have hcF := GF.hc hcD
  have sa := sa.grow hcE gF
  have e1 := so1.one
  have e2 := so2.one
  have lo1 := so1.lt hcF
  have lo2 := so2.lt hcF
  have la := sa.lt hcF
  have st := store2 (h := hF.new (.cells 2 [.sn, .sn])) (id := hF.nx) (x := o1) (y := o2) get_new_same
  have gN := (Grow.new (Nat.le_refl hF.nx.nat) (.cells 2 [.sn, .sn])).trans (Grow.put (b := hF.nx.nat) (h := hF.new (.cells 2 [.sn, .sn])) (k := hF.nx) (Nat.le_refl _) (by rw [nx_new]; omega) (.cells 2 [o1, o2]))
  have nN : hF.nx.nat < ((hF.new (.cells 2 [.sn, .sn])).put hF.nx (.cells 2 [o1, o2])).nx.nat := by rw [nx_put, nx_new]; omega
  have bN : ((hF.new (.cells 2 [.sn, .sn])).put hF.nx (.cells 2 [o1, o2])).get hF.nx = .cells 2 [o1, o2] := get_put_same
  have GG := GF.trans (gN.low GF.nx)
  have hcG := GG.hc hcD
  have sa := sa.grow hcF gN
  have so1 := so1.grow hcF gN
  have so2 := so2.grow hcF gN
  have FE := gF.nx
  have DE := gE.nx
  simp (disch := omega) only [f11_r8, Nat.reduceEqDiff, ↓reduceIte, st, bz]
  clear st gN
  generalize hF.nx = ib at *
  generalize (hF.new (.cells 2 [.sn, .sn])).put ib (.cells 2 [o1, o2]) = hG at *
  refine (callP_0 (ef := f38) k.c38 rfl (f38_ret k.toCallsRa (by omega) (sx.srp.grow hcD GG) hcG)).mono ?_
  rintro r hH ⟨hr, gH⟩
  have lCn : C.length ≠ 7 := by omega
  obtain ⟨d, rfl, sd, od⟩ : ∃ o, r = .tup [o, .i .i64 0] ∧ Sk 2 qE hH o (rwL (paR (raP (gvL C) C.length C.length) (240 * C.length)) (C.length + 1)) ∧ Own hG.nx.nat o := by
    rcases hr with ⟨_, _, hr⟩ | ⟨e, _⟩
    · exact hr
    · exact absurd ⟨gC, lCn⟩ e
  clear hr
  have GH := GG.trans (gH.low GG.nx)
  have hcH := GH.hc hcD
  have wa := (sa.grow hcG gH).wr
  have w1 := (so1.grow hcG gH).wr
  have w2 := (so2.grow hcG gH).wr
  have w3 := sd.wr
  have bH := (gH.old ib nN).trans bN
  have e3 := sd.one
  have ld := sd.lt hcH
  have z1 : (lfP C 1 2).length ≤ 7 := by unfold lfP; rw [rwL_len]; omega
  have z2 : (rtP C 1 2).length ≤ 7 := by unfold rtP; rw [rwL_len]; omega
  have z3 : (rwL (paR (raP (gvL C) C.length C.length) (240 * C.length)) (C.length + 1)).length ≤ 7 := by rw [rwL_len]; omega
  simp (disch := omega) only [f11_r9, Nat.reduceEqDiff, ↓reduceIte, bz]
  clear sa so1 so2 sd
  generalize (lfP C 1 2).length = n1 at *
  generalize (rtP C 1 2).length = n2 at *
  generalize (rwL (paR (raP (gvL C) C.length C.length) (240 * C.length)) (C.length + 1)).length = n3 at *
  generalize ml.length = na at *
  refine W_loop (f11_I0 hD.nx.nat hD p q x y ib a o1 o2 d e na n1 n2 n3) (fun i => na - i) ?_ 0 ⟨Nat.zero_le _, ⟨GH, wa, w1, w2, w3, bH⟩, by simp (disch := omega) only [getK_set, Nat.reduceEqDiff, ↓reduceIte, and_self, Int.natCast_zero]⟩
  rintro i fr h1 ⟨hi, s, g5, g6, g7, g8, g9, g10, g11, g12, g13, g14, g15⟩
  have hc1 := s.g.hc hcD
  have lena := s.wa.len
  unfold f11_l0
  by_cases hlt : i < na
  · have d1 : decide ((i : Int) < (na : Int)) = true := decide_eq_true (by omega)
    have ee : fw .i64 ((i : Int) + 1) = ((i + 1 : Nat) : Int) := by rw [fw64 (by omega) (by omega)]; rfl
    obtain ⟨id, m, c0, c1, pp, off, y1, y2, y3, y4⟩ := s.wa.st (val := .i .i64 (-7)) (xs := [.i .i64 (-7)]) rfl hlt
    simp (disch := omega) only [f11_r10, f11_r11, f11_r12, Nat.reduceEqDiff, ↓reduceIte, g9, g15, lena, d1, ee, ng6', y1, y2, bz]
    have q1 := oa _ _ _ _ y4
    have q2 := la _ _ _ _ y4
    exact ⟨i + 1, by omega, by omega, ⟨s.g.trans (Grow.put q1 (hc1.cells y3) _), s.wa.put y3, s.w1.put y3, s.w2.put y3, s.w3.put y3, (get_put_other (fun e => by rw [e] at q2; omega)).trans s.b⟩, by simp (disch := omega) only [getK_set, Nat.reduceEqDiff, ↓reduceIte, g5, g6, g7, g8, g9, g10, g11, g12, g13, g14, and_self]⟩
  have d1 : decide ((i : Int) < (na : Int)) = false := decide_eq_false (by omega)
  have f1 : loadV h1 (.p ib (0 + 0 * 1)) one? = .ok o1 h1 := load_p s.b rfl
  have f2 : loadV h1 (.p ib (0 + 1 * 1)) one? = .ok o2 h1 := load_p s.b rfl
  simp (disch := omega) only [f11_r10, f11_r13, f11_r14, x_iadr, Nat.reduceEqDiff, ↓reduceIte, Bool.false_eq_true, g9, g11, g13, g15, lena, d1, f1, f2, fill_3, set_3, e1, e2, e3, bz]
  have hN := s.g.nx
  have gZ := Grow.new (Nat.le_refl h1.nx.nat) (.cells (3 * 1) [o1, o2, d])
  have nZ := nx_new h1 (.cells (3 * 1) [o1, o2, d])
  have bZ : (h1.new (.cells (3 * 1) [o1, o2, d])).get h1.nx = .cells (3 * 1) [o1, o2, d] := get_new_same
  have t1 := s.w1.lt hc1
  have t2 := s.w2.lt hc1
  have t3 := s.w3.lt hc1
  have GZ := s.g.trans (gZ.low hN)
  have hWZ : ∀ i, Wr 2 (h1.new (.cells (3 * 1) [o1, o2, d])) (ou o1 o2 d i) (nu n1 n2 n3 i) := fun i => by
    match i with
    | 0 => exact s.w1.grow hc1 gZ (Nat.le_refl _)
    | 1 => exact s.w2.grow hc1 gZ (Nat.le_refl _)
    | i + 2 => exact s.w3.grow hc1 gZ (Nat.le_refl _)
  have oZ : ∀ i id off n sz, ou o1 o2 d i = .sl id off n sz → hD.nx.nat ≤ id.nat ∧ id.nat < h1.nx.nat := fun i id off n sz e => by
    have GGn := GG.nx
    match i, e with
    | 0, e => exact ⟨Nat.le_trans DE (oo1 _ _ _ _ e), t1 _ _ _ _ e⟩
    | 1, e => exact ⟨Nat.le_trans DE (oo2 _ _ _ _ e), t2 _ _ _ _ e⟩
    | i + 2, e => exact ⟨Nat.le_trans GGn (od _ _ _ _ e), t3 _ _ _ _ e⟩
  have nuL : ∀ i, nu n1 n2 n3 i ≤ 7 := fun i => by
    match i with
    | 0 => exact z1
    | 1 => exact z2
    | i + 2 => exact z3
  generalize h1.nx = iz at *
  generalize h1.new (.cells (3 * 1) [o1, o2, d]) = hZ at *
  refine W_loop (f11_I2 hD.nx.nat hD p q x y iz o1 o2 d e n1 n2 n3) (fun i => 3 - i) ?_ 0 ⟨Nat.zero_le _, ⟨GZ, hWZ, bZ⟩, by simp (disch := omega) only [getK_set, Nat.reduceEqDiff, ↓reduceIte, g5, g6, g7, g8, g10, g12, g14, and_self, Int.natCast_zero]⟩
  clear g5 g6 g7 g8 g9 g10 g11 g12 g13 g14 g15 s f1 f2 hi d1 hWZ bZ lena hlt fr
  rintro i fr h2 ⟨hi, s, g5, g6, g7, g8, g10, g12, g14, g16, g17⟩
  have hc2 := s.g.hc hcD
  unfold f11_l2
  by_cases hlt : i < 3
  · have d1 : decide ((i : Int) < 3) = true := decide_eq_true (by omega)
    simp (disch := omega) only [f11_r15, f11_r16, of3, ↓reduceIte, g17, d1, bz]
    refine W_loop (f11_I1 hD.nx.nat hD p q x y iz o1 o2 d e n1 n2 n3 i) (fun j => nu n1 n2 n3 i - j) ?_ 0 ⟨Nat.zero_le _, s, by simp (disch := omega) only [getK_set, Nat.reduceEqDiff, ↓reduceIte, g5, g6, g7, g8, g10, g12, g14, g16, g17, and_self, Int.natCast_zero]⟩
    clear g5 g6 g7 g8 g10 g12 g14 g16 g17 s d1 fr hc2
    rintro j fr h3 ⟨hj, s, g5, g6, g7, g8, g10, g12, g14, g16, g17, g18⟩
    have hc3 := s.g.hc hcD
    have ia := fun kk (X : H) => (iads_sl (sz := 1) (id := iz) (off := 0) (n := 3) (y := .i kk (i : Int)) (h := X)).trans (idx_n hlt)
    have ld := s.ld hlt
    have len := (s.w i).len
    have hn7 := nuL i
    unfold f11_l1
    by_cases hlj : j < nu n1 n2 n3 i
    · have d2 : decide ((j : Int) < (nu n1 n2 n3 i : Int)) = true := decide_eq_true (by omega)
      have ee : fw .i64 ((j : Int) + 1) = ((j + 1 : Nat) : Int) := by rw [fw64 (by omega) (by omega)]; rfl
      obtain ⟨id, m, c0, c1, pp, off, y1, y2, y3, y4⟩ := (s.w i).st (val := .agg [.i .i64 (-7), .i .i64 1]) (xs := [.i .i64 (-7), .i .i64 1]) cell2_agg hlj
      simp (disch := omega) only [f11_r17, f11_r18, f11_r19, Nat.reduceEqDiff, ↓reduceIte, g16, g17, g18, ia, ld, len, d2, ee, ng6', y1, y2, bz]
      obtain ⟨q1, q2⟩ := oZ i _ _ _ _ y4
      exact ⟨j + 1, by omega, by omega, s.put hc3 q1 y3 (fun e => by rw [e] at q2; omega), by simp (disch := omega) only [getK_set, Nat.reduceEqDiff, ↓reduceIte, g5, g6, g7, g8, g10, g12, g14, g16, g17, and_self]⟩
    · have d2 : decide ((j : Int) < (nu n1 n2 n3 i : Int)) = false := decide_eq_false (by omega)
      have ei : fw .i64 ((i : Int) + 1) = ((i + 1 : Nat) : Int) := by rw [fw64 (by omega) (by omega)]; rfl
      simp (disch := omega) only [f11_r17, f11_r20, Nat.reduceEqDiff, ↓reduceIte, Bool.false_eq_true, g16, g17, g18, ia, ld, len, d2, ei, bz]
      exact ⟨i + 1, by omega, by omega, s, by simp (disch := omega) only [getK_set, Nat.reduceEqDiff, ↓reduceIte, g5, g6, g7, g8, g10, g12, g14, g16, and_self]⟩
  have d1 : decide ((i : Int) < 3) = false := decide_eq_false (by omega)
  simp (disch := omega) only [f11_r15, f11_r21, of3, Nat.reduceEqDiff, ↓reduceIte, Bool.false_eq_true, g7, g17, d1, bz]
  have hN2 := s.g.nx
  refine (callP_0 (ef := f38) k.c38 rfl (f38_ret k.toCallsRa (by omega) (sx.srp.grow hcD s.g) hc2)).mono ?_
  rintro r h3 ⟨hr, g3⟩
  obtain ⟨ag, rfl, sg, _⟩ : ∃ o, r = .tup [o, .i .i64 0] ∧ Sk 2 qE h3 o (rwL (paR (raP (gvL C) C.length C.length) (240 * C.length)) (C.length + 1)) ∧ Own h2.nx.nat o := by
    rcases hr with ⟨_, _, hr⟩ | ⟨e, _⟩
    · exact hr
    · exact absurd ⟨gC, lCn⟩ e
  clear hr
  rw [← rwL_c fun i hi => sB_iv (C := C) (n := C.length) (i := i) (by omega) rfl (by omega)] at sg
  have G3 := s.g.trans (g3.low hN2)
  have hc3 := G3.hc hcD
  have sp3 := sp.sr.grow hcD G3
  have sq3 := sq.sr.grow hcD G3
  have sx3 := sx.srp.grow hcD G3
  have sy3 := sy.srp.grow hcD G3
  have iC := co_in cC (by omega)
  have iB := sB_in cC (n := C.length) (by omega) c7
  have q33 := fun P => f33_eq k.c33 sp3 sq3 (by omega) (P := P)
  have q35 := fun P => f35_eq k.c35 iC sx3 sy3 (P := P)
  have dT : ∀ {X : List Int}, decide (X = X) = true := decide_eq_true rfl
  have q0' : decide ((0 : Int) = 0) = true := rfl
  have q80 : decide ((8 : Int) = 0) = false := rfl
  have q88 : decide ((8 : Int) = 8) = true := rfl
  have e4 := sg.one
  have fin : ∀ {h4 : H} {z : V}, Sk 2 qE h4 z (rwL (sB C C.length) (C.length + 1)) → Grow h3.nx.nat h3 h4 → ∀ P, CallP fs (.fn (K.ofNat 35) []) [ag, z] h4 P = P (.b true) h4 := fun sz g P => f35_eq k.c35 iB (sg.srp.grow hc3 g) sz.srp (P := P)
  rcases he with rfl | rfl
  · simp (disch := omega) only [f11_r22, of8, Nat.reduceEqDiff, ↓reduceIte, decide_eq_true_eq, g5, g6, g7, g8, g10, g12, g14, q33, q35, bz]
    refine (callP_0 (ef := f43) k.c43 rfl (f43_ret (n := C.length) k.toCallsF c1 c7 rfl cC sy3 hc3)).mono ?_
    rintro z h4 ⟨sz, _, g4⟩
    have f35 := fin sz g4
    simp (disch := omega) only [f11_rs, Option.some.injEq, exists_eq_left', Nat.reduceEqDiff, ↓reduceIte, f35, k.aw, bz]
    exact GD.trans ((G3.trans (g4.low G3.nx)).low GD.nx)
  · simp (disch := omega) only [f11_r22, of8, Nat.reduceEqDiff, ↓reduceIte, Bool.false_eq_true, decide_eq_true_eq, Bool.not_false, g5, g6, g7, g8, g10, g12, g14, q80, q33, q35, bz]
    refine (callP_0 (ef := f43) k.c43 rfl (f43_ret (n := C.length) k.toCallsF c1 c7 rfl cC sy3 hc3)).mono ?_
    rintro z h4 ⟨sz, _, g4⟩
    have f35 := fin sz g4
    simp (disch := omega) only [f11_rs, Option.some.injEq, exists_eq_left', Nat.reduceEqDiff, ↓reduceIte, f35, k.aw, bz]
    exact GD.trans ((G3.trans (g4.low G3.nx)).low GD.nx)
end
end Go.Ev
