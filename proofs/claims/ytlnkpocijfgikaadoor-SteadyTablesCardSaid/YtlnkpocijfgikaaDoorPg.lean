/-
  Steady: the law SteadyTables., and what follows.
-/
import Derived.Test.YtlnkpocijfgikaaDoorPd
import Derived.Test.YtlnkpocijfgikaaDoorPf
namespace Go.Ev
open Go Go.RowKit
noncomputable def f5_r0 : List EOper := [oG 2 (.as (.c (.b false)))]
noncomputable def f5_r1 : List EOper := [oG 12 (.mv (tG 0)), oG 13 (.call (fG 25) [(tG 12)]), oG 3 (.as (tG 13))]
noncomputable def f5_r2 : List EOper := [oG 15 (.mv (tG 3)), oG 16 (.call (fG 20) [(tG 15)]), oG 14 (.mv (tG 16)), oG 17 (.ext (tG 14) 0), oG 18 (.ext (tG 14) 1), oG 4 (.as (tG 17)), oG 5 (.as (tG 18))]
noncomputable def f5_r3 : List EOper := [oG 20 (.mv (tG 3)), oG 21 (.call (fG 21) [(tG 20)]), oG 19 (.mv (tG 21)), oG 22 (.ext (tG 19) 0), oG 23 (.ext (tG 19) 1), oG 6 (.as (tG 22)), oG 7 (.as (tG 23))]
noncomputable def f5_r4 : List EOper := [oG 25 (.mv (tG 3)), oG 26 (.call (fG 33) [(tG 25)]), oG 24 (.mv (tG 26)), oG 27 (.ext (tG 24) 0), oG 28 (.ext (tG 24) 1), oG 8 (.as (tG 27)), oG 9 (.as (tG 28))]
noncomputable def f5_r5 : List EOper := [oG 29 (.mv (tG 9)), oG 30 (.mv (tG 29)), gG 31 30 true (.mv (tG 5)), gG 32 30 true (.bin .neq (tG 31) (cG 0)), gG 33 30 true (.mv (tG 32)), gG 34 33 false (.mv (tG 4)), gG 35 33 false (.mv (tG 8)), gG 36 33 false (.call (fG 34) [(tG 34), (tG 35)]), gG 37 33 false (.not (tG 36)), gG 38 30 true (.pick (tG 33) (.c (.b true)) (tG 37)), oG 39 (.pick (tG 30) (tG 38) (.c (.b false))), oG 40 (.mv (tG 39)), gG 41 40 false (.mv (tG 9)), gG 42 40 false (.not (tG 41)), gG 43 40 false (.mv (tG 42)), gG 44 43 true (.mv (tG 5)), gG 45 43 true (.bin .neq (tG 44) (cG 4)), gG 46 43 true (.mv (tG 45)), gG 47 46 false (.mv (tG 4)), gG 48 46 false (.len (tG 47)), gG 49 46 false (.bin .neq (tG 48) (cG 0)), gG 50 43 true (.pick (tG 46) (.c (.b true)) (tG 49)), gG 51 40 false (.pick (tG 43) (tG 50) (.c (.b false))), oG 52 (.pick (tG 40) (.c (.b true)) (tG 51))]
noncomputable def f5_r6 : List EOper := [oG 2 (.as (.c (.b false)))]
noncomputable def f5_r7 : List EOper := [oG 54 (.mv (tG 3)), oG 55 (.call (fG 35) [(tG 54)]), oG 53 (.mv (tG 55)), oG 56 (.ext (tG 53) 0), oG 57 (.ext (tG 53) 1), oG 10 (.as (tG 56)), oG 11 (.as (tG 57))]
noncomputable def f5_r8 : List EOper := [oG 58 (.mv (tG 11))]
noncomputable def f5_r9 : List EOper := [oG 59 (.mv (tG 7)), oG 60 (.bin .eql (tG 59) (cG 0)), oG 61 (.mv (tG 60)), gG 62 61 true (.mv (tG 6)), gG 63 61 true (.mv (tG 10)), gG 64 61 true (.bin .eql (tG 62) (tG 63)), oG 65 (.pick (tG 61) (tG 64) (.c (.b false))), oG 66 (.mv (tG 65)), gG 67 66 true (.call (fG 19) []), oG 68 (.pick (tG 66) (tG 67) (.c (.b false))), oG 2 (.as (tG 68))]
noncomputable def f5_r10 : List EOper := [oG 69 (.mv (tG 7)), oG 70 (.bin .eql (tG 69) (cG 4)), oG 71 (.mv (tG 70)), gG 72 71 true (.mv (tG 6)), gG 73 71 true (.bin .eql (tG 72) (cG 0)), oG 74 (.pick (tG 71) (tG 73) (.c (.b false))), oG 75 (.mv (tG 74)), gG 76 75 true (.call (fG 19) []), oG 77 (.pick (tG 75) (tG 76) (.c (.b false))), oG 2 (.as (tG 77))]
noncomputable def f5_c : EC := (.seq (.reg f5_r0) (.seq (.reg f5_r1) (.seq (.reg f5_r2) (.seq (.reg f5_r3) (.seq (.reg f5_r4) (.seq (.seq (.reg f5_r5) (.cond (tG 52) (.seq (.reg f5_r6) .ret) .skip)) (.seq (.seq (.reg f5_r7) (.seq (.reg f5_r8) (.cond (tG 58) (.seq (.reg f5_r9) .ret) .skip))) (.seq (.reg f5_r10) .ret))))))))
noncomputable def f5 : EF := ⟨78, [.tmp (.ofNat 2)], f5_c, none⟩
theorem f5_rs : f5.rs = [.tmp (.ofNat 2)] := of_eq_true (eq_self _)
section
variable {fs : T EF} {h : H} {v w u : V} {A L : List Int}
structure CallsTb (fs : T EF) : Prop extends CallsL21 fs, CallsL33 fs where
  c20 : fs.get (K.ofNat 20) = some f20
  c21 : fs.get (K.ofNat 21) = some f21
  c25 : fs.get (K.ofNat 25) = some f25
  c33 : fs.get (K.ofNat 33) = some f33
  c34 : fs.get (K.ofNat 34) = some f34
  c35 : fs.get (K.ofNat 35) = some f35
  c75 : fs.get (K.ofNat 75) = some f75
  aw : ∀ (h : H) (P : V → H → Prop), CallP fs (.fn (K.ofNat 19) []) [] h P = P (.b true) h
theorem tb_in (hA : A.length ≤ 6) (hs : smB A = true) (nz : ∀ j, j + 1 < A.length → reA A j 0 ≠ 0) : ∀ L ∈ tbL A, InP L := by
  have R := rwB hA hs
  have key : ∀ {q : Rat} {M N : Nat}, Fr' q M N → M ≤ M63 → N ≤ M63 → inR .i64 q.num = true ∧ inR .i64 (q.den : Int) = true := fun h k1 k2 => ⟨inR_nat (Nat.le_trans h.1 k1), inR_nat (Nat.le_trans (nden h.2) k2)⟩
  intro L hL
  obtain ⟨i, hi, rfl⟩ := List.mem_map.1 hL
  have hi := List.mem_range.1 hi
  refine ⟨by rw [rwL_len]; unfold rwN; omega, fun x hx => ?_⟩
  obtain ⟨j, hj, rfl⟩ := List.mem_map.1 hx
  have hj := List.mem_range.1 hj
  show inR .i64 (reA A i j).num = true ∧ inR .i64 ((reA A i j).den : Int) = true
  match i, hi, hj with
  | 0, _, _ => exact key (R.r0 j) (by decide) (by decide)
  | 1, _, _ => exact key (R.r1 j) (by decide) (by decide)
  | 2, _, _ => exact key (R.r2 (nz 1 (by omega)) j) (by decide) (by decide)
  | 3, _, _ => exact key (R.r3 (nz 1 (by omega)) (nz 2 (by omega)) j) (by decide) (by decide)
  | 4, _, _ => exact key (R.r4 (nz 1 (by omega)) (nz 2 (by omega)) (nz 3 (by omega)) j) (by decide) (by decide)
  | 5, _, hj => exact key (R.r5 (nz 1 (by omega)) (nz 2 (by omega)) (nz 3 (by omega)) j (by unfold rwN at hj; omega)) (by decide) (by decide)
  | i + 6, hi, _ => omega
theorem f5_tail (k : CallsTb fs) {a : V} {n e : Int} {fr : Fr} {h1 : H} {h0 : H} (hp : plB A = true) (sa : Sr iE h1 a A) (hc : HC h1) (G : Grow h0.nx.nat h0 h1) (hne : (RtOk A ∧ n = (sgc (rwsL A A.length) (A.length - 1) : Int) ∧ e = 0) ∨ (¬ RtOk A ∧ n = 0 ∧ e = 4)) (g : fr.get (.ofNat 3) = some (a) ∧ fr.get (.ofNat 6) = some (.i .i64 n) ∧ fr.get (.ofNat 7) = some (.i .i64 e)) : W fs none (.seq (.seq (.reg f5_r7) (.seq (.reg f5_r8) (.cond (.t (.ofNat 58)) (.seq (.reg f5_r9) .ret) .skip))) (.seq (.reg f5_r10) .ret)) (retK f5 fun r h' => r = .b true ∧ Grow h0.nx.nat h0 h') fr h1 := by
  obtain ⟨l1, l2, l3, l4⟩ := plB_len hp
  obtain ⟨g3, g6, g7⟩ := g
  simp (disch := omega) only [f5_r7, ↓reduceIte, g3, bz]
  refine (callP_0 (ef := f35) k.c35 rfl (f35_ret k.toCallsL33 k.c33 l1 l2 (rf_b l1 l2 l3 l4) sa hc)).mono ?_
  rintro r h2 ⟨g2, hr⟩
  rcases hne with ⟨ok, rfl, rfl⟩ | ⟨no, rfl, rfl⟩
  · rcases hr with ⟨_, rfl⟩ | ⟨no, _⟩
    · have q0 : decide ((0 : Int) = 0) = true := rfl
      have qq : decide ((sgc (rwsL A A.length) (A.length - 1) : Int) = (sgc (rwsL A A.length) (A.length - 1) : Int)) = true := decide_eq_true rfl
      simp (disch := omega) only [f5_r8, f5_r9, Nat.reduceEqDiff, ↓reduceIte, g6, g7, decide_true, k.aw, bz]
      simp (disch := omega) only [f5_rs, Option.some.injEq, exists_eq_left', ↓reduceIte, bz]
      exact G.trans (g2.low G.nx)
    · exact absurd ok no
  · rcases hr with ⟨ok, _⟩ | ⟨_, rfl⟩
    · exact absurd ok no
    · have q0 : decide ((0 : Int) = 0) = true := rfl
      have q4 : decide ((4 : Int) = 4) = true := rfl
      simp (disch := omega) only [f5_r8, f5_r10, Nat.reduceEqDiff, ↓reduceIte, Bool.false_eq_true, decide_eq_true_eq, g6, g7, k.aw, bz]
      simp (disch := omega) only [f5_rs, Option.some.injEq, exists_eq_left', ↓reduceIte, bz]
      exact G.trans (g2.low G.nx)
theorem f5_ret (k : CallsTb fs) (hv : Sr iE h v L) (_ : L.length ≤ 9223372036854775807) (hc : HC h) : Ret fs f5 [v] h fun r h' => r = .b true ∧ Grow h.nx.nat h h' := by
  apply ret_of rfl
  show W fs none f5_c _ _ _
  unfold f5_c
  simp (disch := omega) only [f5_r0, f5_r1, Nat.reduceEqDiff, ↓reduceIte, bz]
  refine (callP_0 (ef := f25) k.c25 rfl (f25_ret hv hc)).mono ?_
  rintro a h1 ⟨A, sA, _, pA, g1⟩
  obtain ⟨l1, l2, l3, l4⟩ := plB_len pA
  have hc1 := g1.hc hc
  have sa1 := sA.sr
  have hB := tb_b l1 l2 l3
  simp (disch := omega) only [f5_r2, ↓reduceIte, bz]
  refine (callP_0 (ef := f20) k.c20 rfl (f20_ret k.toCallsL20 pA hB sa1 hc1)).mono ?_
  rintro r h2 ⟨g2, h20⟩
  have hc2 := g2.hc hc1
  have sa2 := sa1.grow hc1 g2
  have G2 := g1.trans (g2.low g1.nx)
  rcases h20 with ⟨nz, o, us, rfl, so⟩ | ⟨⟨j, hj, hz⟩, rfl⟩
  · have ho1 := so.out.one
    simp (disch := omega) only [f5_r3, Nat.reduceEqDiff, ↓reduceIte, bz]
    refine (callP_0 (ef := f21) k.c21 rfl (f21_ret k.toCallsL21 pA hB sa2 hc2)).mono ?_
    rintro r h3 ⟨g3, h21⟩
    have hc3 := g3.hc hc2
    have sa3 := sa2.grow hc2 g3
    have so3 := so.grow hc2 g3
    have G3 := G2.trans (g3.low G2.nx)
    obtain ⟨n, e, rfl, hne⟩ : ∃ n e, r = .tup [.i .i64 n, .i .i64 e] ∧ ((RtOk A ∧ n = (sgc (rwsL A A.length) (A.length - 1) : Int) ∧ e = 0) ∨ (¬ RtOk A ∧ n = 0 ∧ e = 4)) := by
      rcases h21 with ⟨ok, rfl⟩ | ⟨no, rfl⟩
      · exact ⟨_, _, rfl, .inl ⟨ok, rfl, rfl⟩⟩
      · exact ⟨_, _, rfl, .inr ⟨no, rfl, rfl⟩⟩
    simp (disch := omega) only [f5_r4, Nat.reduceEqDiff, ↓reduceIte, bz]
    refine (callP_0 (ef := f33) k.c33 rfl (f33_ret k.toCallsL33 l1 l2 (rf_b l1 l2 l3 l4) sa3 hc3)).mono ?_
    rintro r h4 ⟨g4, h33⟩
    have hc4 := g4.hc hc3
    have sa4 := sa3.grow hc3 g4
    have so4 := so3.grow hc3 g4
    have G4 := G3.trans (g4.low G3.nx)
    rcases h33 with ⟨_, o', us', rfl, so'⟩ | ⟨⟨j, hj, hz⟩, _⟩
    · have so' : Srr h4 o' us' (tbL A) := so'
      have ho1' := so'.out.one
      have e34 := fun P => callP_eq2 (P := P) (callP_0 (ef := f34) k.c34 rfl (f34_ret k.c75 (by rw [tbL_len]; omega) (tb_in l2 l3 nz) so4 so'))
      have q0 : decide ((0 : Int) ≠ 0) = false := rfl
      simp (disch := omega) only [f5_r5, okG_u, asG_u, Nat.reduceEqDiff, ↓reduceIte, Bool.false_eq_true, Bool.not_true, Bool.not_false, q0, e34, bz]
      exact f5_tail k pA sa4 hc4 G4 hne (by simp (disch := omega) only [getK_set, Nat.reduceEqDiff, ↓reduceIte, and_self])
    · exact absurd hz (nz j hj)
  · simp (disch := omega) only [f5_r3, Nat.reduceEqDiff, ↓reduceIte, bz]
    refine (callP_0 (ef := f21) k.c21 rfl (f21_ret k.toCallsL21 pA hB sa2 hc2)).mono ?_
    rintro r h3 ⟨g3, h21⟩
    have hc3 := g3.hc hc2
    have sa3 := sa2.grow hc2 g3
    have G3 := G2.trans (g3.low G2.nx)
    obtain ⟨n, e, rfl, hne⟩ : ∃ n e, r = .tup [.i .i64 n, .i .i64 e] ∧ ((RtOk A ∧ n = (sgc (rwsL A A.length) (A.length - 1) : Int) ∧ e = 0) ∨ (¬ RtOk A ∧ n = 0 ∧ e = 4)) := by
      rcases h21 with ⟨ok, rfl⟩ | ⟨no, rfl⟩
      · exact ⟨_, _, rfl, .inl ⟨ok, rfl, rfl⟩⟩
      · exact ⟨_, _, rfl, .inr ⟨no, rfl, rfl⟩⟩
    simp (disch := omega) only [f5_r4, Nat.reduceEqDiff, ↓reduceIte, bz]
    refine (callP_0 (ef := f33) k.c33 rfl (f33_ret k.toCallsL33 l1 l2 (rf_b l1 l2 l3 l4) sa3 hc3)).mono ?_
    rintro r h4 ⟨g4, h33⟩
    have hc4 := g4.hc hc3
    have sa4 := sa3.grow hc3 g4
    have G4 := G3.trans (g4.low G3.nx)
    rcases h33 with ⟨nz, _⟩ | ⟨_, rfl⟩
    · exact absurd hz (nz j hj)
    · have q0 : decide ((0 : Int) ≠ 0) = false := rfl
      have q4 : decide ((4 : Int) ≠ 4) = false := rfl
      simp (disch := omega) only [f5_r5, okG_u, asG_u, len_sn, Nat.reduceEqDiff, ↓reduceIte, Bool.false_eq_true, Bool.not_false, q0, q4, bz]
      exact f5_tail k pA sa4 hc4 G4 hne (by simp (disch := omega) only [getK_set, Nat.reduceEqDiff, ↓reduceIte, and_self])
end
end Go.Ev
