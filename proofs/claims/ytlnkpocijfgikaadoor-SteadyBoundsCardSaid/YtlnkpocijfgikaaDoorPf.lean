/-
  Steady: halves woven, of both; good polynomials., and what follows.
-/
import Derived.Test.YtlnkpocijfgikaaDoorPd
import Derived.Test.YtlnkpocijfgikaaDoorPe
namespace Go.Ev
open Go Go.RowKit
noncomputable def f39_r0 : List EOper := [oG 2 (.as (.c .sn))]
noncomputable def f39_r1 : List EOper := [oG 8 (.bslice 1 1 [(.i .i64 (.ofNat 0))] [(0, 1, (cG 1))]), oG 3 (.as (tG 8))]
noncomputable def f39_r2 : List EOper := [oG 4 (.as (cG 0))]
noncomputable def f39_r3 : List EOper := [oG 9 (.mv (tG 4)), oG 10 (.mv (tG 0)), oG 11 (.len (tG 10)), oG 12 (.bin .lss (tG 9) (tG 11)), oG 13 (.mv (tG 12)), gG 14 13 true (.mv (tG 4)), gG 15 13 true (.bin .lss (tG 14) (cG 5)), oG 16 (.pick (tG 13) (tG 15) (.c (.b false)))]
noncomputable def f39_r4 : List EOper := [oG 19 (.mv (tG 0)), oG 20 (.mv (tG 4)), oG 21 (.iads 1 (tG 19) (tG 20)), oG 22 (.ld (tG 21)), oG 23 (.conv .u64 (tG 22)), oG 24 (.bin .rem (tG 23) (.c (.i .u64 (.ofNat 3)))), oG 25 (.conv .i64 (tG 24)), oG 26 (.bin .add (cG 1) (tG 25)), oG 27 (.bslice 2 1 [(.i .i64 (.ofNat 0)), (.i .i64 (.ofNat 0))] [(0, 1, (tG 26)), (1, 1, (cG 1))]), oG 5 (.as (tG 27))]
noncomputable def f39_r5 : List EOper := [oG 28 (.mv (tG 0)), oG 29 (.mv (tG 4)), oG 30 (.iads 1 (tG 28) (tG 29)), oG 31 (.ld (tG 30)), oG 32 (.bin .rem (tG 31) (cG 2)), oG 33 (.bin .eql (tG 32) (cG 0))]
noncomputable def f39_r6 : List EOper := [oG 34 (.mv (tG 0)), oG 35 (.mv (tG 4)), oG 36 (.iads 1 (tG 34) (tG 35)), oG 37 (.ld (tG 36)), oG 38 (.conv .u64 (tG 37)), oG 39 (.bin .rem (tG 38) (.c (.i .u64 (.ofNat 2)))), oG 40 (.conv .i64 (tG 39)), oG 41 (.bin .add (cG 1) (tG 40)), oG 42 (.bslice 3 1 [(.i .i64 (.ofNat 0)), (.i .i64 (.ofNat 0)), (.i .i64 (.ofNat 0))] [(0, 1, (tG 41)), (1, 1, (cG 1)), (2, 1, (cG 1))]), oG 5 (.as (tG 42))]
noncomputable def f39_r7 : List EOper := [oG 44 (.mv (tG 3)), oG 45 (.mv (tG 5)), oG 46 (.call (fG 40) [(tG 44), (tG 45)]), oG 43 (.mv (tG 46)), oG 47 (.ext (tG 43) 0), oG 48 (.ext (tG 43) 1), oG 6 (.as (tG 47)), oG 7 (.as (tG 48))]
noncomputable def f39_r8 : List EOper := [oG 49 (.mv (tG 7))]
noncomputable def f39_r9 : List EOper := [oG 50 (.mv (tG 6)), oG 3 (.as (tG 50))]
noncomputable def f39_r10 : List EOper := [oG 17 (.mv (tG 4)), oG 18 (.bin .add (tG 17) (cG 1)), oG 4 (.as (tG 18))]
noncomputable def f39_l0 : EC := (.seq (.seq (.reg f39_r3) (.cond (tG 16) .skip (.exit 0))) (.seq (.block 1 (.seq (.reg f39_r4) (.seq (.seq (.reg f39_r5) (.cond (tG 33) (.reg f39_r6) .skip)) (.seq (.reg f39_r7) (.seq (.reg f39_r8) (.cond (tG 49) (.reg f39_r9) .skip)))))) (.reg f39_r10)))
noncomputable def f39_r11 : List EOper := [oG 51 (.mv (tG 3)), oG 2 (.as (tG 51))]
noncomputable def f39_c : EC := (.seq (.reg f39_r0) (.seq (.reg f39_r1) (.seq (.seq (.reg f39_r2) (.block 0 (.loop f39_l0))) (.seq (.reg f39_r11) .ret))))
noncomputable def f39 : EF := ⟨52, [.tmp (.ofNat 2)], f39_c, none⟩
theorem f39_rs : f39.rs = [.tmp (.ofNat 2)] := of_eq_true (eq_self _)
section
variable {fs : T EF} {h : H} {v w : V} {A B L E O : List Int}
end
end Go.Ev
namespace Go.Ev
open Go Go.RowKit

section
variable {fs : T EF} {h : H} {v w : V} {A B L : List Int}
theorem fill_3 {fr : Fr} {x y z : EO} {z1 z2 z3 : V} : fillE fr [z1, z2, z3] [(0, 1, x), (1, 1, y), (2, 1, z)] = oGet (cellsN 1 (ev fr x)) none fun cs => oGet (cellsN 1 (ev fr y)) none fun ds => oGet (cellsN 1 (ev fr z)) none fun es => some (setMany (setMany (setMany [z1, z2, z3] 0 cs) 1 ds) 2 es) := of_eq_true (eq_self _)
theorem set_3 {z1 z2 z3 a b c : V} : setMany (setMany (setMany [z1, z2, z3] 0 [a]) 1 [b]) 2 [c] = [a, b, c] := of_eq_true (eq_self _)
theorem lit3 {h : H} {x y z : Int} : Sl iE (h.new (.cells (3 * 1) [.i .i64 x, .i .i64 y, .i .i64 z])) (.sl h.nx 0 3 1) [x, y, z] := by
  refine .inr ⟨h.nx, 0, 3 * 1, _, rfl, get_new_same, rfl, by simp, fun i hi => ?_⟩
  obtain rfl | rfl | rfl : i = 0 ∨ i = 1 ∨ i = 2 := by have : i < 3 := hi; omega
  · rfl
  · rfl
  · rfl
def f39_I (h : H) (v : V) (i : Nat) (fr : Fr) (h1 : H) : Prop := i ≤ 5 ∧ Grow h.nx.nat h h1 ∧ ∃ u G, Sl iE h1 u G ∧ 1 ≤ G.length ∧ G.length ≤ 6 ∧ fr.get (K.ofNat 0) = some (v) ∧ fr.get (K.ofNat 3) = some (u) ∧ fr.get (K.ofNat 4) = some (.i .i64 (i : Int))
theorem f39_ret (k : CallsT fs) (k40 : fs.get (.ofNat 40) = some f40) (hv : Sr iE h v L) (hc : HC h) : Ret fs f39 [v] h fun r h' => ∃ G, Sl iE h' r G ∧ 1 ≤ G.length ∧ G.length ≤ 6 ∧ Grow h.nx.nat h h' := by
  apply ret_of rfl
  show W fs none f39_c _ _ _
  unfold f39_c
  have g0 := Grow.new (Nat.le_refl h.nx.nat) (.cells (1 * 1) [.i .i64 1])
  have l0 := lit1 (h := h) (x := 1)
  simp (disch := omega) only [f39_r0, f39_r1, f39_r2, ↓reduceIte, bz]
  refine W_loop (f39_I h v) (fun i => 5 - i) ?_ 0 ⟨by omega, g0, _, [1], l0, by simp, by simp, by simp (disch := omega) only [getK_set, Nat.reduceEqDiff, ↓reduceIte, and_self, Int.natCast_zero]⟩
  clear g0 l0
  rintro i fr h1 ⟨hi, hG, u, G, su, l1, l6, g0, g3, g4⟩
  have hc1 := hG.hc hc
  have hv1 := hv.grow hc hG
  have e1 := hv1.len
  unfold f39_l0
  have out : ∀ fr : Fr, fr.get (K.ofNat 3) = some u → W fs none (.seq (.reg f39_r11) .ret) (retK f39 fun r h' => ∃ G, Sl iE h' r G ∧ 1 ≤ G.length ∧ G.length ≤ 6 ∧ Grow h.nx.nat h h') fr h1 := by
    clear g0 g3 g4 fr
    intro fr g3
    simp (disch := omega) only [f39_r11, f39_rs, Option.some.injEq, exists_eq_left', ↓reduceIte, g3, bz]
    exact ⟨G, su, l1, l6, hG⟩
  by_cases hlt : i < L.length
  · have d1 : decide ((i : Int) < (L.length : Int)) = true := decide_eq_true (by omega)
    by_cases h5 : i < 5
    · have d2 : decide ((i : Int) < 5) = true := decide_eq_true (by omega)
      obtain ⟨p, p1, p2⟩ := hv1.at i hlt
      have p2 : loadV h1 p one? = .ok (.i .i64 L[i]) h1 := p2
      have d3 : decide ((3 : Int) = 0) = false := rfl
      have d4 : decide ((2 : Int) = 0) = false := rfl
      have e4 : fw .i64 ((i : Int) + 1) = ((i + 1 : Nat) : Int) := by rw [fw64 (by omega) (by omega)]; rfl
      have g3l := Grow.new (Nat.le_refl h1.nx.nat) (.cells (2 * 1) [.i .i64 (fw .i64 (1 + fw .i64 ((fw .u64 L[i]).tmod 3))), .i .i64 1])
      have l2 := lit2 (h := h1) (x := fw .i64 (1 + fw .i64 ((fw .u64 L[i]).tmod 3))) (y := 1)
      have hv2 := hv1.grow hc1 g3l
      obtain ⟨q, q1, q2⟩ := hv2.at i hlt
      obtain rfl : p = q := (RV.ok.inj ((p1 .i64 h1).symm.trans (q1 .i64 h1))).1
      have q2 : loadV (h1.new (.cells (2 * 1) [.i .i64 (fw .i64 (1 + fw .i64 ((fw .u64 L[i]).tmod 3))), .i .i64 1])) p one? = .ok (.i .i64 L[i]) _ := q2
      have fin : ∀ {Q : Ex → Fr → H → Prop} {fr : Fr} {h2 : H} {b : V} {B : List Int}, Grow h1.nx.nat h1 h2 → Sl iE h2 b B → 1 ≤ B.length → B.length ≤ 3 → fr.get (K.ofNat 0) = some (v) ∧ fr.get (K.ofNat 3) = some (u) ∧ fr.get (K.ofNat 4) = some (.i .i64 (i : Int)) ∧ fr.get (K.ofNat 5) = some (b) → (∀ fr h3 u' G', Grow h.nx.nat h h3 → Sl iE h3 u' G' → 1 ≤ G'.length → G'.length ≤ 6 → fr.get (K.ofNat 0) = some (v) ∧ fr.get (K.ofNat 3) = some (u') ∧ fr.get (K.ofNat 4) = some (.i .i64 (i : Int)) → Q .normal fr h3) → W fs none (.seq (.reg f39_r7) (.seq (.reg f39_r8) (.cond (.t (K.ofNat 49)) (.reg f39_r9) .skip))) Q fr h2 := by
        rintro Q fr h2 b B gB sB b1 b3 ⟨g0, g3, g4, g5⟩ hQ
        have su2 := su.grow hc1 gB
        simp (disch := omega) only [f39_r7, Nat.reduceEqDiff, ↓reduceIte, g3, g5, bz]
        refine (callP_0 (ef := f40) k40 rfl (f40_ret k ⟨l1, by omega⟩ ⟨b1, by omega⟩ su2.sr sB.sr (gB.hc hc1))).mono ?_
        rintro r h3 ⟨u', rfl, su', _, g'⟩
        have G3 := hG.trans ((gB.trans (g'.low gB.nx)).low hG.nx)
        cases hp : prB (prd G B) with
        | false =>
          simp (disch := omega) only [f39_r8, Nat.reduceEqDiff, ↓reduceIte, Bool.false_eq_true, bz]
          exact hQ _ h3 u G G3 (su2.grow (gB.hc hc1) g') l1 l6 (by simp (disch := omega) only [getK_set, Nat.reduceEqDiff, ↓reduceIte, g0, g3, g4, and_self])
        | true =>
          simp (disch := omega) only [f39_r8, f39_r9, Nat.reduceEqDiff, ↓reduceIte, bz]
          have hl := prd_len (A := G) (B := B)
          have h6 : (prd G B).length ≤ 6 := by
            unfold prB at hp
            rw [Bool.and_eq_true, decide_eq_true_eq] at hp
            exact hp.1
          exact hQ _ h3 u' (prd G B) G3 su' (by omega) h6 (by simp (disch := omega) only [getK_set, Nat.reduceEqDiff, ↓reduceIte, g0, g4, and_self])
      simp only [w_seq, w_reg] at fin
      by_cases h2 : L[i].tmod 2 = 0
      · have d5 : decide (L[i].tmod 2 = 0) = true := decide_eq_true h2
        have gg := g3l.trans ((Grow.new (Nat.le_refl _) (.cells (3 * 1) [.i .i64 (fw .i64 (1 + fw .i64 ((fw .u64 L[i]).tmod 2))), .i .i64 1, .i .i64 1])).low g3l.nx)
        simp (disch := omega) only [f39_r3, f39_r4, f39_r5, f39_r6, x_conv, Nat.reduceEqDiff, ↓reduceIte, fill_2, set_2, of5, g0, g4, e1, d1, d2, p1, p2, q2, d5, fill_3, set_3, bz]
        refine fin gg lit3 (by simp) (by simp) (by simp (disch := omega) only [getK_set, Nat.reduceEqDiff, ↓reduceIte, g0, g3, g4, and_self]) ?_
        rintro fr h3 u' G' G3 s' l1' l6' ⟨g0, g3, g4⟩
        simp (disch := omega) only [f39_r10, ↓reduceIte, g4, e4, bz]
        exact ⟨i + 1, by omega, by omega, G3, u', G', s', l1', l6', by simp (disch := omega) only [getK_set, Nat.reduceEqDiff, ↓reduceIte, g0, g3, and_self]⟩
      · have d5 : decide (L[i].tmod 2 = 0) = false := decide_eq_false h2
        simp (disch := omega) only [f39_r3, f39_r4, f39_r5, x_conv, Nat.reduceEqDiff, ↓reduceIte, Bool.false_eq_true, fill_2, set_2, of5, g0, g4, e1, d1, d2, p1, p2, q2, d5, bz]
        refine fin g3l l2 (by simp) (by simp) (by simp (disch := omega) only [getK_set, Nat.reduceEqDiff, ↓reduceIte, g0, g3, g4, and_self]) ?_
        rintro fr h3 u' G' G3 s' l1' l6' ⟨g0, g3, g4⟩
        simp (disch := omega) only [f39_r10, ↓reduceIte, g4, e4, bz]
        exact ⟨i + 1, by omega, by omega, G3, u', G', s', l1', l6', by simp (disch := omega) only [getK_set, Nat.reduceEqDiff, ↓reduceIte, g0, g3, and_self]⟩
    · have d2 : decide ((i : Int) < 5) = false := decide_eq_false (by omega)
      simp (disch := omega) only [f39_r3, Nat.reduceEqDiff, ↓reduceIte, Bool.false_eq_true, of5, g0, g4, e1, d1, d2, bz]
      exact out _ (by simp (disch := omega) only [getK_set, Nat.reduceEqDiff, ↓reduceIte, g3])
  · have d1 : decide ((i : Int) < (L.length : Int)) = false := decide_eq_false (by omega)
    simp (disch := omega) only [f39_r3, Nat.reduceEqDiff, ↓reduceIte, Bool.false_eq_true, of5, g0, g4, e1, d1, bz]
    exact out _ (by simp (disch := omega) only [getK_set, Nat.reduceEqDiff, ↓reduceIte, g3])
end
end Go.Ev
namespace Go.Ev
open Go Go.RowKit
noncomputable def f95_r0 : List EOper := [oG 2 (.box 2 (tG 0)), oG 4 (.as (.c .sn))]
noncomputable def f95_r1 : List EOper := [oG 8 (.fadr 0 (tG 2)), oG 9 (.ld (tG 8)), oG 10 (.len (tG 9)), oG 11 (.mkslice 1 [(.i .i64 (.ofNat 0))] (tG 10)), oG 5 (.as (tG 11))]
noncomputable def f95_r2 : List EOper := [oG 12 (.mv (tG 1)), oG 13 (.mv (tG 5)), oG 14 (.len (tG 13)), oG 15 (.ssl (tG 12) none (some (tG 14))), oG 16 (.rng (tG 15))]
noncomputable def f95_r3 : List EOper := [oG 17 (.nxt (tG 16)), oG 18 (.ext (tG 17) 0)]
noncomputable def f95_r4 : List EOper := [oG 19 (.ext (tG 17) 1), oG 20 (.ext (tG 17) 2), oG 6 (.as (tG 19)), oG 7 (.as (tG 20))]
noncomputable def f95_r5 : List EOper := [oG 21 (.mv (tG 7)), oG 22 (.bin .eql (tG 21) (.c (.i .i32 (.ofNat 108))))]
noncomputable def f95_r6 : List EOper := [oG 23 (.mv (tG 5)), oG 24 (.mv (tG 6)), oG 25 (.fadr 0 (tG 2)), oG 26 (.ld (tG 25)), oG 27 (.mv (tG 6)), oG 28 (.iads 1 (tG 26) (tG 27)), oG 29 (.ld (tG 28)), oG 30 (.iads 1 (tG 23) (tG 24)), ⟨none, none, .st 1 (tG 30) (tG 29)⟩]
noncomputable def f95_r7 : List EOper := [oG 31 (.mv (tG 5)), oG 32 (.mv (tG 6)), oG 33 (.fadr 1 (tG 2)), oG 34 (.ld (tG 33)), oG 35 (.mv (tG 6)), oG 36 (.iads 1 (tG 34) (tG 35)), oG 37 (.ld (tG 36)), oG 38 (.iads 1 (tG 31) (tG 32)), ⟨none, none, .st 1 (tG 38) (tG 37)⟩]
noncomputable def f95_l0 : EC := (.seq (.reg f95_r3) (.seq (.cond (tG 18) .skip (.exit 0)) (.block 1 (.seq (.reg f95_r4) (.seq (.reg f95_r5) (.cond (tG 22) (.reg f95_r6) (.reg f95_r7)))))))
noncomputable def f95_r8 : List EOper := [oG 39 (.mv (tG 5)), oG 4 (.as (tG 39))]
noncomputable def f95_c : EC := (.seq (.reg f95_r0) (.seq (.reg f95_r1) (.seq (.seq (.reg f95_r2) (.block 0 (.loop f95_l0))) (.seq (.reg f95_r8) .ret))))
noncomputable def f95 : EF := ⟨40, [.tmp (.ofNat 4)], f95_c, none⟩
theorem f95_rs : f95.rs = [.tmp (.ofNat 4)] := of_eq_true (eq_self _)
noncomputable def f80_r0 : List EOper := [oG 1 (.box 2 (tG 0)), oG 2 (.alloc 4 [.sn, .sn, .sn, .sn])]
noncomputable def f80_r1 : List EOper := [oG 3 (.alloc 4 [.sn, .sn, .sn, .sn])]
noncomputable def f80_r2 : List EOper := [oG 6 (.mv (.c (.agg [(.s ⟨#[108, 108, 104, 104, 108, 108]⟩), (.s ⟨#[104, 104, 108, 108, 104, 104]⟩), (.s ⟨#[108, 104, 104, 108, 108, 104]⟩), (.s ⟨#[104, 108, 108, 104, 104, 108]⟩)]))), oG 7 (.mv (cG 0))]
noncomputable def f80_r3 : List EOper := [oG 8 (.bin .lss (tG 7) (cG 4))]
noncomputable def f80_r4 : List EOper := [oG 9 (.mv (tG 7)), oG 10 (.ix 4 1 false (tG 6) (tG 7)), oG 4 (.as (tG 9)), oG 5 (.as (tG 10))]
noncomputable def f80_r5 : List EOper := [oG 11 (.mv (tG 4)), oG 12 (.ldn 2 (tG 1)), oG 13 (.mv (tG 5)), oG 14 (.call (fG 95) [(tG 12), (tG 13)]), oG 15 (.iadr 4 1 (tG 3) (tG 11)), ⟨none, none, .st 1 (tG 15) (tG 14)⟩]
noncomputable def f80_r6 : List EOper := [oG 16 (.bin .add (tG 7) (cG 1)), oG 7 (.mv (tG 16))]
noncomputable def f80_l0 : EC := (.seq (.reg f80_r3) (.seq (.cond (tG 8) .skip (.exit 0)) (.seq (.block 1 (.seq (.reg f80_r4) (.reg f80_r5))) (.reg f80_r6))))
noncomputable def f80_r7 : List EOper := [oG 17 (.ldn 4 (tG 3)), ⟨none, none, .st 4 (tG 2) (tG 17)⟩]
noncomputable def f80_c : EC := (.seq (.reg f80_r0) (.seq (.reg f80_r1) (.seq (.seq (.reg f80_r2) (.block 0 (.loop f80_l0))) (.seq (.reg f80_r7) .ret))))
noncomputable def f80 : EF := ⟨18, [.celln (.ofNat 2) 4], f80_c, none⟩
theorem f80_rs : f80.rs = [.celln (.ofNat 2) 4] := of_eq_true (eq_self _)
noncomputable def f81_r0 : List EOper := [oG 1 (.box 2 (tG 0)), oG 2 (.as (.c .sn)), oG 3 (.as (.c (.b false)))]
noncomputable def f81_r1 : List EOper := [oG 6 (.ldn 2 (tG 1)), oG 7 (.call (fG 80) [(tG 6)]), oG 8 (.mv (cG 0))]
noncomputable def f81_r2 : List EOper := [oG 9 (.bin .lss (tG 8) (cG 4))]
noncomputable def f81_r3 : List EOper := [oG 10 (.ix 4 1 false (tG 7) (tG 8)), oG 5 (.as (tG 10))]
noncomputable def f81_r4 : List EOper := [oG 11 (.mv (tG 5)), oG 12 (.call (fG 55) [(tG 11)]), oG 13 (.not (tG 12))]
noncomputable def f81_r5 : List EOper := [oG 14 (.mv (tG 5)), oG 2 (.as (tG 14)), oG 3 (.as (.c (.b true)))]
noncomputable def f81_r6 : List EOper := [oG 15 (.bin .add (tG 8) (cG 1)), oG 8 (.mv (tG 15))]
noncomputable def f81_l0 : EC := (.seq (.reg f81_r2) (.seq (.cond (tG 9) .skip (.exit 0)) (.seq (.block 1 (.seq (.reg f81_r3) (.seq (.reg f81_r4) (.cond (tG 13) (.seq (.reg f81_r5) .ret) .skip)))) (.reg f81_r6))))
noncomputable def f81_r7 : List EOper := [oG 2 (.as (.c .sn)), oG 3 (.as (.c (.b false)))]
noncomputable def f81_c : EC := (.seq (.reg f81_r0) (.seq (.seq (.reg f81_r1) (.block 0 (.loop f81_l0))) (.seq (.reg f81_r7) .ret)))
noncomputable def f81 : EF := ⟨16, [.tmp (.ofNat 2), .tmp (.ofNat 3)], f81_c, none⟩
theorem f81_rs : f81.rs = [.tmp (.ofNat 2), .tmp (.ofNat 3)] := of_eq_true (eq_self _)
section
variable {fs : T EF} {h : H} {v w : V} {X Y L : List Int}
structure Pat (s : ByteArray) (k : Nat) : Prop where
  len : (bytes s).length = 6
  lt : ∀ i, i < 6 → ∃ c, (bytes s)[i]? = some c ∧ c.toNat = (if (i + k) % 4 < 2 then 108 else 104)
def crF (X Y : List Int) (k i : Nat) : Int := if (i + k) % 4 < 2 then X.getD i 0 else Y.getD i 0
def crL (X Y : List Int) (k : Nat) : List Int := (List.range X.length).map (crF X Y k)
def crP (X Y : List Int) (k j : Nat) : List Int := (List.range X.length).map fun i => if i < j then crF X Y k i else 0
theorem crL_len {k : Nat} : (crL X Y k).length = X.length := by simp [crL]
theorem crP_len {k j : Nat} : (crP X Y k j).length = X.length := by simp [crP]
theorem crP_0 {k : Nat} : crP X Y k 0 = List.replicate X.length 0 := by
  apply List.ext_getElem
  · simp [crP]
  · intro i h1 h2; simp [crP]
theorem crP_end {k : Nat} : crP X Y k X.length = crL X Y k := by
  apply List.ext_getElem
  · simp [crP, crL]
  · intro i h1 h2
    have : i < X.length := by rw [crP_len] at h1; exact h1
    simp [crP, crL, this]
theorem crP_set {k j : Nat} : (crP X Y k j).set j (crF X Y k j) = crP X Y k (j + 1) := by
  apply List.ext_getElem
  · simp [crP]
  · intro i h1 h2
    rw [List.getElem_set]
    by_cases e : j = i
    · subst e
      rw [if_pos rfl]
      simp [crP]
    · rw [if_neg e]
      simp only [crP, List.getElem_map, List.getElem_range]
      by_cases e2 : i < j
      · rw [if_pos e2, if_pos (by omega)]
      · rw [if_neg e2, if_neg (by omega)]
theorem nxt_some {s : ByteArray} {i : Nat} {c : UInt8} {id : K} (hb : h.get id = .sit s i) (hn : (bytes s)[i]? = some c) (hl : c.toNat < 128) : nxtV (.p id 0) h = .ok (.tup [.b true, .i .i64 (i : Int), .i .i32 (c.toNat : Int)]) (h.put id (.sit s (i + 1))) := by
  show (bif Nat.beq 0 0 then (h.get id).onT (fun s pos => oGet (nth (bytes s) pos) (RV.ok (.tup [.b false]) h) fun c => bif Nat.blt c.toNat 128 then RV.ok (.tup [.b true, .i .i64 (.ofNat pos), .i .i32 (.ofNat c.toNat)]) (h.put id (.sit s (pos + 1))) else RV.no) else RV.no) = _
  rw [hb]
  show oGet (nth (bytes s) i) (RV.ok (.tup [.b false]) h) (fun c => bif Nat.blt c.toNat 128 then RV.ok (.tup [.b true, .i .i64 (.ofNat i), .i .i32 (.ofNat c.toNat)]) (h.put id (.sit s (i + 1))) else RV.no) = _
  rw [nth_eq, hn]
  show (bif Nat.blt c.toNat 128 then _ else _) = _
  rw [show Nat.blt c.toNat 128 = true from Nat.ble_eq_true_of_le hl]
  rfl
theorem nxt_none {s : ByteArray} {i : Nat} {id : K} (hb : h.get id = .sit s i) (hn : (bytes s)[i]? = none) : nxtV (.p id 0) h = .ok (.tup [.b false]) h := by
  show (bif Nat.beq 0 0 then (h.get id).onT (fun s pos => oGet (nth (bytes s) pos) (RV.ok (.tup [.b false]) h) fun c => bif Nat.blt c.toNat 128 then RV.ok (.tup [.b true, .i .i64 (.ofNat pos), .i .i32 (.ofNat c.toNat)]) (h.put id (.sit s (pos + 1))) else RV.no) else RV.no) = _
  rw [hb]
  show oGet (nth (bytes s) i) (RV.ok (.tup [.b false]) h) (fun c => bif Nat.blt c.toNat 128 then RV.ok (.tup [.b true, .i .i64 (.ofNat i), .i .i32 (.ofNat c.toNat)]) (h.put id (.sit s (i + 1))) else RV.no) = _
  rw [nth_eq, hn]
  rfl
noncomputable def sslT (s : ByteArray) (v : V) (h : H) : RV := oGet (v.onI none fun _ n => nonneg n) .no fun u => bif Nat.ble 0 u && Nat.ble u (lenL (bytes s)) then .ok (.s ⟨⟨takeN (u - 0) (dropN 0 (bytes s))⟩⟩) h else .no
theorem ssl_eq {s : ByteArray} {fr : Fr} {e : EO} : sslV fr (.s s) none (some e) h = sslT s (ev fr e) h := of_eq_true (eq_self _)
theorem ssl_to {s : ByteArray} {n : Nat} (hn : n ≤ (bytes s).length) : sslT s (.i .i64 (n : Int)) h = .ok (.s ⟨⟨(bytes s).take n⟩⟩) h := by
  show (bif Nat.ble 0 n && Nat.ble n (lenL (bytes s)) then RV.ok (.s ⟨⟨takeN (n - 0) (dropN 0 (bytes s))⟩⟩) h else RV.no) = _
  rw [lenL_eq, Nat.ble_eq_true_of_le hn, Nat.ble_eq_true_of_le (Nat.zero_le n), takeN_eq, dropN_eq, List.drop_zero]
  rfl
theorem rng_s {s : ByteArray} : rngV (.s s) h = .ok (.p h.nx 0) (h.new (.sit s 0)) := of_eq_true (eq_self _)
def f95_I (h0 : H) (v w : V) (s : ByteArray) (X Y : List Int) (k : Nat) (b0 b1 b2 : K) (i : Nat) (fr : Fr) (h1 : H) : Prop := i ≤ X.length ∧ Grow h0.nx.nat h0 h1 ∧ h1.get b0 = .cells 2 [v, w] ∧ h1.get b2 = .sit s i ∧ b2.nat < h1.nx.nat ∧ Sl iE h1 (.sl b1 0 X.length 1) (crP X Y k i) ∧ fr.get (K.ofNat 2) = some (.p b0 0) ∧ fr.get (K.ofNat 5) = some (.sl b1 0 X.length 1) ∧ fr.get (K.ofNat 16) = some (.p b2 0)
theorem f95_ret {s : ByteArray} {k : Nat} (hp : Pat s k) (hX : X.length ≤ 6) (hY : Y.length = X.length) (hv : Sr iE h v X) (hw : Sr iE h w Y) (hc : HC h) : Ret fs f95 [.agg [v, w], .s s] h fun r h' => Sl iE h' r (crL X Y k) ∧ Own h.nx.nat r ∧ Grow h.nx.nat h h' := by
  apply ret_of rfl
  show W fs none f95_c _ _ _
  unfold f95_c
  have hv1 : cellsN 1 v = some [v] := hv.one
  have gA := Grow.new (Nat.le_refl h.nx.nat) (.cells 2 [v, w])
  have n1 := nx_new h (.cells 2 [v, w])
  have la := load_p (h := h.new (.cells 2 [v, w])) (id := h.nx) (off := 0) (v := v) get_new_same rfl
  have el := (hv.grow hc gA).len
  have hmk := mks_ints (h := h.new (.cells 2 [v, w])) (k := .i64) (n := X.length) (by omega)
  have hsl := mks_sl (h := h.new (.cells 2 [v, w])) (n := X.length)
  have gB := Grow.new (Nat.le_refl (h.new (.cells 2 [v, w])).nx.nat) (.cells (X.length * 1) (rep [.i .i64 0] X.length))
  have n2 := nx_new (h.new (.cells 2 [v, w])) (.cells (X.length * 1) (rep [.i .i64 0] X.length))
  have a2 : ((h.new (.cells 2 [v, w])).new (.cells (X.length * 1) (rep [.i .i64 0] X.length))).get h.nx = .cells 2 [v, w] := (get_new_old (by omega)).trans get_new_same
  have es := fun h => ssl_to (h := h) (s := s) (n := X.length) (by rw [hp.len]; exact hX)
  have lB : ∀ h1, lenV (.sl (h.new (.cells 2 [v, w])).nx 0 X.length 1) h1 = .ok (.i .i64 (X.length : Int)) h1 := fun h1 => rfl
  simp (disch := omega) only [f95_r0, f95_r1, f95_r2, x_box, x_mks, x_fadr, Nat.reduceEqDiff, ↓reduceIte, cells2, x_ssl, x_rng, la, el, hmk, lB, ssl_eq, es, rng_s, bz]
  have hid1 : (h.new (.cells 2 [v, w])).nx.nat = h.nx.nat + 1 := n1
  have hcA := gA.hc hc
  rw [← crP_0 (Y := Y) (k := k)] at hsl
  have G2 := gA.trans (gB.low gA.nx)
  generalize hb1 : (h.new (.cells 2 [v, w])).nx = b1 at *
  generalize (h.new (.cells 2 [v, w])).new (.cells (X.length * 1) (rep [.i .i64 0] X.length)) = hB at *
  have hcB := G2.hc hc
  have gC := Grow.new (Nat.le_refl hB.nx.nat) (.sit ⟨⟨(bytes s).take X.length⟩⟩ 0)
  have n3 := nx_new hB (.sit ⟨⟨(bytes s).take X.length⟩⟩ 0)
  have c0 : (hB.new (.sit ⟨⟨(bytes s).take X.length⟩⟩ 0)).get hB.nx = .sit ⟨⟨(bytes s).take X.length⟩⟩ 0 := get_new_same
  have c1 : (hB.new (.sit ⟨⟨(bytes s).take X.length⟩⟩ 0)).get h.nx = .cells 2 [v, w] := (get_new_old (by omega)).trans a2
  have hsl := hsl.grow hcB gC
  have G3 := G2.trans (gC.low G2.nx)
  have hb0 : h.nx.nat < b1.nat := by omega
  have hb2 : b1.nat < hB.nx.nat := by omega
  have hbs : bytes ⟨⟨(bytes s).take X.length⟩⟩ = (bytes s).take X.length := rfl
  generalize ht : (⟨⟨(bytes s).take X.length⟩⟩ : ByteArray) = s' at *
  generalize hB.nx = b2 at *
  generalize hB.new (.sit s' 0) = hC at *
  refine W_loop (f95_I h v w s' X Y k h.nx b1 b2) (fun i => X.length - i) ?_ 0 ⟨by omega, G3, c1, c0, by omega, hsl, by simp (disch := omega) only [getK_set, Nat.reduceEqDiff, ↓reduceIte, and_self]⟩
  clear hsl c0 c1 G3 G2 n3 n2 n1 gC gB gA hcB hcA a2 hmk lB la
  rintro i fr h1 ⟨hi, hG, q0, q2, hn2, hs, g2, g5, g16⟩
  have hc1 := hG.hc hc
  have hv1' := hv.grow hc hG
  have hw1' := hw.grow hc hG
  unfold f95_l0
  by_cases hlt : i < X.length
  · obtain ⟨c, hc1', hc2⟩ := hp.lt i (by omega)
    have hn' : (bytes s')[i]? = some c := by rw [hbs, List.getElem?_take, if_pos hlt]; exact hc1'
    have hcl : c.toNat < 128 := by rw [hc2]; split <;> omega
    have en := nxt_some q2 hn' hcl
    have ed : decide (((c.toNat : Nat) : Int) = Int.ofNat 108) = decide ((i + k) % 4 < 2) := by
      congr 1; rw [hc2]; apply propext; constructor
      · intro h; by_cases e : (i + k) % 4 < 2
        · exact e
        · rw [if_neg e] at h; exact absurd h (by decide)
      · intro e; rw [if_pos e]; rfl
    have ne01 : h.nx ≠ b2 := fun e => by rw [e] at hb0; omega
    have ne12 : b1 ≠ b2 := fun e => by rw [e] at hb2; omega
    have gp : Grow h.nx.nat h1 (h1.put b2 (.sit s' (i + 1))) := Grow.put (by omega) hn2 _
    have q0' : (h1.put b2 (.sit s' (i + 1))).get h.nx = .cells 2 [v, w] := (get_put_other ne01).trans q0
    have hs' : Sl iE (h1.put b2 (.sit s' (i + 1))) (.sl b1 0 X.length 1) (crP X Y k i) := hs.put (fun off n sz e => by cases e; exact ne12 rfl) _
    have hG' := hG.trans gp
    have q2' : (h1.put b2 (.sit s' (i + 1))).get b2 = .sit s' (i + 1) := get_put_same
    have hn2' : b2.nat < (h1.put b2 (.sit s' (i + 1))).nx.nat := hn2
    generalize h1.put b2 (.sit s' (i + 1)) = h2 at *
    have hc2' := hG'.hc hc
    have l0 : loadV h2 (.p h.nx 0) one? = .ok v h2 := load_p q0' rfl
    have l1 : loadV h2 (.p h.nx 1) one? = .ok w h2 := load_p q0' rfl
    obtain ⟨p, p1, p2⟩ := (hv.grow hc hG').at i hlt
    obtain ⟨q, r1, r2⟩ := (hw.grow hc hG').at i (by omega)
    have p2 : loadV h2 p one? = .ok (.i .i64 X[i]) h2 := p2
    have r2 : loadV h2 q one? = .ok (.i .i64 (Y[i]'(by omega))) h2 := r2
    have hl : i < (crP X Y k i).length := by rw [crP_len]; exact hlt
    obtain ⟨p', id, m, cs', a1, a2, a3, ⟨off, n', sz, a4⟩, a5⟩ := hs'.st (i := i) hl (x := crF X Y k i) (c := .i .i64 (crF X Y k i)) rfl rfl hc2'
    rw [crP_set] at a3
    cases a4
    by_cases e : (i + k) % 4 < 2
    · have d1 : decide ((i + k) % 4 < 2) = true := decide_eq_true e
      have ex : X[i] = crF X Y k i := by unfold crF; rw [if_pos e, getD_lt hlt]
      rw [ex] at p2
      simp (disch := omega) only [f95_r3, f95_r4, f95_r5, f95_r6, x_fadr, nth2, Nat.reduceEqDiff, ↓reduceIte, x_nxt, g2, g5, g16, en, ed, d1, l0, p1, p2, a1, a2, bz]
      exact ⟨i + 1, by omega, by omega, hG'.trans (Grow.put (by omega) a5 _), (get_put_other (fun e => by rw [e] at hb0; omega)).trans q0', (get_put_other (Ne.symm ne12)).trans q2', hn2', a3, by simp (disch := omega) only [getK_set, Nat.reduceEqDiff, ↓reduceIte, g2, g5, g16, and_self]⟩
    · have d1 : decide ((i + k) % 4 < 2) = false := decide_eq_false e
      have ex : Y[i]'(by omega) = crF X Y k i := by unfold crF; rw [if_neg e, getD_lt (by omega)]
      rw [ex] at r2
      simp (disch := omega) only [f95_r3, f95_r4, f95_r5, f95_r7, x_fadr, nth2, Nat.reduceEqDiff, ↓reduceIte, Bool.false_eq_true, x_nxt, g2, g5, g16, en, ed, d1, l1, r1, r2, a1, a2, bz]
      exact ⟨i + 1, by omega, by omega, hG'.trans (Grow.put (by omega) a5 _), (get_put_other (fun e => by rw [e] at hb0; omega)).trans q0', (get_put_other (Ne.symm ne12)).trans q2', hn2', a3, by simp (disch := omega) only [getK_set, Nat.reduceEqDiff, ↓reduceIte, g2, g5, g16, and_self]⟩
  · obtain rfl : i = X.length := by omega
    have hn' : (bytes s')[X.length]? = none := by rw [hbs, List.getElem?_take, if_neg (by omega)]
    have en := nxt_none q2 hn'
    rw [crP_end] at hs
    simp (disch := omega) only [f95_r3, f95_r8, f95_rs, Option.some.injEq, exists_eq_left', Nat.reduceEqDiff, ↓reduceIte, Bool.false_eq_true, x_nxt, g5, g16, en, bz]
    exact ⟨hs, fun id off n sz e => by cases e; omega, hG⟩
noncomputable def pt : Nat → ByteArray
  | 0 => ⟨#[108, 108, 104, 104, 108, 108]⟩
  | 1 => ⟨#[104, 104, 108, 108, 104, 104]⟩
  | 2 => ⟨#[108, 104, 104, 108, 108, 104]⟩
  | _ => ⟨#[104, 108, 108, 104, 104, 108]⟩
def sh : Nat → Nat
  | 0 => 0
  | 1 => 2
  | 2 => 1
  | _ => 3
theorem pat_pt {i : Nat} (hi : i < 4) : Pat (pt i) (sh i) := by
  have six : ∀ {j : Nat}, j < 6 → j = 0 ∨ j = 1 ∨ j = 2 ∨ j = 3 ∨ j = 4 ∨ j = 5 := by omega
  obtain rfl | rfl | rfl | rfl : i = 0 ∨ i = 1 ∨ i = 2 ∨ i = 3 := by omega
  all_goals
    refine ⟨rfl, fun j hj => ?_⟩
    obtain rfl | rfl | rfl | rfl | rfl | rfl := six hj <;> exact ⟨_, rfl, rfl⟩
theorem ix_pt {i : Nat} (hi : i < 4) : ixV 4 1 false (.agg [.s ⟨#[108, 108, 104, 104, 108, 108]⟩, .s ⟨#[104, 104, 108, 108, 104, 104]⟩, .s ⟨#[108, 104, 104, 108, 108, 104]⟩, .s ⟨#[104, 108, 108, 104, 104, 108]⟩]) (.i .i64 (i : Int)) h = .ok (.s (pt i)) h := by
  obtain rfl | rfl | rfl | rfl : i = 0 ∨ i = 1 ∨ i = 2 ∨ i = 3 := by omega
  all_goals rfl
theorem ix_us {us : List V} {i : Nat} (hu : us.length = 4) (hi : i < 4) : ixV 4 1 false (.agg us) (.i .i64 (i : Int)) h = okv (some (us[i]'(by omega))) h := by
  obtain ⟨a, b, c, d, rfl⟩ : ∃ a b c d, us = [a, b, c, d] := by
    match us, hu with
    | [a, b, c, d], _ => exact ⟨a, b, c, d, rfl⟩
  obtain rfl | rfl | rfl | rfl : i = 0 ∨ i = 1 ∨ i = 2 ∨ i = 3 := by omega
  all_goals rfl
structure Cor (b : Nat) (h : H) (us : List V) (X Y : List Int) (n : Nat) : Prop where
  len : us.length = 4
  lt : ∀ j (hj : j < us.length), j < n → Sr iE h us[j] (crL X Y (sh j)) ∧ Own b us[j]
theorem Cor.grow {b n : Nat} {us : List V} {h' : H} (c : Cor b h us X Y n) (hc : HC h) (g : Grow h.nx.nat h h') : Cor b h' us X Y n := ⟨c.len, fun j hj hn => ⟨(c.lt j hj hn).1.grow hc g, (c.lt j hj hn).2⟩⟩
def f80_I (h0 : H) (v w : V) (X Y : List Int) (b1 b2 b3 : K) (i : Nat) (fr : Fr) (h1 : H) : Prop := i ≤ 4 ∧ Grow h0.nx.nat h0 h1 ∧ h1.get b1 = .cells 2 [v, w] ∧ h1.get b2 = .cells 4 [.sn, .sn, .sn, .sn] ∧ b3.nat < h1.nx.nat ∧ ∃ us, h1.get b3 = .cells 4 us ∧ Cor (b3.nat + 1) h1 us X Y i ∧ fr.get (K.ofNat 1) = some (.p b1 0) ∧ fr.get (K.ofNat 2) = some (.p b2 0) ∧ fr.get (K.ofNat 3) = some (.p b3 0) ∧ fr.get (K.ofNat 6) = some (.agg [.s ⟨#[108, 108, 104, 104, 108, 108]⟩, .s ⟨#[104, 104, 108, 108, 104, 104]⟩, .s ⟨#[108, 104, 104, 108, 108, 104]⟩, .s ⟨#[104, 108, 108, 104, 104, 108]⟩]) ∧ fr.get (K.ofNat 7) = some (.i .i64 (i : Int))
theorem readP4 {id : K} {us : List V} (hb : h.get id = .cells 4 us) (hu : us.length = 4) : readP h (.p id 0) (many? 4) = some (.agg us) := by
  show (h.get id).onC none (fun n cs => many? 4 cs n 0) = _
  rw [hb]
  show (bif Nat.ble (0 + 4) 4 then some (V.agg (takeN 4 (dropN 0 us))) else none) = _
  rw [takeN_eq, dropN_eq, List.drop_zero, List.take_of_length_le (by omega)]
  rfl
theorem f80_ret (k95 : fs.get (.ofNat 95) = some f95) (hX : X.length ≤ 6) (hY : Y.length = X.length) (hv : Sr iE h v X) (hw : Sr iE h w Y) (hc : HC h) : Ret fs f80 [.agg [v, w]] h fun r h' => ∃ us, r = .agg us ∧ Cor h.nx.nat h' us X Y 4 ∧ Grow h.nx.nat h h' := by
  apply ret_of rfl
  show W fs none f80_c _ _ _
  unfold f80_c
  have gA := Grow.new (Nat.le_refl h.nx.nat) (.cells 2 [v, w])
  have n1 := nx_new h (.cells 2 [v, w])
  have a1 : (h.new (.cells 2 [v, w])).get h.nx = .cells 2 [v, w] := get_new_same
  simp (disch := omega) only [f80_r0, f80_r1, f80_r2, x_box, ↓reduceIte, cells2, bz]
  generalize h.new (.cells 2 [v, w]) = hA at *
  have gB := Grow.new (Nat.le_refl hA.nx.nat) (.cells 4 [.sn, .sn, .sn, .sn])
  have n2 := nx_new hA (.cells 4 [.sn, .sn, .sn, .sn])
  have bb1 : (hA.new (.cells 4 [.sn, .sn, .sn, .sn])).get hA.nx = .cells 4 [.sn, .sn, .sn, .sn] := get_new_same
  have bb2 : (hA.new (.cells 4 [.sn, .sn, .sn, .sn])).get h.nx = .cells 2 [v, w] := (get_new_old (by omega)).trans a1
  have G2 : Grow h.nx.nat h (hA.new (.cells 4 [.sn, .sn, .sn, .sn])) := gA.trans (gB.low gA.nx)
  generalize hb2 : hA.nx = b2 at *
  generalize hA.new (.cells 4 [.sn, .sn, .sn, .sn]) = hB at *
  have gC := Grow.new (Nat.le_refl hB.nx.nat) (.cells 4 [.sn, .sn, .sn, .sn])
  have n3 := nx_new hB (.cells 4 [.sn, .sn, .sn, .sn])
  have c1 : (hB.new (.cells 4 [.sn, .sn, .sn, .sn])).get hB.nx = .cells 4 [.sn, .sn, .sn, .sn] := get_new_same
  have c2 : (hB.new (.cells 4 [.sn, .sn, .sn, .sn])).get b2 = .cells 4 [.sn, .sn, .sn, .sn] := (get_new_old (by omega)).trans bb1
  have c3 : (hB.new (.cells 4 [.sn, .sn, .sn, .sn])).get h.nx = .cells 2 [v, w] := (get_new_old (by omega)).trans bb2
  have G3 : Grow h.nx.nat h (hB.new (.cells 4 [.sn, .sn, .sn, .sn])) := G2.trans (gC.low G2.nx)
  generalize hb3 : hB.nx = b3 at *
  generalize hB.new (.cells 4 [.sn, .sn, .sn, .sn]) = hC at *
  have l12 : h.nx.nat < b2.nat := by omega
  have l23 : b2.nat < b3.nat := by omega
  refine W_loop (f80_I h v w X Y h.nx b2 b3) (fun i => 4 - i) ?_ 0 ⟨by omega, G3, c3, c2, by omega, _, c1, ⟨rfl, fun j _ hj => absurd hj (by omega)⟩, by simp (disch := omega) only [getK_set, Nat.reduceEqDiff, ↓reduceIte, and_self, Int.natCast_zero]⟩
  clear c1 c2 c3 G3 G2 gA gB gC n1 n2 n3 a1 bb1 bb2 hb2 hb3
  rintro i fr h1 ⟨hi, hG, q1, q2, hn3, us, q3, cu, g1, g2, g3, g6, g7⟩
  have hc1 := hG.hc hc
  unfold f80_l0
  by_cases hlt : i < 4
  · have d1 : decide ((i : Int) < 4) = true := decide_eq_true (by omega)
    have ei := fun h1 => ix_pt (h := h1) hlt
    have e4 : fw .i64 ((i : Int) + 1) = ((i + 1 : Nat) : Int) := by rw [fw64 (by omega) (by omega)]; rfl
    have ld := ldn2 q1
    simp (disch := omega) only [f80_r3, f80_r4, f80_r5, x_ldn, x_ix, Nat.reduceEqDiff, ↓reduceIte, g1, g6, g7, d1, ei, ld, bz]
    refine (callP_0 (ef := f95) k95 rfl (f95_ret (pat_pt hlt) hX hY (hv.grow hc hG) (hw.grow hc hG) hc1)).mono ?_
    rintro u h2 ⟨su, ou, g⟩
    have q1' := (g.old h.nx (by omega)).trans q1
    have q2' := (g.old b2 (by omega)).trans q2
    have q3' := (g.old b3 (by omega)).trans q3
    have hn3' := Nat.lt_of_lt_of_le hn3 g.nx
    have hu : i < us.length := by rw [cu.len]; exact hlt
    have ha : Ar (fun v => v) h2 b3 us := by unfold Ar; rw [q3', cu.len, List.map_id']
    obtain ⟨st1, st2⟩ := ha.st (x := u) hu rfl su.one
    have ne3 : ∀ off n sz, u ≠ .sl b3 off n sz := fun off n sz e => by have := ou _ _ _ _ e; omega
    rw [cu.len, List.map_id'] at st1
    have st3 : (h2.put b3 (.cells 4 (us.set i u))).get b3 = .cells 4 (us.set i u) := get_put_same
    clear st2
    simp (disch := omega) only [f80_r6, idx_n, Nat.reduceEqDiff, ↓reduceIte, g3, g7, st1, e4, bz]
    refine ⟨i + 1, by omega, by omega, (hG.trans (g.low hG.nx)).trans (Grow.put (by omega) hn3' _), (get_put_other (fun e => by rw [e] at l12; omega)).trans q1', (get_put_other (fun e => by rw [e] at l23; omega)).trans q2', hn3', _, st3, ⟨by rw [List.length_set]; exact cu.len, fun j hj hn => ?_⟩, by simp (disch := omega) only [getK_set, Nat.reduceEqDiff, ↓reduceIte, g1, g2, g3, g6, and_self]⟩
    rw [List.getElem_set]
    by_cases e : i = j
    · subst e
      rw [if_pos rfl]
      exact ⟨(su.put ne3 _).sr, fun id off n sz e => by have := ou _ _ _ _ e; omega⟩
    · rw [if_neg e]
      have hj' : j < us.length := by rw [List.length_set] at hj; exact hj
      obtain ⟨s1, s2⟩ := cu.lt j hj' (by omega)
      exact ⟨(s1.grow hc1 g).put (s2.notIn (by omega)) _, s2⟩
  · have d1 : decide ((i : Int) < 4) = false := decide_eq_false (by omega)
    obtain rfl : i = 4 := by omega
    have ha : Ar (fun v => v) h1 b3 us := by unfold Ar; rw [q3, cu.len, List.map_id']
    have ld := ha.ldn (n := 4) cu.len.symm
    rw [List.map_id'] at ld
    have cl : cellsN 4 (.agg us) = some us := by
      show (bif Nat.beq (lenL us) 4 then some us else none) = _
      rw [lenL_eq, cu.len]; rfl
    have st : storeV h1 4 (.p b2 0) (.agg us) = .ok undefV (h1.put b2 (.cells 4 us)) := by
      rw [store_p (m := 4) q2 cl (by omega), setMany_eq _ _ _ (by simp [cu.len]), List.take_zero, cu.len]
      simp
    have rd := readP4 (h := h1.put b2 (.cells 4 us)) (id := b2) get_put_same cu.len
    simp (disch := omega) only [f80_r3, f80_r7, f80_rs, x_ldn, readRs_n, Option.some.injEq, exists_eq_left', Nat.reduceEqDiff, ↓reduceIte, Bool.false_eq_true, g2, g3, g7, d1, ld, st, rd, bz]
    refine ⟨us, rfl, ⟨cu.len, fun j hj hn => ?_⟩, hG.trans (Grow.put (by omega) (by omega) _)⟩
    obtain ⟨s1, s2⟩ := cu.lt j hj hn
    exact ⟨s1.put (s2.notIn (by omega)) _, fun id off n sz e => by have := s2 _ _ _ _ e; omega⟩
def Flt (h : H) (r : V) (X Y : List Int) : Prop := ((∀ j, j < 4 → stB (crL X Y (sh j)) = true) ∧ r = .tup [.sn, .b false]) ∨ (∃ u j, j < 4 ∧ stB (crL X Y (sh j)) = false ∧ r = .tup [u, .b true] ∧ Sr iE h u (crL X Y (sh j)))
def f81_I (h1 : H) (us : List V) (X Y : List Int) (i : Nat) (fr : Fr) (h2 : H) : Prop := i ≤ 4 ∧ Grow h1.nx.nat h1 h2 ∧ (∀ j, j < i → stB (crL X Y (sh j)) = true) ∧ fr.get (K.ofNat 7) = some (.agg us) ∧ fr.get (K.ofNat 8) = some (.i .i64 (i : Int))
theorem f81_ret (k : CallsS fs) (k95 : fs.get (.ofNat 95) = some f95) (k80 : fs.get (.ofNat 80) = some f80) (hX1 : 1 ≤ X.length) (hX : X.length ≤ 6) (hY : Y.length = X.length) (hv : Sr iE h v X) (hw : Sr iE h w Y) (hc : HC h) : Ret fs f81 [.agg [v, w]] h fun r h' => Flt h' r X Y ∧ Grow h.nx.nat h h' := by
  apply ret_of rfl
  show W fs none f81_c _ _ _
  unfold f81_c
  have gA := Grow.new (Nat.le_refl h.nx.nat) (.cells 2 [v, w])
  have a1 : (h.new (.cells 2 [v, w])).get h.nx = .cells 2 [v, w] := get_new_same
  have ld := ldn2 a1
  simp (disch := omega) only [f81_r0, f81_r1, x_box, x_ldn, Nat.reduceEqDiff, ↓reduceIte, cells2, ld, bz]
  generalize h.new (.cells 2 [v, w]) = hA at *
  refine (callP_0 (ef := f80) k80 rfl (f80_ret k95 hX hY (hv.grow hc gA) (hw.grow hc gA) (gA.hc hc))).mono ?_
  rintro r h1 ⟨us, rfl, cu, g1⟩
  have G1 := gA.trans (g1.low gA.nx)
  have hc1 := G1.hc hc
  simp (disch := omega) only [bz]
  refine W_loop (f81_I h1 us X Y) (fun i => 4 - i) ?_ 0 ⟨by omega, Grow.refl _ _, fun j hj => absurd hj (by omega), by simp (disch := omega) only [getK_set, Nat.reduceEqDiff, ↓reduceIte, and_self, Int.natCast_zero]⟩
  rintro i fr h2 ⟨hi, hG, ha, g7, g8⟩
  have hc2 := hG.hc hc1
  have cu2 := cu.grow hc1 hG
  unfold f81_l0
  by_cases hlt : i < 4
  · have d1 : decide ((i : Int) < 4) = true := decide_eq_true (by omega)
    have ei := fun h1 => ix_us (h := h1) cu.len hlt
    have e4 : fw .i64 ((i : Int) + 1) = ((i + 1 : Nat) : Int) := by rw [fw64 (by omega) (by omega)]; rfl
    obtain ⟨su, _⟩ := cu2.lt i (by rw [cu.len]; exact hlt) hlt
    simp (disch := omega) only [f81_r2, f81_r3, f81_r4, x_ix, Nat.reduceEqDiff, ↓reduceIte, g7, g8, d1, ei, bz]
    refine (callP_0 (ef := f55) k.c55 rfl (f55_ret k (by rw [crL_len]; exact hX1) (by rw [crL_len]; omega) su hc2)).mono ?_
    rintro r h3 ⟨rfl, g3⟩
    have G3 := hG.trans (g3.low hG.nx)
    cases hs : stB (crL X Y (sh i)) with
    | true =>
      simp (disch := omega) only [f81_r6, Nat.reduceEqDiff, ↓reduceIte, Bool.false_eq_true, Bool.not_true, g8, e4, bz]
      refine ⟨i + 1, by omega, by omega, G3, fun j hj => ?_, by simp (disch := omega) only [getK_set, Nat.reduceEqDiff, ↓reduceIte, g7, and_self]⟩
      by_cases e : j = i
      · subst e; exact hs
      · exact ha j (by omega)
    | false =>
      simp (disch := omega) only [f81_r5, f81_rs, Option.some.injEq, exists_eq_left', Nat.reduceEqDiff, ↓reduceIte, Bool.not_false, bz]
      exact ⟨.inr ⟨_, i, hlt, hs, rfl, su.grow hc2 g3⟩, G1.trans (G3.low G1.nx)⟩
  · have d1 : decide ((i : Int) < 4) = false := decide_eq_false (by omega)
    obtain rfl : i = 4 := by omega
    simp (disch := omega) only [f81_r2, f81_r7, f81_rs, Option.some.injEq, exists_eq_left', Nat.reduceEqDiff, ↓reduceIte, Bool.false_eq_true, g8, d1, bz]
    exact ⟨.inl ⟨ha, rfl⟩, G1.trans (hG.low G1.nx)⟩
end
end Go.Ev
namespace Go.Ev
open Go Go.RowKit
noncomputable def f82_r0 : List EOper := [oG 4 (.as (.c (.b false)))]
noncomputable def f82_r1 : List EOper := [oG 6 (.mv (tG 0)), oG 7 (.len (tG 6)), oG 8 (.mv (cG 0))]
noncomputable def f82_r2 : List EOper := [oG 9 (.bin .lss (tG 8) (tG 7))]
noncomputable def f82_r3 : List EOper := [oG 10 (.mv (tG 8)), oG 5 (.as (tG 10))]
noncomputable def f82_r4 : List Stage := [⟨[oG 11 (.mv (tG 0)), oG 12 (.mv (tG 5)), oG 13 (.iads 1 (tG 11) (tG 12)), oG 14 (.ld (tG 13)), oG 15 (.mv (tG 1)), oG 16 (.mv (tG 5)), oG 17 (.iads 1 (tG 15) (tG 16)), oG 18 (.ld (tG 17)), oG 19 (.bin .gtr (tG 14) (tG 18))], [], none, []⟩]
noncomputable def f82_r5 : List EOper := [oG 4 (.as (.c (.b false)))]
noncomputable def f82_r6 : List EOper := [oG 20 (.bin .add (tG 8) (cG 1)), oG 8 (.mv (tG 20))]
noncomputable def f82_l0 : EC := (.seq (.reg f82_r2) (.seq (.cond (tG 9) .skip (.exit 0)) (.seq (.block 1 (.seq (.reg f82_r3) (.seq (.draw f82_r4) (.cond (tG 19) (.seq (.reg f82_r5) .ret) .skip)))) (.reg f82_r6))))
noncomputable def f82_r7 : List EOper := [oG 21 (.mv (tG 0)), oG 22 (.call (fG 84) [(tG 21)]), oG 23 (.mv (tG 22)), gG 24 23 true (.mv (tG 1)), gG 25 23 true (.call (fG 84) [(tG 24)]), oG 26 (.pick (tG 23) (tG 25) (.c (.b false))), oG 27 (.mv (tG 26)), gG 28 27 true (.mv (tG 0)), gG 29 27 true (.mv (tG 0)), gG 30 27 true (.len (tG 29)), gG 31 27 true (.bin .sub (tG 30) (cG 1)), gG 32 27 true (.iads 1 (tG 28) (tG 31)), gG 33 27 true (.ld (tG 32)), gG 34 27 true (.bin .gtr (tG 33) (cG 0)), oG 35 (.pick (tG 27) (tG 34) (.c (.b false))), oG 4 (.as (tG 35))]
noncomputable def f82_c : EC := (.seq (.reg f82_r0) (.seq (.seq (.reg f82_r1) (.block 0 (.loop f82_l0))) (.seq (.reg f82_r7) .ret)))
noncomputable def f82 : EF := ⟨36, [.tmp (.ofNat 4)], f82_c, none⟩
theorem f82_rs : f82.rs = [.tmp (.ofNat 4)] := of_eq_true (eq_self _)
noncomputable def f46_r0 : List EOper := [oG 4 (.as (cG 0))]
noncomputable def f46_r1 : List EOper := [oG 5 (.mv (tG 0)), oG 6 (.len (tG 5)), oG 7 (.bin .lss (tG 6) (cG 1)), oG 8 (.mv (tG 7)), gG 9 8 false (.mv (tG 0)), gG 10 8 false (.len (tG 9)), gG 11 8 false (.bin .gtr (tG 10) (cG 6)), oG 12 (.pick (tG 8) (.c (.b true)) (tG 11)), oG 13 (.mv (tG 12)), gG 14 13 false (.mv (tG 1)), gG 15 13 false (.len (tG 14)), gG 16 13 false (.mv (tG 0)), gG 17 13 false (.len (tG 16)), gG 18 13 false (.bin .neq (tG 15) (tG 17)), oG 19 (.pick (tG 13) (.c (.b true)) (tG 18))]
noncomputable def f46_r2 : List EOper := [oG 4 (.as (cG 1))]
noncomputable def f46_r3 : List EOper := [oG 20 (.mv (tG 0)), oG 21 (.mv (tG 1)), oG 22 (.call (fG 82) [(tG 20), (tG 21)]), oG 23 (.not (tG 22))]
noncomputable def f46_r4 : List EOper := [oG 4 (.as (cG 90))]
noncomputable def f46_r5 : List EOper := [oG 4 (.as (cG 0))]
noncomputable def f46_c : EC := (.seq (.reg f46_r0) (.seq (.seq (.reg f46_r1) (.cond (tG 19) (.seq (.reg f46_r2) .ret) .skip)) (.seq (.seq (.reg f46_r3) (.cond (tG 23) (.seq (.reg f46_r4) .ret) .skip)) (.seq (.reg f46_r5) .ret))))
noncomputable def f46 : EF := ⟨24, [.tmp (.ofNat 4)], f46_c, none⟩
theorem f46_rs : f46.rs = [.tmp (.ofNat 4)] := of_eq_true (eq_self _)
noncomputable def f42_r0 : List EOper := [oG 4 (.as (cG 0))]
noncomputable def f42_r1 : List EOper := [oG 6 (.mv (tG 0)), oG 7 (.len (tG 6)), oG 8 (.bin .lss (tG 7) (cG 1)), oG 9 (.mv (tG 8)), gG 10 9 false (.mv (tG 0)), gG 11 9 false (.len (tG 10)), gG 12 9 false (.bin .gtr (tG 11) (cG 6)), oG 13 (.pick (tG 9) (.c (.b true)) (tG 12)), oG 14 (.mv (tG 13)), gG 15 14 false (.mv (tG 1)), gG 16 14 false (.len (tG 15)), gG 17 14 false (.bin .lss (tG 16) (cG 1)), oG 18 (.pick (tG 14) (.c (.b true)) (tG 17)), oG 19 (.mv (tG 18)), gG 20 19 false (.mv (tG 1)), gG 21 19 false (.len (tG 20)), gG 22 19 false (.bin .gtr (tG 21) (cG 6)), oG 23 (.pick (tG 19) (.c (.b true)) (tG 22)), oG 24 (.mv (tG 23)), gG 25 24 false (.mv (tG 0)), gG 26 24 false (.len (tG 25)), gG 27 24 false (.mv (tG 1)), gG 28 24 false (.len (tG 27)), gG 29 24 false (.bin .neq (tG 26) (tG 28)), oG 30 (.pick (tG 24) (.c (.b true)) (tG 29))]
noncomputable def f42_r2 : List EOper := [oG 4 (.as (cG 1))]
noncomputable def f42_r3 : List EOper := [oG 5 (.as (cG 0))]
noncomputable def f42_r4 : List EOper := [oG 31 (.mv (tG 5)), oG 32 (.mv (tG 0)), oG 33 (.len (tG 32)), oG 34 (.bin .lss (tG 31) (tG 33))]
noncomputable def f42_r5 : List Stage := [⟨[oG 37 (.mv (tG 0)), oG 38 (.mv (tG 5)), oG 39 (.iads 1 (tG 37) (tG 38)), oG 40 (.ld (tG 39)), oG 41 (.mv (tG 1)), oG 42 (.mv (tG 5)), oG 43 (.iads 1 (tG 41) (tG 42)), oG 44 (.ld (tG 43)), oG 45 (.bin .gtr (tG 40) (tG 44))], [], none, []⟩]
noncomputable def f42_r6 : List EOper := [oG 4 (.as (cG 90))]
noncomputable def f42_r7 : List EOper := [oG 35 (.mv (tG 5)), oG 36 (.bin .add (tG 35) (cG 1)), oG 5 (.as (tG 36))]
noncomputable def f42_l0 : EC := (.seq (.seq (.reg f42_r4) (.cond (tG 34) .skip (.exit 0))) (.seq (.block 1 (.seq (.draw f42_r5) (.cond (tG 45) (.seq (.reg f42_r6) .ret) .skip))) (.reg f42_r7)))
noncomputable def f42_r8 : List EOper := [oG 46 (.mv (tG 0)), oG 47 (.call (fG 53) [(tG 46)]), oG 48 (.not (tG 47)), oG 49 (.mv (tG 48)), gG 50 49 false (.mv (tG 1)), gG 51 49 false (.call (fG 53) [(tG 50)]), gG 52 49 false (.not (tG 51)), oG 53 (.pick (tG 49) (.c (.b true)) (tG 52)), oG 54 (.mv (tG 53)), gG 55 54 false (.mv (tG 0)), gG 56 54 false (.mv (tG 0)), gG 57 54 false (.len (tG 56)), gG 58 54 false (.bin .sub (tG 57) (cG 1)), gG 59 54 false (.iads 1 (tG 55) (tG 58)), gG 60 54 false (.ld (tG 59)), gG 61 54 false (.bin .leq (tG 60) (cG 0)), oG 62 (.pick (tG 54) (.c (.b true)) (tG 61))]
noncomputable def f42_r9 : List EOper := [oG 4 (.as (cG 90))]
noncomputable def f42_r10 : List EOper := [oG 4 (.as (cG 0))]
noncomputable def f42_c : EC := (.seq (.reg f42_r0) (.seq (.seq (.reg f42_r1) (.cond (tG 30) (.seq (.reg f42_r2) .ret) .skip)) (.seq (.seq (.reg f42_r3) (.block 0 (.loop f42_l0))) (.seq (.seq (.reg f42_r8) (.cond (tG 62) (.seq (.reg f42_r9) .ret) .skip)) (.seq (.reg f42_r10) .ret)))))
noncomputable def f42 : EF := ⟨63, [.tmp (.ofNat 4)], f42_c, none⟩
theorem f42_rs : f42.rs = [.tmp (.ofNat 4)] := of_eq_true (eq_self _)
noncomputable def f43_r0 : List EOper := [oG 4 (.alloc 4 [.sn, .sn, .sn, .sn]), oG 5 (.as (cG 0))]
noncomputable def f43_r1 : List EOper := [oG 7 (.mv (tG 0)), oG 8 (.mv (tG 1)), oG 9 (.call (fG 46) [(tG 7), (tG 8)]), oG 6 (.as (tG 9))]
noncomputable def f43_r2 : List EOper := [oG 10 (.mv (tG 6)), oG 11 (.bin .neq (tG 10) (cG 0))]
noncomputable def f43_r3 : List EOper := [oG 12 (.build [.sn, .sn, .sn, .sn] []), oG 13 (.mv (tG 6)), ⟨none, none, .st 4 (tG 4) (tG 12)⟩, oG 5 (.as (tG 13))]
noncomputable def f43_r4 : List EOper := [oG 14 (.mv (tG 0)), oG 15 (.mv (tG 1)), oG 16 (.build [.sn, .sn] [(0, 1, (tG 14)), (1, 1, (tG 15))]), oG 17 (.call (fG 80) [(tG 16)]), ⟨none, none, .st 4 (tG 4) (tG 17)⟩, oG 5 (.as (cG 0))]
noncomputable def f43_c : EC := (.seq (.reg f43_r0) (.seq (.seq (.reg f43_r1) (.seq (.reg f43_r2) (.cond (tG 11) (.seq (.reg f43_r3) .ret) .skip))) (.seq (.reg f43_r4) .ret)))
noncomputable def f43 : EF := ⟨18, [.celln (.ofNat 4) 4, .tmp (.ofNat 5)], f43_c, none⟩
theorem f43_rs : f43.rs = [.celln (.ofNat 4) 4, .tmp (.ofNat 5)] := of_eq_true (eq_self _)
noncomputable def f44_r0 : List EOper := [oG 4 (.as (.c (.b false))), oG 5 (.as (cG 0))]
noncomputable def f44_r1 : List EOper := [oG 9 (.mv (tG 0)), oG 10 (.mv (tG 1)), oG 11 (.call (fG 46) [(tG 9), (tG 10)]), oG 6 (.as (tG 11))]
noncomputable def f44_r2 : List EOper := [oG 12 (.mv (tG 6)), oG 13 (.bin .neq (tG 12) (cG 0))]
noncomputable def f44_r3 : List EOper := [oG 14 (.mv (tG 6)), oG 4 (.as (.c (.b false))), oG 5 (.as (tG 14))]
noncomputable def f44_r4 : List EOper := [oG 16 (.mv (tG 0)), oG 17 (.mv (tG 1)), oG 18 (.build [.sn, .sn] [(0, 1, (tG 16)), (1, 1, (tG 17))]), oG 19 (.call (fG 81) [(tG 18)]), oG 15 (.mv (tG 19)), oG 20 (.ext (tG 15) 0), oG 21 (.ext (tG 15) 1), oG 7 (.as (tG 20)), oG 8 (.as (tG 21))]
noncomputable def f44_r5 : List EOper := [oG 22 (.mv (tG 8)), oG 23 (.not (tG 22)), oG 4 (.as (tG 23)), oG 5 (.as (cG 0))]
noncomputable def f44_c : EC := (.seq (.reg f44_r0) (.seq (.seq (.reg f44_r1) (.seq (.reg f44_r2) (.cond (tG 13) (.seq (.reg f44_r3) .ret) .skip))) (.seq (.reg f44_r4) (.seq (.reg f44_r5) .ret))))
noncomputable def f44 : EF := ⟨24, [.tmp (.ofNat 4), .tmp (.ofNat 5)], f44_c, none⟩
theorem f44_rs : f44.rs = [.tmp (.ofNat 4), .tmp (.ofNat 5)] := of_eq_true (eq_self _)
noncomputable def f45_r0 : List EOper := [oG 4 (.as (.c .sn)), oG 5 (.as (.c (.b false))), oG 6 (.as (cG 0))]
noncomputable def f45_r1 : List EOper := [oG 10 (.mv (tG 0)), oG 11 (.mv (tG 1)), oG 12 (.call (fG 46) [(tG 10), (tG 11)]), oG 7 (.as (tG 12))]
noncomputable def f45_r2 : List EOper := [oG 13 (.mv (tG 7)), oG 14 (.bin .neq (tG 13) (cG 0))]
noncomputable def f45_r3 : List EOper := [oG 15 (.mv (tG 7)), oG 4 (.as (.c .sn)), oG 5 (.as (.c (.b false))), oG 6 (.as (tG 15))]
noncomputable def f45_r4 : List EOper := [oG 17 (.mv (tG 0)), oG 18 (.mv (tG 1)), oG 19 (.build [.sn, .sn] [(0, 1, (tG 17)), (1, 1, (tG 18))]), oG 20 (.call (fG 81) [(tG 19)]), oG 16 (.mv (tG 20)), oG 21 (.ext (tG 16) 0), oG 22 (.ext (tG 16) 1), oG 8 (.as (tG 21)), oG 9 (.as (tG 22))]
noncomputable def f45_r5 : List EOper := [oG 23 (.mv (tG 8)), oG 24 (.mv (tG 9)), oG 4 (.as (tG 23)), oG 5 (.as (tG 24)), oG 6 (.as (cG 0))]
noncomputable def f45_c : EC := (.seq (.reg f45_r0) (.seq (.seq (.reg f45_r1) (.seq (.reg f45_r2) (.cond (tG 14) (.seq (.reg f45_r3) .ret) .skip))) (.seq (.reg f45_r4) (.seq (.reg f45_r5) .ret))))
noncomputable def f45 : EF := ⟨25, [.tmp (.ofNat 4), .tmp (.ofNat 5), .tmp (.ofNat 6)], f45_c, none⟩
theorem f45_rs : f45.rs = [.tmp (.ofNat 4), .tmp (.ofNat 5), .tmp (.ofNat 6)] := of_eq_true (eq_self _)
section
variable {fs : T EF} {h : H} {v w : V} {X Y L : List Int}
def leB (X Y : List Int) : Bool := decide (∀ i, i < X.length → X.getD i 0 ≤ Y.getD i 0)
def bdB (X Y : List Int) : Bool := leB X Y && (smB X && (smB Y && decide (X.getD (X.length - 1) 0 > 0)))
def bdE (X Y : List Int) : Int := if X.length < 1 ∨ X.length > 6 ∨ Y.length ≠ X.length then 1 else if bdB X Y = true then 0 else 90
theorem bdE_0 (h : bdE X Y = 0) : 1 ≤ X.length ∧ X.length ≤ 6 ∧ Y.length = X.length ∧ bdB X Y = true := by
  unfold bdE at h
  by_cases h1 : X.length < 1 ∨ X.length > 6 ∨ Y.length ≠ X.length
  · rw [if_pos h1] at h; omega
  · rw [if_neg h1] at h
    by_cases h2 : bdB X Y = true
    · exact ⟨by omega, by omega, by omega, h2⟩
    · rw [if_neg h2] at h; omega
def alB (X Y : List Int) : Bool := (List.range 4).all fun j => stB (crL X Y (sh j))
theorem alB_iff : alB X Y = true ↔ ∀ j, j < 4 → stB (crL X Y (sh j)) = true := by
  unfold alB
  rw [List.all_eq_true]
  exact ⟨fun h j hj => h j (List.mem_range.2 hj), fun h j hj => h j (List.mem_range.1 hj)⟩
theorem leB_no {i : Nat} (hi : i < X.length) (h : X.getD i 0 > Y.getD i 0) : leB X Y = false := decide_eq_false fun e => by have := e i hi; omega
def f82_I (h0 : H) (v w : V) (X Y : List Int) (i : Nat) (fr : Fr) (h1 : H) : Prop := i ≤ X.length ∧ h1 = h0 ∧ (∀ j, j < i → X.getD j 0 ≤ Y.getD j 0) ∧ fr.get (K.ofNat 0) = some (v) ∧ fr.get (K.ofNat 1) = some (w) ∧ fr.get (K.ofNat 7) = some (.i .i64 (X.length : Int)) ∧ fr.get (K.ofNat 8) = some (.i .i64 (i : Int))
theorem f82_ret (k : CSm fs) (hX1 : 1 ≤ X.length) (hX : X.length ≤ 1000) (hY : Y.length = X.length) (hv : Sr iE h v X) (hw : Sr iE h w Y) : Ret fs f82 [v, w] h fun r h' => r = .b (bdB X Y) ∧ h' = h := by
  apply ret_of rfl
  show W fs none f82_c _ _ _
  unfold f82_c
  have e1 := hv.len
  simp (disch := omega) only [f82_r0, f82_r1, Nat.reduceEqDiff, ↓reduceIte, e1, bz]
  refine W_loop (f82_I h v w X Y) (fun i => X.length - i) ?_ 0 ⟨by omega, rfl, fun j hj => absurd hj (by omega), by simp (disch := omega) only [getK_set, Nat.reduceEqDiff, ↓reduceIte, and_self, Int.natCast_zero]⟩
  rintro i fr h1 ⟨hi, rfl, ha, g0, g1, g7, g8⟩
  unfold f82_l0
  have bv := hv.beq
  have bw := hw.beq
  by_cases hlt : i < X.length
  · have d1 : decide ((i : Int) < (X.length : Int)) = true := decide_eq_true (by omega)
    have e4 : fw .i64 ((i : Int) + 1) = ((i + 1 : Nat) : Int) := by rw [fw64 (by omega) (by omega)]; rfl
    obtain ⟨p, p1, p2, p3⟩ := hv.atb i hlt
    obtain ⟨q, q1, q2, q3⟩ := hw.atb i (by omega)
    have p2 : loadV h1 p one? = .ok (.i .i64 (X.getD i 0)) h1 := by rw [getD_lt hlt]; exact p2
    have q2 : loadV h1 q one? = .ok (.i .i64 (Y.getD i 0)) h1 := by rw [getD_lt (by omega)]; exact q2
    by_cases hg : X.getD i 0 > Y.getD i 0
    · have d2 : decide (X.getD i 0 > Y.getD i 0) = true := decide_eq_true hg
      simp (disch := omega) only [f82_r2, f82_r3, f82_r4, f82_r5, f82_rs, Option.some.injEq, exists_eq_left', Nat.reduceEqDiff, ↓reduceIte, g0, g1, g7, g8, d1, d2, p1, p2, q1, q2, bz]
      have := leB_no hlt hg
      unfold bdB
      rw [this, Bool.false_and]
      exact ⟨rfl, trivial⟩
    · have d2 : decide (X.getD i 0 > Y.getD i 0) = false := decide_eq_false hg
      simp (disch := omega) only [f82_r2, f82_r3, f82_r4, f82_r6, Nat.reduceEqDiff, ↓reduceIte, Bool.false_eq_true, g0, g1, g7, g8, d1, d2, e4, p1, p2, q1, q2, bz]
      refine ⟨i + 1, by omega, by omega, rfl, fun j hj => ?_, by simp (disch := omega) only [getK_set, Nat.reduceEqDiff, ↓reduceIte, g0, g1, g7, and_self]⟩
      by_cases e : j = i
      · subst e; omega
      · exact ha j (by omega)
  · have d1 : decide ((i : Int) < (X.length : Int)) = false := decide_eq_false (by omega)
    obtain rfl : i = X.length := by omega
    have hle : leB X Y = true := decide_eq_true ha
    have ei : fw .i64 ((X.length : Int) - 1) = ((X.length - 1 : Nat) : Int) := by rw [fw64 (by omega) (by omega)]; omega
    have s1 := fun P => f84_eq k hv (by omega) (P := P)
    have s2 := fun P => f84_eq k hw (by omega) (P := P)
    obtain ⟨p, p1, p2⟩ := hv.at (X.length - 1) (by omega)
    have p2 : loadV h1 p one? = .ok (.i .i64 (X.getD (X.length - 1) 0)) h1 := by rw [getD_lt (by omega)]; exact p2
    unfold bdB
    rw [hle]
    cases b1 : smB X with
    | false =>
      rw [b1] at s1
      simp (disch := omega) only [f82_r2, f82_r7, f82_rs, Option.some.injEq, exists_eq_left', Nat.reduceEqDiff, ↓reduceIte, Bool.false_eq_true, g0, g7, g8, d1, s1, Bool.true_and, Bool.false_and, and_self, bz]
    | true =>
      rw [b1] at s1
      cases b2 : smB Y with
      | false =>
        rw [b2] at s2
        simp (disch := omega) only [f82_r2, f82_r7, f82_rs, Option.some.injEq, exists_eq_left', Nat.reduceEqDiff, ↓reduceIte, Bool.false_eq_true, g0, g1, g7, g8, d1, s1, s2, Bool.true_and, Bool.false_and, and_self, bz]
      | true =>
        rw [b2] at s2
        simp (disch := omega) only [f82_r2, f82_r7, f82_rs, Option.some.injEq, exists_eq_left', Nat.reduceEqDiff, ↓reduceIte, Bool.false_eq_true, g0, g1, g7, g8, d1, s1, s2, e1, ei, p1, p2, Bool.true_and, and_self, bz]
theorem f82_eq (k : CSm fs) (k82 : fs.get (.ofNat 82) = some f82) (hX1 : 1 ≤ X.length) (hX : X.length ≤ 1000) (hY : Y.length = X.length) (hv : Sr iE h v X) (hw : Sr iE h w Y) {P : V → H → Prop} : CallP fs (.fn (.ofNat 82) []) [v, w] h P = P (.b (bdB X Y)) h := callP_eq2 (callP_0 k82 rfl (f82_ret k hX1 hX hY hv hw))
theorem f46_ret (k : CSm fs) (k82 : fs.get (.ofNat 82) = some f82) (hX : X.length ≤ 1000) (hv : Sr iE h v X) (hw : Sr iE h w Y) : Ret fs f46 [v, w] h fun r h' => r = .i .i64 (bdE X Y) ∧ h' = h := by
  apply ret_of rfl
  show W fs none f46_c _ _ _
  unfold f46_c
  have e1 := hv.len
  have e2 := hw.len
  unfold bdE
  by_cases h1 : X.length < 1
  · have d1 : decide ((X.length : Int) < 1) = true := decide_eq_true (by omega)
    rw [if_pos (.inl h1)]
    simp (disch := omega) only [f46_r0, f46_r1, f46_r2, f46_rs, Option.some.injEq, exists_eq_left', Nat.reduceEqDiff, ↓reduceIte, Bool.false_eq_true, Bool.not_true, e1, d1, and_self, bz]
  · have d1 : decide ((X.length : Int) < 1) = false := decide_eq_false (by omega)
    by_cases h2 : X.length > 6
    · have d2 : decide ((X.length : Int) > 6) = true := decide_eq_true (by omega)
      rw [if_pos (.inr (.inl h2))]
      simp (disch := omega) only [f46_r0, f46_r1, f46_r2, f46_rs, Option.some.injEq, exists_eq_left', Nat.reduceEqDiff, ↓reduceIte, Bool.false_eq_true, Bool.not_true, Bool.not_false, e1, d1, d2, and_self, bz]
    · have d2 : decide ((X.length : Int) > 6) = false := decide_eq_false (by omega)
      by_cases h3 : Y.length = X.length
      · have d3 : decide ((Y.length : Int) ≠ (X.length : Int)) = false := decide_eq_false (by omega)
        rw [if_neg (by omega)]
        have e3 := fun P => f82_eq k k82 (by omega) hX h3 hv hw (P := P)
        cases hb : bdB X Y with
        | true =>
          rw [hb] at e3
          rw [if_pos rfl]
          simp (disch := omega) only [f46_r0, f46_r1, f46_r3, f46_r5, f46_rs, Option.some.injEq, exists_eq_left', Nat.reduceEqDiff, ↓reduceIte, Bool.false_eq_true, Bool.not_true, Bool.not_false, e1, e2, e3, d1, d2, d3, and_self, bz]
        | false =>
          rw [hb] at e3
          rw [if_neg (by simp)]
          simp (disch := omega) only [f46_r0, f46_r1, f46_r3, f46_r4, f46_rs, Option.some.injEq, exists_eq_left', Nat.reduceEqDiff, ↓reduceIte, Bool.false_eq_true, Bool.not_false, e1, e2, e3, d1, d2, d3, of90, and_self, bz]
      · have d3 : decide ((Y.length : Int) ≠ (X.length : Int)) = true := decide_eq_true (by omega)
        rw [if_pos (.inr (.inr h3))]
        simp (disch := omega) only [f46_r0, f46_r1, f46_r2, f46_rs, Option.some.injEq, exists_eq_left', Nat.reduceEqDiff, ↓reduceIte, Bool.false_eq_true, Bool.not_false, e1, e2, d1, d2, d3, and_self, bz]
theorem f46_eq (k : CSm fs) (k82 : fs.get (.ofNat 82) = some f82) (k46 : fs.get (.ofNat 46) = some f46) (hX : X.length ≤ 1000) (hv : Sr iE h v X) (hw : Sr iE h w Y) {P : V → H → Prop} : CallP fs (.fn (.ofNat 46) []) [v, w] h P = P (.i .i64 (bdE X Y)) h := callP_eq2 (callP_0 k46 rfl (f46_ret k k82 hX hv hw))
def f42_I (h0 : H) (v w : V) (X Y : List Int) (i : Nat) (fr : Fr) (h1 : H) : Prop := i ≤ X.length ∧ h1 = h0 ∧ (∀ j, j < i → X.getD j 0 ≤ Y.getD j 0) ∧ fr.get (K.ofNat 0) = some (v) ∧ fr.get (K.ofNat 1) = some (w) ∧ fr.get (K.ofNat 5) = some (.i .i64 (i : Int))
theorem f42_in (k53 : fs.get (.ofNat 53) = some f53) (hX1 : 1 ≤ X.length) (hX : X.length ≤ 1000) (hY : Y.length = X.length) (hv : Sr iE h v X) (hw : Sr iE h w Y) {fr : Fr} (g : fr.get (.ofNat 0) = some (v) ∧ fr.get (.ofNat 1) = some (w) ∧ fr.get (.ofNat 4) = some (.i .i64 0)) : W fs none (.seq (.seq (.reg f42_r3) (.block 0 (.loop f42_l0))) (.seq (.seq (.reg f42_r8) (.cond (.t (.ofNat 62)) (.seq (.reg f42_r9) .ret) .skip)) (.seq (.reg f42_r10) .ret))) (retK f42 fun r h' => r = .i .i64 (if bdB X Y = true then 0 else 90) ∧ h' = h) fr h := by
  obtain ⟨g0, g1, g4⟩ := g
  have e1 := hv.len
  simp (disch := omega) only [f42_r3, bz]
  refine W_loop (f42_I h v w X Y) (fun i => X.length - i) ?_ 0 ⟨by omega, rfl, fun j hj => absurd hj (by omega), by simp (disch := omega) only [getK_set, Nat.reduceEqDiff, ↓reduceIte, g0, g1, and_self, Int.natCast_zero]⟩
  clear g0 g1 g4 fr
  rintro i fr h1 ⟨hi, rfl, ha, g0, g1, g5⟩
  unfold f42_l0
  have bv := hv.beq
  have bw := hw.beq
  by_cases hlt : i < X.length
  · have d1 : decide ((i : Int) < (X.length : Int)) = true := decide_eq_true (by omega)
    have e4 : fw .i64 ((i : Int) + 1) = ((i + 1 : Nat) : Int) := by rw [fw64 (by omega) (by omega)]; rfl
    obtain ⟨p, p1, p2, p3⟩ := hv.atb i hlt
    obtain ⟨q, q1, q2, q3⟩ := hw.atb i (by omega)
    have p2 : loadV h1 p one? = .ok (.i .i64 (X.getD i 0)) h1 := by rw [getD_lt hlt]; exact p2
    have q2 : loadV h1 q one? = .ok (.i .i64 (Y.getD i 0)) h1 := by rw [getD_lt (by omega)]; exact q2
    by_cases hg : X.getD i 0 > Y.getD i 0
    · have d2 : decide (X.getD i 0 > Y.getD i 0) = true := decide_eq_true hg
      have : bdB X Y = false := by unfold bdB; rw [leB_no hlt hg, Bool.false_and]
      rw [if_neg (by rw [this]; exact Bool.false_ne_true)]
      simp (disch := omega) only [f42_r4, f42_r5, f42_r6, f42_rs, Option.some.injEq, exists_eq_left', Nat.reduceEqDiff, ↓reduceIte, g0, g1, g5, e1, d1, d2, p1, p2, q1, q2, of90, and_self, bz]
    · have d2 : decide (X.getD i 0 > Y.getD i 0) = false := decide_eq_false hg
      simp (disch := omega) only [f42_r4, f42_r5, f42_r7, Nat.reduceEqDiff, ↓reduceIte, Bool.false_eq_true, g0, g1, g5, e1, d1, d2, e4, p1, p2, q1, q2, bz]
      refine ⟨i + 1, by omega, by omega, rfl, fun j hj => ?_, by simp (disch := omega) only [getK_set, Nat.reduceEqDiff, ↓reduceIte, g0, g1, and_self]⟩
      by_cases e : j = i
      · subst e; omega
      · exact ha j (by omega)
  · have d1 : decide ((i : Int) < (X.length : Int)) = false := decide_eq_false (by omega)
    obtain rfl : i = X.length := by omega
    have hle : leB X Y = true := decide_eq_true ha
    have ei : fw .i64 ((X.length : Int) - 1) = ((X.length - 1 : Nat) : Int) := by rw [fw64 (by omega) (by omega)]; omega
    have s1 := fun P => f53_eq k53 hv (by omega) (P := P)
    have s2 := fun P => f53_eq k53 hw (by omega) (P := P)
    obtain ⟨p, p1, p2⟩ := hv.at (X.length - 1) (by omega)
    have p2 : loadV h1 p one? = .ok (.i .i64 (X.getD (X.length - 1) 0)) h1 := by rw [getD_lt (by omega)]; exact p2
    unfold bdB
    rw [hle]
    cases b1 : smB X with
    | false =>
      rw [b1] at s1
      rw [if_neg (by simp)]
      simp (disch := omega) only [f42_r4, f42_r8, f42_r9, f42_rs, Option.some.injEq, exists_eq_left', Nat.reduceEqDiff, ↓reduceIte, Bool.false_eq_true, Bool.not_true, Bool.not_false, g0, g5, e1, d1, s1, of90, and_self, bz]
    | true =>
      rw [b1] at s1
      cases b2 : smB Y with
      | false =>
        rw [b2] at s2
        rw [if_neg (by simp)]
        simp (disch := omega) only [f42_r4, f42_r8, f42_r9, f42_rs, Option.some.injEq, exists_eq_left', Nat.reduceEqDiff, ↓reduceIte, Bool.false_eq_true, Bool.not_true, Bool.not_false, g0, g1, g5, e1, d1, s1, s2, of90, and_self, bz]
      | true =>
        rw [b2] at s2
        by_cases h5 : X.getD (X.length - 1) 0 > 0
        · have d5 : decide (X.getD (X.length - 1) 0 ≤ 0) = false := decide_eq_false (by omega)
          rw [if_pos (by simp; simpa using h5)]
          simp (disch := omega) only [f42_r4, f42_r8, f42_r10, f42_rs, Option.some.injEq, exists_eq_left', Nat.reduceEqDiff, ↓reduceIte, Bool.false_eq_true, Bool.not_true, Bool.not_false, g0, g1, g5, e1, d1, s1, s2, ei, p1, p2, d5, and_self, bz]
        · have d5 : decide (X.getD (X.length - 1) 0 ≤ 0) = true := decide_eq_true (by omega)
          rw [if_neg (by simp; simpa using h5)]
          simp (disch := omega) only [f42_r4, f42_r8, f42_r9, f42_rs, Option.some.injEq, exists_eq_left', Nat.reduceEqDiff, ↓reduceIte, Bool.false_eq_true, Bool.not_true, Bool.not_false, g0, g1, g5, e1, d1, s1, s2, ei, p1, p2, d5, of90, and_self, bz]
theorem f42_ret (k53 : fs.get (.ofNat 53) = some f53) (hX : X.length ≤ 1000) (hv : Sr iE h v X) (hw : Sr iE h w Y) : Ret fs f42 [v, w] h fun r h' => r = .i .i64 (bdE X Y) ∧ h' = h := by
  apply ret_of rfl
  show W fs none f42_c _ _ _
  unfold f42_c
  have e1 := hv.len
  have e2 := hw.len
  unfold bdE
  by_cases h1 : X.length < 1
  · have d1 : decide ((X.length : Int) < 1) = true := decide_eq_true (by omega)
    rw [if_pos (.inl h1)]
    simp (disch := omega) only [f42_r0, f42_r1, f42_r2, f42_rs, Option.some.injEq, exists_eq_left', Nat.reduceEqDiff, ↓reduceIte, Bool.false_eq_true, Bool.not_true, e1, d1, and_self, bz]
  · have d1 : decide ((X.length : Int) < 1) = false := decide_eq_false (by omega)
    by_cases h2 : X.length > 6
    · have d2 : decide ((X.length : Int) > 6) = true := decide_eq_true (by omega)
      rw [if_pos (.inr (.inl h2))]
      simp (disch := omega) only [f42_r0, f42_r1, f42_r2, f42_rs, Option.some.injEq, exists_eq_left', Nat.reduceEqDiff, ↓reduceIte, Bool.false_eq_true, Bool.not_true, Bool.not_false, e1, d1, d2, and_self, bz]
    · have d2 : decide ((X.length : Int) > 6) = false := decide_eq_false (by omega)
      by_cases h4 : Y.length < 1
      · have d4 : decide ((Y.length : Int) < 1) = true := decide_eq_true (by omega)
        rw [if_pos (.inr (.inr (by omega)))]
        simp (disch := omega) only [f42_r0, f42_r1, f42_r2, f42_rs, Option.some.injEq, exists_eq_left', Nat.reduceEqDiff, ↓reduceIte, Bool.false_eq_true, Bool.not_true, Bool.not_false, e1, e2, d1, d2, d4, and_self, bz]
      · have d4 : decide ((Y.length : Int) < 1) = false := decide_eq_false (by omega)
        by_cases h5 : Y.length > 6
        · have d5 : decide ((Y.length : Int) > 6) = true := decide_eq_true (by omega)
          rw [if_pos (.inr (.inr (by omega)))]
          simp (disch := omega) only [f42_r0, f42_r1, f42_r2, f42_rs, Option.some.injEq, exists_eq_left', Nat.reduceEqDiff, ↓reduceIte, Bool.false_eq_true, Bool.not_true, Bool.not_false, e1, e2, d1, d2, d4, d5, and_self, bz]
        · have d5 : decide ((Y.length : Int) > 6) = false := decide_eq_false (by omega)
          by_cases h3 : Y.length = X.length
          · have d3 : decide ((X.length : Int) ≠ (Y.length : Int)) = false := decide_eq_false (by omega)
            rw [if_neg (by omega)]
            simp (disch := omega) only [f42_r0, f42_r1, Nat.reduceEqDiff, ↓reduceIte, Bool.false_eq_true, Bool.not_false, e1, e2, d1, d2, d3, d4, d5, bz]
            exact f42_in k53 (by omega) hX h3 hv hw (by simp (disch := omega) only [getK_set, Nat.reduceEqDiff, ↓reduceIte, and_self])
          · have d3 : decide ((X.length : Int) ≠ (Y.length : Int)) = true := decide_eq_true (by omega)
            rw [if_pos (.inr (.inr h3))]
            simp (disch := omega) only [f42_r0, f42_r1, f42_r2, f42_rs, Option.some.injEq, exists_eq_left', Nat.reduceEqDiff, ↓reduceIte, Bool.false_eq_true, Bool.not_false, e1, e2, d1, d2, d3, d4, d5, and_self, bz]
structure CallsC (fs : T EF) : Prop extends CallsS fs where
  c95 : fs.get (K.ofNat 95) = some f95
  c80 : fs.get (K.ofNat 80) = some f80
  c81 : fs.get (K.ofNat 81) = some f81
  c82 : fs.get (K.ofNat 82) = some f82
  c46 : fs.get (K.ofNat 46) = some f46
theorem cl_sn4 {cs : List V} (hc : cs.length = 4) : cellsN 4 (.agg cs) = some cs := by
  show (bif Nat.beq (lenL cs) 4 then some cs else none) = _
  rw [lenL_eq, hc]; rfl
theorem set4 {cs xs : List V} (hc : cs.length = 4) (hx : xs.length = 4) : setMany cs 0 xs = xs := by
  rw [setMany_eq _ _ _ (by omega), List.take_zero, hx]
  simp [hc]
theorem f43_ret (k : CallsC fs) (hX : X.length ≤ 1000) (hv : Sr iE h v X) (hw : Sr iE h w Y) (hc : HC h) : Ret fs f43 [v, w] h fun r h' => ∃ us, r = .tup [.agg us, .i .i64 (bdE X Y)] ∧ us.length = 4 ∧ (bdE X Y = 0 → Cor h.nx.nat h' us X Y 4) ∧ (bdE X Y ≠ 0 → us = [.sn, .sn, .sn, .sn]) ∧ Grow h.nx.nat h h' := by
  apply ret_of rfl
  show W fs none f43_c _ _ _
  unfold f43_c
  have gA := Grow.new (Nat.le_refl h.nx.nat) (.cells 4 [.sn, .sn, .sn, .sn])
  have n1 := nx_new h (.cells 4 [.sn, .sn, .sn, .sn])
  have a1 : (h.new (.cells 4 [.sn, .sn, .sn, .sn])).get h.nx = .cells 4 [.sn, .sn, .sn, .sn] := get_new_same
  have e46 := fun P => f46_eq k.toCSm k.c82 k.c46 hX (hv.grow hc gA) (hw.grow hc gA) (P := P)
  have hv1 : cellsN 1 v = some [v] := hv.one
  have hw1 : cellsN 1 w = some [w] := hw.one
  have hvA := hv.grow hc gA
  have hwA := hw.grow hc gA
  by_cases h0 : bdE X Y = 0
  · obtain ⟨l1, l2, l3, _⟩ := bdE_0 h0
    have d0 : decide (bdE X Y ≠ 0) = false := decide_eq_false (fun e => e h0)
    simp (disch := omega) only [f43_r0, f43_r1, f43_r2, f43_r4, x_build, Nat.reduceEqDiff, ↓reduceIte, Bool.false_eq_true, fill_2, set_2, e46, d0, hv1, hw1, bz]
    generalize h.new (.cells 4 [.sn, .sn, .sn, .sn]) = hA at *
    refine (callP_0 (ef := f80) k.c80 rfl (f80_ret k.c95 l2 l3 hvA hwA (gA.hc hc))).mono ?_
    rintro r h1 ⟨us, rfl, cu, g1⟩
    have G1 := gA.trans (g1.low gA.nx)
    have q1 := (g1.old h.nx (by omega)).trans a1
    have st : storeV h1 4 (.p h.nx 0) (.agg us) = .ok undefV (h1.put h.nx (.cells 4 us)) := by
      rw [store_p (m := 4) q1 (cl_sn4 cu.len) (by omega), set4 rfl cu.len]
    have rd := readP4 (h := h1.put h.nx (.cells 4 us)) (id := h.nx) get_put_same cu.len
    have := g1.nx
    simp (disch := omega) only [f43_rs, readRs_n, Option.some.injEq, exists_eq_left', Nat.reduceEqDiff, ↓reduceIte, st, rd, bz]
    refine ⟨us, by rw [h0], cu.len, fun _ => ⟨cu.len, fun j hj hn => ?_⟩, fun e => absurd h0 e, G1.trans (Grow.put (Nat.le_refl _) (by omega) _)⟩
    obtain ⟨s1, s2⟩ := cu.lt j hj hn
    exact ⟨s1.put (s2.notIn (by omega)) _, fun id off n sz e => by have := s2 _ _ _ _ e; omega⟩
  · have d0 : decide (bdE X Y ≠ 0) = true := decide_eq_true h0
    have st : storeV (h.new (.cells 4 [.sn, .sn, .sn, .sn])) 4 (.p h.nx 0) (.agg [.sn, .sn, .sn, .sn]) = .ok undefV ((h.new (.cells 4 [.sn, .sn, .sn, .sn])).put h.nx (.cells 4 [.sn, .sn, .sn, .sn])) := by
      rw [store_p (m := 4) a1 (cl_sn4 rfl) (by omega), set4 rfl rfl]
    have rd := readP4 (h := (h.new (.cells 4 [.sn, .sn, .sn, .sn])).put h.nx (.cells 4 [.sn, .sn, .sn, .sn])) (id := h.nx) (us := [.sn, .sn, .sn, .sn]) get_put_same rfl
    simp (disch := omega) only [f43_r0, f43_r1, f43_r2, f43_r3, f43_rs, x_build, readRs_n, Option.some.injEq, exists_eq_left', Nat.reduceEqDiff, ↓reduceIte, fill_0, e46, d0, st, rd, bz]
    exact ⟨_, rfl, rfl, fun e => absurd e h0, fun _ => rfl, gA.trans (Grow.put (Nat.le_refl _) (by omega) _)⟩
theorem alB_of {b : Bool} (h : (∀ j, j < 4 → stB (crL X Y (sh j)) = true) ↔ b = true) : alB X Y = b := by
  cases b with
  | true => exact alB_iff.2 (h.2 rfl)
  | false =>
    cases e : alB X Y with
    | false => rfl
    | true => exact absurd (h.1 (alB_iff.1 e)) Bool.false_ne_true
theorem f44_ret (k : CallsC fs) (hX : X.length ≤ 1000) (hv : Sr iE h v X) (hw : Sr iE h w Y) (hc : HC h) : Ret fs f44 [v, w] h fun r h' => r = .tup [.b (decide (bdE X Y = 0) && alB X Y), .i .i64 (bdE X Y)] ∧ Grow h.nx.nat h h' := by
  apply ret_of rfl
  show W fs none f44_c _ _ _
  unfold f44_c
  have e46 := fun P => f46_eq k.toCSm k.c82 k.c46 hX hv hw (P := P)
  have hv1 : cellsN 1 v = some [v] := hv.one
  have hw1 : cellsN 1 w = some [w] := hw.one
  by_cases h0 : bdE X Y = 0
  · obtain ⟨l1, l2, l3, _⟩ := bdE_0 h0
    have d0 : decide (bdE X Y ≠ 0) = false := decide_eq_false (fun e => e h0)
    have d0' : decide (bdE X Y = 0) = true := decide_eq_true h0
    simp (disch := omega) only [f44_r0, f44_r1, f44_r2, f44_r4, x_build, Nat.reduceEqDiff, ↓reduceIte, Bool.false_eq_true, fill_2, set_2, e46, d0, hv1, hw1, bz]
    refine (callP_0 (ef := f81) k.c81 rfl (f81_ret k.toCallsS k.c95 k.c80 l1 l2 l3 hv hw hc)).mono ?_
    rintro r h1 ⟨hf, g1⟩
    rcases hf with ⟨ha, rfl⟩ | ⟨u, j, hj, hs, rfl, su⟩
    · have := alB_of (X := X) (Y := Y) (b := true) ⟨fun _ => rfl, fun _ => ha⟩
      rw [this, d0', h0]
      simp (disch := omega) only [f44_r5, f44_rs, Option.some.injEq, exists_eq_left', Nat.reduceEqDiff, ↓reduceIte, Bool.not_false, Bool.and_self, bz]
      exact g1
    · have := alB_of (X := X) (Y := Y) (b := false) ⟨fun e => by rw [e j hj] at hs; exact hs.symm, fun e => absurd e Bool.false_ne_true⟩
      rw [this, d0', h0]
      simp (disch := omega) only [f44_r5, f44_rs, Option.some.injEq, exists_eq_left', Nat.reduceEqDiff, ↓reduceIte, Bool.not_true, Bool.and_false, bz]
      exact g1
  · have d0 : decide (bdE X Y ≠ 0) = true := decide_eq_true h0
    have d0' : decide (bdE X Y = 0) = false := decide_eq_false h0
    simp (disch := omega) only [f44_r0, f44_r1, f44_r2, f44_r3, f44_rs, Option.some.injEq, exists_eq_left', Nat.reduceEqDiff, ↓reduceIte, e46, d0, d0', Bool.false_and, bz]
    exact Grow.refl _ _
theorem f45_ret (k : CallsC fs) (hX : X.length ≤ 1000) (hv : Sr iE h v X) (hw : Sr iE h w Y) (hc : HC h) : Ret fs f45 [v, w] h fun r h' => ∃ u b, r = .tup [u, .b b, .i .i64 (bdE X Y)] ∧ ((b = false ∧ u = .sn ∧ (bdE X Y = 0 → alB X Y = true)) ∨ (b = true ∧ bdE X Y = 0 ∧ alB X Y = false ∧ ∃ j, j < 4 ∧ stB (crL X Y (sh j)) = false ∧ Sr iE h' u (crL X Y (sh j)))) ∧ Grow h.nx.nat h h' := by
  apply ret_of rfl
  show W fs none f45_c _ _ _
  unfold f45_c
  have e46 := fun P => f46_eq k.toCSm k.c82 k.c46 hX hv hw (P := P)
  have hv1 : cellsN 1 v = some [v] := hv.one
  have hw1 : cellsN 1 w = some [w] := hw.one
  by_cases h0 : bdE X Y = 0
  · obtain ⟨l1, l2, l3, _⟩ := bdE_0 h0
    have d0 : decide (bdE X Y ≠ 0) = false := decide_eq_false (fun e => e h0)
    simp (disch := omega) only [f45_r0, f45_r1, f45_r2, f45_r4, x_build, Nat.reduceEqDiff, ↓reduceIte, Bool.false_eq_true, fill_2, set_2, e46, d0, hv1, hw1, bz]
    refine (callP_0 (ef := f81) k.c81 rfl (f81_ret k.toCallsS k.c95 k.c80 l1 l2 l3 hv hw hc)).mono ?_
    rintro r h1 ⟨hf, g1⟩
    rcases hf with ⟨ha, rfl⟩ | ⟨u, j, hj, hs, rfl, su⟩
    · have := alB_of (X := X) (Y := Y) (b := true) ⟨fun _ => rfl, fun _ => ha⟩
      simp (disch := omega) only [f45_r5, f45_rs, Option.some.injEq, exists_eq_left', Nat.reduceEqDiff, ↓reduceIte, bz]
      exact ⟨_, _, by rw [h0], .inl ⟨rfl, rfl, fun _ => this⟩, g1⟩
    · have := alB_of (X := X) (Y := Y) (b := false) ⟨fun e => by rw [e j hj] at hs; exact hs.symm, fun e => absurd e Bool.false_ne_true⟩
      have hu1 := su.one
      simp (disch := omega) only [f45_r5, f45_rs, Option.some.injEq, exists_eq_left', Nat.reduceEqDiff, ↓reduceIte, bz]
      exact ⟨_, _, by rw [h0], .inr ⟨rfl, h0, this, j, hj, hs, su⟩, g1⟩
  · have d0 : decide (bdE X Y ≠ 0) = true := decide_eq_true h0
    simp (disch := omega) only [f45_r0, f45_r1, f45_r2, f45_r3, f45_rs, Option.some.injEq, exists_eq_left', Nat.reduceEqDiff, ↓reduceIte, e46, d0, bz]
    exact ⟨_, _, rfl, .inl ⟨rfl, rfl, fun e => absurd e h0⟩, Grow.refl _ _⟩
end
end Go.Ev
namespace Go.Ev
open Go Go.RowKit
noncomputable def f47_r0 : List EOper := [oG 4 (.alloc 4 [.sn, .sn, .sn, .sn])]
noncomputable def f47_r1 : List EOper := [oG 10 (.build [(.i .i64 (.ofNat 0)), (.i .i64 (.ofNat 0)), (.i .i64 (.ofNat 0)), (.i .i64 (.ofNat 0))] [(0, 1, (cG 0)), (1, 1, (cG 2)), (2, 1, (cG 1)), (3, 1, (cG 3))]), oG 5 (.alloc 4 [(.i .i64 (.ofNat 0)), (.i .i64 (.ofNat 0)), (.i .i64 (.ofNat 0)), (.i .i64 (.ofNat 0))]), ⟨none, none, .st 4 (tG 5) (tG 10)⟩]
noncomputable def f47_r2 : List EOper := [oG 6 (.alloc 4 [.sn, .sn, .sn, .sn])]
noncomputable def f47_r3 : List EOper := [oG 7 (.as (cG 0))]
noncomputable def f47_r4 : List EOper := [oG 11 (.mv (tG 7)), oG 12 (.bin .lss (tG 11) (cG 4))]
noncomputable def f47_r5 : List EOper := [oG 8 (.as (.c .sn))]
noncomputable def f47_r6 : List EOper := [oG 9 (.as (cG 0))]
noncomputable def f47_r7 : List EOper := [oG 15 (.mv (tG 9)), oG 16 (.mv (tG 0)), oG 17 (.len (tG 16)), oG 18 (.bin .lss (tG 15) (tG 17))]
noncomputable def f47_r8 : List EOper := [oG 21 (.mv (tG 9)), oG 22 (.mv (tG 7)), oG 23 (.iadr 4 1 (tG 5) (tG 22)), oG 24 (.ld (tG 23)), oG 25 (.bin .add (tG 21) (tG 24)), oG 26 (.bin .rem (tG 25) (cG 4)), oG 27 (.bin .lss (tG 26) (cG 2))]
noncomputable def f47_r9 : List EOper := [oG 28 (.mv (tG 8)), oG 29 (.mv (tG 0)), oG 30 (.mv (tG 9)), oG 31 (.iads 1 (tG 29) (tG 30)), oG 32 (.ld (tG 31)), oG 33 (.bslice 1 1 [(.i .i64 (.ofNat 0))] [(0, 1, (tG 32))]), oG 34 (.app 1 (tG 28) (tG 33)), oG 8 (.as (tG 34))]
noncomputable def f47_r10 : List EOper := [oG 35 (.mv (tG 8)), oG 36 (.mv (tG 1)), oG 37 (.mv (tG 9)), oG 38 (.iads 1 (tG 36) (tG 37)), oG 39 (.ld (tG 38)), oG 40 (.bslice 1 1 [(.i .i64 (.ofNat 0))] [(0, 1, (tG 39))]), oG 41 (.app 1 (tG 35) (tG 40)), oG 8 (.as (tG 41))]
noncomputable def f47_r11 : List EOper := [oG 19 (.mv (tG 9)), oG 20 (.bin .add (tG 19) (cG 1)), oG 9 (.as (tG 20))]
noncomputable def f47_l0 : EC := (.seq (.seq (.reg f47_r7) (.cond (tG 18) .skip (.exit 2))) (.seq (.block 3 (.seq (.reg f47_r8) (.cond (tG 27) (.reg f47_r9) (.reg f47_r10)))) (.reg f47_r11)))
noncomputable def f47_r12 : List EOper := [oG 42 (.mv (tG 7)), oG 43 (.mv (tG 8)), oG 44 (.iadr 4 1 (tG 6) (tG 42)), ⟨none, none, .st 1 (tG 44) (tG 43)⟩]
noncomputable def f47_r13 : List EOper := [oG 13 (.mv (tG 7)), oG 14 (.bin .add (tG 13) (cG 1)), oG 7 (.as (tG 14))]
noncomputable def f47_l1 : EC := (.seq (.seq (.reg f47_r4) (.cond (tG 12) .skip (.exit 0))) (.seq (.block 1 (.seq (.reg f47_r5) (.seq (.seq (.reg f47_r6) (.block 2 (.loop f47_l0))) (.reg f47_r12)))) (.reg f47_r13)))
noncomputable def f47_r14 : List EOper := [oG 45 (.ldn 4 (tG 6)), ⟨none, none, .st 4 (tG 4) (tG 45)⟩]
noncomputable def f47_c : EC := (.seq (.reg f47_r0) (.seq (.reg f47_r1) (.seq (.reg f47_r2) (.seq (.seq (.reg f47_r3) (.block 0 (.loop f47_l1))) (.seq (.reg f47_r14) .ret)))))
noncomputable def f47 : EF := ⟨46, [.celln (.ofNat 4) 4], f47_c, none⟩
theorem f47_rs : f47.rs = [.celln (.ofNat 4) 4] := of_eq_true (eq_self _)
noncomputable def f48_r0 : List EOper := [oG 4 (.as (.c (.b false)))]
noncomputable def f48_r1 : List EOper := [oG 6 (.mv (tG 0)), oG 7 (.mv (tG 1)), oG 8 (.call (fG 47) [(tG 6), (tG 7)]), oG 5 (.alloc 4 [.sn, .sn, .sn, .sn]), ⟨none, none, .st 4 (tG 5) (tG 8)⟩]
noncomputable def f48_r2 : List EOper := [oG 9 (.iadr 4 1 (tG 5) (cG 0)), oG 10 (.ld (tG 9)), oG 11 (.call (fG 27) [(tG 10)]), oG 12 (.mv (tG 11)), gG 13 12 true (.iadr 4 1 (tG 5) (cG 1)), gG 14 12 true (.ld (tG 13)), gG 15 12 true (.call (fG 27) [(tG 14)]), oG 16 (.pick (tG 12) (tG 15) (.c (.b false))), oG 17 (.mv (tG 16)), gG 18 17 true (.iadr 4 1 (tG 5) (cG 2)), gG 19 17 true (.ld (tG 18)), gG 20 17 true (.call (fG 27) [(tG 19)]), oG 21 (.pick (tG 17) (tG 20) (.c (.b false))), oG 22 (.mv (tG 21)), gG 23 22 true (.iadr 4 1 (tG 5) (cG 3)), gG 24 22 true (.ld (tG 23)), gG 25 22 true (.call (fG 27) [(tG 24)]), oG 26 (.pick (tG 22) (tG 25) (.c (.b false))), oG 4 (.as (tG 26))]
noncomputable def f48_c : EC := (.seq (.reg f48_r0) (.seq (.reg f48_r1) (.seq (.reg f48_r2) .ret)))
noncomputable def f48 : EF := ⟨27, [.tmp (.ofNat 4)], f48_c, none⟩
theorem f48_rs : f48.rs = [.tmp (.ofNat 4)] := of_eq_true (eq_self _)
noncomputable def f49_r0 : List EOper := [oG 6 (.as (.c (.b false)))]
noncomputable def f49_r1 : List EOper := [oG 7 (.as (cG 0))]
noncomputable def f49_r2 : List EOper := [oG 8 (.mv (tG 7)), oG 9 (.mv (tG 2)), oG 10 (.len (tG 9)), oG 11 (.bin .lss (tG 8) (tG 10)), oG 12 (.mv (tG 11)), gG 13 12 true (.mv (tG 7)), gG 14 12 true (.mv (tG 0)), gG 15 12 true (.len (tG 14)), gG 16 12 true (.bin .lss (tG 13) (tG 15)), oG 17 (.pick (tG 12) (tG 16) (.c (.b false)))]
noncomputable def f49_r3 : List Stage := [⟨[oG 20 (.mv (tG 2)), oG 21 (.mv (tG 7)), oG 22 (.iads 1 (tG 20) (tG 21)), oG 23 (.ld (tG 22)), oG 24 (.mv (tG 0)), oG 25 (.mv (tG 7)), oG 26 (.iads 1 (tG 24) (tG 25)), oG 27 (.ld (tG 26)), oG 28 (.bin .lss (tG 23) (tG 27)), oG 29 (.mv (tG 28)), gG 30 29 false (.mv (tG 2)), gG 31 29 false (.mv (tG 7)), gG 32 29 false (.iads 1 (tG 30) (tG 31)), gG 33 29 false (.ld (tG 32)), gG 34 29 false (.mv (tG 1)), gG 35 29 false (.mv (tG 7)), gG 36 29 false (.iads 1 (tG 34) (tG 35)), gG 37 29 false (.ld (tG 36)), gG 38 29 false (.bin .gtr (tG 33) (tG 37)), oG 39 (.pick (tG 29) (.c (.b true)) (tG 38))], [], none, []⟩]
noncomputable def f49_r4 : List EOper := [oG 6 (.as (.c (.b false)))]
noncomputable def f49_r5 : List EOper := [oG 18 (.mv (tG 7)), oG 19 (.bin .add (tG 18) (cG 1)), oG 7 (.as (tG 19))]
noncomputable def f49_l0 : EC := (.seq (.seq (.reg f49_r2) (.cond (tG 17) .skip (.exit 0))) (.seq (.block 1 (.seq (.draw f49_r3) (.cond (tG 39) (.seq (.reg f49_r4) .ret) .skip))) (.reg f49_r5)))
noncomputable def f49_r6 : List EOper := [oG 40 (.mv (tG 2)), oG 41 (.len (tG 40)), oG 42 (.mv (tG 0)), oG 43 (.len (tG 42)), oG 44 (.bin .eql (tG 41) (tG 43)), oG 6 (.as (tG 44))]
noncomputable def f49_c : EC := (.seq (.reg f49_r0) (.seq (.seq (.reg f49_r1) (.block 0 (.loop f49_l0))) (.seq (.reg f49_r6) .ret)))
noncomputable def f49 : EF := ⟨45, [.tmp (.ofNat 6)], f49_c, none⟩
theorem f49_rs : f49.rs = [.tmp (.ofNat 6)] := of_eq_true (eq_self _)
noncomputable def f50_r0 : List EOper := [oG 4 (.as (.c .sn)), oG 5 (.as (.c .sn))]
noncomputable def f50_r1 : List EOper := [oG 10 (.mv (tG 0)), oG 11 (.call (fG 25) [(tG 10)]), oG 6 (.as (tG 11))]
noncomputable def f50_r2 : List EOper := [oG 12 (.mv (tG 6)), oG 13 (.mv (tG 6)), oG 14 (.len (tG 13)), oG 15 (.bin .sub (tG 14) (cG 1)), oG 16 (.iads 1 (tG 12) (tG 15)), oG 17 (.ld (tG 16)), oG 18 (.bin .lss (tG 17) (cG 0))]
noncomputable def f50_r3 : List EOper := [oG 19 (.mv (tG 6)), oG 20 (.mv (tG 6)), oG 21 (.len (tG 20)), oG 22 (.bin .sub (tG 21) (cG 1)), oG 23 (.mv (tG 6)), oG 24 (.mv (tG 6)), oG 25 (.len (tG 24)), oG 26 (.bin .sub (tG 25) (cG 1)), oG 27 (.iads 1 (tG 23) (tG 26)), oG 28 (.ld (tG 27)), oG 29 (.neg (tG 28)), oG 30 (.iads 1 (tG 19) (tG 22)), ⟨none, none, .st 1 (tG 30) (tG 29)⟩]
noncomputable def f50_r4 : List EOper := [oG 7 (.as (.c .sn))]
noncomputable def f50_r5 : List EOper := [oG 8 (.as (cG 0))]
noncomputable def f50_r6 : List EOper := [oG 31 (.mv (tG 8)), oG 32 (.mv (tG 6)), oG 33 (.len (tG 32)), oG 34 (.bin .lss (tG 31) (tG 33))]
noncomputable def f50_r7 : List EOper := [oG 37 (.mv (tG 6)), oG 38 (.mv (tG 8)), oG 39 (.iads 1 (tG 37) (tG 38)), oG 40 (.ld (tG 39)), oG 9 (.as (tG 40))]
noncomputable def f50_r8 : List EOper := [oG 41 (.mv (tG 8)), oG 42 (.mv (tG 1)), oG 43 (.len (tG 42)), oG 44 (.bin .lss (tG 41) (tG 43))]
noncomputable def f50_r9 : List EOper := [oG 45 (.mv (tG 9)), oG 46 (.mv (tG 1)), oG 47 (.mv (tG 8)), oG 48 (.iads 1 (tG 46) (tG 47)), oG 49 (.ld (tG 48)), oG 50 (.conv .u64 (tG 49)), oG 51 (.bin .rem (tG 50) (.c (.i .u64 (.ofNat 9)))), oG 52 (.conv .i64 (tG 51)), oG 53 (.bin .add (tG 45) (tG 52)), oG 54 (.min (cG 30) (tG 53)), oG 9 (.as (tG 54))]
noncomputable def f50_r10 : List EOper := [oG 55 (.mv (tG 7)), oG 56 (.mv (tG 9)), oG 57 (.bslice 1 1 [(.i .i64 (.ofNat 0))] [(0, 1, (tG 56))]), oG 58 (.app 1 (tG 55) (tG 57)), oG 7 (.as (tG 58))]
noncomputable def f50_r11 : List EOper := [oG 35 (.mv (tG 8)), oG 36 (.bin .add (tG 35) (cG 1)), oG 8 (.as (tG 36))]
noncomputable def f50_l0 : EC := (.seq (.seq (.reg f50_r6) (.cond (tG 34) .skip (.exit 0))) (.seq (.block 1 (.seq (.reg f50_r7) (.seq (.seq (.reg f50_r8) (.cond (tG 44) (.reg f50_r9) .skip)) (.reg f50_r10)))) (.reg f50_r11)))
noncomputable def f50_r12 : List EOper := [oG 59 (.mv (tG 6)), oG 60 (.mv (tG 7)), oG 4 (.as (tG 59)), oG 5 (.as (tG 60))]
noncomputable def f50_c : EC := (.seq (.reg f50_r0) (.seq (.reg f50_r1) (.seq (.seq (.reg f50_r2) (.cond (tG 18) (.reg f50_r3) .skip)) (.seq (.reg f50_r4) (.seq (.seq (.reg f50_r5) (.block 0 (.loop f50_l0))) (.seq (.reg f50_r12) .ret))))))
noncomputable def f50 : EF := ⟨61, [.tmp (.ofNat 4), .tmp (.ofNat 5)], f50_c, none⟩
theorem f50_rs : f50.rs = [.tmp (.ofNat 4), .tmp (.ofNat 5)] := of_eq_true (eq_self _)
section
variable {fs : T EF} {h : H} {v w u : V} {X Y L P : List Int}
def crQ (X Y : List Int) (k j : Nat) : List Int := (List.range j).map (crF X Y k)
theorem crQ_len {k j : Nat} : (crQ X Y k j).length = j := by simp [crQ]
theorem crQ_succ {k j : Nat} : crQ X Y k (j + 1) = crQ X Y k j ++ [crF X Y k j] := by simp [crQ, List.range_succ]
def shV : List V := [.i .i64 0, .i .i64 2, .i .i64 1, .i .i64 3]
theorem sh_le {i : Nat} : sh i ≤ 3 := by unfold sh; split <;> omega
theorem sh_at {i : Nat} (hi : i < 4) : nth shV (i * 1) = some (.i .i64 (sh i : Int)) := by
  obtain rfl | rfl | rfl | rfl : i = 0 ∨ i = 1 ∨ i = 2 ∨ i = 3 := by omega
  all_goals rfl
def f47_J (h2 : H) (v w : V) (X Y : List Int) (ba bb bc : K) (i j : Nat) (fr : Fr) (h1 : H) : Prop := j ≤ X.length ∧ Grow h2.nx.nat h2 h1 ∧ ∃ u, Sl iE h1 u (crQ X Y (sh i) j) ∧ Own h2.nx.nat u ∧ fr.get (K.ofNat 0) = some (v) ∧ fr.get (K.ofNat 1) = some (w) ∧ fr.get (K.ofNat 4) = some (.p ba 0) ∧ fr.get (K.ofNat 5) = some (.p bb 0) ∧ fr.get (K.ofNat 6) = some (.p bc 0) ∧ fr.get (K.ofNat 7) = some (.i .i64 (i : Int)) ∧ fr.get (K.ofNat 8) = some (u) ∧ fr.get (K.ofNat 9) = some (.i .i64 (j : Int))
theorem f47_in {Q : Ex → Fr → H → Prop} {h2 h1 : H} {ba bb bc : K} {i : Nat} {fr : Fr} (hi : i < 4) (hX : X.length ≤ 6) (hY : Y.length = X.length) (hv : Sr iE h2 v X) (hw : Sr iE h2 w Y) (hc : HC h2) (hb : h2.get bb = .cells 4 shV) (hbn : bb.nat < h2.nx.nat)
    (hI : f47_J h2 v w X Y ba bb bc i 0 fr h1) (hq : ∀ fr h1, f47_J h2 v w X Y ba bb bc i X.length fr h1 → Q (.exit 2) fr h1) : W fs none (.loop f47_l0) Q fr h1 := by
  refine W_loop (f47_J h2 v w X Y ba bb bc i) (fun j => X.length - j) ?_ 0 hI
  clear hI fr h1
  rintro j fr h1 ⟨hj, hG, u, su, ou, g0, g1, g4, g5, g6, g7, g8, g9⟩
  have hc1 := hG.hc hc
  have hv1 := hv.grow hc hG
  have hw1 := hw.grow hc hG
  have e1 := hv1.len
  have qb := (hG.old bb hbn).trans hb
  have lb : loadV h1 (.p bb (0 + i * 1)) one? = .ok (.i .i64 (sh i : Int)) h1 := load_p qb (by rw [Nat.zero_add]; exact sh_at hi)
  have sl := sh_le (i := i)
  unfold f47_l0
  by_cases hlt : j < X.length
  · have d1 : decide ((j : Int) < (X.length : Int)) = true := decide_eq_true (by omega)
    have e4 : fw .i64 ((j : Int) + 1) = ((j + 1 : Nat) : Int) := by rw [fw64 (by omega) (by omega)]; rfl
    have e5 : fw .i64 ((j : Int) + (sh i : Int)) = ((j + sh i : Nat) : Int) := by rw [fw64 (by omega) (by omega)]; rfl
    have e6 : ((j + sh i : Nat) : Int).tmod 4 = (((j + sh i) % 4 : Nat) : Int) := rfl
    have d4 : decide ((4 : Int) = 0) = false := rfl
    obtain ⟨p, p1, p2⟩ := hv1.at j hlt
    obtain ⟨q, q1, q2⟩ := hw1.at j (by omega)
    by_cases hm : (j + sh i) % 4 < 2
    · have d2 : decide ((((j + sh i) % 4 : Nat) : Int) < 2) = true := decide_eq_true (by omega)
      have p2 : loadV h1 p one? = .ok (.i .i64 (crF X Y (sh i) j)) h1 := by unfold crF; rw [if_pos hm, getD_lt hlt]; exact p2
      obtain ⟨u', h3, a1, a2, a3, a4, _⟩ := Sl.push (e := iE) (x := crF X Y (sh i) j) (c := .i .i64 (crF X Y (sh i) j)) rfl su ou hG.nx hc1 (by rw [crQ_len]; omega)
      rw [← crQ_succ] at a2
      simp (disch := omega) only [f47_r7, f47_r8, f47_r9, f47_r11, idx_n, Nat.reduceEqDiff, ↓reduceIte, g0, g5, g7, g8, g9, e1, d1, d2, e4, e5, e6, lb, p1, p2, a1, bz]
      exact ⟨j + 1, by omega, by omega, hG.trans a4, u', a2, a3, by simp (disch := omega) only [getK_set, Nat.reduceEqDiff, ↓reduceIte, g0, g1, g4, g5, g6, g7, and_self]⟩
    · have d2 : decide ((((j + sh i) % 4 : Nat) : Int) < 2) = false := decide_eq_false (by omega)
      have q2 : loadV h1 q one? = .ok (.i .i64 (crF X Y (sh i) j)) h1 := by unfold crF; rw [if_neg hm, getD_lt (by omega)]; exact q2
      obtain ⟨u', h3, a1, a2, a3, a4, _⟩ := Sl.push (e := iE) (x := crF X Y (sh i) j) (c := .i .i64 (crF X Y (sh i) j)) rfl su ou hG.nx hc1 (by rw [crQ_len]; omega)
      rw [← crQ_succ] at a2
      simp (disch := omega) only [f47_r7, f47_r8, f47_r10, f47_r11, idx_n, Nat.reduceEqDiff, ↓reduceIte, Bool.false_eq_true, g0, g1, g5, g7, g8, g9, e1, d1, d2, e4, e5, e6, lb, q1, q2, a1, bz]
      exact ⟨j + 1, by omega, by omega, hG.trans a4, u', a2, a3, by simp (disch := omega) only [getK_set, Nat.reduceEqDiff, ↓reduceIte, g0, g1, g4, g5, g6, g7, and_self]⟩
  · have d1 : decide ((j : Int) < (X.length : Int)) = false := decide_eq_false (by omega)
    obtain rfl : j = X.length := by omega
    simp (disch := omega) only [f47_r7, Nat.reduceEqDiff, ↓reduceIte, Bool.false_eq_true, g0, g9, e1, d1, bz]
    exact hq _ _ ⟨Nat.le_refl _, hG, u, su, ou, by simp (disch := omega) only [getK_set, Nat.reduceEqDiff, ↓reduceIte, g0, g1, g4, g5, g6, g7, g8, g9, and_self]⟩
theorem fill_sh {fr : Fr} : fillE fr [.i .i64 0, .i .i64 0, .i .i64 0, .i .i64 0] [(0, 1, .c (.i .i64 0)), (1, 1, .c (.i .i64 2)), (2, 1, .c (.i .i64 1)), (3, 1, .c (.i .i64 3))] = some shV := of_eq_true (eq_self _)
def f47_I (h0 : H) (v w : V) (X Y : List Int) (ba bb bc : K) (i : Nat) (fr : Fr) (h1 : H) : Prop := i ≤ 4 ∧ Grow h0.nx.nat h0 h1 ∧ h1.get ba = .cells 4 [.sn, .sn, .sn, .sn] ∧ h1.get bb = .cells 4 shV ∧ bc.nat < h1.nx.nat ∧ ∃ us, h1.get bc = .cells 4 us ∧ Cor (bc.nat + 1) h1 us X Y i ∧ fr.get (K.ofNat 0) = some (v) ∧ fr.get (K.ofNat 1) = some (w) ∧ fr.get (K.ofNat 4) = some (.p ba 0) ∧ fr.get (K.ofNat 5) = some (.p bb 0) ∧ fr.get (K.ofNat 6) = some (.p bc 0) ∧ fr.get (K.ofNat 7) = some (.i .i64 (i : Int))
theorem f47_ret (hX : X.length ≤ 6) (hY : Y.length = X.length) (hv : Sr iE h v X) (hw : Sr iE h w Y) (hc : HC h) : Ret fs f47 [v, w] h fun r h' => ∃ us, r = .agg us ∧ Cor h.nx.nat h' us X Y 4 ∧ Grow h.nx.nat h h' := by
  apply ret_of rfl
  show W fs none f47_c _ _ _
  unfold f47_c
  have gA := Grow.new (Nat.le_refl h.nx.nat) (.cells 4 [.sn, .sn, .sn, .sn])
  have n1 := nx_new h (.cells 4 [.sn, .sn, .sn, .sn])
  have a1 : (h.new (.cells 4 [.sn, .sn, .sn, .sn])).get h.nx = .cells 4 [.sn, .sn, .sn, .sn] := get_new_same
  have st0 : storeV ((h.new (.cells 4 [.sn, .sn, .sn, .sn])).new (.cells 4 [.i .i64 0, .i .i64 0, .i .i64 0, .i .i64 0])) 4 (.p (h.new (.cells 4 [.sn, .sn, .sn, .sn])).nx 0) (.agg shV) = .ok undefV (((h.new (.cells 4 [.sn, .sn, .sn, .sn])).new (.cells 4 [.i .i64 0, .i .i64 0, .i .i64 0, .i .i64 0])).put (h.new (.cells 4 [.sn, .sn, .sn, .sn])).nx (.cells 4 shV)) := by
    rw [store_p (m := 4) get_new_same (cl_sn4 rfl) (by omega), set4 rfl rfl]
  simp (disch := omega) only [f47_r0, f47_r1, f47_r2, x_build, Nat.reduceEqDiff, ↓reduceIte, fill_sh, st0, bz]
  clear st0
  generalize h.new (.cells 4 [.sn, .sn, .sn, .sn]) = hA at *
  have gB := (Grow.new (Nat.le_refl hA.nx.nat) (.cells 4 [.i .i64 0, .i .i64 0, .i .i64 0, .i .i64 0])).trans (Grow.put (h := hA.new (.cells 4 [.i .i64 0, .i .i64 0, .i .i64 0, .i .i64 0])) (k := hA.nx) (Nat.le_refl _) (by rw [nx_new]; omega) (.cells 4 shV))
  have n2 : ((hA.new (.cells 4 [.i .i64 0, .i .i64 0, .i .i64 0, .i .i64 0])).put hA.nx (.cells 4 shV)).nx.nat = hA.nx.nat + 1 := by rw [nx_put, nx_new]
  have bb1 : ((hA.new (.cells 4 [.i .i64 0, .i .i64 0, .i .i64 0, .i .i64 0])).put hA.nx (.cells 4 shV)).get hA.nx = .cells 4 shV := get_put_same
  have bb2 : ((hA.new (.cells 4 [.i .i64 0, .i .i64 0, .i .i64 0, .i .i64 0])).put hA.nx (.cells 4 shV)).get h.nx = .cells 4 [.sn, .sn, .sn, .sn] := (gB.old _ (by omega)).trans a1
  have G2 : Grow h.nx.nat h ((hA.new (.cells 4 [.i .i64 0, .i .i64 0, .i .i64 0, .i .i64 0])).put hA.nx (.cells 4 shV)) := gA.trans (gB.low gA.nx)
  generalize hb2 : hA.nx = b2 at *
  generalize (hA.new (.cells 4 [.i .i64 0, .i .i64 0, .i .i64 0, .i .i64 0])).put b2 (.cells 4 shV) = hB at *
  have gC := Grow.new (Nat.le_refl hB.nx.nat) (.cells 4 [.sn, .sn, .sn, .sn])
  have n3 := nx_new hB (.cells 4 [.sn, .sn, .sn, .sn])
  have c1 : (hB.new (.cells 4 [.sn, .sn, .sn, .sn])).get hB.nx = .cells 4 [.sn, .sn, .sn, .sn] := get_new_same
  have c2 : (hB.new (.cells 4 [.sn, .sn, .sn, .sn])).get b2 = .cells 4 shV := (get_new_old (by omega)).trans bb1
  have c3 : (hB.new (.cells 4 [.sn, .sn, .sn, .sn])).get h.nx = .cells 4 [.sn, .sn, .sn, .sn] := (get_new_old (by omega)).trans bb2
  have G3 : Grow h.nx.nat h (hB.new (.cells 4 [.sn, .sn, .sn, .sn])) := G2.trans (gC.low G2.nx)
  generalize hb3 : hB.nx = b3 at *
  generalize hB.new (.cells 4 [.sn, .sn, .sn, .sn]) = hC at *
  have l12 : h.nx.nat < b2.nat := by omega
  have l23 : b2.nat < b3.nat := by omega
  simp (disch := omega) only [f47_r3, bz]
  refine W_loop (f47_I h v w X Y h.nx b2 b3) (fun i => 4 - i) ?_ 0 ⟨by omega, G3, c3, c2, by omega, _, c1, ⟨rfl, fun j _ hj => absurd hj (by omega)⟩, by simp (disch := omega) only [getK_set, Nat.reduceEqDiff, ↓reduceIte, and_self, Int.natCast_zero]⟩
  clear c1 c2 c3 G3 G2 gA gB gC n1 n2 n3 a1 bb1 bb2 hb2 hb3
  rintro i fr h1 ⟨hi, hG, q1, q2, hn3, us, q3, cu, g0, g1, g4, g5, g6, g7⟩
  have hc1 := hG.hc hc
  have hv1 := hv.grow hc hG
  have hw1 := hw.grow hc hG
  unfold f47_l1
  by_cases hlt : i < 4
  · have d1 : decide ((i : Int) < 4) = true := decide_eq_true (by omega)
    have e4 : fw .i64 ((i : Int) + 1) = ((i + 1 : Nat) : Int) := by rw [fw64 (by omega) (by omega)]; rfl
    simp (disch := omega) only [f47_r4, f47_r5, f47_r6, ↓reduceIte, g7, d1, bz]
    refine f47_in (ba := h.nx) (bc := b3) hlt hX hY hv1 hw1 hc1 q2 (by omega) ⟨by omega, Grow.refl _ _, .sn, Sl.nil, Own.sn, by simp (disch := omega) only [getK_set, Nat.reduceEqDiff, ↓reduceIte, g0, g1, g4, g5, g6, g7, and_self, Int.natCast_zero]⟩ ?_
    clear g0 g1 g4 g5 g6 g7 fr
    rintro fr h2 ⟨_, g, u, su, ou, g0, g1, g4, g5, g6, g7, g8, g9⟩
    have q1' := (g.old h.nx (by omega)).trans q1
    have q2' := (g.old b2 (by omega)).trans q2
    have q3' := (g.old b3 (by omega)).trans q3
    have hn3' := Nat.lt_of_lt_of_le hn3 g.nx
    have hu : i < us.length := by rw [cu.len]; exact hlt
    have ha : Ar (fun v => v) h2 b3 us := by unfold Ar; rw [q3', cu.len, List.map_id']
    obtain ⟨st1, st2⟩ := ha.st (x := u) hu rfl su.one
    have ne3 : ∀ off n sz, u ≠ .sl b3 off n sz := fun off n sz e => by have := ou _ _ _ _ e; omega
    rw [cu.len, List.map_id'] at st1
    have st3 : (h2.put b3 (.cells 4 (us.set i u))).get b3 = .cells 4 (us.set i u) := get_put_same
    clear st2
    simp (disch := omega) only [f47_r12, f47_r13, idx_n, Nat.reduceEqDiff, ↓reduceIte, g6, g7, g8, st1, e4, bz]
    refine ⟨i + 1, by omega, by omega, (hG.trans (g.low hG.nx)).trans (Grow.put (by omega) hn3' _), (get_put_other (fun e => by rw [e] at l12; omega)).trans q1', (get_put_other (fun e => by rw [e] at l23; omega)).trans q2', hn3', _, st3, ⟨by rw [List.length_set]; exact cu.len, fun j hj hn => ?_⟩, by simp (disch := omega) only [getK_set, Nat.reduceEqDiff, ↓reduceIte, g0, g1, g4, g5, g6, and_self]⟩
    rw [List.getElem_set]
    by_cases e : i = j
    · subst e
      rw [if_pos rfl]
      exact ⟨(su.put ne3 _).sr, fun id off n sz e => by have := ou _ _ _ _ e; omega⟩
    · rw [if_neg e]
      have hj' : j < us.length := by rw [List.length_set] at hj; exact hj
      obtain ⟨s1, s2⟩ := cu.lt j hj' (by omega)
      exact ⟨(s1.grow hc1 g).put (s2.notIn (by omega)) _, s2⟩
  · have d1 : decide ((i : Int) < 4) = false := decide_eq_false (by omega)
    obtain rfl : i = 4 := by omega
    have ha : Ar (fun v => v) h1 b3 us := by unfold Ar; rw [q3, cu.len, List.map_id']
    have ld := ha.ldn (n := 4) cu.len.symm
    rw [List.map_id'] at ld
    have st : storeV h1 4 (.p h.nx 0) (.agg us) = .ok undefV (h1.put h.nx (.cells 4 us)) := by
      rw [store_p (m := 4) q1 (cl_sn4 cu.len) (by omega), set4 rfl cu.len]
    have rd := readP4 (h := h1.put h.nx (.cells 4 us)) (id := h.nx) get_put_same cu.len
    simp (disch := omega) only [f47_r4, f47_r14, f47_rs, x_ldn, readRs_n, Option.some.injEq, exists_eq_left', Nat.reduceEqDiff, ↓reduceIte, Bool.false_eq_true, g4, g6, g7, d1, ld, st, rd, bz]
    refine ⟨us, rfl, ⟨cu.len, fun j hj hn => ?_⟩, hG.trans (Grow.put (by omega) (by omega) _)⟩
    obtain ⟨s1, s2⟩ := cu.lt j hj hn
    exact ⟨s1.put (s2.notIn (by omega)) _, fun id off n sz e => by have := s2 _ _ _ _ e; omega⟩
theorem ix4_0 {kk : IntKind} {f : Nat → RV} : idxV (.i kk 0) 4 f = f 0 := of_eq_true (eq_self _)
theorem ix4_1 {kk : IntKind} {f : Nat → RV} : idxV (.i kk 1) 4 f = f 1 := of_eq_true (eq_self _)
theorem ix4_2 {kk : IntKind} {f : Nat → RV} : idxV (.i kk 2) 4 f = f 2 := of_eq_true (eq_self _)
theorem ix4_3 {kk : IntKind} {f : Nat → RV} : idxV (.i kk 3) 4 f = f 3 := of_eq_true (eq_self _)
theorem f48_ret (k : CallsS fs) (k47 : fs.get (.ofNat 47) = some f47) (hX1 : 1 ≤ X.length) (hX : X.length ≤ 6) (hY : Y.length = X.length) (hv : Sr iE h v X) (hw : Sr iE h w Y) (hc : HC h) : Ret fs f48 [v, w] h fun r h' => r = .b (alB X Y) ∧ Grow h.nx.nat h h' := by
  apply ret_of rfl
  show W fs none f48_c _ _ _
  unfold f48_c
  simp (disch := omega) only [f48_r0, f48_r1, Nat.reduceEqDiff, ↓reduceIte, bz]
  refine (callP_0 (ef := f47) k47 rfl (f47_ret hX hY hv hw hc)).mono ?_
  rintro r h1 ⟨us, rfl, cu, g1⟩
  have hc1 := g1.hc hc
  obtain ⟨a, b, c, d, rfl⟩ : ∃ a b c d, us = [a, b, c, d] := by
    match us, cu.len with
    | [a, b, c, d], _ => exact ⟨a, b, c, d, rfl⟩
  obtain ⟨s0, _⟩ := cu.lt 0 (by simp) (by omega)
  obtain ⟨s1, _⟩ := cu.lt 1 (by simp) (by omega)
  obtain ⟨s2, _⟩ := cu.lt 2 (by simp) (by omega)
  obtain ⟨s3, _⟩ := cu.lt 3 (by simp) (by omega)
  have s0 : Sr iE h1 a (crL X Y (sh 0)) := s0
  have s1 : Sr iE h1 b (crL X Y (sh 1)) := s1
  have s2 : Sr iE h1 c (crL X Y (sh 2)) := s2
  have s3 : Sr iE h1 d (crL X Y (sh 3)) := s3
  have st : storeV (h1.new (.cells 4 [.sn, .sn, .sn, .sn])) 4 (.p h1.nx 0) (.agg [a, b, c, d]) = .ok undefV ((h1.new (.cells 4 [.sn, .sn, .sn, .sn])).put h1.nx (.cells 4 [a, b, c, d])) := by
    rw [store_p (m := 4) get_new_same (cl_sn4 rfl) (by omega), set4 rfl rfl]
  have gB := (Grow.new (Nat.le_refl h1.nx.nat) (.cells 4 [.sn, .sn, .sn, .sn])).trans (Grow.put (h := h1.new (.cells 4 [.sn, .sn, .sn, .sn])) (k := h1.nx) (Nat.le_refl _) (by rw [nx_new]; omega) (.cells 4 [a, b, c, d]))
  have n2 : ((h1.new (.cells 4 [.sn, .sn, .sn, .sn])).put h1.nx (.cells 4 [a, b, c, d])).nx.nat = h1.nx.nat + 1 := by rw [nx_put, nx_new]
  have q : ((h1.new (.cells 4 [.sn, .sn, .sn, .sn])).put h1.nx (.cells 4 [a, b, c, d])).get h1.nx = .cells 4 [a, b, c, d] := get_put_same
  have hal : alB X Y = (stB (crL X Y (sh 0)) && (stB (crL X Y (sh 1)) && (stB (crL X Y (sh 2)) && stB (crL X Y (sh 3))))) := by
    show (List.all [0, 1, 2, 3] fun j => stB (crL X Y (sh j))) = _
    simp [List.all]
  rw [hal]
  simp (disch := omega) only [f48_r2, Nat.reduceEqDiff, ↓reduceIte, st, bz]
  have G2 := g1.trans (gB.low g1.nx)
  generalize (h1.new (.cells 4 [.sn, .sn, .sn, .sn])).put h1.nx (.cells 4 [a, b, c, d]) = h2 at *
  have hc2 := G2.hc hc
  have s0 := s0.grow hc1 gB
  have s1 := s1.grow hc1 gB
  have s2 := s2.grow hc1 gB
  have s3 := s3.grow hc1 gB
  clear gB
  have l0 : loadV h2 (.p h1.nx 0) one? = .ok a h2 := load_p q rfl
  have n2' : h1.nx.nat < h2.nx.nat := by omega
  simp (disch := omega) only [↓reduceIte, ix4_0, l0, bz]
  refine (callP_0 (ef := f27) k.c27 rfl (f27_ret k (by rw [crL_len]; exact hX1) (by rw [crL_len]; omega) s0 hc2)).mono ?_
  rintro r h3 ⟨rfl, g3⟩
  cases b0 : stB (crL X Y (sh 0)) with
  | false =>
    simp (disch := omega) only [f48_rs, Option.some.injEq, exists_eq_left', Nat.reduceEqDiff, ↓reduceIte, Bool.false_eq_true, Bool.false_and, bz]
    exact G2.trans (g3.low G2.nx)
  | true =>
  have q3 := (g3.old h1.nx n2').trans q
  have l1 : loadV h3 (.p h1.nx 1) one? = .ok b h3 := load_p q3 rfl
  have s1 := s1.grow hc2 g3
  have s2 := s2.grow hc2 g3
  have s3 := s3.grow hc2 g3
  have hc3 := g3.hc hc2
  have G3 := G2.trans (g3.low G2.nx)
  have n3' : h1.nx.nat < h3.nx.nat := Nat.lt_of_lt_of_le n2' g3.nx
  simp (disch := omega) only [Nat.reduceEqDiff, ↓reduceIte, ix4_1, l1, Bool.true_and, bz]
  refine (callP_0 (ef := f27) k.c27 rfl (f27_ret k (by rw [crL_len]; exact hX1) (by rw [crL_len]; omega) s1 hc3)).mono ?_
  rintro r h4 ⟨rfl, g4⟩
  cases b1 : stB (crL X Y (sh 1)) with
  | false =>
    simp (disch := omega) only [f48_rs, Option.some.injEq, exists_eq_left', Nat.reduceEqDiff, ↓reduceIte, Bool.false_eq_true, Bool.false_and, bz]
    exact G3.trans (g4.low G3.nx)
  | true =>
  have q4 := (g4.old h1.nx n3').trans q3
  have l2 : loadV h4 (.p h1.nx 2) one? = .ok c h4 := load_p q4 rfl
  have s2 := s2.grow hc3 g4
  have s3 := s3.grow hc3 g4
  have hc4 := g4.hc hc3
  have G4 := G3.trans (g4.low G3.nx)
  have n4' : h1.nx.nat < h4.nx.nat := Nat.lt_of_lt_of_le n3' g4.nx
  simp (disch := omega) only [Nat.reduceEqDiff, ↓reduceIte, ix4_2, l2, Bool.true_and, bz]
  refine (callP_0 (ef := f27) k.c27 rfl (f27_ret k (by rw [crL_len]; exact hX1) (by rw [crL_len]; omega) s2 hc4)).mono ?_
  rintro r h5 ⟨rfl, g5⟩
  cases b2 : stB (crL X Y (sh 2)) with
  | false =>
    simp (disch := omega) only [f48_rs, Option.some.injEq, exists_eq_left', Nat.reduceEqDiff, ↓reduceIte, Bool.false_eq_true, Bool.false_and, bz]
    exact G4.trans (g5.low G4.nx)
  | true =>
  have q5 := (g5.old h1.nx n4').trans q4
  have l3 : loadV h5 (.p h1.nx 3) one? = .ok d h5 := load_p q5 rfl
  have s3 := s3.grow hc4 g5
  have hc5 := g5.hc hc4
  have G5 := G4.trans (g5.low G4.nx)
  simp (disch := omega) only [Nat.reduceEqDiff, ↓reduceIte, ix4_3, l3, Bool.true_and, bz]
  refine (callP_0 (ef := f27) k.c27 rfl (f27_ret k (by rw [crL_len]; exact hX1) (by rw [crL_len]; omega) s3 hc5)).mono ?_
  rintro r h6 ⟨rfl, g6⟩
  simp (disch := omega) only [f48_rs, Option.some.injEq, exists_eq_left', Nat.reduceEqDiff, ↓reduceIte, bz]
  exact G5.trans (g6.low G5.nx)
def f49_I (h0 : H) (v w u : V) (X : List Int) (i : Nat) (fr : Fr) (h1 : H) : Prop := i ≤ X.length ∧ h1 = h0 ∧ fr.get (K.ofNat 0) = some (v) ∧ fr.get (K.ofNat 1) = some (w) ∧ fr.get (K.ofNat 2) = some (u) ∧ fr.get (K.ofNat 7) = some (.i .i64 (i : Int))
theorem f49_ret (hX : X.length ≤ 1000) (hY : Y.length = X.length) (hP : P.length = X.length) (ha : ∀ i, i < X.length → X.getD i 0 ≤ P.getD i 0 ∧ P.getD i 0 ≤ Y.getD i 0) (hv : Sr iE h v X) (hw : Sr iE h w Y) (hu : Sr iE h u P) : Ret fs f49 [v, w, u] h fun r h' => r = .b true ∧ h' = h := by
  apply ret_of rfl
  show W fs none f49_c _ _ _
  unfold f49_c
  have e1 := hv.len
  have e3 := hu.len
  rw [hP] at e3
  simp (disch := omega) only [f49_r0, f49_r1, frame_3, bz]
  refine W_loop (f49_I h v w u X) (fun i => X.length - i) ?_ 0 ⟨by omega, rfl, by simp (disch := omega) only [getK_set, Nat.reduceEqDiff, ↓reduceIte, and_self, Int.natCast_zero]⟩
  rintro i fr h1 ⟨hi, rfl, g0, g1, g2, g7⟩
  unfold f49_l0
  have bv := hv.beq
  have bw := hw.beq
  have bu := hu.beq
  by_cases hlt : i < X.length
  · have d1 : decide ((i : Int) < (X.length : Int)) = true := decide_eq_true (by omega)
    have e4 : fw .i64 ((i : Int) + 1) = ((i + 1 : Nat) : Int) := by rw [fw64 (by omega) (by omega)]; rfl
    obtain ⟨p, p1, p2, p3⟩ := hv.atb i hlt
    obtain ⟨q, q1, q2, q3⟩ := hw.atb i (by omega)
    obtain ⟨z, z1, z2, z3⟩ := hu.atb i (by omega)
    have p2 : loadV h1 p one? = .ok (.i .i64 (X.getD i 0)) h1 := by rw [getD_lt hlt]; exact p2
    have q2 : loadV h1 q one? = .ok (.i .i64 (Y.getD i 0)) h1 := by rw [getD_lt (by omega)]; exact q2
    have z2 : loadV h1 z one? = .ok (.i .i64 (P.getD i 0)) h1 := by rw [getD_lt (by omega)]; exact z2
    obtain ⟨a1, a2⟩ := ha i hlt
    have d2 : decide (P.getD i 0 < X.getD i 0) = false := decide_eq_false (by omega)
    have d3 : decide (P.getD i 0 > Y.getD i 0) = false := decide_eq_false (by omega)
    simp (disch := omega) only [f49_r2, f49_r3, f49_r5, xg_g, xg_pick, Nat.reduceEqDiff, ↓reduceIte, Bool.false_eq_true, Bool.not_false, g0, g1, g2, g7, e1, e3, d1, d2, d3, e4, p1, p2, q1, q2, z1, z2, bz]
    exact ⟨i + 1, by omega, by omega, rfl, by simp (disch := omega) only [getK_set, Nat.reduceEqDiff, ↓reduceIte, g0, g1, g2, and_self]⟩
  · have d1 : decide ((i : Int) < (X.length : Int)) = false := decide_eq_false (by omega)
    simp (disch := omega) only [f49_r2, f49_r6, f49_rs, Option.some.injEq, exists_eq_left', Nat.reduceEqDiff, ↓reduceIte, Bool.false_eq_true, g0, g2, g7, e1, e3, d1, bz]
    exact ⟨rfl, trivial⟩
theorem crL_in {k : Nat} (h : leB X Y = true) : ∀ i, i < X.length → X.getD i 0 ≤ (crL X Y k).getD i 0 ∧ (crL X Y k).getD i 0 ≤ Y.getD i 0 := by
  intro i hi
  have := of_decide_eq_true h i hi
  have e : (crL X Y k).getD i 0 = crF X Y k i := by rw [getD_lt (by rw [crL_len]; exact hi)]; simp [crL]
  rw [e]
  unfold crF
  split <;> omega
def f50_I (h2 : H) (v w a : V) (T : List Int) (i : Nat) (fr : Fr) (h1 : H) : Prop := i ≤ T.length ∧ Grow h2.nx.nat h2 h1 ∧ ∃ b B, Sl iE h1 b B ∧ Own h2.nx.nat b ∧ B.length = i ∧ fr.get (K.ofNat 0) = some (v) ∧ fr.get (K.ofNat 1) = some (w) ∧ fr.get (K.ofNat 6) = some (a) ∧ fr.get (K.ofNat 7) = some (b) ∧ fr.get (K.ofNat 8) = some (.i .i64 (i : Int))
theorem f50_rest {a : V} {T : List Int} {h0 h2 : H} {fr : Fr} (hg : Grow h0.nx.nat h0 h2) (hT : T.length ≤ 6) (ha : Sr iE h2 a T) (hw : Sr iE h2 w L) (hc : HC h2) (g : fr.get (.ofNat 0) = some (v) ∧ fr.get (.ofNat 1) = some (w) ∧ fr.get (.ofNat 6) = some (a)) : W fs none (.seq (.reg f50_r4) (.seq (.seq (.reg f50_r5) (.block 0 (.loop f50_l0))) (.seq (.reg f50_r12) .ret))) (retK f50 fun r h' => ∃ a b A B, r = .tup [a, b] ∧ A.length ≤ 6 ∧ B.length ≤ 6 ∧ Sr iE h' a A ∧ Sr iE h' b B ∧ Grow h0.nx.nat h0 h') fr h2 := by
  obtain ⟨g0, g1, g6⟩ := g
  simp (disch := omega) only [f50_r4, f50_r5, bz]
  refine W_loop (f50_I h2 v w a T) (fun i => T.length - i) ?_ 0 ⟨by omega, Grow.refl _ _, .sn, [], Sl.nil, Own.sn, rfl, by simp (disch := omega) only [getK_set, Nat.reduceEqDiff, ↓reduceIte, g0, g1, g6, and_self, Int.natCast_zero]⟩
  clear g0 g1 g6 fr
  rintro i fr h1 ⟨hi, hG, b, B, sb, ob, lB, g0, g1, g6, g7, g8⟩
  have hc1 := hG.hc hc
  have ha1 := ha.grow hc hG
  have hw1 := hw.grow hc hG
  have e1 := ha1.len
  have e2 := hw1.len
  unfold f50_l0
  by_cases hlt : i < T.length
  · have d1 : decide ((i : Int) < (T.length : Int)) = true := decide_eq_true (by omega)
    have e4 : fw .i64 ((i : Int) + 1) = ((i + 1 : Nat) : Int) := by rw [fw64 (by omega) (by omega)]; rfl
    have d9 : decide ((9 : Int) = 0) = false := rfl
    obtain ⟨p, p1, p2⟩ := ha1.at i hlt
    have p2 : loadV h1 p one? = .ok (.i .i64 T[i]) h1 := p2
    by_cases hL : i < L.length
    · have d2 : decide ((i : Int) < (L.length : Int)) = true := decide_eq_true (by omega)
      obtain ⟨q, q1, q2⟩ := hw1.at i hL
      have q2 : loadV h1 q one? = .ok (.i .i64 L[i]) h1 := q2
      obtain ⟨b', h3, a1, a2, a3, a4, _⟩ := Sl.push (e := iE) (x := min 30 (fw .i64 (T[i] + fw .i64 ((fw .u64 L[i]).tmod 9)))) (c := .i .i64 (min 30 (fw .i64 (T[i] + fw .i64 ((fw .u64 L[i]).tmod 9))))) rfl sb ob hG.nx hc1 (by omega)
      simp (disch := omega) only [f50_r6, f50_r7, f50_r8, f50_r9, f50_r10, f50_r11, x_conv, Nat.reduceEqDiff, ↓reduceIte, of9, g1, g6, g7, g8, e1, e2, d1, d2, e4, p1, p2, q1, q2, a1, bz]
      exact ⟨i + 1, by omega, by omega, hG.trans a4, b', _, a2, a3, by simp [lB], by simp (disch := omega) only [getK_set, Nat.reduceEqDiff, ↓reduceIte, g0, g1, g6, and_self]⟩
    · have d2 : decide ((i : Int) < (L.length : Int)) = false := decide_eq_false (by omega)
      obtain ⟨b', h3, a1, a2, a3, a4, _⟩ := Sl.push (e := iE) (x := T[i]) (c := .i .i64 T[i]) rfl sb ob hG.nx hc1 (by omega)
      simp (disch := omega) only [f50_r6, f50_r7, f50_r8, f50_r10, f50_r11, Nat.reduceEqDiff, ↓reduceIte, Bool.false_eq_true, g1, g6, g7, g8, e1, e2, d1, d2, e4, p1, p2, a1, bz]
      exact ⟨i + 1, by omega, by omega, hG.trans a4, b', _, a2, a3, by simp [lB], by simp (disch := omega) only [getK_set, Nat.reduceEqDiff, ↓reduceIte, g0, g1, g6, and_self]⟩
  · have d1 : decide ((i : Int) < (T.length : Int)) = false := decide_eq_false (by omega)
    simp (disch := omega) only [f50_r6, f50_r12, f50_rs, Option.some.injEq, exists_eq_left', Nat.reduceEqDiff, ↓reduceIte, Bool.false_eq_true, g6, g7, g8, e1, d1, bz]
    exact ⟨_, _, T, B, rfl, hT, by omega, ha1, sb.sr, hg.trans (hG.low hg.nx)⟩
theorem f50_ret (k25 : fs.get (.ofNat 25) = some f25) (hv : Sr iE h v X) (hw : Sr iE h w L) (hc : HC h) : Ret fs f50 [v, w] h fun r h' => ∃ a b A B, r = .tup [a, b] ∧ A.length ≤ 6 ∧ B.length ≤ 6 ∧ Sr iE h' a A ∧ Sr iE h' b B ∧ Grow h.nx.nat h h' := by
  apply ret_of rfl
  show W fs none f50_c _ _ _
  unfold f50_c
  simp (disch := omega) only [f50_r0, f50_r1, Nat.reduceEqDiff, ↓reduceIte, bz]
  refine (callP_0 (ef := f25) k25 rfl (f25_ret hv hc)).mono ?_
  rintro a h1 ⟨T, sT, oT, pT, g1⟩
  obtain ⟨l1, l2, _, _⟩ := plB_len pT
  have hc1 := g1.hc hc
  have e1 := sT.len
  have ei : fw .i64 ((T.length : Int) - 1) = ((T.length - 1 : Nat) : Int) := by rw [fw64 (by omega) (by omega)]; omega
  obtain ⟨p, p1, p2⟩ := sT.at (T.length - 1) (by omega)
  have p2 : loadV h1 p one? = .ok (.i .i64 (T.getD (T.length - 1) 0)) h1 := by rw [getD_lt (by omega)]; exact p2
  by_cases hn : T.getD (T.length - 1) 0 < 0
  · have d1 : decide (T.getD (T.length - 1) 0 < 0) = true := decide_eq_true hn
    obtain ⟨p', id, m, cs', a1, a2, a3, ⟨off, n', sz, a4⟩, a5⟩ := sT.st (i := T.length - 1) (by omega) (x := fw .i64 (isub 0 (T.getD (T.length - 1) 0))) (c := .i .i64 (fw .i64 (isub 0 (T.getD (T.length - 1) 0)))) rfl rfl hc1
    obtain rfl : p = p' := by have := p1 .i64 h1; rw [a1] at this; cases this; rfl
    simp (disch := omega) only [f50_r2, f50_r3, x_neg, Nat.reduceEqDiff, ↓reduceIte, e1, ei, p1, p2, d1, a2, bz]
    have gp : Grow h.nx.nat h1 (h1.put id (.cells m cs')) := Grow.put (oT _ _ _ _ a4) a5 _
    have G := g1.trans gp
    refine f50_rest (v := v) G (by rw [List.length_set]; exact l2) a3.sr (hw.grow hc G) (G.hc hc) ?_
    simp (disch := omega) only [getK_set, Nat.reduceEqDiff, ↓reduceIte, and_self]
  · have d1 : decide (T.getD (T.length - 1) 0 < 0) = false := decide_eq_false hn
    simp (disch := omega) only [f50_r2, Nat.reduceEqDiff, ↓reduceIte, Bool.false_eq_true, e1, ei, p1, p2, d1, bz]
    refine f50_rest (v := v) g1 l2 sT.sr (hw.grow hc g1) hc1 ?_
    simp (disch := omega) only [getK_set, Nat.reduceEqDiff, ↓reduceIte, and_self]
end
end Go.Ev
namespace Go.Ev
open Go Go.RowKit
noncomputable def f8_r0 : List EOper := [oG 4 (.as (.c (.b false)))]
noncomputable def f8_r1 : List EOper := [oG 21 (.mv (tG 0)), oG 22 (.call (fG 12) [(tG 21), (cG 8)]), oG 23 (.mv (tG 1)), oG 24 (.call (fG 12) [(tG 23), (cG 8)]), oG 5 (.as (tG 22)), oG 6 (.as (tG 24))]
noncomputable def f8_r2 : List EOper := [oG 7 (.as (cG 0))]
noncomputable def f8_r3 : List EOper := [oG 25 (.mv (tG 7)), oG 26 (.bin .lss (tG 25) (cG 3))]
noncomputable def f8_r4 : List EOper := [oG 29 (.mv (tG 5)), oG 30 (.mv (tG 6)), oG 31 (.call (fG 42) [(tG 29), (tG 30)]), oG 8 (.as (tG 31))]
noncomputable def f8_r5 : List EOper := [oG 33 (.mv (tG 5)), oG 34 (.mv (tG 6)), oG 35 (.call (fG 43) [(tG 33), (tG 34)]), oG 32 (.mv (tG 35)), oG 36 (.ext (tG 32) 0), oG 37 (.ext (tG 32) 1), oG 9 (.alloc 4 [.sn, .sn, .sn, .sn]), ⟨none, none, .st 4 (tG 9) (tG 36)⟩, oG 10 (.as (tG 37))]
noncomputable def f8_r6 : List EOper := [oG 39 (.mv (tG 5)), oG 40 (.mv (tG 6)), oG 41 (.call (fG 44) [(tG 39), (tG 40)]), oG 38 (.mv (tG 41)), oG 42 (.ext (tG 38) 0), oG 43 (.ext (tG 38) 1), oG 11 (.as (tG 42)), oG 12 (.as (tG 43))]
noncomputable def f8_r7 : List EOper := [oG 45 (.mv (tG 5)), oG 46 (.mv (tG 6)), oG 47 (.call (fG 45) [(tG 45), (tG 46)]), oG 44 (.mv (tG 47)), oG 48 (.ext (tG 44) 0), oG 49 (.ext (tG 44) 1), oG 50 (.ext (tG 44) 2), oG 13 (.as (tG 48)), oG 14 (.as (tG 49)), oG 15 (.as (tG 50))]
noncomputable def f8_r8 : List EOper := [oG 51 (.mv (tG 5)), oG 52 (.mv (tG 6)), oG 53 (.call (fG 46) [(tG 51), (tG 52)]), oG 54 (.mv (tG 8)), oG 55 (.bin .neq (tG 53) (tG 54)), oG 56 (.mv (tG 55)), gG 57 56 false (.mv (tG 10)), gG 58 56 false (.mv (tG 8)), gG 59 56 false (.bin .neq (tG 57) (tG 58)), oG 60 (.pick (tG 56) (.c (.b true)) (tG 59)), oG 61 (.mv (tG 60)), gG 62 61 false (.mv (tG 12)), gG 63 61 false (.mv (tG 8)), gG 64 61 false (.bin .neq (tG 62) (tG 63)), oG 65 (.pick (tG 61) (.c (.b true)) (tG 64)), oG 66 (.mv (tG 65)), gG 67 66 false (.mv (tG 15)), gG 68 66 false (.mv (tG 8)), gG 69 66 false (.bin .neq (tG 67) (tG 68)), oG 70 (.pick (tG 66) (.c (.b true)) (tG 69))]
noncomputable def f8_r9 : List EOper := [oG 4 (.as (.c (.b false)))]
noncomputable def f8_r10 : List EOper := [oG 71 (.mv (tG 8)), oG 72 (.bin .neq (tG 71) (cG 0))]
noncomputable def f8_r11 : List EOper := [oG 73 (.mv (tG 11)), oG 74 (.mv (tG 73)), gG 75 74 false (.mv (tG 14)), oG 76 (.pick (tG 74) (.c (.b true)) (tG 75)), oG 77 (.mv (tG 76)), gG 78 77 false (.iadr 4 1 (tG 9) (cG 0)), gG 79 77 false (.ld (tG 78)), gG 80 77 false (.len (tG 79)), gG 81 77 false (.iadr 4 1 (tG 9) (cG 1)), gG 82 77 false (.ld (tG 81)), gG 83 77 false (.len (tG 82)), gG 84 77 false (.bin .add (tG 80) (tG 83)), gG 85 77 false (.iadr 4 1 (tG 9) (cG 2)), gG 86 77 false (.ld (tG 85)), gG 87 77 false (.len (tG 86)), gG 88 77 false (.bin .add (tG 84) (tG 87)), gG 89 77 false (.iadr 4 1 (tG 9) (cG 3)), gG 90 77 false (.ld (tG 89)), gG 91 77 false (.len (tG 90)), gG 92 77 false (.bin .add (tG 88) (tG 91)), gG 93 77 false (.mv (tG 13)), gG 94 77 false (.len (tG 93)), gG 95 77 false (.bin .add (tG 92) (tG 94)), gG 96 77 false (.bin .neq (tG 95) (cG 0)), oG 97 (.pick (tG 77) (.c (.b true)) (tG 96))]
noncomputable def f8_r12 : List EOper := [oG 4 (.as (.c (.b false)))]
noncomputable def f8_r13 : List EOper := [oG 98 (.mv (tG 5)), oG 99 (.mv (tG 6)), oG 100 (.call (fG 47) [(tG 98), (tG 99)]), oG 16 (.alloc 4 [.sn, .sn, .sn, .sn]), ⟨none, none, .st 4 (tG 16) (tG 100)⟩]
noncomputable def f8_r14 : List EOper := [oG 17 (.as (cG 0))]
noncomputable def f8_r15 : List EOper := [oG 101 (.mv (tG 17)), oG 102 (.bin .lss (tG 101) (cG 4))]
noncomputable def f8_r16 : List Stage := [⟨[oG 105 (.mv (tG 17)), oG 106 (.iadr 4 1 (tG 9) (tG 105)), oG 107 (.ld (tG 106)), oG 108 (.mv (tG 17)), oG 109 (.iadr 4 1 (tG 16) (tG 108)), oG 110 (.ld (tG 109))], [], (some (oG 111 (.call (fG 31) [(tG 107), (tG 110)]))), []⟩, ⟨[oG 112 (.not (tG 111))], [], none, []⟩]
noncomputable def f8_r17 : List EOper := [oG 4 (.as (.c (.b false)))]
noncomputable def f8_r18 : List EOper := [oG 103 (.mv (tG 17)), oG 104 (.bin .add (tG 103) (cG 1)), oG 17 (.as (tG 104))]
noncomputable def f8_l0 : EC := (.seq (.seq (.reg f8_r15) (.cond (tG 102) .skip (.exit 2))) (.seq (.block 3 (.seq (.draw f8_r16) (.cond (tG 112) (.seq (.reg f8_r17) .ret) .skip))) (.reg f8_r18)))
noncomputable def f8_r19 : List EOper := [oG 113 (.mv (tG 5)), oG 114 (.mv (tG 6)), oG 115 (.call (fG 48) [(tG 113), (tG 114)]), oG 18 (.as (tG 115))]
noncomputable def f8_r20 : List EOper := [oG 116 (.mv (tG 11)), oG 117 (.mv (tG 18)), oG 118 (.eqk (.one none) true (tG 116) (tG 117)), oG 119 (.mv (tG 118)), gG 120 119 false (.mv (tG 14)), gG 121 119 false (.mv (tG 18)), gG 122 119 false (.eqk (.one none) false (tG 120) (tG 121)), oG 123 (.pick (tG 119) (.c (.b true)) (tG 122)), oG 124 (.mv (tG 123)), gG 125 124 false (.mv (tG 14)), gG 126 124 false (.mv (tG 125)), gG 127 126 true (.mv (tG 5)), gG 128 126 true (.mv (tG 6)), gG 129 126 true (.mv (tG 13)), gG 130 126 true (.call (fG 49) [(tG 127), (tG 128), (tG 129)]), gG 131 126 true (.not (tG 130)), gG 132 126 true (.mv (tG 131)), gG 133 132 false (.mv (tG 13)), gG 134 132 false (.call (fG 27) [(tG 133)]), gG 135 126 true (.pick (tG 132) (.c (.b true)) (tG 134)), gG 136 124 false (.pick (tG 126) (tG 135) (.c (.b false))), oG 137 (.pick (tG 124) (.c (.b true)) (tG 136)), oG 138 (.mv (tG 137)), gG 139 138 false (.mv (tG 14)), gG 140 138 false (.not (tG 139)), gG 141 138 false (.mv (tG 140)), gG 142 141 true (.mv (tG 13)), gG 143 141 true (.len (tG 142)), gG 144 141 true (.bin .neq (tG 143) (cG 0)), gG 145 138 false (.pick (tG 141) (tG 144) (.c (.b false))), oG 146 (.pick (tG 138) (.c (.b true)) (tG 145))]
noncomputable def f8_r21 : List EOper := [oG 4 (.as (.c (.b false)))]
noncomputable def f8_r22 : List EOper := [oG 148 (.mv (tG 0)), oG 149 (.mv (tG 1)), oG 150 (.call (fG 50) [(tG 148), (tG 149)]), oG 147 (.mv (tG 150)), oG 151 (.ext (tG 147) 0), oG 152 (.ext (tG 147) 1), oG 5 (.as (tG 151)), oG 6 (.as (tG 152))]
noncomputable def f8_r23 : List EOper := [oG 153 (.mv (tG 7)), oG 154 (.bin .eql (tG 153) (cG 1))]
noncomputable def f8_r24 : List EOper := [oG 155 (.mv (tG 0)), oG 156 (.call (fG 39) [(tG 155)]), oG 5 (.as (tG 156))]
noncomputable def f8_r25 : List EOper := [oG 6 (.as (.c .sn))]
noncomputable def f8_r26 : List EOper := [oG 19 (.as (cG 0))]
noncomputable def f8_r27 : List EOper := [oG 157 (.mv (tG 19)), oG 158 (.mv (tG 5)), oG 159 (.len (tG 158)), oG 160 (.bin .lss (tG 157) (tG 159))]
noncomputable def f8_r28 : List EOper := [oG 20 (.as (cG 0))]
noncomputable def f8_r29 : List EOper := [oG 163 (.mv (tG 19)), oG 164 (.mv (tG 1)), oG 165 (.len (tG 164)), oG 166 (.bin .lss (tG 163) (tG 165))]
noncomputable def f8_r30 : List EOper := [oG 167 (.mv (tG 1)), oG 168 (.mv (tG 19)), oG 169 (.iads 1 (tG 167) (tG 168)), oG 170 (.ld (tG 169)), oG 171 (.conv .u64 (tG 170)), oG 172 (.bin .rem (tG 171) (.c (.i .u64 (.ofNat 3)))), oG 173 (.conv .i64 (tG 172)), oG 20 (.as (tG 173))]
noncomputable def f8_r31 : List EOper := [oG 174 (.mv (tG 6)), oG 175 (.mv (tG 5)), oG 176 (.mv (tG 19)), oG 177 (.iads 1 (tG 175) (tG 176)), oG 178 (.ld (tG 177)), oG 179 (.mv (tG 20)), oG 180 (.bin .add (tG 178) (tG 179)), oG 181 (.min (cG 30) (tG 180)), oG 182 (.bslice 1 1 [(.i .i64 (.ofNat 0))] [(0, 1, (tG 181))]), oG 183 (.app 1 (tG 174) (tG 182)), oG 6 (.as (tG 183))]
noncomputable def f8_r32 : List EOper := [oG 161 (.mv (tG 19)), oG 162 (.bin .add (tG 161) (cG 1)), oG 19 (.as (tG 162))]
noncomputable def f8_l1 : EC := (.seq (.seq (.reg f8_r27) (.cond (tG 160) .skip (.exit 4))) (.seq (.block 5 (.seq (.reg f8_r28) (.seq (.seq (.reg f8_r29) (.cond (tG 166) (.reg f8_r30) .skip)) (.reg f8_r31)))) (.reg f8_r32)))
noncomputable def f8_r33 : List EOper := [oG 27 (.mv (tG 7)), oG 28 (.bin .add (tG 27) (cG 1)), oG 7 (.as (tG 28))]
noncomputable def f8_l2 : EC := (.seq (.seq (.reg f8_r3) (.cond (tG 26) .skip (.exit 0))) (.seq (.block 1 (.seq (.reg f8_r4) (.seq (.reg f8_r5) (.seq (.reg f8_r6) (.seq (.reg f8_r7) (.seq (.seq (.reg f8_r8) (.cond (tG 70) (.seq (.reg f8_r9) .ret) .skip)) (.seq (.seq (.reg f8_r10) (.cond (tG 72) (.seq (.reg f8_r11) (.cond (tG 97) (.seq (.reg f8_r12) .ret) .skip)) (.seq (.reg f8_r13) (.seq (.seq (.reg f8_r14) (.block 2 (.loop f8_l0))) (.seq (.reg f8_r19) (.seq (.reg f8_r20) (.cond (tG 146) (.seq (.reg f8_r21) .ret) .skip))))))) (.seq (.reg f8_r22) (.seq (.reg f8_r23) (.cond (tG 154) (.seq (.reg f8_r24) (.seq (.reg f8_r25) (.seq (.reg f8_r26) (.block 4 (.loop f8_l1))))) .skip)))))))))) (.reg f8_r33)))
noncomputable def f8_r34 : List EOper := [oG 184 (.call (fG 19) []), oG 4 (.as (tG 184))]
noncomputable def f8_c : EC := (.seq (.reg f8_r0) (.seq (.reg f8_r1) (.seq (.seq (.reg f8_r2) (.block 0 (.loop f8_l2))) (.seq (.reg f8_r34) .ret))))
noncomputable def f8 : EF := ⟨185, [.tmp (.ofNat 4)], f8_c, none⟩
theorem f8_rs : f8.rs = [.tmp (.ofNat 4)] := of_eq_true (eq_self _)
section
variable {fs : T EF} {h : H} {v w u : V} {X Y L P A B : List Int}
structure CallsB (fs : T EF) : Prop extends CallsC fs where
  c12 : fs.get (K.ofNat 12) = some f12
  c25 : fs.get (K.ofNat 25) = some f25
  c31 : fs.get (K.ofNat 31) = some f31
  c39 : fs.get (K.ofNat 39) = some f39
  c40 : fs.get (K.ofNat 40) = some f40
  c42 : fs.get (K.ofNat 42) = some f42
  c43 : fs.get (K.ofNat 43) = some f43
  c44 : fs.get (K.ofNat 44) = some f44
  c45 : fs.get (K.ofNat 45) = some f45
  c47 : fs.get (K.ofNat 47) = some f47
  c48 : fs.get (K.ofNat 48) = some f48
  c49 : fs.get (K.ofNat 49) = some f49
  c50 : fs.get (K.ofNat 50) = some f50
  aw : ∀ (h : H) (P : V → H → Prop), CallP fs (.fn (K.ofNat 19) []) [] h P = P (.b true) h
theorem f42_eq (k53 : fs.get (.ofNat 53) = some f53) (k42 : fs.get (.ofNat 42) = some f42) (hX : X.length ≤ 1000) (hv : Sr iE h v X) (hw : Sr iE h w Y) {P : V → H → Prop} : CallP fs (.fn (.ofNat 42) []) [v, w] h P = P (.i .i64 (bdE X Y)) h := callP_eq2 (callP_0 k42 rfl (f42_ret k53 hX hv hw))
def f8_J (h2 : H) (v w x : V) (G : List Int) (n i : Nat) (fr : Fr) (h1 : H) : Prop := i ≤ G.length ∧ Grow h2.nx.nat h2 h1 ∧ ∃ y Y, Sl iE h1 y Y ∧ Own h2.nx.nat y ∧ Y.length = i ∧ fr.get (K.ofNat 0) = some (v) ∧ fr.get (K.ofNat 1) = some (w) ∧ fr.get (K.ofNat 5) = some (x) ∧ fr.get (K.ofNat 6) = some (y) ∧ fr.get (K.ofNat 7) = some (.i .i64 (n : Int)) ∧ fr.get (K.ofNat 19) = some (.i .i64 (i : Int))
theorem f8_next {Q : Ex → Fr → H → Prop} {n : Nat} {h1 : H} {fr : Fr} (k : CallsB fs) (hv : Sr iE h1 v A) (hw : Sr iE h1 w B) (hc : HC h1) (g : fr.get (.ofNat 0) = some (v) ∧ fr.get (.ofNat 1) = some (w) ∧ fr.get (.ofNat 7) = some (.i .i64 (n : Int)))
    (hq : ∀ x y X Y fr' h', X.length ≤ 1000 → Y.length ≤ 1000 → Sr iE h' x X → Sr iE h' y Y → Grow h1.nx.nat h1 h' → fr'.get (K.ofNat 0) = some v → fr'.get (K.ofNat 1) = some w → fr'.get (K.ofNat 7) = some (.i .i64 (n : Int)) → fr'.get (K.ofNat 5) = some x → fr'.get (K.ofNat 6) = some y → Q .normal fr' h') : W fs none (.seq (.reg f8_r22) (.seq (.reg f8_r23) (.cond (.t (K.ofNat 154)) (.seq (.reg f8_r24) (.seq (.reg f8_r25) (.seq (.reg f8_r26) (.block 4 (.loop f8_l1))))) .skip))) Q fr h1 := by
  obtain ⟨g0, g1, g7⟩ := g
  simp (disch := omega) only [f8_r22, Nat.reduceEqDiff, ↓reduceIte, g0, g1, bz]
  refine (callP_0 (ef := f50) k.c50 rfl (f50_ret k.c25 hv hw hc)).mono ?_
  rintro r h2 ⟨a, b, C, D, rfl, lC, lD, sC, sD, g2⟩
  have hc2 := g2.hc hc
  have ha1 := sC.one
  have hb1 := sD.one
  by_cases h1' : n = 1
  · have ed : decide ((n : Int) = 1) = true := decide_eq_true (by omega)
    simp (disch := omega) only [f8_r23, f8_r24, Nat.reduceEqDiff, ↓reduceIte, g0, g7, ed, bz]
    refine (callP_0 (ef := f39) k.c39 rfl (f39_ret k.toCallsT k.c40 (hv.grow hc g2) hc2)).mono ?_
    rintro x h3 ⟨G, sG, l1, l6, g3⟩
    have hc3 := g3.hc hc2
    have G3 := g2.trans (g3.low g2.nx)
    have hw3 := hw.grow hc G3
    simp (disch := omega) only [f8_r25, f8_r26, ↓reduceIte, bz]
    refine W_loop (f8_J h3 v w x G n) (fun i => G.length - i) ?_ 0 ⟨by omega, Grow.refl _ _, .sn, [], Sl.nil, Own.sn, rfl, by simp (disch := omega) only [getK_set, Nat.reduceEqDiff, ↓reduceIte, g0, g1, g7, and_self, Int.natCast_zero]⟩
    clear g0 g1 g7 fr
    rintro i fr h4 ⟨hi, hG, y, Y, sy, oy, lY, g0, g1, g5, g6, g7, g19⟩
    have hc4 := hG.hc hc3
    have sx := sG.sr.grow hc3 hG
    have sw := hw3.grow hc3 hG
    have e1 := sx.len
    have e2 := sw.len
    unfold f8_l1
    by_cases hlt : i < G.length
    · have d1 : decide ((i : Int) < (G.length : Int)) = true := decide_eq_true (by omega)
      have e4 : fw .i64 ((i : Int) + 1) = ((i + 1 : Nat) : Int) := by rw [fw64 (by omega) (by omega)]; rfl
      have d3 : decide ((3 : Int) = 0) = false := rfl
      obtain ⟨p, p1, p2⟩ := sx.at i hlt
      have p2 : loadV h4 p one? = .ok (.i .i64 G[i]) h4 := p2
      by_cases hL : i < B.length
      · have d2 : decide ((i : Int) < (B.length : Int)) = true := decide_eq_true (by omega)
        obtain ⟨q, q1, q2⟩ := sw.at i hL
        have q2 : loadV h4 q one? = .ok (.i .i64 B[i]) h4 := q2
        obtain ⟨y', h5, a1, a2, a3, a4, _⟩ := Sl.push (e := iE) (x := min 30 (fw .i64 (G[i] + fw .i64 ((fw .u64 B[i]).tmod 3)))) (c := .i .i64 (min 30 (fw .i64 (G[i] + fw .i64 ((fw .u64 B[i]).tmod 3))))) rfl sy oy hG.nx hc4 (by omega)
        simp (disch := omega) only [f8_r27, f8_r28, f8_r29, f8_r30, f8_r31, f8_r32, x_conv, Nat.reduceEqDiff, ↓reduceIte, g1, g5, g6, g19, e1, e2, d1, d2, e4, p1, p2, q1, q2, a1, bz]
        exact ⟨i + 1, by omega, by omega, hG.trans a4, y', _, a2, a3, by simp [lY], by simp (disch := omega) only [getK_set, Nat.reduceEqDiff, ↓reduceIte, g0, g1, g5, g7, and_self]⟩
      · have d2 : decide ((i : Int) < (B.length : Int)) = false := decide_eq_false (by omega)
        obtain ⟨y', h5, a1, a2, a3, a4, _⟩ := Sl.push (e := iE) (x := min 30 (fw .i64 (G[i] + 0))) (c := .i .i64 (min 30 (fw .i64 (G[i] + 0)))) rfl sy oy hG.nx hc4 (by omega)
        simp (disch := omega) only [f8_r27, f8_r28, f8_r29, f8_r31, f8_r32, Nat.reduceEqDiff, ↓reduceIte, Bool.false_eq_true, g1, g5, g6, g19, e1, e2, d1, d2, e4, p1, p2, a1, bz]
        exact ⟨i + 1, by omega, by omega, hG.trans a4, y', _, a2, a3, by simp [lY], by simp (disch := omega) only [getK_set, Nat.reduceEqDiff, ↓reduceIte, g0, g1, g5, g7, and_self]⟩
    · have d1 : decide ((i : Int) < (G.length : Int)) = false := decide_eq_false (by omega)
      simp (disch := omega) only [f8_r27, Nat.reduceEqDiff, ↓reduceIte, Bool.false_eq_true, g5, g19, e1, d1, bz]
      exact hq x y G Y _ h4 (by omega) (by omega) sx sy.sr (G3.trans (hG.low G3.nx)) (by simp (disch := omega) only [getK_set, Nat.reduceEqDiff, ↓reduceIte, g0]) (by simp (disch := omega) only [getK_set, Nat.reduceEqDiff, ↓reduceIte, g1]) (by simp (disch := omega) only [getK_set, Nat.reduceEqDiff, ↓reduceIte, g7]) (by simp (disch := omega) only [getK_set, Nat.reduceEqDiff, ↓reduceIte, g5]) (by simp (disch := omega) only [getK_set, Nat.reduceEqDiff, ↓reduceIte, g6])
  · have ed : decide ((n : Int) = 1) = false := decide_eq_false (by omega)
    simp (disch := omega) only [f8_r23, Nat.reduceEqDiff, ↓reduceIte, Bool.false_eq_true, g7, ed, bz]
    exact hq a b C D _ h2 (by omega) (by omega) sC sD g2 (by simp (disch := omega) only [getK_set, Nat.reduceEqDiff, ↓reduceIte, g0]) (by simp (disch := omega) only [getK_set, Nat.reduceEqDiff, ↓reduceIte, g1]) (by simp (disch := omega) only [getK_set, Nat.reduceEqDiff, ↓reduceIte, g7]) (by simp (disch := omega) only [getK_set, Nat.reduceEqDiff, ↓reduceIte]) (by simp (disch := omega) only [getK_set, Nat.reduceEqDiff, ↓reduceIte])
theorem keq_tf : keyEq (.one none) (.b true) (.b false) = some false := rfl
theorem keq_ft : keyEq (.one none) (.b false) (.b true) = some false := rfl
def f8_K (h2 : H) (v w x y u : V) (n : Nat) (all bad : Bool) (bc bd : K) (i : Nat) (fr : Fr) (h1 : H) : Prop := i ≤ 4 ∧ h1 = h2 ∧ fr.get (K.ofNat 0) = some (v) ∧ fr.get (K.ofNat 1) = some (w) ∧ fr.get (K.ofNat 5) = some (x) ∧ fr.get (K.ofNat 6) = some (y) ∧ fr.get (K.ofNat 7) = some (.i .i64 (n : Int)) ∧ fr.get (K.ofNat 9) = some (.p bc 0) ∧ fr.get (K.ofNat 11) = some (.b all) ∧ fr.get (K.ofNat 13) = some (u) ∧ fr.get (K.ofNat 14) = some (.b bad) ∧ fr.get (K.ofNat 16) = some (.p bd 0) ∧ fr.get (K.ofNat 17) = some (.i .i64 (i : Int))
theorem f8_cmp {Q : Ex → Fr → H → Prop} {n : Nat} {h1 : H} {fr : Fr} {x y : V} {us : List V} {bc : K} {bad : Bool} {b0 : Nat} (k : CallsB fs) (h0 : bdE X Y = 0) (sx : Sr iE h1 x X) (sy : Sr iE h1 y Y) (hc : HC h1) (hb : h1.get bc = .cells 4 us) (hbn : bc.nat < h1.nx.nat) (cu : Cor b0 h1 us X Y 4)
    (hu : (bad = false ∧ u = .sn ∧ alB X Y = true) ∨ (bad = true ∧ alB X Y = false ∧ ∃ j, j < 4 ∧ stB (crL X Y (sh j)) = false ∧ Sr iE h1 u (crL X Y (sh j))))
    (g : fr.get (K.ofNat 0) = some (v) ∧ fr.get (K.ofNat 1) = some (w) ∧ fr.get (K.ofNat 5) = some (x) ∧ fr.get (K.ofNat 6) = some (y) ∧ fr.get (K.ofNat 7) = some (.i .i64 (n : Int)) ∧ fr.get (K.ofNat 9) = some (.p bc 0) ∧ fr.get (K.ofNat 11) = some (.b (alB X Y)) ∧ fr.get (K.ofNat 13) = some (u) ∧ fr.get (K.ofNat 14) = some (.b bad))
    (hq : ∀ fr' h', Grow h1.nx.nat h1 h' → fr'.get (K.ofNat 0) = some v → fr'.get (K.ofNat 1) = some w → fr'.get (K.ofNat 7) = some (.i .i64 (n : Int)) → Q .normal fr' h') : W fs none (.seq (.reg f8_r13) (.seq (.seq (.reg f8_r14) (.block 2 (.loop f8_l0))) (.seq (.reg f8_r19) (.seq (.reg f8_r20) (.cond (.t (K.ofNat 146)) (.seq (.reg f8_r21) .ret) .skip))))) Q fr h1 := by
  obtain ⟨g0, g1, g5, g6, g7, g9, g11, g13, g14⟩ := g
  obtain ⟨l1, l2, l3, lb⟩ := bdE_0 h0
  simp (disch := omega) only [f8_r13, Nat.reduceEqDiff, ↓reduceIte, g5, g6, bz]
  refine (callP_0 (ef := f47) k.c47 rfl (f47_ret l2 l3 sx sy hc)).mono ?_
  rintro r h2 ⟨ds, rfl, cd, g2⟩
  have hc2 := g2.hc hc
  have st : storeV (h2.new (.cells 4 [.sn, .sn, .sn, .sn])) 4 (.p h2.nx 0) (.agg ds) = .ok undefV ((h2.new (.cells 4 [.sn, .sn, .sn, .sn])).put h2.nx (.cells 4 ds)) := by
    rw [store_p (m := 4) get_new_same (cl_sn4 cd.len) (by omega), set4 rfl cd.len]
  have gB := (Grow.new (Nat.le_refl h2.nx.nat) (.cells 4 [.sn, .sn, .sn, .sn])).trans (Grow.put (h := h2.new (.cells 4 [.sn, .sn, .sn, .sn])) (k := h2.nx) (Nat.le_refl _) (by rw [nx_new]; omega) (.cells 4 ds))
  have q : ((h2.new (.cells 4 [.sn, .sn, .sn, .sn])).put h2.nx (.cells 4 ds)).get h2.nx = .cells 4 ds := get_put_same
  have G3 := g2.trans (gB.low g2.nx)
  simp (disch := omega) only [f8_r14, Nat.reduceEqDiff, ↓reduceIte, st, bz]
  generalize (h2.new (.cells 4 [.sn, .sn, .sn, .sn])).put h2.nx (.cells 4 ds) = h3 at *
  have hc3 := G3.hc hc
  have cd3 := cd.grow hc2 gB
  have cu3 := cu.grow hc G3
  have sx3 := sx.grow hc G3
  have sy3 := sy.grow hc G3
  have hb3 := (G3.old bc hbn).trans hb
  refine W_loop (f8_K h3 v w x y u n (alB X Y) bad bc h2.nx) (fun i => 4 - i) ?_ 0 ⟨by omega, rfl, by simp (disch := omega) only [getK_set, Nat.reduceEqDiff, ↓reduceIte, g0, g1, g5, g6, g7, g9, g11, g13, g14, and_self, Int.natCast_zero]⟩
  clear g0 g1 g5 g6 g7 g9 g11 g13 g14 fr
  rintro i fr h4 ⟨hi, rfl, g0, g1, g5, g6, g7, g9, g11, g13, g14, g16, g17⟩
  unfold f8_l0
  by_cases hlt : i < 4
  · have d1 : decide ((i : Int) < 4) = true := decide_eq_true (by omega)
    have e4 : fw .i64 ((i : Int) + 1) = ((i + 1 : Nat) : Int) := by rw [fw64 (by omega) (by omega)]; rfl
    have ha : Ar (fun v => v) h4 bc us := by unfold Ar; rw [hb3, cu.len, List.map_id']
    have hd : Ar (fun v => v) h4 h2.nx ds := by unfold Ar; rw [q, cd.len, List.map_id']
    have a1 := ha.ld (i := i) (by rw [cu.len]; exact hlt)
    have a2 := hd.ld (i := i) (by rw [cd.len]; exact hlt)
    obtain ⟨s1, _⟩ := cu3.lt i (by rw [cu.len]; exact hlt) hlt
    obtain ⟨s2, _⟩ := cd3.lt i (by rw [cd.len]; exact hlt) hlt
    have e31 := fun P => f31_eq k.c31 s1 s2 (by rw [crL_len]; omega) (P := P)
    have dd : decide (crL X Y (sh i) = crL X Y (sh i)) = true := decide_eq_true rfl
    rw [dd] at e31
    simp (disch := omega) only [f8_r15, f8_r16, f8_r18, xg_not, xg_iadr, idx_n, Nat.reduceEqDiff, ↓reduceIte, Bool.false_eq_true, Bool.not_true, g9, g16, g17, d1, a1, a2, e31, e4, bz]
    exact ⟨i + 1, by omega, by omega, rfl, by simp (disch := omega) only [getK_set, Nat.reduceEqDiff, ↓reduceIte, g0, g1, g5, g6, g7, g9, g11, g13, g14, g16, and_self]⟩
  · have d1 : decide ((i : Int) < 4) = false := decide_eq_false (by omega)
    simp (disch := omega) only [f8_r15, f8_r19, Nat.reduceEqDiff, ↓reduceIte, Bool.false_eq_true, g5, g6, g17, d1, bz]
    refine (callP_0 (ef := f48) k.c48 rfl (f48_ret k.toCallsS k.c47 l1 l2 l3 sx3 sy3 hc3)).mono ?_
    rintro r h5 ⟨rfl, g5'⟩
    have hc5 := g5'.hc hc3
    have G5 := G3.trans (g5'.low G3.nx)
    have q0 : decide ((0 : Int) ≠ 0) = false := rfl
    rcases hu with ⟨rfl, rfl, ha⟩ | ⟨rfl, ha, j, hj, hs, su⟩
    · rw [ha] at g11 ⊢
      have ll : ∀ h1, lenV .sn h1 = .ok (.i .i64 0) h1 := fun h1 => rfl
      simp (maxSteps := 5000000) (disch := omega) only [f8_r20, okG_u, asG_u, x_eqk, Nat.reduceEqDiff, ↓reduceIte, Bool.false_eq_true, Bool.not_true, Bool.not_false, g11, g13, g14, keq_b, keq_ft, ll, q0, cond_true, cond_false, bz]
      exact hq _ h5 G5 (by simp (disch := omega) only [getK_set, Nat.reduceEqDiff, ↓reduceIte, g0]) (by simp (disch := omega) only [getK_set, Nat.reduceEqDiff, ↓reduceIte, g1]) (by simp (disch := omega) only [getK_set, Nat.reduceEqDiff, ↓reduceIte, g7])
    · rw [ha] at g11 ⊢
      have su5 := (su.grow hc G3).grow hc3 g5'
      have lb' : leB X Y = true := by
        unfold bdB at lb
        rw [Bool.and_eq_true] at lb
        exact lb.1
      have e49 := fun P => callP_eq2 (P := P) (callP_0 (ef := f49) k.c49 rfl (f49_ret (by omega) l3 crL_len (crL_in (k := sh j) lb') (sx3.grow hc3 g5') (sy3.grow hc3 g5') su5))
      simp (maxSteps := 5000000) (disch := omega) only [f8_r20, x_eqk, Nat.reduceEqDiff, ↓reduceIte, Bool.false_eq_true, Bool.not_true, Bool.not_false, g5, g6, g11, g13, g14, keq_b, keq_tf, e49, cond_true, cond_false, bz]
      refine (callP_0 (ef := f27) k.c27 rfl (f27_ret k.toCallsS (by rw [crL_len]; exact l1) (by rw [crL_len]; omega) su5 hc5)).mono ?_
      rintro r h6 ⟨rfl, g6'⟩
      rw [hs]
      simp (maxSteps := 5000000) (disch := omega) only [Nat.reduceEqDiff, ↓reduceIte, Bool.false_eq_true, Bool.not_true, Bool.not_false, g14, bz]
      exact hq _ h6 (G5.trans (g6'.low G5.nx)) (by simp (disch := omega) only [getK_set, Nat.reduceEqDiff, ↓reduceIte, g0]) (by simp (disch := omega) only [getK_set, Nat.reduceEqDiff, ↓reduceIte, g1]) (by simp (disch := omega) only [getK_set, Nat.reduceEqDiff, ↓reduceIte, g7])
def f8_I (h : H) (v w : V) (n : Nat) (fr : Fr) (h1 : H) : Prop := n ≤ 3 ∧ Grow h.nx.nat h h1 ∧ ∃ x y X Y, X.length ≤ 1000 ∧ Y.length ≤ 1000 ∧ Sr iE h1 x X ∧ Sr iE h1 y Y ∧ fr.get (K.ofNat 0) = some (v) ∧ fr.get (K.ofNat 1) = some (w) ∧ fr.get (K.ofNat 5) = some (x) ∧ fr.get (K.ofNat 6) = some (y) ∧ fr.get (K.ofNat 7) = some (.i .i64 (n : Int))
theorem f8_ret (k : CallsB fs) (hv : Sr iE h v A) (hw : Sr iE h w B) (_ : A.length ≤ 9223372036854775807) (_ : B.length ≤ 9223372036854775807) (hc : HC h) : Ret fs f8 [v, w] h fun r h' => r = .b true ∧ Grow h.nx.nat h h' := by
  apply ret_of rfl
  show W fs none f8_c _ _ _
  unfold f8_c
  simp (disch := omega) only [f8_r0, f8_r1, of8, Nat.reduceEqDiff, ↓reduceIte, bz]
  refine (callP_0 (ef := f12) k.c12 rfl (f12_ret (m := 8) hv hc (by omega))).mono ?_
  rintro x h1 ⟨sx, _, g1⟩
  have hc1 := g1.hc hc
  simp (disch := omega) only [Nat.reduceEqDiff, ↓reduceIte, bz]
  refine (callP_0 (ef := f12) k.c12 rfl (f12_ret (m := 8) (hw.grow hc g1) hc1 (by omega))).mono ?_
  rintro y h2 ⟨sy, _, g2⟩
  have hc2 := g2.hc hc1
  have G2 := g1.trans (g2.low g1.nx)
  simp (disch := omega) only [f8_r2, Nat.reduceEqDiff, ↓reduceIte, bz]
  refine W_loop (f8_I h v w) (fun n => 3 - n) ?_ 0 ⟨by omega, G2, x, y, A.take 8, B.take 8, by simp; omega, by simp; omega, (sx.grow hc1 g2).sr, sy.sr, by simp (disch := omega) only [getK_set, Nat.reduceEqDiff, ↓reduceIte, and_self, Int.natCast_zero]⟩
  clear sx sy g1 g2 hc1 hc2 G2
  rintro n fr h1 ⟨hn, hG, x, y, X, Y, lX, lY, sx, sy, g0, g1, g5, g6, g7⟩
  have hc1 := hG.hc hc
  unfold f8_l2
  by_cases h3 : n < 3
  · have d1 : decide ((n : Int) < 3) = true := decide_eq_true (by omega)
    have e4 : fw .i64 ((n : Int) + 1) = ((n + 1 : Nat) : Int) := by rw [fw64 (by omega) (by omega)]; rfl
    have e42 := fun P => f42_eq k.c53 k.c42 lX sx sy (P := P)
    have d90 : decide (bdE X Y ≠ bdE X Y) = false := decide_eq_false fun e => e rfl
    simp (disch := omega) only [f8_r3, f8_r4, f8_r5, Nat.reduceEqDiff, ↓reduceIte, g5, g6, g7, d1, e42, bz]
    refine (callP_0 (ef := f43) k.c43 rfl (f43_ret k.toCallsC lX sx sy hc1)).mono ?_
    rintro r h2 ⟨us, rfl, lu, cu, nu, g2⟩
    have hc2 := g2.hc hc1
    have st : storeV (h2.new (.cells 4 [.sn, .sn, .sn, .sn])) 4 (.p h2.nx 0) (.agg us) = .ok undefV ((h2.new (.cells 4 [.sn, .sn, .sn, .sn])).put h2.nx (.cells 4 us)) := by
      rw [store_p (m := 4) get_new_same (cl_sn4 lu) (by omega), set4 rfl lu]
    have gB := (Grow.new (Nat.le_refl h2.nx.nat) (.cells 4 [.sn, .sn, .sn, .sn])).trans (Grow.put (h := h2.new (.cells 4 [.sn, .sn, .sn, .sn])) (k := h2.nx) (Nat.le_refl _) (by rw [nx_new]; omega) (.cells 4 us))
    have q : ((h2.new (.cells 4 [.sn, .sn, .sn, .sn])).put h2.nx (.cells 4 us)).get h2.nx = .cells 4 us := get_put_same
    have n3 : ((h2.new (.cells 4 [.sn, .sn, .sn, .sn])).put h2.nx (.cells 4 us)).nx.nat = h2.nx.nat + 1 := by rw [nx_put, nx_new]
    have G3 := g2.trans (gB.low g2.nx)
    have cu3 := fun e => (cu e).grow hc2 gB
    simp (disch := omega) only [f8_r6, Nat.reduceEqDiff, ↓reduceIte, g5, g6, st, bz]
    generalize (h2.new (.cells 4 [.sn, .sn, .sn, .sn])).put h2.nx (.cells 4 us) = h3 at *
    have hid : h2.nx.nat < h3.nx.nat := by omega
    have hc3 := G3.hc hc1
    have sx3 := sx.grow hc1 G3
    have sy3 := sy.grow hc1 G3
    refine (callP_0 (ef := f44) k.c44 rfl (f44_ret k.toCallsC lX sx3 sy3 hc3)).mono ?_
    rintro r h4 ⟨rfl, g4⟩
    have hc4 := g4.hc hc3
    have sx4 := sx3.grow hc3 g4
    have sy4 := sy3.grow hc3 g4
    simp (disch := omega) only [f8_r7, Nat.reduceEqDiff, ↓reduceIte, g5, g6, bz]
    refine (callP_0 (ef := f45) k.c45 rfl (f45_ret k.toCallsC lX sx4 sy4 hc4)).mono ?_
    rintro r h5 ⟨u, bad, rfl, hu, g5'⟩
    have hc5 := g5'.hc hc4
    have sx5 := sx4.grow hc4 g5'
    have sy5 := sy4.grow hc4 g5'
    have G45 := g4.trans (g5'.low g4.nx)
    have G5 := G3.trans (G45.low G3.nx)
    have q5 := (G45.old h2.nx hid).trans q
    have hid5 : h2.nx.nat < h5.nx.nat := Nat.lt_of_lt_of_le hid G45.nx
    have e46 := fun P => f46_eq k.toCSm k.c82 k.c46 lX sx5 sy5 (P := P)
    have hu1 : cellsN 1 u = some [u] := by
      rcases hu with ⟨_, rfl, _⟩ | ⟨_, _, _, _, _, _, su⟩
      · rfl
      · exact su.one
    have cu5 := fun e => (cu3 e).grow hc3 G45
    have HG5 := hG.trans (G5.low hG.nx)
    by_cases h0 : bdE X Y = 0
    · have d0 : decide (bdE X Y = 0) = true := decide_eq_true h0
      have d0' : decide (bdE X Y ≠ 0) = false := decide_eq_false fun e => e h0
      rw [d0, Bool.true_and]
      simp (maxSteps := 5000000) (disch := omega) only [f8_r8, f8_r10, nth2, Nat.reduceEqDiff, ↓reduceIte, Bool.false_eq_true, Bool.not_false, g5, g6, e46, d90, d0', bz]
      refine f8_cmp (n := n) (bad := bad) (us := us) (bc := h2.nx) (u := u) (v := v) (w := w) (x := x) (y := y) k h0 sx5 sy5 hc5 q5 hid5 (cu5 h0) ?_ ?_ ?_
      · rcases hu with ⟨a1, a2, a3⟩ | ⟨a1, a2, a3⟩
        · exact .inl ⟨a1, a2, a3 h0⟩
        · exact .inr ⟨a1, a3⟩
      · simp (disch := omega) only [getK_set, Nat.reduceEqDiff, ↓reduceIte, g0, g1, g5, g6, g7, and_self]
      · intro fr' h6 g6' g0' g1' g7'
        have HG6 := HG5.trans (g6'.low HG5.nx)
        refine f8_next (n := n) k (hv.grow hc HG6) (hw.grow hc HG6) (HG6.hc hc) ⟨g0', g1', g7'⟩ ?_
        intro x y X Y fr' h7 lX lY sx sy g g0 g1 g7 g5 g6
        simp (disch := omega) only [f8_r33, ↓reduceIte, g7, e4, bz]
        exact ⟨n + 1, by omega, by omega, HG6.trans (g.low HG6.nx), x, y, X, Y, lX, lY, sx, sy, by simp (disch := omega) only [getK_set, Nat.reduceEqDiff, ↓reduceIte, g0, g1, g5, g6, and_self]⟩
    · have d0 : decide (bdE X Y = 0) = false := decide_eq_false h0
      have d0' : decide (bdE X Y ≠ 0) = true := decide_eq_true h0
      rw [d0, Bool.false_and]
      obtain rfl := nu h0
      obtain ⟨rfl, rfl⟩ : bad = false ∧ u = .sn := by
        rcases hu with ⟨a1, a2, _⟩ | ⟨_, a2, _⟩
        · exact ⟨a1, a2⟩
        · exact absurd a2 h0
      have ll : ∀ h1, lenV .sn h1 = .ok (.i .i64 0) h1 := fun h1 => rfl
      have f00 : fw .i64 ((0 : Int) + 0) = 0 := rfl
      have q0 : decide ((0 : Int) ≠ 0) = false := rfl
      have m0 : loadV h5 (.p h2.nx 0) one? = .ok .sn h5 := load_p q5 rfl
      have m1 : loadV h5 (.p h2.nx 1) one? = .ok .sn h5 := load_p q5 rfl
      have m2 : loadV h5 (.p h2.nx 2) one? = .ok .sn h5 := load_p q5 rfl
      have m3 : loadV h5 (.p h2.nx 3) one? = .ok .sn h5 := load_p q5 rfl
      simp (maxSteps := 5000000) (disch := omega) only [f8_r8, f8_r10, f8_r11, nth2, Nat.reduceEqDiff, ↓reduceIte, Bool.false_eq_true, Bool.not_false, g5, g6, e46, d90, d0', ix4_0, ix4_1, ix4_2, ix4_3, m0, m1, m2, m3, ll, f00, q0, bz]
      refine f8_next (n := n) (v := v) (w := w) k (hv.grow hc HG5) (hw.grow hc HG5) (HG5.hc hc) ?_ ?_
      · simp (disch := omega) only [getK_set, Nat.reduceEqDiff, ↓reduceIte, g0, g1, g7, and_self]
      · skip
        intro x y X Y fr' h7 lX lY sx sy g g0 g1 g7 g5 g6
        simp (disch := omega) only [f8_r33, ↓reduceIte, g7, e4, bz]
        exact ⟨n + 1, by omega, by omega, HG5.trans (g.low HG5.nx), x, y, X, Y, lX, lY, sx, sy, by simp (disch := omega) only [getK_set, Nat.reduceEqDiff, ↓reduceIte, g0, g1, g5, g6, and_self]⟩
  · have d1 : decide ((n : Int) < 3) = false := decide_eq_false (by omega)
    simp (disch := omega) only [f8_r3, f8_r34, f8_rs, Option.some.injEq, exists_eq_left', ↓reduceIte, Bool.false_eq_true, g7, d1, k.aw, bz]
    exact hG
end
end Go.Ev
