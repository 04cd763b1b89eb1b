/-
  Orders: the law OrdersEither., and what follows.
-/
import Derived.Test.YtdmnejhjlmeodaaPe
import Derived.Test.YtdmnejhjlmeodaaPh
namespace Go.Ev
open Go Go.RowKit
noncomputable def f4_r0 : List EOper := [oG 6 (.as (.c (.b false)))]
noncomputable def f4_r1 : List EOper := [oG 21 (.mv (tG 0)), oG 22 (.mv (tG 1)), oG 23 (.call (fG 11) [(tG 21), (tG 22), (cG 7)]), oG 20 (.mv (tG 23)), oG 24 (.ext (tG 20) 0), oG 25 (.ext (tG 20) 1), oG 7 (.as (tG 24)), oG 8 (.as (tG 25))]
noncomputable def f4_r2 : List EOper := [oG 27 (.mv (tG 7)), oG 28 (.mv (tG 8)), oG 29 (.call (fG 23) [(tG 27), (tG 28)]), oG 26 (.mv (tG 29)), oG 30 (.ext (tG 26) 0), oG 31 (.ext (tG 26) 1), oG 32 (.ext (tG 26) 2), oG 9 (.as (tG 30)), oG 10 (.as (tG 31)), oG 11 (.as (tG 32))]
noncomputable def f4_r3 : List EOper := [oG 34 (.mv (tG 7)), oG 35 (.mv (tG 8)), oG 36 (.call (fG 24) [(tG 34), (tG 35)]), oG 33 (.mv (tG 36)), oG 37 (.ext (tG 33) 0), oG 38 (.ext (tG 33) 1), oG 39 (.ext (tG 33) 2), oG 12 (.as (tG 37)), oG 13 (.as (tG 38)), oG 14 (.as (tG 39))]
noncomputable def f4_r4 : List EOper := [oG 40 (.mv (tG 7)), oG 41 (.mv (tG 8)), oG 42 (.call (fG 25) [(tG 40), (tG 41)]), oG 15 (.as (tG 42))]
noncomputable def f4_r5 : List EOper := [oG 43 (.mv (tG 11)), oG 44 (.bin .neq (tG 43) (cG 0)), oG 45 (.mv (tG 44)), gG 46 45 false (.mv (tG 14)), gG 47 45 false (.bin .neq (tG 46) (cG 0)), oG 48 (.pick (tG 45) (.c (.b true)) (tG 47)), oG 49 (.mv (tG 48)), gG 50 49 false (.mv (tG 10)), gG 51 49 false (.mv (tG 15)), gG 52 49 false (.bin .eql (tG 51) (cG 0)), gG 53 49 false (.eqk (.one none) true (tG 50) (tG 52)), oG 54 (.pick (tG 49) (.c (.b true)) (tG 53)), oG 55 (.mv (tG 54)), gG 56 55 false (.mv (tG 13)), gG 57 55 false (.mv (tG 15)), gG 58 55 false (.bin .gtr (tG 57) (cG 0)), gG 59 55 false (.eqk (.one none) true (tG 56) (tG 58)), oG 60 (.pick (tG 55) (.c (.b true)) (tG 59))]
noncomputable def f4_r6 : List EOper := [oG 6 (.as (.c (.b false)))]
noncomputable def f4_r7 : List EOper := [oG 61 (.mv (tG 10)), oG 62 (.mv (tG 61)), gG 63 62 true (.mv (tG 7)), gG 64 62 true (.mv (tG 9)), gG 65 62 true (.call (fG 26) [(tG 63), (tG 64)]), gG 66 62 true (.not (tG 65)), gG 67 62 true (.mv (tG 66)), gG 68 67 false (.mv (tG 7)), gG 69 67 false (.mv (tG 9)), gG 70 67 false (.call (fG 27) [(tG 68), (tG 69)]), gG 71 67 false (.mv (tG 8)), gG 72 67 false (.call (fG 14) [(tG 70), (tG 71)]), gG 73 67 false (.not (tG 72)), gG 74 62 true (.pick (tG 67) (.c (.b true)) (tG 73)), oG 75 (.pick (tG 62) (tG 74) (.c (.b false))), oG 76 (.mv (tG 75)), gG 77 76 false (.mv (tG 10)), gG 78 76 false (.not (tG 77)), gG 79 76 false (.mv (tG 78)), gG 80 79 true (.mv (tG 9)), gG 81 79 true (.len (tG 80)), gG 82 79 true (.bin .neq (tG 81) (cG 0)), gG 83 76 false (.pick (tG 79) (tG 82) (.c (.b false))), oG 84 (.pick (tG 76) (.c (.b true)) (tG 83)), oG 85 (.mv (tG 84)), gG 86 85 false (.mv (tG 13)), gG 87 85 false (.mv (tG 86)), gG 88 87 true (.mv (tG 12)), gG 89 87 true (.len (tG 88)), gG 90 87 true (.mv (tG 15)), gG 91 87 true (.bin .neq (tG 89) (tG 90)), gG 92 87 true (.mv (tG 91)), gG 93 92 false (.mv (tG 7)), gG 94 92 false (.mv (tG 8)), gG 95 92 false (.mv (tG 12)), gG 96 92 false (.call (fG 28) [(tG 93), (tG 94), (tG 95)]), gG 97 92 false (.not (tG 96)), gG 98 87 true (.pick (tG 92) (.c (.b true)) (tG 97)), gG 99 85 false (.pick (tG 87) (tG 98) (.c (.b false))), oG 100 (.pick (tG 85) (.c (.b true)) (tG 99)), oG 101 (.mv (tG 100)), gG 102 101 false (.mv (tG 13)), gG 103 101 false (.not (tG 102)), gG 104 101 false (.mv (tG 103)), gG 105 104 true (.mv (tG 12)), gG 106 104 true (.len (tG 105)), gG 107 104 true (.bin .neq (tG 106) (cG 0)), gG 108 101 false (.pick (tG 104) (tG 107) (.c (.b false))), oG 109 (.pick (tG 101) (.c (.b true)) (tG 108))]
noncomputable def f4_r8 : List EOper := [oG 6 (.as (.c (.b false)))]
noncomputable def f4_r9 : List EOper := [oG 110 (.mv (tG 2)), oG 111 (.call (fG 29) [(tG 110), (cG 20)]), oG 16 (.as (tG 111))]
noncomputable def f4_r10 : List EOper := [oG 17 (.as (cG 0))]
noncomputable def f4_r11 : List EOper := [oG 112 (.mv (tG 17)), oG 113 (.bin .lss (tG 112) (cG 2))]
noncomputable def f4_r12 : List EOper := [oG 117 (.mv (tG 7)), oG 118 (.mv (tG 8)), oG 119 (.mv (tG 16)), oG 120 (.call (fG 30) [(tG 117), (tG 118), (tG 119)]), oG 116 (.mv (tG 120)), oG 121 (.ext (tG 116) 0), oG 122 (.ext (tG 116) 1), oG 18 (.as (tG 121)), oG 19 (.as (tG 122))]
noncomputable def f4_r13 : List EOper := [oG 123 (.mv (tG 19)), oG 124 (.bin .neq (tG 123) (cG 0)), oG 125 (.mv (tG 124)), gG 126 125 false (.mv (tG 18)), gG 127 125 false (.mv (tG 7)), gG 128 125 false (.mv (tG 8)), gG 129 125 false (.mv (tG 16)), gG 130 125 false (.call (fG 28) [(tG 127), (tG 128), (tG 129)]), gG 131 125 false (.eqk (.one none) true (tG 126) (tG 130)), oG 132 (.pick (tG 125) (.c (.b true)) (tG 131))]
noncomputable def f4_r14 : List EOper := [oG 6 (.as (.c (.b false)))]
noncomputable def f4_r15 : List EOper := [oG 133 (.mv (tG 12)), oG 16 (.as (tG 133))]
noncomputable def f4_r16 : List EOper := [oG 134 (.mv (tG 2)), oG 135 (.len (tG 134)), oG 136 (.bin .rem (tG 135) (cG 2)), oG 137 (.bin .eql (tG 136) (cG 0)), oG 138 (.mv (tG 137)), gG 139 138 true (.mv (tG 12)), gG 140 138 true (.len (tG 139)), gG 141 138 true (.bin .gtr (tG 140) (cG 0)), oG 142 (.pick (tG 138) (tG 141) (.c (.b false)))]
noncomputable def f4_r17 : List EOper := [oG 143 (.mv (tG 12)), oG 144 (.slice 2 (tG 143) (some (cG 1)) none none), oG 16 (.as (tG 144))]
noncomputable def f4_r18 : List EOper := [oG 114 (.mv (tG 17)), oG 115 (.bin .add (tG 114) (cG 1)), oG 17 (.as (tG 115))]
noncomputable def f4_l0 : EC := (.seq (.seq (.reg f4_r11) (.cond (tG 113) .skip (.exit 0))) (.seq (.block 1 (.seq (.reg f4_r12) (.seq (.seq (.reg f4_r13) (.cond (tG 132) (.seq (.reg f4_r14) .ret) .skip)) (.seq (.reg f4_r15) (.seq (.reg f4_r16) (.cond (tG 142) (.reg f4_r17) .skip)))))) (.reg f4_r18)))
noncomputable def f4_r19 : List EOper := [oG 145 (.call (fG 22) []), oG 6 (.as (tG 145))]
noncomputable def f4_c : EC := (.seq (.reg f4_r0) (.seq (.reg f4_r1) (.seq (.reg f4_r2) (.seq (.reg f4_r3) (.seq (.reg f4_r4) (.seq (.seq (.reg f4_r5) (.cond (tG 60) (.seq (.reg f4_r6) .ret) .skip)) (.seq (.seq (.reg f4_r7) (.cond (tG 109) (.seq (.reg f4_r8) .ret) .skip)) (.seq (.reg f4_r9) (.seq (.seq (.reg f4_r10) (.block 0 (.loop f4_l0))) (.seq (.reg f4_r19) .ret))))))))))
noncomputable def f4 : EF := ⟨146, [.tmp (.ofNat 6)], f4_c, none⟩
theorem f4_rs : f4.rs = [.tmp (.ofNat 6)] := of_eq_true (eq_self _)
structure CallsEt (fs : T EF) : Prop extends CallsCl fs, CallsKl fs, CallsIc fs, CallsRi fs, CallsIo fs where
  c11 : fs.get (K.ofNat 11) = some f11
  c23 : fs.get (K.ofNat 23) = some f23
  c24 : fs.get (K.ofNat 24) = some f24
  c25 : fs.get (K.ofNat 25) = some f25
  c26 : fs.get (K.ofNat 26) = some f26
  c27 : fs.get (K.ofNat 27) = some f27
  c14 : fs.get (K.ofNat 14) = some f14
  c28 : fs.get (K.ofNat 28) = some f28
  c29 : fs.get (K.ofNat 29) = some f29
  c30 : fs.get (K.ofNat 30) = some f30
  aw : ∀ h P, CallP fs (.fn (K.ofNat 22) []) [] h P = P (.b true) h
section
variable {fs : T EF} {h : H}
theorem clD_bO {n : Nat} {g : Nat → Nat → Bool} {b : Bool} {F : List Bool} (hg : Gph n g) (x : OrI g b F) : decide ((clD (gR (arI g)) : Int) = 0) = b := by
  have hsy := symR_g hg
  cases b with
  | true => exact decide_eq_true (by have := clD_zero.2 ((x.yes rfl).cf hsy.gr); omega)
  | false => exact decide_eq_false fun h => (x.no rfl).2 (clD_zero.1 (by omega))
theorem WayC.isC {G : List Bool} {s : Nat × Nat} {C : List (Nat × Nat)} {d : Nat} (hs : rat G s.1 s.2 = true) (w : WayC G s (swN s) d C) : IsC G (C.map toI) := by
  have hl := w.len
  have hml : (C.map toI).length = d + 1 := by rw [List.length_map]; exact hl
  refine ⟨by omega, fun j hj => ?_, toI s, by rw [List.getElem?_map, w.beg]; rfl, by rw [hml, Nat.add_sub_cancel, List.getElem?_map, w.last]; rfl⟩
  have hj' : j < C.length := by omega
  obtain ⟨x, hx⟩ : ∃ x, C[j]? = some x := ⟨_, List.getElem?_eq_getElem hj'⟩
  by_cases h0 : 0 < j
  · obtain ⟨v, hv⟩ : ∃ v, C[j - 1]? = some v := ⟨C[j - 1]'(by omega), List.getElem?_eq_getElem (by omega)⟩
    have hst := w.st (j - 1) v x hv (by rw [show j - 1 + 1 = j by omega]; exact hx)
    exact ⟨x, by rw [List.getElem?_map, hx]; rfl, fcY_arr hst, fun _ => ⟨v, by rw [List.getElem?_map, hv]; rfl, hst⟩⟩
  · have : j = 0 := by omega
    subst this
    rw [w.beg] at hx
    obtain rfl := Option.some.inj hx
    exact ⟨s, by rw [List.getElem?_map, w.beg]; rfl, hs, fun h => absurd h h0⟩
theorem way_inI {G : List Bool} {s : Nat × Nat} {C : List (Nat × Nat)} {d : Nat} (hs : rat G s.1 s.2 = true) (w : WayC G s (swN s) d C) : ∀ y ∈ C.map toI, inI y := fun y hy => by
  obtain ⟨j, hj, rfl⟩ := List.getElem_of_mem hy
  obtain ⟨x, h1, h2, _⟩ := (w.isC hs).2.1 j hj
  have hx := rat_lt h2
  rw [List.getElem?_eq_getElem hj] at h1
  rw [Option.some.inj h1]
  exact inI_nat hx.1 hx.2
def f4_I (h0 : H) (m _n : Nat) (e a c : V) (_G : List Bool) (_Cl : List (Int × Int)) (kk : Nat) (fr : Fr) (h1 : H) : Prop := kk ≤ 2 ∧ Grow h0.nx.nat h0 h1 ∧ HC h1 ∧ (∃ u P, Srp h1 u P ∧ (∀ y ∈ P, inI y) ∧ P.length ≤ 1000 ∧ fr.get (K.ofNat 16) = some u) ∧ fr.get (K.ofNat 2) = some (a) ∧ fr.get (K.ofNat 7) = some (.i .i64 (m : Int)) ∧ fr.get (K.ofNat 8) = some (e) ∧ fr.get (K.ofNat 12) = some (c) ∧ fr.get (K.ofNat 17) = some (.i .i64 (kk : Int))
set_option maxRecDepth 100000 in
theorem f4_tail {m : Nat} {e a c : V} {g : Nat → Nat → Bool} {A Cl : List (Int × Int)} {Q : V → H → Prop} (k : CallsEt fs) (hQ : ∀ h', Grow h.nx.nat h h' → Q (.b true) h') (hg : Gph m g) (he : Srp h e (arI g)) (ha : Srp h a A) (hA : ∀ y ∈ A, inI y) (hc_ : Srp h c Cl) (hC : ∀ y ∈ Cl, inI y) (hCl : Cl.length ≤ 1000) (hc : HC h) {fr : Fr} (g2 : fr.get (.ofNat 2) = some a) (g7 : fr.get (.ofNat 7) = some (.i .i64 (m : Int))) (g8 : fr.get (.ofNat 8) = some e) (g12 : fr.get (.ofNat 12) = some c) :
    W fs none (.reg f4_r9) (seqK (W fs none (.seq (.seq (.reg f4_r10) (.block 0 (.loop f4_l0))) (.seq (.reg f4_r19) .ret))) (retK f4 Q)) fr h := by
  have o20 : Int.ofNat 20 = ((20 : Nat) : Int) := rfl
  simp (disch := omega) only [f4_r9, ↓reduceIte, of20, g2, bz]
  refine (callP_0 (ef := f29) k.c29 rfl (f29_ret (m := 20) (by omega) ha hc)).mono ?_
  rintro u h1 ⟨hu, _, g1⟩
  have hc1 := g1.hc hc
  simp (disch := omega) only [f4_r10, ↓reduceIte, bz]
  refine W_loop (f4_I h m A.length e a c (gR (arI g)) Cl) (fun kk => 2 - kk) ?_ 0 ⟨by omega, g1, hc1, ⟨u, _, hu.srpo, fun y hy => hA y (List.mem_of_mem_take hy), by rw [List.length_take]; omega, by simp (disch := omega) only [getK_set, Nat.reduceEqDiff, ↓reduceIte]⟩, by simp (disch := omega) only [getK_set, Nat.reduceEqDiff, ↓reduceIte, g2, g7, g8, g12, and_self, Int.natCast_zero]⟩
  clear g2 g7 g8 g12 fr
  clear hu
  rintro kk fr h2 ⟨hkk, hG, hc2, ⟨u, P, hu, hP, hPl, g16⟩, g2, g7, g8, g12, g17⟩
  unfold f4_l0
  by_cases hk : kk < 2
  · have d0 : decide ((kk : Int) < 2) = true := decide_eq_true (by omega)
    have he2 := he.grow hc hG
    simp (disch := omega) only [f4_r11, f4_r12, Nat.reduceEqDiff, ↓reduceIte, g7, g8, g16, g17, d0, bz]
    refine (callP_0 (ef := f30) k.c30 rfl (f30_ret k.toCallsIc hg he2 hu hP hPl hc2)).mono ?_
    rintro r h3 ⟨b, rfl, hb, g3⟩
    have hc3 := g3.hc hc2
    have ne0 : decide ((0 : Int) ≠ 0) = false := rfl
    simp (disch := omega) only [f4_r13, Nat.reduceEqDiff, ↓reduceIte, Bool.not_false, g7, g8, g16, ne0, bz]
    refine (callP_0 (ef := f28) k.c28 rfl (f28_ret k.toCallsRi hg (he2.grow hc2 g3) (hu.grow hc2 g3) hP hPl hc3)).mono ?_
    rintro r h4 ⟨b', rfl, hb', g4⟩
    have hc4 := g4.hc hc3
    obtain rfl : b = b' := by rw [Bool.eq_iff_iff, hb, hb']
    have kq : keyEq (.one none) (.b b) (.b b) = some true := by cases b <;> rfl
    have hG4 := hG.trans ((g3.trans (g4.low g3.nx)).low hG.nx)
    have hla := ha.len
    have hlc := hc_.len
    have hc4' := hc_.grow hc hG4
    have hr2 : ∀ z, binV .rem (.i .i64 z) (.i .i64 2) = some (.i .i64 (z.tmod 2)) := fun z => bin_rem (by omega)
    cases hd : decide ((A.length : Int).tmod 2 = 0) with
    | false =>
      simp (disch := omega) only [f4_r15, f4_r16, f4_r18, Nat.reduceEqDiff, ↓reduceIte, Bool.false_eq_true, Bool.not_true, Bool.not_false, g2, g12, g17, kq, cond_true, hla, hr2, hd, bz]
      exact ⟨kk + 1, by omega, by omega, hG4, hc4, ⟨c, Cl, hc4', hC, hCl, by simp (disch := omega) only [getK_set, Nat.reduceEqDiff, ↓reduceIte]⟩, by simp (disch := omega) only [getK_set, Nat.reduceEqDiff, ↓reduceIte, g2, g7, g8, g12, and_self, Int.natCast_add, Int.natCast_one]⟩
    | true =>
      match Cl, hC, hCl, hlc, hc4' with
      | [], hC, hCl, hlc, hc4' =>
        have d1 : decide ((([] : List (Int × Int)).length : Int) > 0) = false := rfl
        have d1' : decide (0 < (([] : List (Int × Int)).length : Int)) = false := rfl
        simp (disch := omega) only [f4_r15, f4_r16, f4_r18, Nat.reduceEqDiff, ↓reduceIte, Bool.false_eq_true, Bool.not_true, Bool.not_false, g2, g12, g17, kq, cond_true, hla, hr2, hd, hlc, d1, bz]
        exact ⟨kk + 1, by omega, by omega, hG4, hc4, ⟨c, [], hc4', hC, hCl, by simp (disch := omega) only [getK_set, Nat.reduceEqDiff, ↓reduceIte]⟩, by simp (disch := omega) only [getK_set, Nat.reduceEqDiff, ↓reduceIte, g2, g7, g8, g12, and_self, Int.natCast_add, Int.natCast_one]⟩
      | x :: Cl, hC, hCl, hlc, hc4' =>
        have d1 : decide (((x :: Cl).length : Int) > 0) = true := decide_eq_true (by simp only [List.length_cons]; omega)
        have d1' : decide (0 < ((x :: Cl).length : Int)) = true := decide_eq_true (by simp only [List.length_cons]; omega)
        obtain ⟨w, hw, hsw⟩ := hc4'.from1
        simp (disch := omega) only [f4_r15, f4_r16, f4_r17, f4_r18, x_slice, sliceV_eq, Option.map_none, Option.map_some, Nat.reduceEqDiff, ↓reduceIte, Bool.false_eq_true, Bool.not_true, Bool.not_false, g2, g12, g17, kq, cond_true, hla, hr2, hd, hlc, d1, hw, bz]
        exact ⟨kk + 1, by omega, by omega, hG4, hc4, ⟨w, Cl, hsw, fun y hy => hC y (List.mem_cons_of_mem _ hy), by simp only [List.length_cons] at hCl; omega, by simp (disch := omega) only [getK_set, Nat.reduceEqDiff, ↓reduceIte]⟩, by simp (disch := omega) only [getK_set, Nat.reduceEqDiff, ↓reduceIte, g2, g7, g8, g12, and_self, Int.natCast_add, Int.natCast_one]⟩
  · have d0 : decide ((kk : Int) < 2) = false := decide_eq_false (by omega)
    simp (disch := omega) only [f4_r11, f4_r19, f4_rs, Option.some.injEq, exists_eq_left', ↓reduceIte, Bool.false_eq_true, g17, d0, k.aw, bz]
    exact hQ _ hG
set_option maxRecDepth 100000 in
theorem f4_ret {n : Int} {v a : V} {l A : List (Int × Int)} (k : CallsEt fs) (hA : ∀ y ∈ A, inI y) (hv : Srp h v l) (ha : Srp h a A) (hc : HC h) : Ret fs f4 [.i .i64 n, v, a] h fun r h' => r = .b true ∧ Grow h.nx.nat h h' := by
  apply ret_of rfl
  show W fs none f4_c _ _ _
  unfold f4_c
  have o7 : Int.ofNat 7 = ((7 : Nat) : Int) := rfl
  simp (disch := omega) only [f4_r0, f4_r1, Nat.reduceEqDiff, ↓reduceIte, bz]
  refine (callP_0 (ef := f11) k.c11 rfl (f11_ret (n := n) (w := 7) hv (by omega) (by omega) hc)).mono ?_
  rintro r h1 ⟨m, e, g, rfl, hm7, hg, he, hoe, gr1⟩
  have hc1 := gr1.hc hc
  have hsy := symR_g hg
  simp (disch := omega) only [f4_r2, Nat.reduceEqDiff, ↓reduceIte, bz]
  refine (callP_0 (ef := f23) k.c23 rfl (f23_ret k.toCallsOr hg he.srpo hc1)).mono ?_
  rintro r h2 ⟨b, F, o, rfl, hF, ho, hoo, gr2⟩
  have hc2 := gr2.hc hc1
  have he2 := he.grow hc1 gr2
  simp (disch := omega) only [f4_r3, nth2, Nat.reduceEqDiff, ↓reduceIte, bz]
  refine (callP_0 (ef := f24) k.c24 rfl (f24c_ret k.toCallsCl hg he2.srpo hc2)).mono ?_
  rintro r h3 ⟨c, f, rfl, hf, gr3⟩
  have hc3 := gr3.hc hc2
  have he3 := he2.grow hc2 gr3
  simp (disch := omega) only [f4_r4, nth2, Nat.reduceEqDiff, ↓reduceIte, bz]
  refine (callP_0 (ef := f25) k.c25 rfl (f25_ret k.toCallsKl hg he3.srpo hc3)).mono ?_
  rintro r h4 ⟨rfl, gr4⟩
  have hc4 := gr4.hc hc3
  have he4 := he3.grow hc3 gr4
  have g12 := gr1.trans (gr2.low gr1.nx)
  have g13 := g12.trans (gr3.low g12.nx)
  have g14 := g13.trans (gr4.low g13.nx)
  have ho4 := (ho.grow hc2 gr3).grow hc3 gr4
  have ne0 : decide ((0 : Int) ≠ 0) = false := rfl
  have kk : ∀ c : Bool, keyEq (.one none) (.b c) (.b c) = some true := fun c => by cases c <;> rfl
  have db := clD_bO hg hF
  have hlb := arI_len (g := g)
  have hQ : ∀ {hh : H}, Grow h.nx.nat h hh → ∀ h', Grow hh.nx.nat hh h' → (V.b true = .b true ∧ Grow h.nx.nat h h') := fun {hh} g h' g' => ⟨rfl, g.trans (g'.low g.nx)⟩
  cases b with
  | true =>
    have oF := hF.yes rfl
    have oN := ord_n hg hF.len oF
    have hz : clD (gR (arI g)) = 0 := by have := of_decide_eq_true db; omega
    rcases hf with ⟨rfl, rfl, _⟩ | ⟨s, C, _, _, hw, hl, _⟩
    · have d1 : decide ((clD (gR (arI g)) : Int) > 0) = false := decide_eq_false (by omega)
      have d1' : decide (0 < (clD (gR (arI g)) : Int)) = false := decide_eq_false (by omega)
      simp (disch := omega) only [f4_r5, f4_r7, Nat.reduceEqDiff, ↓reduceIte, Bool.false_eq_true, Bool.not_true, Bool.not_false, ne0, db, d1, kk, cond_true, bz]
      refine (callP_0 (ef := f26) k.c26 rfl (f26_ret k.toCallsIo oN.lt ho4.srpo hc4)).mono ?_
      rintro r h5 ⟨bb, rfl, hbb, gr5⟩
      obtain rfl : bb = true := hbb.2 fun x hx => by
        have hxx : rat F x.2 x.1 = false := by
          cases e : rat F x.2 x.1 with
          | false => rfl
          | true => exact absurd (oN.tr _ _ _ hx e) (oN.irr _)
        exact ⟨fun e => oN.irr x.1 (by rw [← e] at hx; exact hx), hxx, fun c hc => oN.tr _ _ _ hx hc⟩
      have hc5 := gr5.hc hc4
      have hgF : ∀ a b, a < b → (g a b = true ↔ rat F a b = true ∨ rat F b a = true) := fun a b hab => by
        constructor
        · intro h
          have he : Er (gR (arI g)) a b := by show rat (gR (arI g)) a b = true; rw [gR_arI hg]; unfold sy; rw [h]; rfl
          exact oF.all _ _ he
        · intro h
          have he : Er (gR (arI g)) a b := h.elim (oF.sub _ _) fun h => hsy.gr.sym _ _ (oF.sub _ _ h)
          have he : rat (gR (arI g)) a b = true := he
          rw [gR_arI hg] at he
          unfold sy at he
          rw [Bool.or_eq_true] at he
          exact he.elim id fun h => by have := hg.up _ _ h; omega
      simp (disch := omega) only [Nat.reduceEqDiff, ↓reduceIte, Bool.not_true, Bool.not_false, bz]
      refine (callP_0 (ef := f27) k.c27 rfl (f27_ret k.c40 hg hgF (ho4.grow hc4 gr5).srpo hc5)).mono ?_
      rintro w h6 ⟨hw, _, gr6⟩
      have hc6 := gr6.hc hc5
      have he6 := (he4.grow hc4 gr5).grow hc5 gr6
      simp (disch := omega) only [Nat.reduceEqDiff, ↓reduceIte, Bool.not_false, bz]
      refine (callP_0 (ef := f14) k.c14 rfl (f14_ret hw.srpo he6.srpo inI_arI (by omega))).mono ?_
      rintro r h6' ⟨rfl, rfl⟩
      have ls : lenV .sn h6' = .ok (.i .i64 0) h6' := rfl
      simp (disch := omega) only [len_sn, Nat.reduceEqDiff, ↓reduceIte, Bool.false_eq_true, Bool.not_true, Bool.not_false, ne0, bz]
      have g15 := g14.trans (gr5.low g14.nx)
      have g16 := g15.trans (gr6.low g15.nx)
      exact f4_tail (h := h6') (A := A) (Cl := []) k (hQ g16) hg he6.srpo (ha.grow hc g16) hA (.inl ⟨rfl, by simp, by simp⟩) (fun y hy => by simp at hy) (by simp) hc6 (by simp (disch := omega) only [getK_set, Nat.reduceEqDiff, ↓reduceIte]) (by simp (disch := omega) only [getK_set, Nat.reduceEqDiff, ↓reduceIte]) (by simp (disch := omega) only [getK_set, Nat.reduceEqDiff, ↓reduceIte]) (by simp (disch := omega) only [getK_set, Nat.reduceEqDiff, ↓reduceIte])
    · have := hw.len; omega
  | false =>
    have hFz := (hF.no rfl).1
    have hz : clD (gR (arI g)) ≠ 0 := by have := of_decide_eq_false db; omega
    rcases hf with ⟨_, _, h0⟩ | ⟨s, C, rfl, hsG, hw, hl, hsk, hC60⟩
    · exact absurd h0 hz
    · have d1 : decide ((clD (gR (arI g)) : Int) > 0) = true := decide_eq_true (by omega)
      have d1' : decide (0 < (clD (gR (arI g)) : Int)) = true := decide_eq_true (by omega)
      have hol : arI (rat F) = [] := by
        rw [hFz]
        apply List.eq_nil_iff_forall_not_mem.2
        intro x hx
        obtain ⟨a, b, _, _, h1, _⟩ := mem_arI.1 hx
        rw [rat_rl] at h1
        simp at h1
      rw [hol] at ho4
      have hlo := ho4.len
      have hsk4 := hsk.grow hc3 gr4
      have hlc := hsk4.len
      rw [List.length_map, hl] at hlc
      have hwI := way_inI hsG hw
      have hz0 : decide ((([] : List (Int × Int)).length : Int) ≠ 0) = false := rfl
      have dl : decide ((clD (gR (arI g)) : Int) ≠ (clD (gR (arI g)) : Int)) = false := by simp
      have hCl : (C.map toI).length ≤ 1000 := by
        rw [List.length_map]; omega
      simp (disch := omega) only [f4_r5, f4_r7, Nat.reduceEqDiff, ↓reduceIte, Bool.false_eq_true, Bool.not_true, Bool.not_false, ne0, db, d1, kk, cond_true, hlo, hz0, hlc, dl, bz]
      refine (callP_0 (ef := f28) k.c28 rfl (f28_ret k.toCallsRi hg he4.srpo hsk4.srpo hwI hCl hc4)).mono ?_
      rintro r h5 ⟨bb, rfl, hbb, gr5⟩
      obtain rfl : bb = true := hbb.2 (hw.isC hsG)
      simp (disch := omega) only [Nat.reduceEqDiff, ↓reduceIte, Bool.false_eq_true, Bool.not_true, Bool.not_false, bz]
      have g15 := g14.trans (gr5.low g14.nx)
      exact f4_tail (h := h5) (A := A) (Cl := C.map toI) k (hQ g15) hg (he4.grow hc4 gr5).srpo (ha.grow hc g15) hA (hsk4.grow hc4 gr5).srpo hwI hCl (gr5.hc hc4) (by simp (disch := omega) only [getK_set, Nat.reduceEqDiff, ↓reduceIte]) (by simp (disch := omega) only [getK_set, Nat.reduceEqDiff, ↓reduceIte]) (by simp (disch := omega) only [getK_set, Nat.reduceEqDiff, ↓reduceIte]) (by simp (disch := omega) only [getK_set, Nat.reduceEqDiff, ↓reduceIte])
end
end Go.Ev
