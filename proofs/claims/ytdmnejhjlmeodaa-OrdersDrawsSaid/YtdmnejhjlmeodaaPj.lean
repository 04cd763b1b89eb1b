/-
  Orders: the law OrdersDraws., and what follows.
-/
import Derived.Test.YtdmnejhjlmeodaaPe
import Derived.Test.YtdmnejhjlmeodaaPi
namespace Go.Ev
open Go Go.RowKit
noncomputable def f6_r0 : List EOper := [oG 5 (.box 2 (tG 2)), oG 6 (.as (.c (.b false)))]
noncomputable def f6_r1 : List EOper := [oG 20 (.mv (tG 0)), oG 21 (.mv (tG 1)), oG 22 (.call (fG 11) [(tG 20), (tG 21), (cG 7)]), oG 19 (.mv (tG 22)), oG 23 (.ext (tG 19) 0), oG 24 (.ext (tG 19) 1), oG 7 (.as (tG 23)), oG 8 (.as (tG 24))]
noncomputable def f6_r2 : List EOper := [oG 26 (.mv (tG 7)), oG 27 (.mv (tG 8)), oG 28 (.call (fG 33) [(tG 26), (tG 27)]), oG 25 (.mv (tG 28)), oG 29 (.ext (tG 25) 0), oG 30 (.ext (tG 25) 1), oG 31 (.ext (tG 25) 2), oG 9 (.alloc 2 [.sn, .sn]), ⟨none, none, .st 2 (tG 9) (tG 29)⟩, oG 10 (.as (tG 30)), oG 11 (.as (tG 31))]
noncomputable def f6_r3 : List EOper := [oG 32 (.mv (tG 7)), oG 33 (.mv (tG 8)), oG 34 (.call (fG 25) [(tG 32), (tG 33)]), oG 35 (.bin .eql (tG 34) (cG 0)), oG 36 (.mv (tG 35)), gG 37 36 true (.mv (tG 7)), gG 38 36 true (.mv (tG 7)), gG 39 36 true (.mv (tG 8)), gG 40 36 true (.call (fG 15) [(tG 38), (tG 39)]), gG 41 36 true (.call (fG 25) [(tG 37), (tG 40)]), gG 42 36 true (.bin .eql (tG 41) (cG 0)), oG 43 (.pick (tG 36) (tG 42) (.c (.b false))), oG 12 (.as (tG 43))]
noncomputable def f6_r4 : List EOper := [oG 44 (.mv (tG 11)), oG 45 (.bin .neq (tG 44) (cG 0)), oG 46 (.mv (tG 45)), gG 47 46 false (.mv (tG 10)), gG 48 46 false (.mv (tG 12)), gG 49 46 false (.eqk (.one none) true (tG 47) (tG 48)), oG 50 (.pick (tG 46) (.c (.b true)) (tG 49)), oG 51 (.mv (tG 50)), gG 52 51 false (.mv (tG 10)), gG 53 51 false (.mv (tG 52)), gG 54 53 true (.mv (tG 7)), gG 55 53 true (.ldn 2 (tG 9)), gG 56 53 true (.call (fG 34) [(tG 54), (tG 55)]), gG 57 53 true (.not (tG 56)), gG 58 53 true (.mv (tG 57)), gG 59 58 false (.mv (tG 7)), gG 60 58 false (.ldn 2 (tG 9)), gG 61 58 false (.call (fG 35) [(tG 59), (tG 60)]), gG 62 58 false (.mv (tG 8)), gG 63 58 false (.call (fG 14) [(tG 61), (tG 62)]), gG 64 58 false (.not (tG 63)), gG 65 53 true (.pick (tG 58) (.c (.b true)) (tG 64)), gG 66 51 false (.pick (tG 53) (tG 65) (.c (.b false))), oG 67 (.pick (tG 51) (.c (.b true)) (tG 66)), oG 68 (.mv (tG 67)), gG 69 68 false (.mv (tG 10)), gG 70 68 false (.not (tG 69)), gG 71 68 false (.mv (tG 70)), gG 72 71 true (.iadr 2 1 (tG 9) (cG 0)), gG 73 71 true (.ld (tG 72)), gG 74 71 true (.len (tG 73)), gG 75 71 true (.iadr 2 1 (tG 9) (cG 1)), gG 76 71 true (.ld (tG 75)), gG 77 71 true (.len (tG 76)), gG 78 71 true (.bin .add (tG 74) (tG 77)), gG 79 71 true (.bin .neq (tG 78) (cG 0)), gG 80 68 false (.pick (tG 71) (tG 79) (.c (.b false))), oG 81 (.pick (tG 68) (.c (.b true)) (tG 80))]
noncomputable def f6_r5 : List EOper := [oG 6 (.as (.c (.b false)))]
noncomputable def f6_r6 : List Stage := [⟨[oG 82 (.iadr 2 1 (tG 5) (cG 0)), oG 83 (.ld (tG 82)), oG 84 (.iadr 2 1 (tG 5) (cG 0)), oG 85 (.ld (tG 84)), oG 86 (.len (tG 85)), oG 87 (.min (tG 86) (cG 9)), oG 88 (.iadr 2 1 (tG 5) (cG 0)), oG 89 (.ld (tG 88)), oG 90 (.len (tG 89)), oG 91 (.min (tG 90) (cG 9)), oG 92 (.slice 1 (tG 83) none (some (tG 87)) (some (tG 91))), oG 93 (.iadr 2 1 (tG 5) (cG 1)), oG 94 (.ld (tG 93)), oG 95 (.iadr 2 1 (tG 5) (cG 1)), oG 96 (.ld (tG 95)), oG 97 (.len (tG 96)), oG 98 (.min (tG 97) (cG 9)), oG 99 (.iadr 2 1 (tG 5) (cG 1)), oG 100 (.ld (tG 99)), oG 101 (.len (tG 100)), oG 102 (.min (tG 101) (cG 9)), oG 103 (.slice 1 (tG 94) none (some (tG 98)) (some (tG 102))), oG 104 (.build [.sn, .sn] [(0, 1, (tG 92)), (1, 1, (tG 103))]), oG 13 (.alloc 2 [.sn, .sn])], [], (some ⟨none, none, .st 2 (tG 13) (tG 104)⟩), [(.ofNat 13)]⟩, ⟨[], [], none, []⟩]
noncomputable def f6_r7 : List EOper := [oG 14 (.as (cG 0))]
noncomputable def f6_r8 : List EOper := [oG 105 (.mv (tG 14)), oG 106 (.bin .lss (tG 105) (cG 2))]
noncomputable def f6_r9 : List EOper := [oG 110 (.mv (tG 0)), oG 111 (.ldn 2 (tG 13)), oG 112 (.call (fG 36) [(tG 110), (tG 111)]), oG 109 (.mv (tG 112)), oG 113 (.ext (tG 109) 0), oG 114 (.ext (tG 109) 1), oG 15 (.as (tG 113)), oG 16 (.as (tG 114))]
noncomputable def f6_r10 : List EOper := [oG 116 (.mv (tG 0)), oG 117 (.ldn 2 (tG 13)), oG 118 (.call (fG 37) [(tG 116), (tG 117)]), oG 115 (.mv (tG 118)), oG 119 (.ext (tG 115) 0), oG 120 (.ext (tG 115) 1), oG 17 (.as (tG 119)), oG 18 (.as (tG 120))]
noncomputable def f6_r11 : List EOper := [oG 121 (.mv (tG 0)), oG 122 (.bin .lss (tG 121) (cG 1)), oG 123 (.mv (tG 122)), gG 124 123 false (.mv (tG 0)), gG 125 123 false (.bin .gtr (tG 124) (cG 7)), oG 126 (.pick (tG 123) (.c (.b true)) (tG 125)), oG 127 (.mv (tG 126)), gG 128 127 false (.mv (tG 0)), gG 129 127 false (.ldn 2 (tG 13)), gG 130 127 false (.call (fG 34) [(tG 128), (tG 129)]), gG 131 127 false (.not (tG 130)), oG 132 (.pick (tG 127) (.c (.b true)) (tG 131))]
noncomputable def f6_r12 : List EOper := [oG 133 (.mv (tG 16)), oG 134 (.bin .neq (tG 133) (cG 1)), oG 135 (.mv (tG 134)), gG 136 135 false (.mv (tG 18)), gG 137 135 false (.bin .neq (tG 136) (cG 1)), oG 138 (.pick (tG 135) (.c (.b true)) (tG 137)), oG 139 (.mv (tG 138)), gG 140 139 false (.mv (tG 15)), gG 141 139 false (.len (tG 140)), gG 142 139 false (.mv (tG 17)), gG 143 139 false (.len (tG 142)), gG 144 139 false (.bin .add (tG 141) (tG 143)), gG 145 139 false (.bin .neq (tG 144) (cG 0)), oG 146 (.pick (tG 139) (.c (.b true)) (tG 145))]
noncomputable def f6_r13 : List EOper := [oG 6 (.as (.c (.b false)))]
noncomputable def f6_r14 : List EOper := [oG 147 (.mv (tG 16)), oG 148 (.bin .neq (tG 147) (cG 0)), oG 149 (.mv (tG 148)), gG 150 149 false (.mv (tG 15)), gG 151 149 false (.mv (tG 0)), gG 152 149 false (.ldn 2 (tG 13)), gG 153 149 false (.call (fG 35) [(tG 151), (tG 152)]), gG 154 149 false (.call (fG 14) [(tG 150), (tG 153)]), gG 155 149 false (.not (tG 154)), oG 156 (.pick (tG 149) (.c (.b true)) (tG 155)), oG 157 (.mv (tG 156)), gG 158 157 false (.mv (tG 18)), gG 159 157 false (.bin .neq (tG 158) (cG 0)), oG 160 (.pick (tG 157) (.c (.b true)) (tG 159)), oG 161 (.mv (tG 160)), gG 162 161 false (.mv (tG 17)), gG 163 161 false (.mv (tG 0)), gG 164 161 false (.ldn 2 (tG 13)), gG 165 161 false (.call (fG 38) [(tG 163), (tG 164)]), gG 166 161 false (.call (fG 14) [(tG 162), (tG 165)]), gG 167 161 false (.not (tG 166)), oG 168 (.pick (tG 161) (.c (.b true)) (tG 167))]
noncomputable def f6_r15 : List EOper := [oG 6 (.as (.c (.b false)))]
noncomputable def f6_r16 : List EOper := [oG 170 (.mv (tG 0)), oG 171 (.ldn 2 (tG 5)), oG 172 (.call (fG 39) [(tG 170), (tG 171)]), oG 169 (.mv (tG 172)), oG 173 (.ext (tG 169) 0), oG 174 (.ext (tG 169) 1), oG 0 (.as (tG 173)), ⟨none, none, .st 2 (tG 13) (tG 174)⟩]
noncomputable def f6_r17 : List EOper := [oG 107 (.mv (tG 14)), oG 108 (.bin .add (tG 107) (cG 1)), oG 14 (.as (tG 108))]
noncomputable def f6_l0 : EC := (.seq (.seq (.reg f6_r8) (.cond (tG 106) .skip (.exit 0))) (.seq (.block 1 (.seq (.reg f6_r9) (.seq (.reg f6_r10) (.seq (.seq (.reg f6_r11) (.cond (tG 132) (.seq (.reg f6_r12) (.cond (tG 146) (.seq (.reg f6_r13) .ret) .skip)) (.seq (.reg f6_r14) (.cond (tG 168) (.seq (.reg f6_r15) .ret) .skip)))) (.reg f6_r16))))) (.reg f6_r17)))
noncomputable def f6_r18 : List EOper := [oG 175 (.call (fG 22) []), oG 6 (.as (tG 175))]
noncomputable def f6_c : EC := (.seq (.reg f6_r0) (.seq (.reg f6_r1) (.seq (.reg f6_r2) (.seq (.reg f6_r3) (.seq (.seq (.reg f6_r4) (.cond (tG 81) (.seq (.reg f6_r5) .ret) .skip)) (.seq (.draw f6_r6) (.seq (.seq (.reg f6_r7) (.block 0 (.loop f6_l0))) (.seq (.reg f6_r18) .ret))))))))
noncomputable def f6 : EF := ⟨176, [.tmp (.ofNat 6)], f6_c, none⟩
theorem f6_rs : f6.rs = [.tmp (.ofNat 6)] := of_eq_true (eq_self _)
structure CallsDr (fs : T EF) : Prop extends CallsDw fs, CallsDn fs, CallsKl fs where
  c11 : fs.get (K.ofNat 11) = some f11
  c33 : fs.get (K.ofNat 33) = some f33
  c25 : fs.get (K.ofNat 25) = some f25
  c15 : fs.get (K.ofNat 15) = some f15
  c14 : fs.get (K.ofNat 14) = some f14
  c34 : fs.get (K.ofNat 34) = some f34
  c35 : fs.get (K.ofNat 35) = some f35
  c38 : fs.get (K.ofNat 38) = some f38
  c67 : fs.get (K.ofNat 67) = some f67
  c36 : fs.get (K.ofNat 36) = some f36
  c37 : fs.get (K.ofNat 37) = some f37
  c39 : fs.get (K.ofNat 39) = some f39
  aw : ∀ h P, CallP fs (.fn (K.ofNat 22) []) [] h P = P (.b true) h
section
variable {fs : T EF} {h : H}
def f6_I (h0 : H) (id5 : K) (v w : V) (z : Nat × Int) (fr : Fr) (h1 : H) : Prop := z.1 ≤ 2 ∧ Grow h0.nx.nat h0 h1 ∧ HC h1 ∧ h1.get id5 = .cells 2 [v, w] ∧ (∃ z0 z1 Z0 Z1, h1.get h0.nx = .cells 2 [z0, z1] ∧ Rx h1 z0 Z0 ∧ Rx h1 z1 Z1 ∧ Z0.length ≤ 9 ∧ Z1.length ≤ 9) ∧ fr.get (K.ofNat 0) = some (.i .i64 z.2) ∧ fr.get (K.ofNat 5) = some (.p id5 0) ∧ fr.get (K.ofNat 13) = some (.p h0.nx 0) ∧ fr.get (K.ofNat 14) = some (.i .i64 (z.1 : Int))
theorem clD_b {n : Nat} {g : Nat → Nat → Bool} {b : Bool} {F : List Bool} (hg : Gph n g) (x : OrI g b F) : decide ((clD (gR (arI g)) : Int) = 0) = b := by
  have hsy := symR_g hg
  cases b with
  | true => exact decide_eq_true (by have := clD_zero.2 ((x.yes rfl).cf hsy.gr); omega)
  | false => exact decide_eq_false fun h => (x.no rfl).2 (clD_zero.1 (by omega))
set_option maxRecDepth 100000 in
theorem f6_tail {n : Int} {v w : V} {X Y : List Int} {id5 : K} {Q : V → H → Prop} (k : CallsDr fs) (hQ : ∀ h', Grow h.nx.nat h h' → Q (.b true) h') (hv : Sr iE h v X) (hw : Sr iE h w Y) (hX : X.length ≤ 9223372036854775807) (hY : Y.length ≤ 9223372036854775807) (hc : HC h) (e5 : h.get id5 = .cells 2 [v, w]) {fr : Fr} (g0 : fr.get (.ofNat 0) = some (.i .i64 n)) (g5 : fr.get (.ofNat 5) = some (.p id5 0)) :
    W fs none (.draw f6_r6) (seqK (W fs none (.seq (.seq (.reg f6_r7) (.block 0 (.loop f6_l0))) (.seq (.reg f6_r18) .ret))) (retK f6 Q)) fr h := by
  have l0 := ld20 e5
  have l1 := ld21 e5
  have lx := hv.len
  have ly := hw.len
  have m9 : ∀ a : Nat, min (a : Int) 9 = ((min a 9 : Nat) : Int) := fun a => by omega
  obtain ⟨u0, q0, s0⟩ := hv.cutX (m := min X.length 9) (Nat.min_le_left _ _)
  obtain ⟨u1, q1, s1⟩ := hw.cutX (m := min Y.length 9) (Nat.min_le_left _ _)
  have n1 := nx_new h (.cells 2 [.sn, .sn])
  have e1 : (h.new (.cells 2 [.sn, .sn])).get h.nx = .cells 2 [.sn, .sn] := get_new_same
  have st_ : storeV (h.new (.cells 2 [.sn, .sn])) 2 (.p h.nx 0) (.agg [u0, u1]) = .ok undefV ((h.new (.cells 2 [.sn, .sn])).put h.nx (.cells 2 [u0, u1])) := store_p e1 (show cellsN 2 (.agg [u0, u1]) = some [u0, u1] from rfl) (by omega)
  simp (disch := omega) only [f6_r6, sliceV_eq, Option.map_none, Option.map_some, xg_slice, xg_len, xg_min, min_ii, Nat.reduceEqDiff, ↓reduceIte, xg_alloc, of9, g5, l0, l1, lx, ly, m9, q0, q1, s0.one, s1.one, hc.dead, bz]
  refine ⟨fresh_p (by simp (disch := omega) only [getK_set, ↓reduceIte]), ?_⟩
  simp (disch := omega) only [st_, bz]
  have c1 : ((h.new (.cells 2 [.sn, .sn])).put h.nx (.cells 2 [u0, u1])).get h.nx = .cells 2 [u0, u1] := get_put_same
  have g1 : Grow h.nx.nat h ((h.new (.cells 2 [.sn, .sn])).put h.nx (.cells 2 [u0, u1])) := (Grow.new (Nat.le_refl _) _).trans (Grow.put (Nat.le_refl _) (by omega) _)
  generalize (h.new (.cells 2 [.sn, .sn])).put h.nx (.cells 2 [u0, u1]) = h1 at *
  have hc1 := g1.hc hc
  have lt5 := hc.cells e5
  have e5' := (g1.old id5 lt5).trans e5
  simp (disch := omega) only [f6_r7, bz]
  refine W_loop (f6_I h id5 v w) (fun z => 2 - z.1) ?_ (0, n) ⟨by simp, g1, hc1, e5', ⟨u0, u1, _, _, c1, s0.grow hc g1, s1.grow hc g1, by rw [List.length_take]; omega, by rw [List.length_take]; omega⟩, by simp (disch := omega) only [getK_set, Nat.reduceEqDiff, ↓reduceIte, g0, g5, and_self, Int.natCast_zero]⟩
  clear g0 g5 fr n e1 st_ n1 e5' c1
  rintro ⟨kk, n⟩ fr h2 ⟨hkk, hG, hc2, e5, ⟨z0, z1, Z0, Z1, ez, r0, r1, hl0, hl1⟩, g0, g5, g13, g14⟩
  have hkk : kk ≤ 2 := hkk
  replace g14 : fr.get (K.ofNat 14) = some (.i .i64 (kk : Int)) := g14
  replace g0 : fr.get (K.ofNat 0) = some (.i .i64 n) := g0
  have hGn := hG.nx
  unfold f6_l0
  by_cases hk : kk < 2
  · have d0 : decide ((kk : Int) < 2) = true := decide_eq_true (by omega)
    have lz := ldn2 ez
    have ltz := hc2.cells ez
    -- the next two
    have next : ∀ (fr : Fr) (h3 : H), Grow h2.nx.nat h2 h3 → HC h3 → fr.get (K.ofNat 0) = some (.i .i64 n) ∧ fr.get (K.ofNat 5) = some (.p id5 0) ∧ fr.get (K.ofNat 13) = some (.p h.nx 0) ∧ fr.get (K.ofNat 14) = some (.i .i64 (kk : Int)) →
        W fs none (.reg f6_r16) (atK 1 (seqK (W fs none (.reg f6_r17)) (loopK (f6_I h id5 v w) (fun z => 2 - z.1) (kk, n) (atK 0 (seqK (W fs none (.seq (.reg f6_r18) .ret)) (retK f6 Q)))))) fr h3 := by
      clear g0 g5 g13 g14 fr
      rintro fr h3 g3 hc3 ⟨g0, g5, g13, g14⟩
      have hG3 := hG.trans (g3.low hGn)
      have l5 := ldn2 ((g3.old id5 (hc2.cells e5)).trans e5)
      simp (disch := omega) only [f6_r16, Nat.reduceEqDiff, ↓reduceIte, g0, g5, l5, bz]
      refine (callP_0 (ef := f39) k.c39 rfl (f39_ret (n := n) (hv.grow hc hG3) (hw.grow hc hG3) hX hY hc3)).mono ?_
      rintro r h4 ⟨g4, N, a0, a1, R0, R1, rfl, hN1, hN7, s0, p0, s1, p1, o0, o1⟩
      have hc4 := g4.hc hc3
      have ez4 := (g4.old h.nx (by have := g3.nx; omega)).trans ((g3.old h.nx ltz).trans ez)
      have st_ : storeV h4 2 (.p h.nx 0) (.agg [a0, a1]) = .ok undefV (h4.put h.nx (.cells 2 [a0, a1])) := store_p ez4 (show cellsN 2 (.agg [a0, a1]) = some [a0, a1] from rfl) (by omega)
      have hG4 := hG3.trans (g4.low hG3.nx)
      have gp : Grow h.nx.nat h4 (h4.put h.nx (.cells 2 [a0, a1])) := Grow.put (Nat.le_refl _) (by have := hG4.nx; have := g3.nx; have := g4.nx; omega) _
      have e54 := (g4.old id5 (by have := g3.nx; have := hc2.cells e5; omega)).trans ((g3.old id5 (hc2.cells e5)).trans e5)
      have ne5 : id5 ≠ h.nx := kNe (by omega)
      have g3n := g3.nx
      simp (disch := omega) only [f6_r17, Nat.reduceEqDiff, ↓reduceIte, g13, g14, st_, bz]
      refine ⟨(kk + 1, (N : Int)), by simp only; omega, by simp only; omega, hG4.trans gp, gp.hc hc4, (get_put_other ne5).trans e54, ⟨a0, a1, R0, R1, get_put_same, (s0.put (o0.notIn (by omega)) _).sr.rx, (s1.put (o1.notIn (by omega)) _).sr.rx, by rw [p0.len]; omega, by rw [p1.len]; omega⟩, by simp (disch := omega) only [getK_set, Nat.reduceEqDiff, ↓reduceIte, g5, g13, and_self, Int.natCast_add, Int.natCast_one]⟩
    simp (disch := omega) only [f6_r8, f6_r9, Nat.reduceEqDiff, ↓reduceIte, g0, g13, g14, d0, lz, bz]
    refine (callP_0 (ef := f36) k.c36 rfl (f36x_ret k.toCallsDn r0 r1 (by omega) (by omega) hc2)).mono ?_
    rintro r h3 ⟨g3, hr⟩
    have hc3 := g3.hc hc2
    have lz3 := ldn2 ((g3.old h.nx ltz).trans ez)
    have r03 := r0.grow hc2 g3
    have r13 := r1.grow hc2 g3
    have ne1 : decide ((1 : Int) ≠ 1) = false := rfl
    have ne0 : decide ((0 : Int) ≠ 0) = false := rfl
    rcases hr with ⟨ok, d, rfl, sd, od⟩ | ⟨no, rfl⟩
    · obtain ⟨N, rfl⟩ : ∃ N : Nat, n = (N : Int) := ⟨n.toNat, by have := ok.1; omega⟩
      have hN1 : 1 ≤ N := by have := ok.1; omega
      have hN7 : N ≤ 7 := by have := ok.2.1; omega
      have kX : lnOk N Z0 := ok.2.2.1
      have kY : lnOk N Z1 := ok.2.2.2
      rw [Int.toNat_natCast] at sd
      simp (disch := omega) only [f6_r10, Nat.reduceEqDiff, ↓reduceIte, g0, g13, lz3, bz]
      refine (callP_0 (ef := f37) k.c37 rfl (f37x_ret k.toCallsDn r03 r13 (by omega) (by omega) hc3)).mono ?_
      rintro r h4 ⟨g4, hr⟩
      have hc4 := g4.hc hc3
      rcases hr with ⟨_, c, rfl, sc, oc⟩ | ⟨no, _⟩
      · have g24 := g3.trans (g4.low g3.nx)
        have lz4 := ldn2 ((g24.old h.nx ltz).trans ez)
        have d1 : decide ((N : Int) < 1) = false := decide_eq_false (by omega)
        have d2 : decide ((N : Int) > 7) = false := decide_eq_false (by omega)
        have d2' : decide (7 < (N : Int)) = false := decide_eq_false (by omega)
        simp (disch := omega) only [f6_r11, Nat.reduceEqDiff, ↓reduceIte, Bool.false_eq_true, Bool.not_false, g0, g13, d1, d2, lz4, bz]
        refine (callP_0 (ef := f34) k.c34 rfl (f34_ret hN1 hN7 (r03.grow hc3 g4) (r13.grow hc3 g4) (by omega) (by omega) hc4)).mono ?_
        rintro r h5 ⟨b, rfl, hb, g5_⟩
        obtain rfl : b = true := hb.2 ⟨kX, kY⟩
        have hc5 := g5_.hc hc4
        have g25 := g24.trans (g5_.low g24.nx)
        have lz5 := ldn2 ((g25.old h.nx ltz).trans ez)
        have sd5 := (sd.grow hc3 g4).grow hc4 g5_
        have sc5 := sc.grow hc4 g5_
        have bd := arI_len (g := drR N Z0 Z1)
        have bc := arI_len (g := rat (agR Z0 Z1))
        have hdd := sd5.beq
        simp (disch := omega) only [f6_r14, Nat.reduceEqDiff, ↓reduceIte, Bool.false_eq_true, Bool.not_true, Bool.not_false, g0, g13, ne0, lz5, bz]
        refine (callP_0 (ef := f35) k.c35 rfl (f35_ret k.c67 hN7 ((r03.grow hc3 g4).grow hc4 g5_) ((r13.grow hc3 g4).grow hc4 g5_) (by omega) (by omega) hc5)).mono ?_
        rintro u h6 ⟨su, ou, g6⟩
        have hc6 := g6.hc hc5
        rw [← dwR_dr hN7 kX kY] at su
        simp (disch := omega) only [Nat.reduceEqDiff, ↓reduceIte, Bool.not_false, bz]
        refine (callP_0 (ef := f14) k.c14 rfl (f14_ret (sd5.grow hc5 g6).srpo su.srpo inI_arI (by omega))).mono ?_
        rintro r h6' ⟨rfl, rfl⟩
        have g26 := g25.trans (g6.low g25.nx)
        have lz6 := ldn2 ((g26.old h.nx ltz).trans ez)
        simp (disch := omega) only [Nat.reduceEqDiff, ↓reduceIte, Bool.false_eq_true, Bool.not_true, Bool.not_false, g0, g13, ne0, lz6, bz]
        refine (callP_0 (ef := f38) k.c38 rfl (f38_ret k.c67 hN7 (((r03.grow hc3 g4).grow hc4 g5_).grow hc5 g6) (((r13.grow hc3 g4).grow hc4 g5_).grow hc5 g6) (by omega) (by omega) hc6)).mono ?_
        rintro u' h7 ⟨su', ou', g7⟩
        have hc7 := g7.hc hc6
        rw [← cmN_ag hN7 kX kY] at su'
        simp (disch := omega) only [Nat.reduceEqDiff, ↓reduceIte, Bool.not_false, bz]
        refine (callP_0 (ef := f14) k.c14 rfl (f14_ret ((sc5.grow hc5 g6).grow hc6 g7).srpo su'.srpo inI_arI (by omega))).mono ?_
        rintro r h7' ⟨rfl, rfl⟩
        simp (disch := omega) only [Nat.reduceEqDiff, ↓reduceIte, Bool.false_eq_true, Bool.not_true, Bool.not_false, bz]
        exact next _ _ (g26.trans (g7.low g26.nx)) hc7 (by simp (disch := omega) only [getK_set, Nat.reduceEqDiff, ↓reduceIte, g0, g5, g13, g14, and_self])
      · exact absurd ok no
    · simp (disch := omega) only [f6_r10, Nat.reduceEqDiff, ↓reduceIte, g0, g13, lz3, bz]
      refine (callP_0 (ef := f37) k.c37 rfl (f37x_ret k.toCallsDn r03 r13 (by omega) (by omega) hc3)).mono ?_
      rintro r h4 ⟨g4, hr⟩
      have hc4 := g4.hc hc3
      have g24 := g3.trans (g4.low g3.nx)
      rcases hr with ⟨ok, _⟩ | ⟨_, rfl⟩
      · exact absurd ok no
      · have lz4 := ldn2 ((g24.old h.nx ltz).trans ez)
        by_cases h1_ : n < 1
        · have d1 : decide (n < 1) = true := decide_eq_true h1_
          simp (disch := omega) only [f6_r11, f6_r12, len_sn, Nat.reduceEqDiff, ↓reduceIte, Bool.false_eq_true, decide_eq_true_eq, Bool.not_true, Bool.not_false, g0, d1, ne1, bz]
          exact next _ _ g24 hc4 (by simp (disch := omega) only [getK_set, Nat.reduceEqDiff, ↓reduceIte, g0, g5, g13, g14, and_self])
        · have d1 : decide (n < 1) = false := decide_eq_false h1_
          by_cases h7_ : 7 < n
          · have d2 : decide (n > 7) = true := decide_eq_true h7_
            have d2' : decide (7 < n) = true := decide_eq_true h7_
            simp (disch := omega) only [f6_r11, f6_r12, len_sn, Nat.reduceEqDiff, ↓reduceIte, Bool.false_eq_true, decide_eq_true_eq, Bool.not_true, Bool.not_false, g0, d1, d2, ne1, bz]
            exact next _ _ g24 hc4 (by simp (disch := omega) only [getK_set, Nat.reduceEqDiff, ↓reduceIte, g0, g5, g13, g14, and_self])
          · have d2 : decide (n > 7) = false := decide_eq_false h7_
            have d2' : decide (7 < n) = false := decide_eq_false h7_
            obtain ⟨N, rfl⟩ : ∃ N : Nat, n = (N : Int) := ⟨n.toNat, by omega⟩
            simp (disch := omega) only [f6_r11, Nat.reduceEqDiff, ↓reduceIte, Bool.false_eq_true, Bool.not_false, g0, g13, d1, d2, lz4, bz]
            refine (callP_0 (ef := f34) k.c34 rfl (f34_ret (n := N) (by omega) (by omega) (r03.grow hc3 g4) (r13.grow hc3 g4) (by omega) (by omega) hc4)).mono ?_
            rintro r h5 ⟨b, rfl, hb, g5_⟩
            obtain rfl : b = false := by
              cases b with
              | false => rfl
              | true => exact absurd ⟨by omega, by omega, (hb.1 rfl).1, (hb.1 rfl).2⟩ no
            simp (disch := omega) only [f6_r12, len_sn, Nat.reduceEqDiff, ↓reduceIte, Bool.false_eq_true, decide_eq_true_eq, Bool.not_false, ne1, bz]
            exact next _ _ (g24.trans (g5_.low g24.nx)) (g5_.hc hc4) (by simp (disch := omega) only [getK_set, Nat.reduceEqDiff, ↓reduceIte, g0, g5, g13, g14, and_self])
  · have d0 : decide ((kk : Int) < 2) = false := decide_eq_false (by omega)
    simp (disch := omega) only [f6_r8, f6_r18, f6_rs, Option.some.injEq, exists_eq_left', ↓reduceIte, Bool.false_eq_true, g14, d0, k.aw, bz]
    exact hQ _ hG
set_option maxRecDepth 100000 in
theorem f6_ret {n : Int} {e v w : V} {l : List (Int × Int)} {X Y : List Int} (k : CallsDr fs) (he : Srp h e l) (hv : Sr iE h v X) (hw : Sr iE h w Y) (hX : X.length ≤ 9223372036854775807) (hY : Y.length ≤ 9223372036854775807) (hc : HC h) : Ret fs f6 [.i .i64 n, e, .agg [v, w]] h fun r h' => r = .b true ∧ Grow h.nx.nat h h' := by
  apply ret_of rfl
  show W fs none f6_c _ _ _
  unfold f6_c
  have cvw : cellsN 2 (.agg [v, w]) = some [v, w] := rfl
  have n1 := nx_new h (.cells 2 [v, w])
  have g1 : Grow h.nx.nat h (h.new (.cells 2 [v, w])) := Grow.new (Nat.le_refl _) _
  have e1 : (h.new (.cells 2 [v, w])).get h.nx = .cells 2 [v, w] := get_new_same
  have o7 : Int.ofNat 7 = ((7 : Nat) : Int) := rfl
  simp (disch := omega) only [f6_r0, f6_r1, Nat.reduceEqDiff, ↓reduceIte, cvw, bz]
  generalize h.new (.cells 2 [v, w]) = h1 at *
  have hc1 := g1.hc hc
  refine (callP_0 (ef := f11) k.c11 rfl (f11_ret (n := n) (w := 7) (he.grow hc g1) (by omega) (by omega) hc1)).mono ?_
  rintro r h2 ⟨m, u, g, rfl, hm7, hg, hu, hou, g2⟩
  have hc2 := g2.hc hc1
  have ho := oth_gph hg
  have hlb := arI_len (g := g)
  simp (disch := omega) only [f6_r2, Nat.reduceEqDiff, ↓reduceIte, bz]
  refine (callP_0 (ef := f33) k.c33 rfl (f33_ret k.toCallsDw hg hu.srpo hc2)).mono ?_
  rintro r h3 ⟨⟨b, F, b', F', _, _, hF, hF', hr⟩, g3⟩
  have hc3 := g3.hc hc2
  have db := clD_b hg hF
  have db' := clD_b ho hF'
  have g13 := g2.trans (g3.low g2.nx)
  have hu3 := hu.grow hc2 g3
  obtain ⟨x, y, rfl, hxy⟩ : ∃ x y, r = .tup [.agg [x, y], .b (b && b'), .i .i64 0] ∧ (((b && b') = true ∧ Sl iE h3 x (lnL (jnR [F', F]) m) ∧ Sl iE h3 y (lnL (jnR [F', turnR F]) m) ∧ Own h2.nx.nat x ∧ Own h2.nx.nat y) ∨ ((b && b') = false ∧ x = .sn ∧ y = .sn)) := by
    rcases hr with ⟨q, x, y, rfl, q2, q3, q4, q5⟩ | ⟨q, rfl⟩
    · exact ⟨x, y, by rw [q], .inl ⟨q, q2, q3, q4, q5⟩⟩
    · exact ⟨_, _, by rw [q], .inr ⟨q, rfl, rfl⟩⟩
  have n4 := nx_new h3 (.cells 2 [.sn, .sn])
  have s4 : storeV (h3.new (.cells 2 [.sn, .sn])) 2 (.p h3.nx 0) (.agg [x, y]) = .ok undefV ((h3.new (.cells 2 [.sn, .sn])).put h3.nx (.cells 2 [x, y])) := store_p get_new_same (show cellsN 2 (.agg [x, y]) = some [x, y] from rfl) (by omega)
  have g4 : Grow h3.nx.nat h3 ((h3.new (.cells 2 [.sn, .sn])).put h3.nx (.cells 2 [x, y])) := (Grow.new (Nat.le_refl _) _).trans (Grow.put (Nat.le_refl _) (by omega) _)
  have e4 : ((h3.new (.cells 2 [.sn, .sn])).put h3.nx (.cells 2 [x, y])).get h3.nx = .cells 2 [x, y] := get_put_same
  have n4' : ((h3.new (.cells 2 [.sn, .sn])).put h3.nx (.cells 2 [x, y])).nx.nat = h3.nx.nat + 1 := n4
  simp (disch := omega) only [f6_r3, nth2, Nat.reduceEqDiff, ↓reduceIte, s4, bz]
  generalize (h3.new (.cells 2 [.sn, .sn])).put h3.nx (.cells 2 [x, y]) = h4 at *
  have hc4 := g4.hc hc3
  have hu4 := hu3.grow hc3 g4
  refine (callP_0 (ef := f25) k.c25 rfl (f25_ret k.toCallsKl hg hu4.srpo hc4)).mono ?_
  rintro r h5 ⟨rfl, g5⟩
  have hc5 := g5.hc hc4
  have hu5 := hu4.grow hc4 g5
  have ne0 : decide ((0 : Int) ≠ 0) = false := rfl
  have kk : ∀ c : Bool, keyEq (.one none) (.b c) (.b c) = some true := fun c => by cases c <;> rfl
  have nA := g1.nx
  have g14 := g13.trans (g4.low g13.nx)
  have g15 := g14.trans (g5.low g14.nx)
  have hQ : ∀ {hh : H}, Grow h1.nx.nat h1 hh → ∀ h', Grow hh.nx.nat hh h' → (V.b true = .b true ∧ Grow h.nx.nat h h') := fun {hh} g h' g' => ⟨rfl, (g1.trans (g.low g1.nx)).trans (g'.low (by have := g1.nx; have := g.nx; omega))⟩
  have fin : ∀ {fr : Fr} {hh : H}, Grow h1.nx.nat h1 hh → fr.get (K.ofNat 0) = some (.i .i64 n) → fr.get (K.ofNat 5) = some (.p h.nx 0) →
      W fs none (.draw f6_r6) (seqK (W fs none (.seq (.seq (.reg f6_r7) (.block 0 (.loop f6_l0))) (.seq (.reg f6_r18) .ret))) (retK f6 fun r h' => r = .b true ∧ Grow h.nx.nat h h')) fr hh := fun {fr hh} g q1 q2 =>
    f6_tail (n := n) (h := hh) k (hQ g) (hv.grow hc (g1.trans (g.low g1.nx))) (hw.grow hc (g1.trans (g.low g1.nx))) hX hY (g.hc hc1) ((g.old h.nx (by omega)).trans e1) q1 q2
  have g13n := g13.nx
  cases b with
  | false =>
    rcases hxy with ⟨q, _⟩ | ⟨_, rfl, rfl⟩
    · cases q
    have e5 := (g5.old h3.nx (by omega)).trans e4
    have l50 := ld20 e5
    have l51 := ld21 e5
    simp (disch := omega) only [f6_r4, okG_u, asG_u, len_sn, Nat.reduceEqDiff, ↓reduceIte, Bool.false_eq_true, decide_eq_true_eq, Bool.not_true, Bool.not_false, ne0, db, kk, cond_true, Bool.false_and, l50, l51, bz]
    exact fin g15 (by simp (disch := omega) only [getK_set, Nat.reduceEqDiff, ↓reduceIte]) (by simp (disch := omega) only [getK_set, Nat.reduceEqDiff, ↓reduceIte])
  | true =>
    simp (disch := omega) only [Nat.reduceEqDiff, ↓reduceIte, db, bz]
    refine (callP_0 (ef := f15) k.c15 rfl (f15_ret k.toCallsJn hg hu5.srpo hc5)).mono ?_
    rintro ot h6 ⟨hot, _, g6⟩
    have hc6 := g6.hc hc5
    simp (disch := omega) only [Nat.reduceEqDiff, ↓reduceIte, bz]
    refine (callP_0 (ef := f25) k.c25 rfl (f25_ret k.toCallsKl ho hot.srpo hc6)).mono ?_
    rintro r h7 ⟨rfl, g7⟩
    have hc7 := g7.hc hc6
    have g16 := g15.trans (g6.low g15.nx)
    have g17 := g16.trans (g7.low g16.nx)
    have g47 := g5.trans ((g6.low g5.nx).trans (g7.low (by have := g5.nx; have := g6.nx; omega)))
    have e7 := (g47.old h3.nx (by omega)).trans e4
    have l7 := ldn2 e7
    have l70 := ld20 e7
    have l71 := ld21 e7
    cases b' with
    | false =>
      rcases hxy with ⟨q, _⟩ | ⟨_, rfl, rfl⟩
      · cases q
      simp (disch := omega) only [f6_r4, okG_u, asG_u, len_sn, Nat.reduceEqDiff, ↓reduceIte, Bool.false_eq_true, decide_eq_true_eq, Bool.not_true, Bool.not_false, ne0, db', kk, cond_true, Bool.true_and, l70, l71, bz]
      exact fin g17 (by simp (disch := omega) only [getK_set, Nat.reduceEqDiff, ↓reduceIte]) (by simp (disch := omega) only [getK_set, Nat.reduceEqDiff, ↓reduceIte])
    | true =>
      rcases hxy with ⟨_, sx, sy_, ox, oy⟩ | ⟨q, _⟩
      · have g37 := g4.trans (g47.low g4.nx)
        have sx7 := sx.grow hc3 g37
        have sy7 := sy_.grow hc3 g37
        have kX : lnOk m (lnL (jnR [F', F]) m) := lnL_ok
        have kY : lnOk m (lnL (jnR [F', turnR F]) m) := lnL_ok
        have lX : (lnL (jnR [F', F]) m).length ≤ 1000000 := by rw [kX.1]; omega
        have lY : (lnL (jnR [F', turnR F]) m).length ≤ 1000000 := by rw [kY.1]; omega
        simp (disch := omega) only [f6_r4, Nat.reduceEqDiff, ↓reduceIte, Bool.false_eq_true, Bool.not_true, Bool.not_false, ne0, db', kk, cond_true, Bool.true_and, l7, bz]
        refine (callP_0 (ef := f34) k.c34 rfl (f34_ret hg.n1 hm7 sx7.sr.rx sy7.sr.rx lX lY hc7)).mono ?_
        rintro r h8 ⟨b, rfl, hb, g8⟩
        obtain rfl : b = true := hb.2 ⟨kX, kY⟩
        have hc8 := g8.hc hc7
        have l8 := ldn2 ((g8.old h3.nx (by have := g47.nx; omega)).trans e7)
        simp (disch := omega) only [Nat.reduceEqDiff, ↓reduceIte, Bool.not_true, Bool.not_false, l8, bz]
        refine (callP_0 (ef := f35) k.c35 rfl (f35_ret k.c67 hm7 (sx7.grow hc7 g8).sr.rx (sy7.grow hc7 g8).sr.rx lX lY hc8)).mono ?_
        rintro dr h9 ⟨sdr, _, g9⟩
        have hc9 := g9.hc hc8
        rw [dwR_g hg hF.len hF'.len (hF.yes rfl) (hF'.yes rfl)] at sdr
        have g18 := g17.trans (g8.low g17.nx)
        have g19 := g18.trans (g9.low g18.nx)
        have hu9 := ((hu5.grow hc5 (g6.trans (g7.low g6.nx))).grow hc7 g8).grow hc8 g9
        simp (disch := omega) only [Nat.reduceEqDiff, ↓reduceIte, Bool.not_false, bz]
        refine (callP_0 (ef := f14) k.c14 rfl (f14_ret sdr.srpo hu9.srpo inI_arI (by omega))).mono ?_
        rintro r h9' ⟨rfl, rfl⟩
        simp (disch := omega) only [Nat.reduceEqDiff, ↓reduceIte, Bool.false_eq_true, Bool.not_true, Bool.not_false, bz]
        exact fin g19 (by simp (disch := omega) only [getK_set, Nat.reduceEqDiff, ↓reduceIte]) (by simp (disch := omega) only [getK_set, Nat.reduceEqDiff, ↓reduceIte])
      · cases q
end
end Go.Ev
