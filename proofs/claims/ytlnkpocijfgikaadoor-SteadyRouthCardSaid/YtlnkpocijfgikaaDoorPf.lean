/-
  Steady: the table (59)., and what follows.
-/
import Derived.Test.YtlnkpocijfgikaaDoorPd
import Derived.Test.YtlnkpocijfgikaaDoorPe
namespace Go.Ev
open Go Go.RowKit
noncomputable def f59_r0 : List EOper := [oG 1 (.box 1 (tG 0)), oG 2 (.alloc 1 [.sn]), oG 3 (.alloc 1 [(.b false)])]
noncomputable def f59_r1 : List EOper := [oG 4 (.alloc 1 [.sn])]
noncomputable def f59_r2 : List EOper := [oG 7 (.ld (tG 1)), oG 8 (.call (fG 90) [(tG 7)]), oG 5 (.alloc 16 (List.replicate 16 (.i .i64 (.ofNat 0)))), ⟨none, none, .st 16 (tG 5) (tG 8)⟩]
noncomputable def f59_r3 : List EOper := [oG 9 (.fadr 8 (tG 5)), oG 10 (.ldn 8 (tG 9)), oG 11 (.mkbf (.ofNat 92) [(tG 5)] []), oG 12 (.call (fG 91) [(tG 10), (tG 11)])]
noncomputable def f59_r4 : List EOper := [oG 6 (.alloc 8 [(.i .i64 (.ofNat 0)), (.i .i64 (.ofNat 0)), (.i .i64 (.ofNat 0)), (.i .i64 (.ofNat 0)), (.i .i64 (.ofNat 0)), (.i .i64 (.ofNat 0)), (.i .i64 (.ofNat 0)), (.i .i64 (.ofNat 0))]), ⟨none, none, .st 8 (tG 6) (tG 13)⟩]
noncomputable def f59_a0 : EC := (.reg f59_r4)
noncomputable def f59_r5 : List EOper := [oG 14 (.ld (tG 4)), oG 15 (.ldn 8 (tG 6)), oG 16 (.bslice 1 8 [(.i .i64 (.ofNat 0)), (.i .i64 (.ofNat 0)), (.i .i64 (.ofNat 0)), (.i .i64 (.ofNat 0)), (.i .i64 (.ofNat 0)), (.i .i64 (.ofNat 0)), (.i .i64 (.ofNat 0)), (.i .i64 (.ofNat 0))] [(0, 8, (tG 15))]), oG 17 (.app 8 (tG 14) (tG 16)), ⟨none, none, .st 1 (tG 4) (tG 17)⟩]
noncomputable def f59_r6 : List EOper := [oG 19 (.ld (tG 4)), oG 20 (.len (tG 19)), oG 21 (.ld (tG 1)), oG 22 (.len (tG 21)), oG 23 (.bin .eql (tG 20) (tG 22)), oG 18 (.as (tG 23))]
noncomputable def f59_r7 : List EOper := [oG 24 (.ld (tG 4)), ⟨none, none, .st 1 (tG 2) (tG 24)⟩, ⟨none, none, .st 1 (tG 3) (.c (.b true))⟩]
noncomputable def f59_r8 : List Stage := [⟨[oG 26 (.ldn 8 (tG 6)), oG 28 (.mv (.c (.agg [(.i .i64 (.ofNat 0)), (.i .i64 (.ofNat 1))])))], [], (some (oG 27 (.call (fG 62) [(tG 26)]))), []⟩, ⟨[oG 29 (.eqk (.many [(some .i64), (some .i64)]) false (tG 27) (tG 28))], [oG 28 (.mv (.c (.agg [(.i .i64 (.ofNat 0)), (.i .i64 (.ofNat 1))])))], (some (oG 25 (.as (tG 29)))), []⟩, ⟨[], [], none, []⟩]
noncomputable def f59_b0 : EC := (.block 1 (.seq (.reg f59_r5) (.block 2 (.seq (.reg f59_r6) (.cond (tG 18) (.seq (.reg f59_r7) .ret) (.seq (.draw f59_r8) (.cond (tG 25) (.exit 0) .skip)))))))
noncomputable def f59_r9 : List EOper := [⟨none, none, .st 1 (tG 2) (.c .sn)⟩, ⟨none, none, .st 1 (tG 3) (.c (.b false))⟩]
noncomputable def f59_c : EC := (.seq (.reg f59_r0) (.scope (.seq (.reg f59_r1) (.seq (.reg f59_r2) (.seq .skip (.seq (.seq (.reg f59_r3) (.block 0 (.rangeF (tG 12) [(.ofNat 13)] f59_a0 f59_b0))) (.seq (.reg f59_r9) .ret)))))))
noncomputable def f59 : EF := ⟨30, [.cell (.ofNat 2), .cell (.ofNat 3)], f59_c, none⟩
theorem f59_rs : f59.rs = [.cell (.ofNat 2), .cell (.ofNat 3)] := of_eq_true (eq_self _)
section
variable {fs : T EF} {h : H} {v w u : V} {A : List Int}
noncomputable def dTop (A : List Int) : Dsc := ⟨fun j => ((0 : Rat) :: dnL A (A.length - 2) (A.length / 2)).getD j 0, fun j => (dnL A (A.length - 1) ((A.length + 1) / 2)).getD j 0⟩
noncomputable def rwsL (A : List Int) (i : Nat) : List (Nat → Rat) := (List.range i).map fun j => ((dTop A).at j).re
theorem rwsL_len {i : Nat} : (rwsL A i).length = i := by simp [rwsL]
theorem rwsL_succ {i : Nat} : rwsL A (i + 1) = rwsL A i ++ [((dTop A).at i).re] := by simp [rwsL, List.range_succ]
structure CallsL59 (fs : T EF) : Prop extends CallsF fs where
  c90 : fs.get (K.ofNat 90) = some f90
  c91 : fs.get (K.ofNat 91) = some f91
  c92 : fs.get (K.ofNat 92) = some f92
  c102 : fs.get (K.ofNat 102) = some f102
theorem rat_zero {q : Rat} : (decide (q.num = 0) && decide ((q.den : Int) = 1)) = decide (q = 0) := by
  by_cases h : q = 0
  · subst h; rfl
  · rw [decide_eq_false h]
    have : ¬ q.num = 0 := fun e => h (Rat.num_eq_zero.1 e)
    rw [decide_eq_false this, Bool.false_and]
theorem fill_8 {fr : Fr} {x : EO} : fillE fr [.i .i64 0, .i .i64 0, .i .i64 0, .i .i64 0, .i .i64 0, .i .i64 0, .i .i64 0, .i .i64 0] [(0, 8, x)] = oGet (cellsN 8 (ev fr x)) none fun cs => some (setMany (zr 0) 0 cs) := of_eq_true (eq_self _)
theorem set_8 {R : Nat → Rat} : setMany (zr 0) 0 (rowE R) = rowE R := rfl
theorem rowE_len : ∀ R, (rowE R).length = 8 := fun _ => rfl
theorem callP_eq3 {f : V} {args : List V} {u : V} {h2 : H} {P : V → H → Prop} (hr : CallP fs f args h fun r h' => r = u ∧ h' = h2) : CallP fs f args h P = P u h2 := by
  apply propext
  obtain ⟨n, v, h', e, rfl, rfl⟩ := hr
  constructor
  · rintro ⟨n2, v2, h2, e2, hp⟩
    have a1 := callV_le (eval_le fs (Nat.le_max_left n n2)) _ _ _ _ _ e
    have a2 := callV_le (eval_le fs (Nat.le_max_right n n2)) _ _ _ _ _ e2
    rw [a1] at a2
    cases a2; exact hp
  · intro hp; exact ⟨n, _, _, e, hp⟩
structure TbI (A : List Int) (h : H) (v : V) (i1 i2 i3 i4 idd x1 x2 lp : K) (i : Nat) (h1 : H) : Prop where
  gr : Grow h.nx.nat h h1
  q1 : h1.get i1 = .cells 1 [v]
  q2 : h1.get i2 = .cells 1 [.sn]
  q3 : h1.get i3 = .cells 1 [.b false]
  q4 : ∃ o, h1.get i4 = .cells 1 [o] ∧ Sk 8 rowE h1 o (rwsL A i) ∧ Own (lp.nat + 1) o
  nr : NR idd x1 x2 (dTop A) ((dTop A).at (i - 1)) h1
  lt : lp.nat < h1.nx.nat
  nz : ∀ j, j < i → ((dTop A).at j).re 0 ≠ 0
def TbD (A : List Int) (h : H) (i2 i3 : K) (lp : K) (e : Ex) (h1 : H) : Prop := Grow h.nx.nat h h1 ∧ HC h1 ∧ i2.nat < h1.nx.nat ∧ i3.nat < h1.nx.nat ∧
  ((e = .ret ∧ (∃ o, h1.get i2 = .cells 1 [o] ∧ Sk 8 rowE h1 o (rwsL A A.length) ∧ Own (lp.nat + 1) o) ∧ h1.get i3 = .cells 1 [.b true] ∧ ∀ j, j + 1 < A.length → ((dTop A).at j).re 0 ≠ 0) ∨
  (e = .exit 0 ∧ h1.get i2 = .cells 1 [.sn] ∧ h1.get i3 = .cells 1 [.b false] ∧ ∃ j, j + 1 < A.length ∧ ((dTop A).at j).re 0 = 0))
theorem f59_ret (k : CallsL59 fs) (hA1 : 1 ≤ A.length) (hA : A.length ≤ 6) (hs : smB A = true) (hB : ∀ i, i + 1 < A.length → (∀ j, j ≤ i → ((dTop A).at j).re 0 ≠ 0) → StpB ((dTop A).at i).bf ((dTop A).at i).re) (hR : ∀ i, i < A.length → (∀ j, j < i → ((dTop A).at j).re 0 ≠ 0) → inR .i64 (((dTop A).at i).re 0).num = true ∧ inR .i64 ((((dTop A).at i).re 0).den : Int) = true) (hv : Sr iE h v A) (hc : HC h) : Ret fs f59 [v] h fun r h' => ∃ o b, r = .tup [o, .b b] ∧ Grow h.nx.nat h h' ∧ Own h.nx.nat o ∧ ((b = true ∧ Sk 8 rowE h' o (rwsL A A.length) ∧ ∀ j, j + 1 < A.length → ((dTop A).at j).re 0 ≠ 0) ∨ (b = false ∧ o = .sn ∧ ∃ j, j + 1 < A.length ∧ ((dTop A).at j).re 0 = 0)) := by
  apply ret_of rfl
  show W fs none f59_c _ _ _
  unfold f59_c
  have hv1 : cellsN 1 v = some [v] := hv.one
  have gA := Grow.new (Nat.le_refl h.nx.nat) (.cells 1 [v])
  have nA := nx_new h (.cells 1 [v])
  have a1 : (h.new (.cells 1 [v])).get h.nx = .cells 1 [v] := get_new_same
  simp (disch := omega) only [f59_r0, f59_r1, w_scope, ↓reduceIte, hv1, bz]
  have gA2 : Grow h.nx.nat h (h.new (.cells 1 [v])) := gA
  generalize h.new (.cells 1 [v]) = hA' at *
  have gB := Grow.new (Nat.le_refl hA'.nx.nat) (.cells 1 [.sn])
  have nB := nx_new hA' (.cells 1 [.sn])
  have b1 : (hA'.new (.cells 1 [.sn])).get h.nx = .cells 1 [v] := (gB.old _ (by omega)).trans a1
  have b2 : (hA'.new (.cells 1 [.sn])).get hA'.nx = .cells 1 [.sn] := get_new_same
  have GB := gA2.trans (gB.low gA2.nx)
  generalize hi2 : hA'.nx = i2 at *
  generalize hA'.new (.cells 1 [.sn]) = hB' at *
  have gC := Grow.new (Nat.le_refl hB'.nx.nat) (.cells 1 [.b false])
  have nC := nx_new hB' (.cells 1 [.b false])
  have c1 : (hB'.new (.cells 1 [.b false])).get h.nx = .cells 1 [v] := (gC.old _ (by omega)).trans b1
  have c2 : (hB'.new (.cells 1 [.b false])).get i2 = .cells 1 [.sn] := (gC.old _ (by omega)).trans b2
  have c3 : (hB'.new (.cells 1 [.b false])).get hB'.nx = .cells 1 [.b false] := get_new_same
  have GC := GB.trans (gC.low GB.nx)
  generalize hi3 : hB'.nx = i3 at *
  generalize hB'.new (.cells 1 [.b false]) = hC' at *
  have gD := Grow.new (Nat.le_refl hC'.nx.nat) (.cells 1 [.sn])
  have nD := nx_new hC' (.cells 1 [.sn])
  have d1 : (hC'.new (.cells 1 [.sn])).get h.nx = .cells 1 [v] := (gD.old _ (by omega)).trans c1
  have d2 : (hC'.new (.cells 1 [.sn])).get i2 = .cells 1 [.sn] := (gD.old _ (by omega)).trans c2
  have d3 : (hC'.new (.cells 1 [.sn])).get i3 = .cells 1 [.b false] := (gD.old _ (by omega)).trans c3
  have d4 : (hC'.new (.cells 1 [.sn])).get hC'.nx = .cells 1 [.sn] := get_new_same
  have GD := GC.trans (gD.low GC.nx)
  generalize hi4 : hC'.nx = i4 at *
  generalize hC'.new (.cells 1 [.sn]) = hD at *
  have l1 : loadV hD (.p h.nx 0) one? = .ok v hD := load_p d1 rfl
  have hcD := GD.hc hc
  simp (disch := omega) only [f59_r2, Nat.reduceEqDiff, ↓reduceIte, l1, bz]
  refine (callP_0 (ef := f90) k.c90 rfl (f90_ret k.c100 k.c101 k.c107 hA1 hA hs (hv.grow hc GD) hcD)).mono ?_
  rintro r h5 ⟨rfl, g5⟩
  have hcat : rowE (fun j => ((0 : Rat) :: dnL A (A.length - 2) (A.length / 2)).getD j 0) ++ rowE (fun j => (dnL A (A.length - 1) ((A.length + 1) / 2)).getD j 0) = rowE (dTop A).bf ++ rowE (dTop A).re := rfl
  rw [hcat]
  have G5 := GD.trans (g5.low GD.nx)
  have st := store16 (h := h5.new (.cells 16 (List.replicate 16 (.i .i64 0)))) (id := h5.nx) (us := rowE (dTop A).bf ++ rowE (dTop A).re) get_new_same rfl rfl
  have gE := (Grow.new (Nat.le_refl h5.nx.nat) (.cells 16 (List.replicate 16 (.i .i64 0)))).trans (Grow.put (h := h5.new (.cells 16 (List.replicate 16 (.i .i64 0)))) (k := h5.nx) (Nat.le_refl _) (by rw [nx_new]; omega) (.cells 16 (rowE (dTop A).bf ++ rowE (dTop A).re)))
  have nE : ((h5.new (.cells 16 (List.replicate 16 (.i .i64 0)))).put h5.nx (.cells 16 (rowE (dTop A).bf ++ rowE (dTop A).re))).nx.nat = h5.nx.nat + 1 := by rw [nx_put, nx_new]
  have e5 : ((h5.new (.cells 16 (List.replicate 16 (.i .i64 0)))).put h5.nx (.cells 16 (rowE (dTop A).bf ++ rowE (dTop A).re))).get h5.nx = .cells 16 (rowE (dTop A).bf ++ rowE (dTop A).re) := get_put_same
  simp (disch := omega) only [Nat.reduceEqDiff, ↓reduceIte, st, bz]
  have lt5 : h5.nx.nat > i4.nat := by have := g5.nx; omega
  have e1 := (gE.old h.nx (by omega)).trans ((g5.old h.nx (by omega)).trans d1)
  have e2 := (gE.old i2 (by omega)).trans ((g5.old i2 (by omega)).trans d2)
  have e3 := (gE.old i3 (by omega)).trans ((g5.old i3 (by omega)).trans d3)
  have e4 := (gE.old i4 (by omega)).trans ((g5.old i4 (by omega)).trans d4)
  have GE := G5.trans (gE.low G5.nx)
  generalize hid : h5.nx = idd at *
  generalize (h5.new (.cells 16 (List.replicate 16 (.i .i64 0)))).put idd (.cells 16 (rowE (dTop A).bf ++ rowE (dTop A).re)) = h6 at *
  have lC := ld_C e5
  have e91 := fun P => callP_eq3 (P := P) (callP_0 (ef := f91) k.c91 rfl (f91_ret (h := h6) (R := (dTop A).re) (g := .bf (K.ofNat 92) [.p idd 0] []) rfl))
  simp (disch := omega) only [f59_r3, x_fadr, Nat.reduceEqDiff, ↓reduceIte, x_mkbf, lC, e91, bz]
  generalize hfr : T.set (K.ofNat 12) _ _ = fr
  have g1 : fr.get (K.ofNat 1) = some (.p h.nx 0) := by rw [← hfr]; simp only [getK_set, Nat.reduceEqDiff, ↓reduceIte]
  have g2 : fr.get (K.ofNat 2) = some (.p i2 0) := by rw [← hfr]; simp only [getK_set, Nat.reduceEqDiff, ↓reduceIte]
  have g3 : fr.get (K.ofNat 3) = some (.p i3 0) := by rw [← hfr]; simp only [getK_set, Nat.reduceEqDiff, ↓reduceIte]
  have g4 : fr.get (K.ofNat 4) = some (.p i4 0) := by rw [← hfr]; simp only [getK_set, Nat.reduceEqDiff, ↓reduceIte]
  have g12 : fr.get (K.ofNat 12) = some (.fn (K.ofNat 102) [.p h6.nx 0, .p (h6.new (.cells 8 (rowE (dTop A).re))).nx 0]) := by rw [← hfr]; simp only [getK_set, ↓reduceIte]
  clear hfr
  clear e91
  have gF := Grow.new (Nat.le_refl h6.nx.nat) (.cells 8 (rowE (dTop A).re))
  have nF := nx_new h6 (.cells 8 (rowE (dTop A).re))
  have f5 : (h6.new (.cells 8 (rowE (dTop A).re))).get h6.nx = .cells 8 (rowE (dTop A).re) := get_new_same
  have GF := GE.trans (gF.low GE.nx)
  generalize hx1 : h6.nx = x1 at *
  generalize h6.new (.cells 8 (rowE (dTop A).re)) = h6' at *
  have gG := Grow.new (Nat.le_refl h6'.nx.nat) (.cells 1 [.bf (K.ofNat 92) [.p idd 0] []])
  have nG := nx_new h6' (.cells 1 [.bf (K.ofNat 92) [.p idd 0] []])
  have f6 : (h6'.new (.cells 1 [.bf (K.ofNat 92) [.p idd 0] []])).get h6'.nx = .cells 1 [.bf (K.ofNat 92) [.p idd 0] []] := get_new_same
  have GG := GF.trans (gG.low GF.nx)
  generalize hx2 : h6'.nx = x2 at *
  generalize h6'.new (.cells 1 [.bf (K.ofNat 92) [.p idd 0] []]) = h7 at *
  have t1 := (gG.old h.nx (by omega)).trans ((gF.old h.nx (by omega)).trans e1)
  have t2 := (gG.old i2 (by omega)).trans ((gF.old i2 (by omega)).trans e2)
  have t3 := (gG.old i3 (by omega)).trans ((gF.old i3 (by omega)).trans e3)
  have t4 := (gG.old i4 (by omega)).trans ((gF.old i4 (by omega)).trans e4)
  have t5 := (gG.old idd (by omega)).trans ((gF.old idd (by omega)).trans e5)
  have t6 := (gG.old x1 (by omega)).trans f5
  have hz : [V.i IntKind.i64 0, .i .i64 0, .i .i64 0, .i .i64 0, .i .i64 0, .i .i64 0, .i .i64 0, .i .i64 0] = zr 0 := rfl
  clear lC e1 e2 e3 e4 e5 gF gG GF gE gD gC gB gA gA2 GB GC GD GE G5 g5 st hcat f5 b1 b2 c1 c2 c3 d1 d2 d3 d4 a1 l1 hcD
  refine W_rangeD (idd := idd) (b1 := x1) (b2 := x2) (d := dTop A) (n := A.length - 1) rfl (by simp (disch := omega) only [ev_t, getV_some, g12]) (rows_yield k.c102 k.c92 k.toCallsF) (TbI A h v h.nx i2 i3 i4 idd x1 x2 h7.nx) (TbD A h i2 i3 h7.nx) (by omega) (fun i h1 T => ⟨T.nr, T.lt⟩) ?_ ?_ ?_
  · have gH := Grow.new (Nat.le_refl h7.nx.nat) (rdyB fr [(K.ofNat 13)] f59_a0 f59_b0)
    have nH := nx_new h7 (rdyB fr [(K.ofNat 13)] f59_a0 f59_b0)
    have hc8 := (GG.trans (gH.low GG.nx)).hc hc
    exact ⟨GG.trans (gH.low GG.nx), (gH.old _ (by omega)).trans t1, (gH.old _ (by omega)).trans t2, (gH.old _ (by omega)).trans t3, ⟨.sn, (gH.old _ (by omega)).trans t4, Sk.nil, Own.sn⟩, ⟨(gH.old _ (by omega)).trans t5, (gH.old _ (by omega)).trans t6, (gH.old _ (by omega)).trans f6, by omega, by omega, by omega, hc8⟩, by omega, fun j hj => absurd hj (by omega)⟩
  · rintro i h1 h2 hi T kp hd hr
    have Tlt := T.lt
    have Kn := kp.nx
    have hcK := kp.hc T.nr.hc
    obtain ⟨o, q4, sk, oo⟩ := T.q4
    have q1' := (kp.old h.nx (by omega) (by omega)).trans T.q1
    have q2' := (kp.old i2 (by omega) (by omega)).trans T.q2
    have q3' := (kp.old i3 (by omega) (by omega)).trans T.q3
    have q4' := (kp.old i4 (by omega) (by omega)).trans q4
    have p1' := (kp.old x1 (by omega) (by omega)).trans T.nr.h1
    have p2' := (kp.old x2 (by omega) (by omega)).trans T.nr.h2
    have sk2 : Sk 8 rowE h2 o (rwsL A i) := sk.same fun id off n sz e => kp.old id (sk.lt T.nr.hc _ _ _ _ e) (by have := oo _ _ _ _ e; omega)
    have G2 := T.gr.trans (kp.grow (b := h.nx.nat) (by omega) (by omega))
    have hrow : (rowE ((dTop A).at i).re).length = 8 := rfl
    generalize hRow : ((dTop A).at i).re = R at *
    have st6 := store8 (h := h2.new (.cells 8 (zr 0))) (id := h2.nx) (us := rowE R) get_new_same rfl rfl
    have gN := (Grow.new (Nat.le_refl h2.nx.nat) (.cells 8 (zr 0))).trans (Grow.put (h := h2.new (.cells 8 (zr 0))) (k := h2.nx) (Nat.le_refl _) (by rw [nx_new]; omega) (.cells 8 (rowE R)))
    have nN : ((h2.new (.cells 8 (zr 0))).put h2.nx (.cells 8 (rowE R))).nx.nat = h2.nx.nat + 1 := by rw [nx_put, nx_new]
    have q6 : ((h2.new (.cells 8 (zr 0))).put h2.nx (.cells 8 (rowE R))).get h2.nx = .cells 8 (rowE R) := get_put_same
    show W fs (some h7.nx) (.reg f59_r4) _ _ _
    simp (disch := omega) only [f59_r4, rndA_n, Nat.reduceEqDiff, ↓reduceIte, hz, st6, bz]
    generalize hb6 : h2.nx = b6 at *
    generalize (h2.new (.cells 8 (zr 0))).put b6 (.cells 8 (rowE R)) = h3 at *
    have l3 : h7.nx.nat < h3.nx.nat := by omega
    refine ⟨(gN.old _ (by omega)).trans hr, ?_⟩
    have gP := Grow.put (b := h7.nx.nat) (h := h3) (Nat.le_refl _) l3 (bsyB fr [(K.ofNat 13)] f59_a0 f59_b0)
    have u1 := (gP.old h.nx (by omega)).trans ((gN.old h.nx (by omega)).trans q1')
    have u2 := (gP.old i2 (by omega)).trans ((gN.old i2 (by omega)).trans q2')
    have u3 := (gP.old i3 (by omega)).trans ((gN.old i3 (by omega)).trans q3')
    have u4 := (gP.old i4 (by omega)).trans ((gN.old i4 (by omega)).trans q4')
    have u5 := (gP.old idd (by omega)).trans ((gN.old idd (by omega)).trans hd)
    have u6 : (h3.put h7.nx (bsyB fr [(K.ofNat 13)] f59_a0 f59_b0)).get b6 = .cells 8 (rowE R) := (get_put_other (fun e => by have := congrArg K.nat e; omega)).trans q6
    have v1 := (gP.old x1 (by omega)).trans ((gN.old x1 (by omega)).trans p1')
    have v2 := (gP.old x2 (by omega)).trans ((gN.old x2 (by omega)).trans p2')
    have ub : (h3.put h7.nx (bsyB fr [(K.ofNat 13)] f59_a0 f59_b0)).get h7.nx = bsyB fr [(K.ofNat 13)] f59_a0 f59_b0 := get_put_same
    have sk4 : Sk 8 rowE (h3.put h7.nx (bsyB fr [(K.ofNat 13)] f59_a0 f59_b0)) o (rwsL A i) := (sk2.grow hcK (by rw [hb6]; exact gN)).put (oo.notIn (by omega)) _
    have G4 : Grow h.nx.nat h (h3.put h7.nx (bsyB fr [(K.ofNat 13)] f59_a0 f59_b0)) := (G2.trans (gN.low (by omega))).trans (gP.low (by omega))
    have hc4 := G4.hc hc
    have hkk : ∀ k : K, h1.nx.nat ≤ k.nat → k.nat < b6.nat → (h3.put h7.nx (bsyB fr [(K.ofNat 13)] f59_a0 f59_b0)).get k = h2.get k := fun k l1 l2 => (get_put_other (fun e => by rw [e] at l1; omega)).trans (gN.old k (by omega))
    have n4' : (h3.put h7.nx (bsyB fr [(K.ofNat 13)] f59_a0 f59_b0)).nx = h3.nx := rfl
    generalize h3.put h7.nx (bsyB fr [(K.ofNat 13)] f59_a0 f59_b0) = h4 at *
    have n4 : h4.nx.nat = b6.nat + 1 := by rw [n4']; omega
    have ll4 : loadV h4 (.p i4 0) one? = .ok o h4 := load_p u4 rfl
    have l8 := load8 u6 rfl
    have hcell : cellsN 8 (.agg (rowE R)) = some (rowE R) := cell8 rfl
    obtain ⟨o', h5', a1, sk5, oo5, g5, k5⟩ := Sk.push rowE_len (by omega) (x := R) sk4 oo (by omega) hc4 (by rw [rwsL_len]; omega)
    have ho' : cellsN 1 o' = some [o'] := sk5.one
    have w4 := (g5.old i4 (by omega)).trans u4
    have st4 : storeV h5' 1 (.p i4 0) o' = .ok undefV (h5'.put i4 (.cells 1 [o'])) := by rw [store_p w4 ho' (by omega)]; rfl
    have n5 := g5.nx
    have gQ := Grow.put (b := i4.nat) (h := h5') (Nat.le_refl _) (by omega) (.cells 1 [o'])
    show W fs (some h7.nx) (.block 1 (.seq (.reg f59_r5) (.block 2 (.seq (.reg f59_r6) (.cond (.t (K.ofNat 18)) (.seq (.reg f59_r7) .ret) (.seq (.draw f59_r8) (.cond (.t (K.ofNat 25)) (.exit 0) .skip))))))) _ _ _
    simp (disch := omega) only [f59_r5, Nat.reduceEqDiff, ↓reduceIte, g4, ll4, l8, hcell, fill_8, set_8, a1, st4, bz]
    have z1 : (h5'.put i4 (.cells 1 [o'])).get h.nx = .cells 1 [v] := (get_put_other (fun e => by have := congrArg K.nat e; omega)).trans ((g5.old _ (by omega)).trans u1)
    have z2 : (h5'.put i4 (.cells 1 [o'])).get i2 = .cells 1 [.sn] := (get_put_other (fun e => by have := congrArg K.nat e; omega)).trans ((g5.old _ (by omega)).trans u2)
    have z3 : (h5'.put i4 (.cells 1 [o'])).get i3 = .cells 1 [.b false] := (get_put_other (fun e => by have := congrArg K.nat e; omega)).trans ((g5.old _ (by omega)).trans u3)
    have z4 : (h5'.put i4 (.cells 1 [o'])).get i4 = .cells 1 [o'] := get_put_same
    have z5 : (h5'.put i4 (.cells 1 [o'])).get idd = ((dTop A).at i).blk := (get_put_other (fun e => by have := congrArg K.nat e; omega)).trans ((g5.old _ (by omega)).trans u5)
    have y1 : (h5'.put i4 (.cells 1 [o'])).get x1 = .cells 8 (rowE (dTop A).re) := (get_put_other (fun e => by have := congrArg K.nat e; omega)).trans ((g5.old _ (by omega)).trans v1)
    have y2 : (h5'.put i4 (.cells 1 [o'])).get x2 = .cells 1 [.bf (K.ofNat 92) [.p idd 0] []] := (get_put_other (fun e => by have := congrArg K.nat e; omega)).trans ((g5.old _ (by omega)).trans v2)
    have yb : (h5'.put i4 (.cells 1 [o'])).get h7.nx = bsyB fr [(K.ofNat 13)] f59_a0 f59_b0 := (get_put_other (fun e => by have := congrArg K.nat e; omega)).trans ((g5.old _ (by omega)).trans ub)
    have sk6 : Sk 8 rowE (h5'.put i4 (.cells 1 [o'])) o' (rwsL A i ++ [R]) := sk5.put (oo5.notIn (by omega)) _
    have G6 : Grow h.nx.nat h (h5'.put i4 (.cells 1 [o'])) := (G4.trans (g5.low (by omega))).trans (gQ.low (by omega))
    have y6 : (h5'.put i4 (.cells 1 [o'])).get b6 = .cells 8 (rowE R) := (get_put_other (fun e => by have := congrArg K.nat e; omega)).trans ((k5 b6 (by omega) (fun off n sz e => by have e1 := sk2.lt hcK _ _ _ _ e; rw [hb6] at e1; omega)).1.trans u6)
    have hkk6 : ∀ k : K, h1.nx.nat ≤ k.nat → k.nat < b6.nat → (h5'.put i4 (.cells 1 [o'])).get k = h2.get k := fun k l1 l2 => (get_put_other (fun e => by have := congrArg K.nat e; omega)).trans ((k5 k (by omega) (fun off n sz e => absurd (sk.lt T.nr.hc _ _ _ _ e) (by omega))).1.trans (hkk k l1 l2))
    have nq : (h5'.put i4 (.cells 1 [o'])).nx = h5'.nx := rfl
    have hc6 := G6.hc hc
    have hrl : rwsL A i ++ [R] = rwsL A (i + 1) := by rw [rwsL_succ, hRow]
    rw [hrl] at sk6
    generalize h5'.put i4 (.cells 1 [o']) = h6q at *
    have n6 : h6q.nx.nat ≥ b6.nat + 1 := by rw [nq]; omega
    have m1 : loadV h6q (.p h.nx 0) one? = .ok v h6q := load_p z1 rfl
    have m4 : loadV h6q (.p i4 0) one? = .ok o' h6q := load_p z4 rfl
    have elo := sk6.len
    rw [rwsL_len] at elo
    have elv := hv.len
    have l86 := load8 y6 rfl
    have hfi := hR i (by omega) T.nz
    rw [hRow] at hfi
    clear u1 u2 u3 u4 u5 u6 v1 v2 ub q1' q2' q3' q4' p1' p2' a1 st4 ll4 l8 sk5 k5 g5 gQ w4 G4 hkk gP gN q6 st6 sk4 sk2 G2 sk q4
    by_cases hlast : i + 1 = A.length
    · have d1 : decide (((i + 1 : Nat) : Int) = (A.length : Int)) = true := decide_eq_true (by omega)
      have s2 : storeV h6q 1 (.p i2 0) o' = .ok undefV (h6q.put i2 (.cells 1 [o'])) := by rw [store_p z2 ho' (by omega)]; rfl
      have z3' : (h6q.put i2 (.cells 1 [o'])).get i3 = .cells 1 [.b false] := (get_put_other (fun e => by have := congrArg K.nat e; omega)).trans z3
      have s3 : storeV (h6q.put i2 (.cells 1 [o'])) 1 (.p i3 0) (.b true) = .ok undefV ((h6q.put i2 (.cells 1 [o'])).put i3 (.cells 1 [.b true])) := by rw [store_p z3' (xs := [.b true]) rfl (by omega)]; rfl
      simp (disch := omega) only [f59_r6, f59_r7, atK_r, rndK_r, Nat.reduceEqDiff, ↓reduceIte, g1, g2, g3, g4, m1, m4, elo, elv, d1, s2, s3, bz]
      have nz2 : ((h6q.put i2 (.cells 1 [o'])).put i3 (.cells 1 [.b true])).nx.nat = h6q.nx.nat := rfl
      have gz : Grow h.nx.nat h ((h6q.put i2 (.cells 1 [o'])).put i3 (.cells 1 [.b true])) := (G6.trans (Grow.put (by omega) (by omega) _)).trans (Grow.put (by omega) (by rw [nx_put]; omega) _)
      have gz2 := gz.trans (Grow.put (b := h.nx.nat) (k := h7.nx) (by omega) (by omega) .dead)
      refine ⟨(get_put_other (fun e => by have := congrArg K.nat e; omega)).trans ((get_put_other (fun e => by have := congrArg K.nat e; omega)).trans yb), gz2, gz2.hc hc, by rw [nx_put]; omega, by rw [nx_put]; omega, .inl ⟨rfl, ⟨o', ?_, ?_, oo5⟩, ?_, ?_⟩⟩
      · exact (get_put_other (fun e => by have := congrArg K.nat e; omega)).trans ((get_put_other (fun e => by have := congrArg K.nat e; omega)).trans get_put_same)
      · rw [← hlast]
        exact ((sk6.put (oo5.notIn (by omega)) _).put (oo5.notIn (by omega)) _).put (oo5.notIn (by omega)) _
      · exact (get_put_other (fun e => by have := congrArg K.nat e; omega)).trans get_put_same
      · intro j hj; exact T.nz j (by omega)
    · have d1 : decide (((i + 1 : Nat) : Int) = (A.length : Int)) = false := decide_eq_false (by omega)
      simp (disch := omega) only [f59_r6, f59_r8, Nat.reduceEqDiff, ↓reduceIte, Bool.false_eq_true, g1, g4, m1, m4, elo, elv, d1, l86, bz]
      refine (callP_0 (ef := f62) k.c62 rfl f62_ret).mono ?_
      rintro r h8 ⟨rfl, g8⟩
      have kq := keyEq_2 (c := 0) (d := 1) hfi.1 hfi.2 rfl rfl
      rw [rat_zero] at kq
      have kq : keyEq (.many [some .i64, some .i64]) (.agg (frL (R 0))) (.agg [.i .i64 0, .i .i64 1]) = some (decide (R 0 = 0)) := kq
      have n8 := g8.nx
      have G8 := G6.trans (g8.low (by omega))
      have yb8 := (g8.old _ (by omega)).trans yb
      by_cases hz0 : R 0 = 0
      · have dz : decide (R 0 = 0) = true := decide_eq_true hz0
        rw [dz] at kq
        simp (disch := omega) only [rndK_e, xg_eqk, Nat.reduceEqDiff, ↓reduceIte, beq_2, kq, beq_2, cond_false, bz]
        have gz2 := G8.trans (Grow.put (b := h.nx.nat) (k := h7.nx) (by omega) (by omega) .dead)
        refine ⟨yb8, gz2, gz2.hc hc, by rw [nx_put]; omega, by rw [nx_put]; omega, .inr ⟨rfl, ?_, ?_, i, by omega, by rw [hRow]; exact hz0⟩⟩
        · exact (get_put_other (fun e => by have := congrArg K.nat e; omega)).trans ((g8.old _ (by omega)).trans z2)
        · exact (get_put_other (fun e => by have := congrArg K.nat e; omega)).trans ((g8.old _ (by omega)).trans z3)
      · have dz : decide (R 0 = 0) = false := decide_eq_false hz0
        rw [dz] at kq
        simp (disch := omega) only [rndK_n, xg_eqk, Nat.reduceEqDiff, ↓reduceIte, Bool.false_eq_true, beq_2, kq, beq_2, cond_false, bz]
        have gz2 := G8.trans (Grow.put (b := h.nx.nat) (k := h7.nx) (by omega) (by omega) (rdyB fr [(K.ofNat 13)] f59_a0 f59_b0))
        have ne : ∀ {k : K} {x : Blk}, k.nat < h6q.nx.nat → k.nat ≠ h7.nx.nat → h6q.get k = x → (h8.put h7.nx (rdyB fr [(K.ofNat 13)] f59_a0 f59_b0)).get k = x := fun hk hn hx => (get_put_other (fun e => hn (congrArg K.nat e))).trans ((g8.old _ hk).trans hx)
        have hnz : ∀ j, j < i + 1 → ((dTop A).at j).re 0 ≠ 0 := fun j hj => by
          by_cases e : j = i
          · subst e; rw [hRow]; exact hz0
          · exact T.nz j (by omega)
        refine ⟨yb8, ⟨by omega, ?_⟩, ⟨gz2, ne (by omega) (by omega) z1, ne (by omega) (by omega) z2, ne (by omega) (by omega) z3, ⟨o', ne (by omega) (by omega) z4, ((sk6.grow hc6 g8).put (oo5.notIn (by omega)) _), oo5⟩, ⟨ne (by omega) (by omega) z5, ne (by omega) (by omega) y1, ne (by omega) (by omega) y2, by rw [nx_put]; omega, by omega, by omega, gz2.hc hc⟩, by rw [nx_put]; omega, hnz⟩, fun k l1 l2 => ne (by omega) (by omega) (hkk6 k l1 l2)⟩
        have := hB i (by omega) (fun j hj => hnz j (by omega))
        rw [hRow] at this
        exact this
  · rintro e h1 hne ⟨G, hc1, l2, l3, hcase⟩
    rcases hcase with ⟨rfl, ⟨o, q2, sk, ow⟩, q3, nz⟩ | ⟨rfl, q2, q3, z⟩
    · have r2 : readP h1 (.p i2 0) one? = some o := by show (h1.get i2).onC none (fun n cs => one? cs n 0) = _; rw [q2]; rfl
      have r3 : readP h1 (.p i3 0) one? = some (.b true) := by show (h1.get i3).onC none (fun n cs => one? cs n 0) = _; rw [q3]; rfl
      simp (disch := omega) only [f59_rs, atK_r, readRs_c, Option.some.injEq, exists_eq_left', g2, g3, r2, r3, bz]
      exact ⟨o, true, rfl, G, fun id off n sz e => by have := ow _ _ _ _ e; omega, .inl ⟨rfl, sk, nz⟩⟩
    · have st2 : storeV h1 1 (.p i2 0) .sn = .ok undefV (h1.put i2 (.cells 1 [.sn])) := by rw [store_p q2 (xs := [.sn]) rfl (by omega)]; rfl
      have q3' : (h1.put i2 (.cells 1 [.sn])).get i3 = .cells 1 [.b false] := (get_put_other (fun e => by have := congrArg K.nat e; omega)).trans q3
      have st3 : storeV (h1.put i2 (.cells 1 [.sn])) 1 (.p i3 0) (.b false) = .ok undefV ((h1.put i2 (.cells 1 [.sn])).put i3 (.cells 1 [.b false])) := by rw [store_p q3' (xs := [.b false]) rfl (by omega)]; rfl
      have w2 : ((h1.put i2 (.cells 1 [.sn])).put i3 (.cells 1 [.b false])).get i2 = .cells 1 [.sn] := (get_put_other (fun e => by have := congrArg K.nat e; omega)).trans get_put_same
      have w3 : ((h1.put i2 (.cells 1 [.sn])).put i3 (.cells 1 [.b false])).get i3 = .cells 1 [.b false] := get_put_same
      have r2 : readP ((h1.put i2 (.cells 1 [.sn])).put i3 (.cells 1 [.b false])) (.p i2 0) one? = some .sn := by show (((h1.put i2 (.cells 1 [.sn])).put i3 (.cells 1 [.b false])).get i2).onC none (fun n cs => one? cs n 0) = _; rw [w2]; rfl
      have r3 : readP ((h1.put i2 (.cells 1 [.sn])).put i3 (.cells 1 [.b false])) (.p i3 0) one? = some (.b false) := by show (((h1.put i2 (.cells 1 [.sn])).put i3 (.cells 1 [.b false])).get i3).onC none (fun n cs => one? cs n 0) = _; rw [w3]; rfl
      simp (disch := omega) only [f59_r9, f59_rs, readRs_c, Option.some.injEq, exists_eq_left', ↓reduceIte, g2, g3, st2, st3, r2, r3, bz]
      exact ⟨.sn, false, rfl, (G.trans (Grow.put (by omega) l2 _)).trans (Grow.put (by omega) (by rw [nx_put]; exact l3) _), Own.sn, .inr ⟨rfl, rfl, z⟩⟩
end
end Go.Ev
namespace Go.Ev
open Go Go.RowKit
def ch (B : List Int) (X : List Int) : Nat → List Int
  | 0 => X
  | k + 1 => prd (ch B X k) B
theorem fwu_def (x : Int) : fw .u64 x = x % 18446744073709551616 := by
  rw [fw_eq]; simp [IntKind.wrap, IntKind.bits, IntKind.signed]
def t61 (x : Int) : Int := (fw .u64 x).tmod 61 - 30
theorem t61_bd (x : Int) : -30 ≤ t61 x ∧ t61 x ≤ 30 := by
  unfold t61
  rw [fwu_def, Int.tmod_eq_emod_of_nonneg (by omega)]
  omega
end Go.Ev
namespace Go.Ev
open Go Go.RowKit
noncomputable def f94_r0 : List EOper := [oG 2 (.as (cG 0))]
noncomputable def f94_r1 : List EOper := [oG 3 (.as (cG 0))]
noncomputable def f94_r2 : List EOper := [oG 6 (.mv (tG 0)), oG 7 (.len (tG 6)), oG 8 (.mv (cG 0))]
noncomputable def f94_r3 : List EOper := [oG 9 (.bin .lss (tG 8) (tG 7))]
noncomputable def f94_r4 : List EOper := [oG 10 (.iads 1 (tG 6) (tG 8)), oG 11 (.ld (tG 10)), oG 5 (.as (tG 11))]
noncomputable def f94_r5 : List EOper := [oG 12 (.mv (tG 3)), oG 13 (.mv (tG 5)), oG 14 (.bin .add (tG 12) (tG 13)), oG 3 (.as (tG 14))]
noncomputable def f94_r6 : List EOper := [oG 15 (.bin .add (tG 8) (cG 1)), oG 8 (.mv (tG 15))]
noncomputable def f94_l0 : EC := (.seq (.reg f94_r3) (.seq (.cond (tG 9) .skip (.exit 0)) (.seq (.block 1 (.seq (.reg f94_r4) (.reg f94_r5))) (.reg f94_r6))))
noncomputable def f94_r7 : List EOper := [oG 16 (.mv (tG 3)), oG 2 (.as (tG 16))]
noncomputable def f94_c : EC := (.seq (.reg f94_r0) (.seq (.reg f94_r1) (.seq (.seq (.reg f94_r2) (.block 0 (.loop f94_l0))) (.seq (.reg f94_r7) .ret))))
noncomputable def f94 : EF := ⟨17, [.tmp (.ofNat 2)], f94_c, none⟩
theorem f94_rs : f94.rs = [.tmp (.ofNat 2)] := of_eq_true (eq_self _)
noncomputable def f67_r0 : List EOper := [oG 4 (.as (.c .sn))]
noncomputable def f67_r1 : List EOper := [oG 9 (.mv (tG 0)), oG 10 (.len (tG 9)), oG 11 (.mv (tG 1)), oG 12 (.len (tG 11)), oG 13 (.bin .add (tG 10) (tG 12)), oG 14 (.bin .sub (tG 13) (cG 1)), oG 15 (.mkslice 1 [(.i .i64 (.ofNat 0))] (tG 14)), oG 5 (.as (tG 15))]
noncomputable def f67_r2 : List EOper := [oG 16 (.mv (tG 5)), oG 17 (.len (tG 16)), oG 18 (.mv (cG 0))]
noncomputable def f67_r3 : List EOper := [oG 19 (.bin .lss (tG 18) (tG 17))]
noncomputable def f67_r4 : List EOper := [oG 20 (.mv (tG 18)), oG 6 (.as (tG 20))]
noncomputable def f67_r5 : List EOper := [oG 7 (.as (.c .sn))]
noncomputable def f67_r6 : List EOper := [oG 21 (.mv (tG 6)), oG 22 (.mv (tG 1)), oG 23 (.len (tG 22)), oG 24 (.bin .sub (tG 21) (tG 23)), oG 25 (.bin .add (tG 24) (cG 1)), oG 26 (.max (cG 0) (tG 25)), oG 8 (.as (tG 26))]
noncomputable def f67_r7 : List EOper := [oG 27 (.mv (tG 8)), oG 28 (.mv (tG 6)), oG 29 (.mv (tG 0)), oG 30 (.len (tG 29)), oG 31 (.bin .sub (tG 30) (cG 1)), oG 32 (.min (tG 28) (tG 31)), oG 33 (.bin .leq (tG 27) (tG 32))]
noncomputable def f67_r8 : List Stage := [⟨[oG 36 (.mv (tG 7)), oG 37 (.mv (tG 0)), oG 38 (.mv (tG 8)), oG 39 (.iads 1 (tG 37) (tG 38)), oG 40 (.ld (tG 39)), oG 41 (.mv (tG 1)), oG 42 (.mv (tG 6)), oG 43 (.mv (tG 8)), oG 44 (.bin .sub (tG 42) (tG 43)), oG 45 (.iads 1 (tG 41) (tG 44)), oG 46 (.ld (tG 45)), oG 47 (.bin .mul (tG 40) (tG 46)), oG 48 (.bslice 1 1 [(.i .i64 (.ofNat 0))] [(0, 1, (tG 47))])], [], (some (oG 49 (.app 1 (tG 36) (tG 48)))), [(.ofNat 48)]⟩, ⟨[], [], (some (oG 7 (.as (tG 49)))), []⟩, ⟨[], [], none, []⟩]
noncomputable def f67_r9 : List EOper := [oG 34 (.mv (tG 8)), oG 35 (.bin .add (tG 34) (cG 1)), oG 8 (.as (tG 35))]
noncomputable def f67_l0 : EC := (.seq (.seq (.reg f67_r7) (.cond (tG 33) .skip (.exit 2))) (.seq (.block 3 (.draw f67_r8)) (.reg f67_r9)))
noncomputable def f67_r10 : List EOper := [oG 50 (.mv (tG 5)), oG 51 (.mv (tG 6)), oG 52 (.mv (tG 7)), oG 53 (.call (fG 94) [(tG 52)]), oG 54 (.iads 1 (tG 50) (tG 51)), ⟨none, none, .st 1 (tG 54) (tG 53)⟩]
noncomputable def f67_r11 : List EOper := [oG 55 (.bin .add (tG 18) (cG 1)), oG 18 (.mv (tG 55))]
noncomputable def f67_l1 : EC := (.seq (.reg f67_r3) (.seq (.cond (tG 19) .skip (.exit 0)) (.seq (.block 1 (.seq (.reg f67_r4) (.seq (.reg f67_r5) (.seq (.seq (.reg f67_r6) (.block 2 (.loop f67_l0))) (.reg f67_r10))))) (.reg f67_r11))))
noncomputable def f67_r12 : List EOper := [oG 56 (.mv (tG 5)), oG 4 (.as (tG 56))]
noncomputable def f67_c : EC := (.seq (.reg f67_r0) (.seq (.reg f67_r1) (.seq (.seq (.reg f67_r2) (.block 0 (.loop f67_l1))) (.seq (.reg f67_r12) .ret))))
noncomputable def f67 : EF := ⟨57, [.tmp (.ofNat 4)], f67_c, none⟩
theorem f67_rs : f67.rs = [.tmp (.ofNat 4)] := of_eq_true (eq_self _)
noncomputable def f79_r0 : List EOper := [oG 4 (.as (.c .sn))]
noncomputable def f79_r1 : List EOper := [oG 8 (.mv (tG 0)), oG 9 (.len (tG 8)), oG 10 (.mv (tG 1)), oG 11 (.len (tG 10)), oG 12 (.bin .add (tG 9) (tG 11)), oG 13 (.bin .sub (tG 12) (cG 1)), oG 14 (.mkslice 1 [(.i .i64 (.ofNat 0))] (tG 13)), oG 5 (.as (tG 14))]
noncomputable def f79_r2 : List EOper := [oG 6 (.as (cG 0))]
noncomputable def f79_r3 : List EOper := [oG 15 (.mv (tG 6)), oG 16 (.mv (tG 0)), oG 17 (.len (tG 16)), oG 18 (.bin .lss (tG 15) (tG 17))]
noncomputable def f79_r4 : List EOper := [oG 7 (.as (cG 0))]
noncomputable def f79_r5 : List EOper := [oG 21 (.mv (tG 7)), oG 22 (.mv (tG 1)), oG 23 (.len (tG 22)), oG 24 (.bin .lss (tG 21) (tG 23))]
noncomputable def f79_r6 : List Stage := [⟨[oG 27 (.mv (tG 5)), oG 28 (.mv (tG 6)), oG 29 (.mv (tG 7)), oG 30 (.bin .add (tG 28) (tG 29)), oG 31 (.mv (tG 5)), oG 32 (.mv (tG 6)), oG 33 (.mv (tG 7)), oG 34 (.bin .add (tG 32) (tG 33)), oG 35 (.iads 1 (tG 31) (tG 34)), oG 36 (.ld (tG 35)), oG 37 (.mv (tG 0)), oG 38 (.mv (tG 6)), oG 39 (.iads 1 (tG 37) (tG 38)), oG 40 (.ld (tG 39)), oG 41 (.mv (tG 1)), oG 42 (.mv (tG 7)), oG 43 (.iads 1 (tG 41) (tG 42)), oG 44 (.ld (tG 43)), oG 45 (.bin .mul (tG 40) (tG 44)), oG 46 (.bin .add (tG 36) (tG 45)), oG 47 (.iads 1 (tG 27) (tG 30))], [], (some ⟨none, none, .st 1 (tG 47) (tG 46)⟩), []⟩, ⟨[], [], none, []⟩]
noncomputable def f79_r7 : List EOper := [oG 25 (.mv (tG 7)), oG 26 (.bin .add (tG 25) (cG 1)), oG 7 (.as (tG 26))]
noncomputable def f79_l0 : EC := (.seq (.seq (.reg f79_r5) (.cond (tG 24) .skip (.exit 2))) (.seq (.block 3 (.draw f79_r6)) (.reg f79_r7)))
noncomputable def f79_r8 : List EOper := [oG 19 (.mv (tG 6)), oG 20 (.bin .add (tG 19) (cG 1)), oG 6 (.as (tG 20))]
noncomputable def f79_l1 : EC := (.seq (.seq (.reg f79_r3) (.cond (tG 18) .skip (.exit 0))) (.seq (.block 1 (.seq (.reg f79_r4) (.block 2 (.loop f79_l0)))) (.reg f79_r8)))
noncomputable def f79_r9 : List EOper := [oG 48 (.mv (tG 5)), oG 4 (.as (tG 48))]
noncomputable def f79_c : EC := (.seq (.reg f79_r0) (.seq (.reg f79_r1) (.seq (.seq (.reg f79_r2) (.block 0 (.loop f79_l1))) (.seq (.reg f79_r9) .ret))))
noncomputable def f79 : EF := ⟨49, [.tmp (.ofNat 4)], f79_c, none⟩
theorem f79_rs : f79.rs = [.tmp (.ofNat 4)] := of_eq_true (eq_self _)
noncomputable def f40_r0 : List EOper := [oG 4 (.as (.c .sn)), oG 5 (.as (.c (.b false)))]
noncomputable def f40_r1 : List EOper := [oG 7 (.mv (tG 0)), oG 8 (.mv (tG 1)), oG 9 (.call (fG 79) [(tG 7), (tG 8)]), oG 6 (.as (tG 9))]
noncomputable def f40_r2 : List EOper := [oG 10 (.mv (tG 6)), oG 11 (.mv (tG 6)), oG 12 (.len (tG 11)), oG 13 (.bin .leq (tG 12) (cG 6)), oG 14 (.mv (tG 13)), gG 15 14 true (.mv (tG 6)), gG 16 14 true (.call (fG 53) [(tG 15)]), oG 17 (.pick (tG 14) (tG 16) (.c (.b false))), oG 4 (.as (tG 10)), oG 5 (.as (tG 17))]
noncomputable def f40_c : EC := (.seq (.reg f40_r0) (.seq (.reg f40_r1) (.seq (.reg f40_r2) .ret)))
noncomputable def f40 : EF := ⟨18, [.tmp (.ofNat 4), .tmp (.ofNat 5)], f40_c, none⟩
theorem f40_rs : f40.rs = [.tmp (.ofNat 4), .tmp (.ofNat 5)] := of_eq_true (eq_self _)
noncomputable def f66_r0 : List EOper := [oG 2 (.as (.c .sn)), oG 3 (.as (cG 0))]
noncomputable def f66_r1 : List EOper := [oG 4 (.mv (tG 0)), oG 5 (.call (fG 54) [(tG 4)]), oG 6 (.not (tG 5))]
noncomputable def f66_r2 : List EOper := [oG 2 (.as (.c .sn)), oG 3 (.as (cG 8))]
noncomputable def f66_r3 : List EOper := [oG 7 (.mv (tG 0)), oG 2 (.as (tG 7)), oG 3 (.as (cG 0))]
noncomputable def f66_c : EC := (.seq (.reg f66_r0) (.seq (.seq (.reg f66_r1) (.cond (tG 6) (.seq (.reg f66_r2) .ret) .skip)) (.seq (.reg f66_r3) .ret)))
noncomputable def f66 : EF := ⟨8, [.tmp (.ofNat 2), .tmp (.ofNat 3)], f66_c, none⟩
def fil (L : List Int) (k : Nat) : List Int := L.take k ++ List.replicate (L.length - k) 0
theorem fil_len {L : List Int} {k : Nat} (hk : k ≤ L.length) : (fil L k).length = L.length := by simp [fil]; omega
theorem fil_set {L : List Int} {k : Nat} (hk : k < L.length) : (fil L k).set k L[k] = fil L (k + 1) := by
  unfold fil
  rw [show L.length - k = (L.length - (k + 1)) + 1 by omega, List.replicate_succ, List.set_append_right _ _ (by simp; omega), List.take_succ_eq_append_getElem hk, List.append_assoc]
  congr 1
  rw [show k - (L.take k).length = 0 by simp; omega]
  rfl
theorem fil_all {L : List Int} : fil L L.length = L := by simp [fil]
theorem fil_0 {L : List Int} : fil L 0 = List.replicate L.length 0 := by simp [fil]
theorem suN_succ {L : List Int} {j : Nat} (hj : j < L.length) : fw .i64 (suN L j + L[j]) = suN L (j + 1) := by
  unfold suN; rw [fwA]; congr 1
  show _ = sg _ j + L.getD j 0
  rw [getD_lt hj]
theorem suN_0 {L : List Int} : suN L 0 = 0 := fw_0
section
variable {fs : T EF} {h : H} {v w : V} {A B L : List Int}
def f94_I (h0 : H) (v : V) (L : List Int) (j : Nat) (fr : Fr) (h1 : H) : Prop := j ≤ L.length ∧ h1 = h0 ∧ fr.get (K.ofNat 3) = some (.i .i64 (suN L j)) ∧ fr.get (K.ofNat 6) = some (v) ∧ fr.get (K.ofNat 7) = some (.i .i64 (L.length : Int)) ∧ fr.get (K.ofNat 8) = some (.i .i64 (j : Int))
theorem f94_ret (hv : Sr iE h v L) (hL : L.length ≤ 1000000) : Ret fs f94 [v] h fun r h' => r = .i .i64 (suN L L.length) ∧ h' = h := by
  apply ret_of rfl
  show W fs none f94_c _ _ _
  unfold f94_c
  have e1 := hv.len
  simp (disch := omega) only [f94_r0, f94_r1, f94_r2, Nat.reduceEqDiff, ↓reduceIte, e1, bz]
  refine W_loop (f94_I h v L) (fun j => L.length - j) ?_ 0 ⟨by omega, rfl, by simp (disch := omega) only [getK_set, Nat.reduceEqDiff, ↓reduceIte, and_self, Int.natCast_zero, suN_0]⟩
  rintro j fr h1 ⟨hj, rfl, g3, g6, g7, g8⟩
  unfold f94_l0
  by_cases hlt : j < L.length
  · have d1 : decide ((j : Int) < (L.length : Int)) = true := decide_eq_true (by omega)
    obtain ⟨q, p1, p2⟩ := hv.at j hlt
    have hs := suN_succ hlt
    simp (disch := omega) only [f94_r3, f94_r4, f94_r5, f94_r6, Nat.reduceEqDiff, ↓reduceIte, g3, g6, g7, g8, d1, p1, p2, iE, hs, fw64, bz]
    exact ⟨j + 1, by omega, by omega, rfl, by simp (disch := omega) only [getK_set, Nat.reduceEqDiff, ↓reduceIte, g6, g7, and_self, Int.natCast_add, Int.natCast_one]⟩
  · have d1 : decide ((j : Int) < (L.length : Int)) = false := decide_eq_false (by omega)
    obtain rfl : j = L.length := by omega
    simp (disch := omega) only [f94_r3, f94_r7, f94_rs, Option.some.injEq, exists_eq_left', Nat.reduceEqDiff, ↓reduceIte, Bool.false_eq_true, g3, g7, g8, d1, and_self, bz]
theorem f94_eq (k : fs.get (.ofNat 94) = some f94) (hv : Sr iE h v L) (hL : L.length ≤ 1000000) {P : V → H → Prop} : CallP fs (.fn (.ofNat 94) []) [v] h P = P (.i .i64 (suN L L.length)) h := callP_eq2 (callP_0 k rfl (f94_ret hv hL))
def f67_J (h2 : H) (v w o : V) (A B : List Int) (k i : Nat) (fr : Fr) (h1 : H) : Prop := k + 1 - B.length ≤ i ∧ i ≤ min k (A.length - 1) + 1 ∧ Grow h2.nx.nat h2 h1 ∧ ∃ u P, Sl iE h1 u P ∧ Own h2.nx.nat u ∧ P.length ≤ i ∧ suN P P.length = fw .i64 (sg (abF A B k) i) ∧ fr.get (K.ofNat 0) = some (v) ∧ fr.get (K.ofNat 1) = some (w) ∧ fr.get (K.ofNat 5) = some (o) ∧ fr.get (K.ofNat 6) = some (.i .i64 (k : Int)) ∧ fr.get (K.ofNat 7) = some (u) ∧ fr.get (K.ofNat 8) = some (.i .i64 (i : Int)) ∧ fr.get (K.ofNat 16) = some (o) ∧ fr.get (K.ofNat 17) = some (.i .i64 ((A.length + B.length - 1 : Nat) : Int)) ∧ fr.get (K.ofNat 18) = some (.i .i64 (k : Int))
theorem f67_inner {Q : Ex → Fr → H → Prop} {o : V} {k i : Nat} {h2 h1 : H} {fr : Fr} (hA : 1 ≤ A.length ∧ A.length ≤ 1000) (hB : 1 ≤ B.length ∧ B.length ≤ 1000) (hv : Sr iE h2 v A) (hw : Sr iE h2 w B) (hc : HC h2)
    (hI : f67_J h2 v w o A B k i fr h1) (hq : ∀ fr h1, f67_J h2 v w o A B k (min k (A.length - 1) + 1) fr h1 → Q (.exit 2) fr h1) : W fs none (.loop f67_l0) Q fr h1 := by
  refine W_loop (f67_J h2 v w o A B k) (fun i => min k (A.length - 1) + 1 - i) ?_ i hI
  clear hI fr h1
  rintro i fr h1 ⟨hlo, hhi, hG, u, P, hs, ho, hP, hsum, g0, g1, g5, g6, g7, g8, g16, g17, g18⟩
  have hc1 := hG.hc hc
  have hv1 := hv.grow hc hG
  have hw1 := hw.grow hc hG
  have e1 := hv1.len
  have e2 := hw1.len
  have em : min (k : Int) ((A.length : Int) - 1) = ((min k (A.length - 1) : Nat) : Int) := by omega
  unfold f67_l0
  by_cases hlt : i ≤ min k (A.length - 1)
  · have d1 : decide ((i : Int) ≤ ((min k (A.length - 1) : Nat) : Int)) = true := decide_eq_true (by omega)
    have hi : i < A.length := by omega
    have hki : k - i < B.length := by omega
    have ei : (k : Int) - (i : Int) = ((k - i : Nat) : Int) := by omega
    obtain ⟨p, p1, p2, p3⟩ := hv1.atb i hi
    obtain ⟨q, q1, q2, q3⟩ := hw1.atb (k - i) hki
    have hlit := Sl.lit (e := iE) (x := fw .i64 (A[i] * B[k - i])) (h := h1)
    obtain ⟨u', h3, a1, a2, a3, a4, _⟩ := Sl.push (e := iE) (x := fw .i64 (A[i] * B[k - i])) (c := .i .i64 (fw .i64 (A[i] * B[k - i]))) rfl hs ho hG.nx hc1 (by omega)
    have hsx : suN (P ++ [fw .i64 (A[i] * B[k - i])]) (P ++ [fw .i64 (A[i] * B[k - i])]).length = fw .i64 (sg (abF A B k) (i + 1)) := by
      rw [suN_snoc, hsum, fwA, fwB]
      congr 1
      show _ = sg (abF A B k) i + abF A B k i
      unfold abF
      rw [if_pos (by omega), getD_lt hi, getD_lt hki]
    simp (disch := omega) only [f67_r7, f67_r8, x_min, xg_ld, xg_iads, xg_bslice, min_ii, Option.some.injEq, exists_eq_left', Nat.reduceEqDiff, ↓reduceIte, g0, g1, g6, g7, g8, e1, em, d1, fw64, ei, p1, p2, q1, q2, iE, hc1.dead, bz]
    refine ⟨fresh_one (n := 1) (sz := 1) (by simp (disch := omega) only [getK_set, ↓reduceIte]), ?_⟩
    simp (disch := omega) only [f67_r9, Nat.reduceEqDiff, ↓reduceIte, g8, a1, fw64, bz]
    exact ⟨i + 1, by omega, by omega, by omega, hG.trans a4, u', _, a2, a3, by simp; omega, hsx, by simp (disch := omega) only [getK_set, Nat.reduceEqDiff, ↓reduceIte, g0, g1, g5, g6, g16, g17, g18, and_self, Int.natCast_add, Int.natCast_one]⟩
  · have d1 : decide ((i : Int) ≤ ((min k (A.length - 1) : Nat) : Int)) = false := decide_eq_false (by omega)
    obtain rfl : i = min k (A.length - 1) + 1 := by omega
    simp (disch := omega) only [f67_r7, x_min, min_ii, Nat.reduceEqDiff, ↓reduceIte, Bool.false_eq_true, g0, g6, g8, e1, em, d1, fw64, bz]
    exact hq _ _ ⟨hlo, Nat.le_refl _, hG, u, P, hs, ho, hP, hsum, by simp (disch := omega) only [getK_set, Nat.reduceEqDiff, ↓reduceIte, g0, g1, g5, g6, g7, g8, g16, g17, g18, and_self]⟩
def f67_I (h : H) (v w o : V) (A B : List Int) (k : Nat) (fr : Fr) (h1 : H) : Prop := k ≤ A.length + B.length - 1 ∧ Grow h.nx.nat h h1 ∧ Sl iE h1 o (fil (prd A B) k) ∧ Own h.nx.nat o ∧ fr.get (K.ofNat 0) = some (v) ∧ fr.get (K.ofNat 1) = some (w) ∧ fr.get (K.ofNat 5) = some (o) ∧ fr.get (K.ofNat 16) = some (o) ∧ fr.get (K.ofNat 17) = some (.i .i64 ((A.length + B.length - 1 : Nat) : Int)) ∧ fr.get (K.ofNat 18) = some (.i .i64 (k : Int))
theorem f67_ret (k94 : fs.get (.ofNat 94) = some f94) (hA : 1 ≤ A.length ∧ A.length ≤ 1000) (hB : 1 ≤ B.length ∧ B.length ≤ 1000) (hv : Sr iE h v A) (hw : Sr iE h w B) (hc : HC h) : Ret fs f67 [v, w] h fun r h' => Sl iE h' r (prd A B) ∧ Own h.nx.nat r ∧ Grow h.nx.nat h h' := by
  apply ret_of rfl
  show W fs none f67_c _ _ _
  unfold f67_c
  have hpl := prd_len (A := A) (B := B)
  have en : (A.length : Int) + (B.length : Int) - 1 = ((A.length + B.length - 1 : Nat) : Int) := by omega
  have hmk := mks_ints (h := h) (k := .i64) (n := A.length + B.length - 1) (by omega)
  have hsl := mks_sl (h := h) (n := A.length + B.length - 1)
  have hle := hsl.len
  rw [List.length_replicate] at hle
  have gA := Grow.new (Nat.le_refl h.nx.nat) (.cells ((A.length + B.length - 1) * 1) (rep [.i .i64 0] (A.length + B.length - 1)))
  simp (disch := omega) only [f67_r0, f67_r1, f67_r2, x_mks, Nat.reduceEqDiff, ↓reduceIte, hv.len, hw.len, fw64, en, hmk, hle, bz]
  generalize h.new (.cells ((A.length + B.length - 1) * 1) (rep [.i .i64 0] (A.length + B.length - 1))) = h0 at *
  have ho0 : Own h.nx.nat (.sl h.nx 0 (A.length + B.length - 1) 1) := fun id off n sz e => by cases e; exact Nat.le_refl _
  generalize V.sl h.nx 0 (A.length + B.length - 1) 1 = o at *
  rw [show List.replicate (A.length + B.length - 1) (0 : Int) = fil (prd A B) 0 by rw [fil_0, hpl]] at hsl
  refine W_loop (f67_I h v w o A B) (fun k => A.length + B.length - 1 - k) ?_ 0 ⟨by omega, gA, hsl, ho0, by simp (disch := omega) only [getK_set, Nat.reduceEqDiff, ↓reduceIte, and_self, Int.natCast_zero]⟩
  rintro k fr h1 ⟨hk, hG, hs, ho, g0, g1, g5, g16, g17, g18⟩
  have hc1 := hG.hc hc
  have hv1 := hv.grow hc hG
  have hw1 := hw.grow hc hG
  unfold f67_l1
  by_cases hlt : k < A.length + B.length - 1
  · have d1 : decide ((k : Int) < ((A.length + B.length - 1 : Nat) : Int)) = true := decide_eq_true (by omega)
    have e3 : max (0 : Int) ((k : Int) - (B.length : Int) + 1) = ((k + 1 - B.length : Nat) : Int) := by omega
    simp (disch := omega) only [f67_r3, f67_r4, f67_r5, f67_r6, x_max, max_ii, Nat.reduceEqDiff, ↓reduceIte, g1, g17, g18, d1, hw1.len, fw64, e3, bz]
    refine f67_inner (h2 := h1) (v := v) (w := w) (o := o) (A := A) (B := B) (k := k) (i := k + 1 - B.length) hA hB hv1 hw1 hc1 ⟨Nat.le_refl _, by omega, Grow.refl _ _, .sn, [], Sl.nil, Own.sn, by simp, ?_, by simp (disch := omega) only [getK_set, Nat.reduceEqDiff, ↓reduceIte, g0, g1, g5, g16, g17, g18, and_self]⟩ ?_
    · rw [sg_zero (fun i hi => abF_low (by omega))]; rfl
    clear g0 g1 g5 g16 g17 g18 fr
    rintro fr h3 ⟨_, _, hG3, u, P, hsu, hou, hP, hsum, g0, g1, g5, g6, g7, g8, g16, g17, g18⟩
    have hs3 := hs.grow hc1 hG3
    have hc3 := hG3.hc hc1
    have hfin : suN P P.length = (prd A B)[k]'(by omega) := by
      rw [hsum, prd_at]
      congr 1
      unfold cvF
      by_cases hka : k ≤ A.length - 1
      · rw [Nat.min_eq_left hka]
        exact (sg_tail (by omega) fun i a b => abF_high (by omega)).symm
      · rw [Nat.min_eq_right (by omega), show A.length - 1 + 1 = A.length by omega]
    have hfl : k < (fil (prd A B) k).length := by rw [fil_len (by omega)]; omega
    have e4 := fun P0 => f94_eq (P := P0) k94 hsu.sr (by omega)
    rw [hfin] at e4
    obtain ⟨p, id, m, cs', a1, a2, a3, ⟨off, n', sz, a4⟩, a5⟩ := hs3.st (i := k) hfl (x := (prd A B)[k]'(by omega)) (c := .i .i64 ((prd A B)[k]'(by omega))) rfl rfl hc3
    rw [fil_set (by omega)] at a3
    simp (disch := omega) only [f67_r10, f67_r11, Nat.reduceEqDiff, ↓reduceIte, g5, g6, g7, g18, e4, a1, a2, fw64, bz]
    exact ⟨k + 1, by omega, by omega, (hG.trans (hG3.low hG.nx)).trans (Grow.put (ho _ _ _ _ a4) a5 _), a3, ho, by simp (disch := omega) only [getK_set, Nat.reduceEqDiff, ↓reduceIte, g0, g1, g5, g16, g17, and_self, Int.natCast_add, Int.natCast_one]⟩
  · have d1 : decide ((k : Int) < ((A.length + B.length - 1 : Nat) : Int)) = false := decide_eq_false (by omega)
    have ek : k = (prd A B).length := by omega
    rw [ek, fil_all] at hs
    simp (disch := omega) only [f67_r3, f67_r12, f67_rs, Option.some.injEq, exists_eq_left', Nat.reduceEqDiff, ↓reduceIte, Bool.false_eq_true, g5, g17, g18, d1, bz]
    exact ⟨hs, ho, hG⟩
def f79_J (h h2 : H) (v w o : V) (A B : List Int) (i k : Nat) (fr : Fr) (h1 : H) : Prop := k ≤ B.length ∧ Grow h.nx.nat h2 h1 ∧ Sl iE h1 o (tmL A B i k) ∧ fr.get (K.ofNat 0) = some (v) ∧ fr.get (K.ofNat 1) = some (w) ∧ fr.get (K.ofNat 5) = some (o) ∧ fr.get (K.ofNat 6) = some (.i .i64 (i : Int)) ∧ fr.get (K.ofNat 7) = some (.i .i64 (k : Int))
theorem f79_inner {Q : Ex → Fr → H → Prop} {o : V} {i k : Nat} {h2 h1 : H} {fr : Fr} (hA : A.length ≤ 1000) (hB : B.length ≤ 1000) (hi : i < A.length) (hv : Sr iE h v A) (hw : Sr iE h w B) (hc : HC h) (hG2 : Grow h.nx.nat h h2) (ho : Own h.nx.nat o)
    (hI : f79_J h h2 v w o A B i k fr h1) (hq : ∀ fr h1, f79_J h h2 v w o A B i B.length fr h1 → Q (.exit 2) fr h1) : W fs none (.loop f79_l0) Q fr h1 := by
  refine W_loop (f79_J h h2 v w o A B i) (fun k => B.length - k) ?_ k hI
  clear hI fr h1
  rintro k fr h1 ⟨hk, hG, hs, g0, g1, g5, g6, g7⟩
  have hG1 := hG2.trans hG
  have hc1 := hG1.hc hc
  have hv1 := hv.grow hc hG1
  have hw1 := hw.grow hc hG1
  have e1 := hw1.len
  have bv := hv.beq
  have bw := hw.beq
  have bo := hs.beq
  unfold f79_l0
  by_cases hlt : k < B.length
  · have d1 : decide ((k : Int) < (B.length : Int)) = true := decide_eq_true (by omega)
    have eik : (i : Int) + (k : Int) = ((i + k : Nat) : Int) := by omega
    obtain ⟨p, p1, p2, p3⟩ := hv1.atb i hi
    obtain ⟨q, q1, q2, q3⟩ := hw1.atb k hlt
    have hl : i + k < (tmL A B i k).length := by rw [tmL_len]; omega
    obtain ⟨x, x1, x2, x3⟩ := hs.atb (i + k) hl
    rw [tmL_at] at x2
    obtain ⟨p', id, m, cs', a1, a2, a3, ⟨off, n', sz, a4⟩, a5⟩ := hs.st (i := i + k) hl (x := fw .i64 (fw .i64 (tmF A B i k (i + k)) + fw .i64 (A[i] * B[k]))) (c := .i .i64 (fw .i64 (fw .i64 (tmF A B i k (i + k)) + fw .i64 (A[i] * B[k])))) rfl rfl hc1
    rw [tmL_set hi hlt] at a3
    generalize hx : fw .i64 (tmF A B i k (i + k)) = y at *
    have x2 : loadV h1 x one? = .ok (.i .i64 y) h1 := x2
    obtain rfl : x = p' := by have := x1 .i64 h1; rw [a1] at this; cases this; rfl
    simp (disch := omega) only [f79_r5, f79_r6, f79_r7, xg_ld, xg_iads, Nat.reduceEqDiff, ↓reduceIte, g0, g1, g5, g6, g7, e1, d1, eik, fw64, p1, p2, q1, q2, x1, x2, a2, iE, bz]
    exact ⟨k + 1, by omega, by omega, hG.trans (Grow.put (ho _ _ _ _ a4) a5 _), a3, by simp (disch := omega) only [getK_set, Nat.reduceEqDiff, ↓reduceIte, g0, g1, g5, g6, and_self, Int.natCast_add, Int.natCast_one]⟩
  · have d1 : decide ((k : Int) < (B.length : Int)) = false := decide_eq_false (by omega)
    obtain rfl : k = B.length := by omega
    simp (disch := omega) only [f79_r5, Nat.reduceEqDiff, ↓reduceIte, Bool.false_eq_true, g1, g7, e1, d1, bz]
    exact hq _ _ ⟨Nat.le_refl _, hG, hs, by simp (disch := omega) only [getK_set, Nat.reduceEqDiff, ↓reduceIte, g0, g1, g5, g6, g7, and_self]⟩
def f79_I (h : H) (v w o : V) (A B : List Int) (i : Nat) (fr : Fr) (h1 : H) : Prop := i ≤ A.length ∧ Grow h.nx.nat h h1 ∧ Sl iE h1 o (tmL A B i 0) ∧ fr.get (K.ofNat 0) = some (v) ∧ fr.get (K.ofNat 1) = some (w) ∧ fr.get (K.ofNat 5) = some (o) ∧ fr.get (K.ofNat 6) = some (.i .i64 (i : Int))
theorem f79_ret (hA : 1 ≤ A.length ∧ A.length ≤ 1000) (hB : 1 ≤ B.length ∧ B.length ≤ 1000) (hv : Sr iE h v A) (hw : Sr iE h w B) (hc : HC h) : Ret fs f79 [v, w] h fun r h' => Sl iE h' r (prd A B) ∧ Own h.nx.nat r ∧ Grow h.nx.nat h h' := by
  apply ret_of rfl
  show W fs none f79_c _ _ _
  unfold f79_c
  have en : (A.length : Int) + (B.length : Int) - 1 = ((A.length + B.length - 1 : Nat) : Int) := by omega
  have hmk := mks_ints (h := h) (k := .i64) (n := A.length + B.length - 1) (by omega)
  have hsl := mks_sl (h := h) (n := A.length + B.length - 1)
  have gA := Grow.new (Nat.le_refl h.nx.nat) (.cells ((A.length + B.length - 1) * 1) (rep [.i .i64 0] (A.length + B.length - 1)))
  simp (disch := omega) only [f79_r0, f79_r1, f79_r2, x_mks, Nat.reduceEqDiff, ↓reduceIte, hv.len, hw.len, fw64, en, hmk, bz]
  generalize h.new (.cells ((A.length + B.length - 1) * 1) (rep [.i .i64 0] (A.length + B.length - 1))) = h0 at *
  have ho0 : Own h.nx.nat (.sl h.nx 0 (A.length + B.length - 1) 1) := fun id off n sz e => by cases e; exact Nat.le_refl _
  generalize V.sl h.nx 0 (A.length + B.length - 1) 1 = o at *
  rw [← tmL_zero] at hsl
  refine W_loop (f79_I h v w o A B) (fun i => A.length - i) ?_ 0 ⟨by omega, gA, hsl, by simp (disch := omega) only [getK_set, Nat.reduceEqDiff, ↓reduceIte, and_self, Int.natCast_zero]⟩
  rintro i fr h1 ⟨hi, hG, hs, g0, g1, g5, g6⟩
  have hc1 := hG.hc hc
  have hv1 := hv.grow hc hG
  unfold f79_l1
  by_cases hlt : i < A.length
  · have d1 : decide ((i : Int) < (A.length : Int)) = true := decide_eq_true (by omega)
    simp (disch := omega) only [f79_r3, f79_r4, Nat.reduceEqDiff, ↓reduceIte, g0, g6, d1, hv1.len, bz]
    refine f79_inner (h := h) (h2 := h1) (v := v) (w := w) (o := o) (i := i) (k := 0) hA.2 hB.2 hlt hv hw hc hG ho0 ⟨Nat.zero_le _, Grow.refl _ _, hs, by simp (disch := omega) only [getK_set, Nat.reduceEqDiff, ↓reduceIte, g0, g1, g5, g6, and_self, Int.natCast_zero]⟩ ?_
    clear g0 g1 g5 g6 fr
    rintro fr h3 ⟨_, hG3, hs3, g0, g1, g5, g6, g7⟩
    rw [tmL_next] at hs3
    simp (disch := omega) only [f79_r8, ↓reduceIte, g6, fw64, bz]
    exact ⟨i + 1, by omega, by omega, hG.trans hG3, hs3, by simp (disch := omega) only [getK_set, Nat.reduceEqDiff, ↓reduceIte, g0, g1, g5, and_self, Int.natCast_add, Int.natCast_one]⟩
  · have d1 : decide ((i : Int) < (A.length : Int)) = false := decide_eq_false (by omega)
    obtain rfl : i = A.length := by omega
    rw [tmL_end] at hs
    simp (disch := omega) only [f79_r3, f79_r9, f79_rs, Option.some.injEq, exists_eq_left', Nat.reduceEqDiff, ↓reduceIte, Bool.false_eq_true, g0, g5, g6, d1, hv1.len, bz]
    exact ⟨hs, ho0, hG⟩
def prB (P : List Int) : Bool := decide (P.length ≤ 6) && smB P
structure CallsT (fs : T EF) : Prop extends CSm fs where
  c94 : fs.get (K.ofNat 94) = some f94
  c67 : fs.get (K.ofNat 67) = some f67
  c79 : fs.get (K.ofNat 79) = some f79
  c54 : fs.get (K.ofNat 54) = some f54
  c14 : fs.get (K.ofNat 14) = some f14
  c66 : fs.get (K.ofNat 66) = some f66
  c53 : fs.get (K.ofNat 53) = some f53
theorem f40_ret (k : CallsT fs) (hA : 1 ≤ A.length ∧ A.length ≤ 1000) (hB : 1 ≤ B.length ∧ B.length ≤ 1000) (hv : Sr iE h v A) (hw : Sr iE h w B) (hc : HC h) : Ret fs f40 [v, w] h fun r h' => ∃ u, r = .tup [u, .b (prB (prd A B))] ∧ Sl iE h' u (prd A B) ∧ Own h.nx.nat u ∧ Grow h.nx.nat h h' := by
  apply ret_of rfl
  show W fs none f40_c _ _ _
  unfold f40_c
  simp (disch := omega) only [f40_r0, f40_r1, Nat.reduceEqDiff, ↓reduceIte, bz]
  refine (callP_0 (ef := f79) k.c79 rfl (f79_ret hA hB hv hw hc)).mono ?_
  rintro u h' ⟨hs, ho, hG⟩
  have hpl := prd_len (A := A) (B := B)
  have e1 := fun P0 => f53_eq (P := P0) k.c53 hs.sr (by omega)
  unfold prB
  by_cases h6 : (prd A B).length ≤ 6
  · have d1 : decide (((prd A B).length : Int) ≤ 6) = true := decide_eq_true (by omega)
    have d2 : decide ((prd A B).length ≤ 6) = true := decide_eq_true h6
    simp (disch := omega) only [f40_r2, f40_rs, Option.some.injEq, exists_eq_left', Nat.reduceEqDiff, ↓reduceIte, hs.len, d1, d2, e1, Bool.true_and, bz]
    exact ⟨_, rfl, hs, ho, hG⟩
  · have d1 : decide (((prd A B).length : Int) ≤ 6) = false := decide_eq_false (by omega)
    have d2 : decide ((prd A B).length ≤ 6) = false := decide_eq_false h6
    simp (disch := omega) only [f40_r2, f40_rs, Option.some.injEq, exists_eq_left', Nat.reduceEqDiff, ↓reduceIte, Bool.false_eq_true, hs.len, d1, d2, Bool.false_and, bz]
    exact ⟨_, rfl, hs, ho, hG⟩
end
end Go.Ev
namespace Go.Ev
open Go Go.RowKit
noncomputable def f56_r0 : List EOper := [oG 2 (.as (.c .sn)), oG 3 (.as (.c (.b false)))]
noncomputable def f56_r1 : List EOper := [oG 11 (.mv (tG 0)), oG 12 (.len (tG 11)), oG 13 (.bin .sub (tG 12) (cG 1)), oG 4 (.as (tG 13))]
noncomputable def f56_r2 : List EOper := [oG 14 (.mv (tG 4)), oG 15 (.bin .add (tG 14) (cG 1)), oG 16 (.mkslice 1 [(.i .i64 (.ofNat 0))] (tG 15)), oG 5 (.as (tG 16))]
noncomputable def f56_r3 : List EOper := [oG 17 (.mv (tG 0)), oG 18 (.len (tG 17)), oG 19 (.mv (cG 0))]
noncomputable def f56_r4 : List EOper := [oG 20 (.bin .lss (tG 19) (tG 18))]
noncomputable def f56_r5 : List EOper := [oG 21 (.mv (tG 19)), oG 22 (.iads 1 (tG 17) (tG 19)), oG 23 (.ld (tG 22)), oG 6 (.as (tG 21)), oG 7 (.as (tG 23))]
noncomputable def f56_r6 : List EOper := [oG 24 (.mv (tG 7)), oG 25 (.bslice 1 1 [(.i .i64 (.ofNat 0))] [(0, 1, (tG 24))]), oG 8 (.as (tG 25))]
noncomputable def f56_r7 : List EOper := [oG 26 (.mv (tG 6)), oG 27 (.mv (cG 0))]
noncomputable def f56_r8 : List EOper := [oG 28 (.bin .lss (tG 27) (tG 26))]
noncomputable def f56_r9 : List EOper := [oG 29 (.mv (tG 8)), oG 30 (.bslice 2 1 [(.i .i64 (.ofNat 0)), (.i .i64 (.ofNat 0))] [(0, 1, (cG 1)), (1, 1, (cG 1))]), oG 31 (.call (fG 67) [(tG 29), (tG 30)]), oG 8 (.as (tG 31))]
noncomputable def f56_r10 : List EOper := [oG 32 (.bin .add (tG 27) (cG 1)), oG 27 (.mv (tG 32))]
noncomputable def f56_l0 : EC := (.seq (.reg f56_r8) (.seq (.cond (tG 28) .skip (.exit 2)) (.seq (.block 3 (.reg f56_r9)) (.reg f56_r10))))
noncomputable def f56_r11 : List EOper := [oG 33 (.mv (tG 4)), oG 34 (.mv (tG 6)), oG 35 (.bin .sub (tG 33) (tG 34)), oG 36 (.mv (cG 0))]
noncomputable def f56_r12 : List EOper := [oG 37 (.bin .lss (tG 36) (tG 35))]
noncomputable def f56_r13 : List EOper := [oG 38 (.mv (tG 8)), oG 39 (.bslice 2 1 [(.i .i64 (.ofNat 0)), (.i .i64 (.ofNat 0))] [(0, 1, (cG 1)), (1, 1, (.c (.i .i64 (.negSucc 0))))]), oG 40 (.call (fG 67) [(tG 38), (tG 39)]), oG 8 (.as (tG 40))]
noncomputable def f56_r14 : List EOper := [oG 41 (.bin .add (tG 36) (cG 1)), oG 36 (.mv (tG 41))]
noncomputable def f56_l1 : EC := (.seq (.reg f56_r12) (.seq (.cond (tG 37) .skip (.exit 4)) (.seq (.block 5 (.reg f56_r13)) (.reg f56_r14))))
noncomputable def f56_r15 : List EOper := [oG 42 (.mv (tG 8)), oG 43 (.len (tG 42)), oG 44 (.mv (cG 0))]
noncomputable def f56_r16 : List EOper := [oG 45 (.bin .lss (tG 44) (tG 43))]
noncomputable def f56_r17 : List EOper := [oG 46 (.mv (tG 44)), oG 47 (.iads 1 (tG 42) (tG 44)), oG 48 (.ld (tG 47)), oG 9 (.as (tG 46)), oG 10 (.as (tG 48))]
noncomputable def f56_r18 : List EOper := [oG 49 (.mv (tG 5)), oG 50 (.mv (tG 9)), oG 51 (.iads 1 (tG 49) (tG 50)), oG 52 (.ld (tG 51)), oG 53 (.mv (tG 10)), oG 54 (.bin .add (tG 52) (tG 53)), oG 55 (.iads 1 (tG 49) (tG 50)), ⟨none, none, .st 1 (tG 55) (tG 54)⟩]
noncomputable def f56_r19 : List EOper := [oG 56 (.bin .add (tG 44) (cG 1)), oG 44 (.mv (tG 56))]
noncomputable def f56_l2 : EC := (.seq (.reg f56_r16) (.seq (.cond (tG 45) .skip (.exit 6)) (.seq (.block 7 (.seq (.reg f56_r17) (.reg f56_r18))) (.reg f56_r19))))
noncomputable def f56_r20 : List EOper := [oG 57 (.bin .add (tG 19) (cG 1)), oG 19 (.mv (tG 57))]
noncomputable def f56_l3 : EC := (.seq (.reg f56_r4) (.seq (.cond (tG 20) .skip (.exit 0)) (.seq (.block 1 (.seq (.reg f56_r5) (.seq (.reg f56_r6) (.seq (.seq (.reg f56_r7) (.block 2 (.loop f56_l0))) (.seq (.seq (.reg f56_r11) (.block 4 (.loop f56_l1))) (.seq (.reg f56_r15) (.block 6 (.loop f56_l2)))))))) (.reg f56_r20))))
noncomputable def f56_r21 : List EOper := [oG 58 (.mv (tG 5)), oG 59 (.iads 1 (tG 58) (cG 0)), oG 60 (.ld (tG 59)), oG 61 (.bin .eql (tG 60) (cG 0)), oG 62 (.mv (tG 61)), gG 63 62 false (.mv (tG 5)), gG 64 62 false (.mv (tG 4)), gG 65 62 false (.iads 1 (tG 63) (tG 64)), gG 66 62 false (.ld (tG 65)), gG 67 62 false (.bin .eql (tG 66) (cG 0)), oG 68 (.pick (tG 62) (.c (.b true)) (tG 67))]
noncomputable def f56_r22 : List EOper := [oG 2 (.as (.c .sn)), oG 3 (.as (.c (.b false)))]
noncomputable def f56_r23 : List EOper := [oG 69 (.mv (tG 5)), oG 2 (.as (tG 69)), oG 3 (.as (.c (.b true)))]
noncomputable def f56_c : EC := (.seq (.reg f56_r0) (.seq (.reg f56_r1) (.seq (.reg f56_r2) (.seq (.seq (.reg f56_r3) (.block 0 (.loop f56_l3))) (.seq (.seq (.reg f56_r21) (.cond (tG 68) (.seq (.reg f56_r22) .ret) .skip)) (.seq (.reg f56_r23) .ret))))))
noncomputable def f56 : EF := ⟨70, [.tmp (.ofNat 2), .tmp (.ofNat 3)], f56_c, none⟩
noncomputable def f69_r0 : List EOper := [oG 2 (.as (.c .sn))]
noncomputable def f69_r1 : List EOper := [oG 9 (.mv (tG 0)), oG 10 (.len (tG 9)), oG 11 (.bin .sub (tG 10) (cG 1)), oG 3 (.as (tG 11))]
noncomputable def f69_r2 : List EOper := [oG 12 (.mv (tG 3)), oG 13 (.bin .add (tG 12) (cG 1)), oG 14 (.mkslice 1 [(.i .i64 (.ofNat 0))] (tG 13)), oG 4 (.as (tG 14))]
noncomputable def f69_r3 : List EOper := [oG 5 (.as (cG 0))]
noncomputable def f69_r4 : List EOper := [oG 15 (.mv (tG 5)), oG 16 (.mv (tG 3)), oG 17 (.bin .leq (tG 15) (tG 16))]
noncomputable def f69_r5 : List EOper := [oG 20 (.bslice 1 1 [(.i .i64 (.ofNat 0))] [(0, 1, (cG 1))]), oG 6 (.as (tG 20))]
noncomputable def f69_r6 : List EOper := [oG 7 (.as (cG 0))]
noncomputable def f69_r7 : List EOper := [oG 21 (.mv (tG 7)), oG 22 (.mv (tG 3)), oG 23 (.bin .lss (tG 21) (tG 22))]
noncomputable def f69_r8 : List EOper := [oG 26 (.mv (tG 7)), oG 27 (.mv (tG 5)), oG 28 (.bin .lss (tG 26) (tG 27))]
noncomputable def f69_r9 : List EOper := [oG 29 (.mv (tG 6)), oG 30 (.bslice 2 1 [(.i .i64 (.ofNat 0)), (.i .i64 (.ofNat 0))] [(0, 1, (cG 1)), (1, 1, (cG 1))]), oG 31 (.call (fG 79) [(tG 29), (tG 30)]), oG 6 (.as (tG 31))]
noncomputable def f69_r10 : List EOper := [oG 32 (.mv (tG 6)), oG 33 (.bslice 2 1 [(.i .i64 (.ofNat 0)), (.i .i64 (.ofNat 0))] [(0, 1, (cG 1)), (1, 1, (.c (.i .i64 (.negSucc 0))))]), oG 34 (.call (fG 79) [(tG 32), (tG 33)]), oG 6 (.as (tG 34))]
noncomputable def f69_r11 : List EOper := [oG 24 (.mv (tG 7)), oG 25 (.bin .add (tG 24) (cG 1)), oG 7 (.as (tG 25))]
noncomputable def f69_l0 : EC := (.seq (.seq (.reg f69_r7) (.cond (tG 23) .skip (.exit 2))) (.seq (.block 3 (.seq (.reg f69_r8) (.cond (tG 28) (.reg f69_r9) (.reg f69_r10)))) (.reg f69_r11)))
noncomputable def f69_r12 : List EOper := [oG 8 (.as (cG 0))]
noncomputable def f69_r13 : List EOper := [oG 35 (.mv (tG 8)), oG 36 (.mv (tG 3)), oG 37 (.bin .leq (tG 35) (tG 36))]
noncomputable def f69_r14 : List Stage := [⟨[oG 40 (.mv (tG 4)), oG 41 (.mv (tG 8)), oG 42 (.mv (tG 4)), oG 43 (.mv (tG 8)), oG 44 (.iads 1 (tG 42) (tG 43)), oG 45 (.ld (tG 44)), oG 46 (.mv (tG 0)), oG 47 (.mv (tG 5)), oG 48 (.iads 1 (tG 46) (tG 47)), oG 49 (.ld (tG 48)), oG 50 (.mv (tG 6)), oG 51 (.mv (tG 8)), oG 52 (.iads 1 (tG 50) (tG 51)), oG 53 (.ld (tG 52)), oG 54 (.bin .mul (tG 49) (tG 53)), oG 55 (.bin .add (tG 45) (tG 54)), oG 56 (.iads 1 (tG 40) (tG 41))], [], (some ⟨none, none, .st 1 (tG 56) (tG 55)⟩), []⟩, ⟨[], [], none, []⟩]
noncomputable def f69_r15 : List EOper := [oG 38 (.mv (tG 8)), oG 39 (.bin .add (tG 38) (cG 1)), oG 8 (.as (tG 39))]
noncomputable def f69_l1 : EC := (.seq (.seq (.reg f69_r13) (.cond (tG 37) .skip (.exit 4))) (.seq (.block 5 (.draw f69_r14)) (.reg f69_r15)))
noncomputable def f69_r16 : List EOper := [oG 18 (.mv (tG 5)), oG 19 (.bin .add (tG 18) (cG 1)), oG 5 (.as (tG 19))]
noncomputable def f69_l2 : EC := (.seq (.seq (.reg f69_r4) (.cond (tG 17) .skip (.exit 0))) (.seq (.block 1 (.seq (.reg f69_r5) (.seq (.seq (.reg f69_r6) (.block 2 (.loop f69_l0))) (.seq (.reg f69_r12) (.block 4 (.loop f69_l1)))))) (.reg f69_r16)))
noncomputable def f69_r17 : List EOper := [oG 57 (.mv (tG 4)), oG 2 (.as (tG 57))]
noncomputable def f69_c : EC := (.seq (.reg f69_r0) (.seq (.reg f69_r1) (.seq (.reg f69_r2) (.seq (.seq (.reg f69_r3) (.block 0 (.loop f69_l2))) (.seq (.reg f69_r17) .ret)))))
noncomputable def f69 : EF := ⟨58, [.tmp (.ofNat 2)], f69_c, none⟩
section
variable {fs : T EF} {h : H} {v w : V} {A B L : List Int}
theorem lit2 {h : H} {x y : Int} : Sl iE (h.new (.cells (2 * 1) [.i .i64 x, .i .i64 y])) (.sl h.nx 0 2 1) [x, y] := by
  refine .inr ⟨h.nx, 0, 2 * 1, _, rfl, get_new_same, rfl, by simp, fun i hi => ?_⟩
  obtain rfl | rfl : i = 0 ∨ i = 1 := by have : i < 2 := hi; omega
  · rfl
  · rfl
theorem plB_len {A : List Int} (h : plB A = true) : 1 ≤ A.length ∧ A.length ≤ 6 ∧ smB A = true ∧ A.getD (A.length - 1) 0 ≠ 0 := by
  unfold plB at h; simp only [Bool.and_eq_true, decide_eq_true_eq] at h; exact ⟨h.1, h.2.1, h.2.2.1, h.2.2.2⟩
structure CallsD (fs : T EF) : Prop extends CallsT fs where
  c56 : fs.get (K.ofNat 56) = some f56
  c69 : fs.get (K.ofNat 69) = some f69
theorem lit1 {h : H} {x : Int} : Sl iE (h.new (.cells (1 * 1) [.i .i64 x])) (.sl h.nx 0 1 1) [x] := Sl.lit (e := iE) (x := x)
end
end Go.Ev
namespace Go.Ev
open Go Go.RowKit
noncomputable def f20_r0 : List EOper := [oG 2 (.as (.c .sn)), oG 3 (.as (cG 0))]
noncomputable def f20_r1 : List EOper := [oG 10 (.mv (tG 0)), oG 11 (.call (fG 14) [(tG 10)]), oG 4 (.as (tG 11))]
noncomputable def f20_r2 : List EOper := [oG 12 (.mv (tG 4)), oG 13 (.bin .neq (tG 12) (cG 0))]
noncomputable def f20_r3 : List EOper := [oG 14 (.mv (tG 4)), oG 2 (.as (.c .sn)), oG 3 (.as (tG 14))]
noncomputable def f20_r4 : List EOper := [oG 16 (.mv (tG 0)), oG 17 (.call (fG 59) [(tG 16)]), oG 15 (.mv (tG 17)), oG 18 (.ext (tG 15) 0), oG 19 (.ext (tG 15) 1), oG 5 (.as (tG 18)), oG 6 (.as (tG 19))]
noncomputable def f20_r5 : List EOper := [oG 20 (.mv (tG 6)), oG 21 (.not (tG 20))]
noncomputable def f20_r6 : List EOper := [oG 2 (.as (.c .sn)), oG 3 (.as (cG 4))]
noncomputable def f20_r7 : List EOper := [oG 22 (.mv (tG 5)), oG 23 (.len (tG 22)), oG 24 (.mkslice 1 [.sn] (tG 23)), oG 7 (.as (tG 24))]
noncomputable def f20_r8 : List EOper := [oG 25 (.mv (tG 5)), oG 26 (.len (tG 25)), oG 27 (.mv (cG 0))]
noncomputable def f20_r9 : List EOper := [oG 28 (.bin .lss (tG 27) (tG 26))]
noncomputable def f20_r10 : List EOper := [oG 29 (.mv (tG 27)), oG 30 (.iads 8 (tG 25) (tG 27)), oG 31 (.ldn 8 (tG 30)), oG 9 (.alloc 8 [(.i .i64 (.ofNat 0)), (.i .i64 (.ofNat 0)), (.i .i64 (.ofNat 0)), (.i .i64 (.ofNat 0)), (.i .i64 (.ofNat 0)), (.i .i64 (.ofNat 0)), (.i .i64 (.ofNat 0)), (.i .i64 (.ofNat 0))]), oG 8 (.as (tG 29)), ⟨none, none, .st 8 (tG 9) (tG 31)⟩]
noncomputable def f20_r11 : List Stage := [⟨[oG 32 (.mv (tG 7)), oG 33 (.mv (tG 8)), oG 34 (.ldn 8 (tG 9)), oG 35 (.mv (tG 0)), oG 36 (.mv (tG 8))], [], (some (oG 37 (.call (fG 61) [(tG 35), (tG 36)]))), []⟩, ⟨[], [oG 32 (.mv (tG 7)), oG 33 (.mv (tG 8)), oG 34 (.ldn 8 (tG 9))], (some (oG 38 (.call (fG 60) [(tG 34), (tG 37)]))), []⟩, ⟨[oG 39 (.iads 1 (tG 32) (tG 33))], [oG 32 (.mv (tG 7)), oG 33 (.mv (tG 8))], (some ⟨none, none, .st 1 (tG 39) (tG 38)⟩), []⟩, ⟨[], [], none, []⟩]
noncomputable def f20_r12 : List EOper := [oG 40 (.bin .add (tG 27) (cG 1)), oG 27 (.mv (tG 40))]
noncomputable def f20_l0 : EC := (.seq (.reg f20_r9) (.seq (.cond (tG 28) .skip (.exit 0)) (.seq (.block 1 (.seq (.reg f20_r10) (.draw f20_r11))) (.reg f20_r12))))
noncomputable def f20_r13 : List EOper := [oG 41 (.mv (tG 7)), oG 2 (.as (tG 41)), oG 3 (.as (cG 0))]
noncomputable def f20_c : EC := (.seq (.reg f20_r0) (.seq (.seq (.reg f20_r1) (.seq (.reg f20_r2) (.cond (tG 13) (.seq (.reg f20_r3) .ret) .skip))) (.seq (.reg f20_r4) (.seq (.seq (.reg f20_r5) (.cond (tG 21) (.seq (.reg f20_r6) .ret) .skip)) (.seq (.reg f20_r7) (.seq (.seq (.reg f20_r8) (.block 0 (.loop f20_l0))) (.seq (.reg f20_r13) .ret)))))))
noncomputable def f20 : EF := ⟨42, [.tmp (.ofNat 2), .tmp (.ofNat 3)], f20_c, none⟩
theorem f20_rs : f20.rs = [.tmp (.ofNat 2), .tmp (.ofNat 3)] := of_eq_true (eq_self _)
section
variable {fs : T EF} {h : H} {v w u : V} {A : List Int}
theorem Sk.at8 {L : List (Nat → Rat)} (hs : Sk 8 rowE h v L) {i : Nat} (hi : i < L.length) : ∃ p, (∀ k h1, iadsV 8 v (.i k (i : Int)) h1 = .ok p h1) ∧ loadV h p (many? 8) = .ok (.agg (rowE L[i])) h := by
  rcases hs with ⟨rfl, rfl⟩ | ⟨id, off, m, cs, rfl, hb, hl, hm, hx⟩
  · simp at hi
  · refine ⟨.p id (off + i * 8), fun k h1 => ?_, ?_⟩
    · rw [iads_sl, idx_n hi]
    · rw [loadn_p hb (by omega), takeN_eq, dropN_eq]
      have h1 := flat_drop rowE_len L i hi
      rw [← hx, List.drop_take, List.take_take, List.drop_drop, Nat.min_eq_left (by omega)] at h1
      rw [h1]
theorem mks_vs {k : IntKind} {n : Nat} (hn : n ≤ 1000000) : mksV 1 [.sn] h (.i k (n : Int)) = .ok (.sl h.nx 0 n 1) (h.new (.cells (n * 1) (rep [.sn] n))) := by
  show (bif Nat.ble n 1000000 then RV.ok (.sl h.nx 0 n 1) (h.new (.cells (n * 1) (rep [.sn] n))) else .no) = _
  rw [Nat.ble_eq_true_of_le hn]; rfl
theorem rep_sn : ∀ n, rep [V.sn] n = List.replicate n V.sn
  | 0 => rfl
  | n + 1 => by
    show cat [V.sn] (rep [V.sn] n) = _
    rw [cat_eq, rep_sn n, List.replicate_succ]; rfl
theorem mks_vsl {n : Nat} : Sl vE (h.new (.cells (n * 1) (rep [.sn] n))) (.sl h.nx 0 n 1) (List.replicate n V.sn) := by
  refine .inr ⟨h.nx, 0, n * 1, _, by simp, get_new_same, by rw [rep_sn]; simp, by simp, fun i hi => ?_⟩
  rw [rep_sn, Nat.zero_add, List.getElem?_replicate, if_pos (by simpa using hi)]
  simp [vE]
def rwN (A : List Int) (i : Nat) : Nat := (A.length - 1 - i) / 2 + 1
noncomputable def tbL (A : List Int) : List (List (Int × Int)) := (List.range A.length).map fun i => rwL ((dTop A).at i).re (rwN A i)
theorem tbL_len : (tbL A).length = A.length := by simp [tbL]
theorem tbL_at {i : Nat} (hi : i < (tbL A).length) : (tbL A)[i] = rwL ((dTop A).at i).re (rwN A i) := by simp [tbL]
structure CallsL20 (fs : T EF) : Prop extends CallsL59 fs, CSm fs where
  c54 : fs.get (K.ofNat 54) = some f54
  c14 : fs.get (K.ofNat 14) = some f14
  c59 : fs.get (K.ofNat 59) = some f59
  c60 : fs.get (K.ofNat 60) = some f60
  c61 : fs.get (K.ofNat 61) = some f61
  c93 : fs.get (K.ofNat 93) = some f93
structure TbB (A : List Int) : Prop where
  st : ∀ i, i + 1 < A.length → (∀ j, j ≤ i → ((dTop A).at j).re 0 ≠ 0) → StpB ((dTop A).at i).bf ((dTop A).at i).re
  ra : ∀ i, i < A.length → (∀ j, j < i → ((dTop A).at j).re 0 ≠ 0) → inR .i64 (((dTop A).at i).re 0).num = true ∧ inR .i64 ((((dTop A).at i).re 0).den : Int) = true
def f20_I (A : List Int) (h0 : H) (v o : V) (zb : K) (i : Nat) (fr : Fr) (h1 : H) : Prop := i ≤ A.length ∧ Grow h0.nx.nat h0 h1 ∧ Sk 8 rowE h1 o (rwsL A A.length) ∧ (∃ ws, Sl vE h1 (.sl zb 0 A.length 1) ws ∧ ws.length = A.length ∧ ∀ j (hj : j < ws.length), j < i → Srp h1 ws[j] (rwL ((dTop A).at j).re (rwN A j)) ∧ Own (zb.nat + 1) ws[j]) ∧ zb.nat < h1.nx.nat ∧ fr.get (K.ofNat 0) = some (v) ∧ fr.get (K.ofNat 7) = some (.sl zb 0 A.length 1) ∧ fr.get (K.ofNat 25) = some (o) ∧ fr.get (K.ofNat 26) = some (.i .i64 (A.length : Int)) ∧ fr.get (K.ofNat 27) = some (.i .i64 (i : Int))
theorem f20_ret (k : CallsL20 fs) (hA : plB A = true) (hB : TbB A) (hv : Sr iE h v A) (hc : HC h) : Ret fs f20 [v] h fun r h' => Grow h.nx.nat h h' ∧ (((∀ j, j + 1 < A.length → ((dTop A).at j).re 0 ≠ 0) ∧ ∃ o us, r = .tup [o, .i .i64 0] ∧ Srr h' o us (tbL A)) ∨ ((∃ j, j + 1 < A.length ∧ ((dTop A).at j).re 0 = 0) ∧ r = .tup [.sn, .i .i64 4])) := by
  obtain ⟨l1, l2, l3, _⟩ := plB_len hA
  apply ret_of rfl
  show W fs none f20_c _ _ _
  unfold f20_c
  have ca : ckI A = 0 := by unfold ckI; rw [if_pos hA]
  have eA := fun P => f14_eq k.toCSm k.c54 k.c14 hv (by omega) (P := P)
  have d0 : decide ((0 : Int) ≠ 0) = false := rfl
  simp (disch := omega) only [f20_r0, f20_r1, f20_r2, f20_r4, Nat.reduceEqDiff, ↓reduceIte, Bool.false_eq_true, eA, ca, d0, bz]
  refine (callP_0 (ef := f59) k.c59 rfl (f59_ret k.toCallsL59 l1 l2 l3 hB.st hB.ra hv hc)).mono ?_
  rintro r h1 ⟨o, b, rfl, g1, oo, hcase⟩
  have hc1 := g1.hc hc
  rcases hcase with ⟨rfl, sk, nz⟩ | ⟨rfl, rfl, z⟩
  · have elo := sk.len
    rw [rwsL_len] at elo
    have ho1 := sk.one
    have hmk := mks_vs (h := h1) (k := .i64) (n := A.length) (by omega)
    have hsl := mks_vsl (h := h1) (n := A.length)
    have gN := Grow.new (Nat.le_refl h1.nx.nat) (.cells (A.length * 1) (rep [.sn] A.length))
    have nN := nx_new h1 (.cells (A.length * 1) (rep [.sn] A.length))
    simp (disch := omega) only [f20_r5, f20_r7, f20_r8, x_mks, Nat.reduceEqDiff, ↓reduceIte, Bool.false_eq_true, Bool.not_true, elo, hmk, bz]
    have G2 := g1.trans (gN.low g1.nx)
    have skN := sk.grow hc1 gN
    have olt : ∀ id off n sz, o = .sl id off n sz → id.nat < h1.nx.nat := sk.lt hc1
    generalize hzb : h1.nx = zb at *
    generalize h1.new (.cells (A.length * 1) (rep [.sn] A.length)) = h2 at *
    refine W_loop (f20_I A h v o zb) (fun i => A.length - i) ?_ 0 ⟨by omega, G2, skN, ⟨_, hsl, by simp, fun j _ hj => absurd hj (by omega)⟩, by omega, by simp (disch := omega) only [getK_set, Nat.reduceEqDiff, ↓reduceIte, and_self, Int.natCast_zero]⟩
    clear hsl skN G2 gN hmk ho1 elo sk
    rintro i fr h3 ⟨hi, hG, sk, ⟨ws, sw, lw, aw⟩, hzl, g0, g7, g25, g26, g27⟩
    have hc3 := hG.hc hc
    unfold f20_l0
    by_cases hlt : i < A.length
    · have d1 : decide ((i : Int) < (A.length : Int)) = true := decide_eq_true (by omega)
      have e4 : fw .i64 ((i : Int) + 1) = ((i + 1 : Nat) : Int) := by rw [fw64 (by omega) (by omega)]; rfl
      obtain ⟨p, p1, p2⟩ := sk.at8 (i := i) (by rw [rwsL_len]; exact hlt)
      have eR : (rwsL A A.length)[i]'(by rw [rwsL_len]; exact hlt) = ((dTop A).at i).re := by simp [rwsL]
      rw [eR] at p2
      have hz : [V.i IntKind.i64 0, .i .i64 0, .i .i64 0, .i .i64 0, .i .i64 0, .i .i64 0, .i .i64 0, .i .i64 0] = zr 0 := rfl
      have st := store8 (h := h3.new (.cells 8 (zr 0))) (id := h3.nx) (us := rowE ((dTop A).at i).re) get_new_same rfl rfl
      have gP := (Grow.new (Nat.le_refl h3.nx.nat) (.cells 8 (zr 0))).trans (Grow.put (h := h3.new (.cells 8 (zr 0))) (k := h3.nx) (Nat.le_refl _) (by rw [nx_new]; omega) (.cells 8 (rowE ((dTop A).at i).re)))
      have nP : ((h3.new (.cells 8 (zr 0))).put h3.nx (.cells 8 (rowE ((dTop A).at i).re))).nx.nat = h3.nx.nat + 1 := by rw [nx_put, nx_new]
      have q9 : ((h3.new (.cells 8 (zr 0))).put h3.nx (.cells 8 (rowE ((dTop A).at i).re))).get h3.nx = .cells 8 (rowE ((dTop A).at i).re) := get_put_same
      have l9 := load8 q9 rfl
      have hvP := (hv.grow hc hG).grow hc3 gP
      have e61 := fun P => callP_eq2 (P := P) (callP_0 (ef := f61) k.c61 rfl (f61_ret (m := i) hvP (by omega) (by omega)))
      have hbz : beqV (.sl zb 0 A.length 1) (.sl zb 0 A.length 1) = true := sw.beq
      simp (disch := omega) only [f20_r9, f20_r10, f20_r11, Nat.reduceEqDiff, ↓reduceIte, g0, g7, g25, g26, g27, d1, p1, p2, hz, st, l9, e61, hbz, beq_row, bz]
      generalize (h3.new (.cells 8 (zr 0))).put h3.nx (.cells 8 (rowE ((dTop A).at i).re)) = h4 at *
      have hc4 := gP.hc hc3
      refine (callP_0 (ef := f60) k.c60 rfl (f60_ret (n := rwN A i) k.c93 (by unfold rwN; omega) hc4)).mono ?_
      rintro u h5 ⟨su, ou, g5⟩
      have G35 := gP.trans (g5.low gP.nx)
      have sw5 := sw.grow hc3 G35
      obtain ⟨p', id, m, cs', a1, a2, a3, ⟨off, n', sz, a4⟩, a5⟩ := sw5.st (i := i) (by rw [lw]; exact hlt) (x := u) (c := u) rfl su.one (g5.hc hc4)
      cases a4
      simp (disch := omega) only [f20_r12, xg_iads, Nat.reduceEqDiff, ↓reduceIte, g7, g27, a1, a2, hbz, e4, bz]
      have n5 := g5.nx
      have G6 := (hG.trans (G35.low hG.nx)).trans (Grow.put (b := h.nx.nat) (by have := g1.nx; rw [hzb] at this; exact this) a5 (.cells m cs'))
      refine ⟨i + 1, by omega, by omega, G6, (sk.grow hc3 G35).put (fun off n sz e => absurd (olt _ _ _ _ e) (Nat.lt_irrefl _)) _, ⟨_, a3, by simp [lw], fun j hj hn => ?_⟩, a5, by simp (disch := omega) only [getK_set, Nat.reduceEqDiff, ↓reduceIte, g0, g7, g25, g26, and_self]⟩
      rw [List.getElem_set]
      by_cases e : i = j
      · subst e
        rw [if_pos rfl]
        have nu : NotIn zb u := fun off n sz e => by have := ou _ _ _ _ e; omega
        exact ⟨su.srp.old (fun id off n sz e => get_put_other (fun e2 => nu off n sz (by rw [e, e2]))), fun id off n sz e => by have := ou _ _ _ _ e; omega⟩
      · rw [if_neg e]
        have hj' : j < ws.length := by simpa using hj
        obtain ⟨s1, s2⟩ := aw j hj' (by omega)
        have nu : NotIn zb ws[j] := s2.notIn (by omega)
        exact ⟨(s1.grow hc3 G35).old (fun id off n sz e => get_put_other (fun e2 => nu off n sz (by rw [e, e2]))), s2⟩
    · have d1 : decide ((i : Int) < (A.length : Int)) = false := decide_eq_false (by omega)
      obtain rfl : i = A.length := by omega
      simp (disch := omega) only [f20_r9, f20_r13, f20_rs, Option.some.injEq, exists_eq_left', Nat.reduceEqDiff, ↓reduceIte, Bool.false_eq_true, g7, g26, g27, d1, bz]
      exact ⟨hG, .inl ⟨nz, _, ws, rfl, by rw [tbL_len, lw], sw.sr, fun j h1 h2 => by rw [tbL_at]; exact (aw j h1 (by omega)).1⟩⟩
  · simp (disch := omega) only [f20_r5, f20_r6, f20_rs, of4, Option.some.injEq, exists_eq_left', Nat.reduceEqDiff, ↓reduceIte, Bool.not_false, bz]
    exact ⟨g1, .inr ⟨z, trivial⟩⟩
end
end Go.Ev
namespace Go.Ev
open Go Go.RowKit
section
variable {fs : T EF} {h : H} {v w u : V} {A : List Int} {L : List (Nat → Rat)}
end
end Go.Ev
namespace Go.Ev
open Go Go.RowKit
section
variable {fs : T EF} {h : H} {v w u : V} {A : List Int} {L : List (Nat → Rat)}
end
end Go.Ev
namespace Go.Ev
open Go Go.RowKit
section
variable {fs : T EF} {h : H} {v w u : V} {A : List Int} {L : List (Nat → Rat)}
noncomputable def reA (A : List Int) (i : Nat) : Nat → Rat := ((dTop A).at i).re
end
end Go.Ev
namespace Go.Ev
open Go Go.RowKit
section
variable {fs : T EF} {h : H} {v w u : V} {A : List Int} {L : List (Nat → Rat)}
end
end Go.Ev
namespace Go.Ev
open Go Go.RowKit
def Fr' (q : Rat) (M N : Nat) : Prop := q.num.natAbs ≤ M ∧ q.den ≤ N
theorem div_le {a b : Int} (hb : b ≠ 0) : (Rat.divInt a b).num.natAbs ≤ a.natAbs ∧ (Rat.divInt a b).den ≤ b.natAbs := by
  obtain ⟨h1, h2⟩ := fr_div (a := a) hb
  constructor
  · rw [h1, Int.natAbs_tdiv]; exact Nat.div_le_self _ _
  · have : ((Rat.divInt a b).den : Int).natAbs ≤ b.natAbs := by rw [h2, Int.natAbs_tdiv]; exact Nat.div_le_self _ _
    simpa using this
theorem Fr'.mul {p q : Rat} {M N M' N' : Nat} (h : Fr' p M N) (h' : Fr' q M' N') : Fr' (p * q) (M * M') (N * N') := by
  have e := div_le (a := p.num * q.num) (b := (p.den : Int) * (q.den : Int)) (fun e => by rcases Int.mul_eq_zero.1 e with h | h; exact rat_den h; exact rat_den h)
  rw [rat_mul, Int.natAbs_mul, Int.natAbs_mul] at e
  exact ⟨Nat.le_trans e.1 (Nat.mul_le_mul h.1 h'.1), Nat.le_trans e.2 (by simpa using Nat.mul_le_mul h.2 h'.2)⟩
theorem Fr'.div {p q : Rat} {M N M' N' : Nat} (h : Fr' p M N) (h' : Fr' q M' N') (hq : q.num ≠ 0) : Fr' (p / q) (M * N') (N * M') := by
  have e := div_le (a := p.num * (q.den : Int)) (b := (p.den : Int) * q.num) (fun e => by rcases Int.mul_eq_zero.1 e with h | h; exact rat_den h; exact hq h)
  rw [rat_div, Int.natAbs_mul, Int.natAbs_mul] at e
  exact ⟨Nat.le_trans e.1 (by simpa using Nat.mul_le_mul h.1 h'.2), Nat.le_trans e.2 (by simpa using Nat.mul_le_mul h.2 h'.1)⟩
theorem Fr'.int {a : Int} {M : Nat} (h : a.natAbs ≤ M) : Fr' (a : Rat) M 1 := ⟨by simpa using h, by simp⟩
theorem Fr'.of {a b : Int} {q : Rat} {M N : Nat} (hq : q = Rat.divInt a b) (hb : b ≠ 0) (ha : a.natAbs ≤ M) (hb' : b.natAbs ≤ N) : Fr' q M N := by
  subst hq
  obtain ⟨h1, h2⟩ := div_le (a := a) hb
  exact ⟨Nat.le_trans h1 ha, Nat.le_trans h2 hb'⟩
theorem nm {a b : Int} {M N : Nat} (ha : a.natAbs ≤ M) (hb : b.natAbs ≤ N) : (a * b).natAbs ≤ M * N := by rw [Int.natAbs_mul]; exact Nat.mul_le_mul ha hb
theorem nsub {a b : Int} {M N : Nat} (ha : a.natAbs ≤ M) (hb : b.natAbs ≤ N) : (a - b).natAbs ≤ M + N := by omega
theorem nden {q : Rat} {N : Nat} (h : q.den ≤ N) : (q.den : Int).natAbs ≤ N := by simpa using h
theorem stp_of {B C : Nat → Rat} {M N M0 N0 M1 N1 M2 N2 : Nat} (nz : (C 0).num ≠ 0) (hC : ∀ j, j < 3 → Fr' (C (j + 1)) M N) (hB0 : Fr' (B 0) M0 N0) (hC0 : Fr' (C 0) M1 N1) (hB : ∀ j, j < 3 → Fr' (B (j + 1)) M2 N2)
    (k1 : M * M0 ≤ M63) (k2 : N * N0 ≤ M63) (k3 : M * M0 * N1 ≤ M63) (k4 : N * N0 * M1 ≤ M63) (k5 : M2 * (N * N0 * M1) + M * M0 * N1 * N2 ≤ M63) (k6 : N2 * (N * N0 * M1) ≤ M63) : StpB B C := by
  have hm := fun j hj => (hC j hj).mul hB0
  have hd := fun j hj => (hm j hj).div hC0 nz
  exact ⟨nz, fun j hj => Nat.le_trans (nm (hC j hj).1 hB0.1) k1, fun j hj => Nat.le_trans (nm (nden (hC j hj).2) (nden hB0.2)) k2,
    fun j hj => Nat.le_trans (nm (hm j hj).1 (nden hC0.2)) k3, fun j hj => Nat.le_trans (nm (nden (hm j hj).2) hC0.1) k4,
    fun j hj => Nat.le_trans (nsub (nm (hB j hj).1 (nden (hd j hj).2)) (nm (hd j hj).1 (nden (hB j hj).2))) k5,
    fun j hj => Nat.le_trans (nm (nden (hB j hj).2) (nden (hd j hj).2)) k6,
    fun j hj => Nat.le_trans (nm (hB j hj).1 (nden (hd j hj).2)) (by omega),
    fun j hj => Nat.le_trans (nm (hd j hj).1 (nden (hB j hj).2)) (by omega)⟩
end Go.Ev
namespace Go.Ev
open Go Go.RowKit
theorem sg_one {f : Nat → Int} {j : Nat} : ∀ {n : Nat}, j < n → (∀ i, i < n → i ≠ j → f i = 0) → sg f n = f j
  | 0, h, _ => absurd h (by omega)
  | n + 1, h, hz => by
    show sg f n + f n = f j
    by_cases e : j = n
    · subst e
      rw [sg_zero (fun i hi => hz i (by omega) (by omega)), Int.zero_add]
    · rw [sg_one (n := n) (by omega) (fun i hi he => hz i (by omega) he), hz n (by omega) (by omega), Int.add_zero]
theorem cvF_last {A B : List Int} (hA : 1 ≤ A.length) (hB : 1 ≤ B.length) : cvF A B (A.length + B.length - 1 - 1) = A.getD (A.length - 1) 0 * B.getD (B.length - 1) 0 := by
  unfold cvF
  rw [sg_one (j := A.length - 1) (by omega)]
  · unfold abF
    rw [if_pos (by omega), show A.length + B.length - 1 - 1 - (A.length - 1) = B.length - 1 by omega]
  · intro i hi hne
    exact abF_low (by omega)
theorem mul_bd {a b m n : Int} (ha : -m ≤ a ∧ a ≤ m) (hb : -n ≤ b ∧ b ≤ n) : -(m * n) ≤ a * b ∧ a * b ≤ m * n := by
  have h1 : a.natAbs ≤ m.natAbs := by omega
  have h2 : b.natAbs ≤ n.natAbs := by omega
  have h3 := Nat.mul_le_mul h1 h2
  rw [← Int.natAbs_mul, ← Int.natAbs_mul] at h3
  have h4 : 0 ≤ m * n := Int.mul_nonneg (by omega) (by omega)
  omega
theorem prd_last {A B : List Int} (hA : 1 ≤ A.length) (hB : 1 ≤ B.length) (a : A.getD (A.length - 1) 0 ≠ 0) (b : B.getD (B.length - 1) 0 ≠ 0) (ba : -30 ≤ A.getD (A.length - 1) 0 ∧ A.getD (A.length - 1) 0 ≤ 30) (bb : -30 ≤ B.getD (B.length - 1) 0 ∧ B.getD (B.length - 1) 0 ≤ 30) : (prd A B).getD ((prd A B).length - 1) 0 ≠ 0 := by
  have hl := prd_len (A := A) (B := B)
  rw [getD_lt (by omega), prd_at]
  have e : (prd A B).length - 1 = A.length + B.length - 1 - 1 := by omega
  rw [e, cvF_last hA hB]
  have := mul_bd (m := 30) (n := 30) ba bb
  rw [fw64 (by omega) (by omega)]
  exact Int.mul_ne_zero a b
end Go.Ev
namespace Go.Ev
open Go Go.RowKit
noncomputable def f25_r0 : List EOper := [oG 2 (.as (.c .sn))]
noncomputable def f25_r1 : List EOper := [oG 3 (.as (.c .sn))]
noncomputable def f25_r2 : List EOper := [oG 4 (.as (cG 0))]
noncomputable def f25_r3 : List EOper := [oG 5 (.mv (tG 4)), oG 6 (.mv (tG 0)), oG 7 (.len (tG 6)), oG 8 (.bin .lss (tG 5) (tG 7)), oG 9 (.mv (tG 8)), gG 10 9 true (.mv (tG 4)), gG 11 9 true (.bin .lss (tG 10) (cG 6)), oG 12 (.pick (tG 9) (tG 11) (.c (.b false)))]
noncomputable def f25_r4 : List EOper := [oG 15 (.mv (tG 3)), oG 16 (.mv (tG 0)), oG 17 (.mv (tG 4)), oG 18 (.iads 1 (tG 16) (tG 17)), oG 19 (.ld (tG 18)), oG 20 (.conv .u64 (tG 19)), oG 21 (.bin .rem (tG 20) (.c (.i .u64 (.ofNat 61)))), oG 22 (.conv .i64 (tG 21)), oG 23 (.bin .sub (tG 22) (cG 30)), oG 24 (.bslice 1 1 [(.i .i64 (.ofNat 0))] [(0, 1, (tG 23))]), oG 25 (.app 1 (tG 15) (tG 24)), oG 3 (.as (tG 25))]
noncomputable def f25_r5 : List EOper := [oG 13 (.mv (tG 4)), oG 14 (.bin .add (tG 13) (cG 1)), oG 4 (.as (tG 14))]
noncomputable def f25_l0 : EC := (.seq (.seq (.reg f25_r3) (.cond (tG 12) .skip (.exit 0))) (.seq (.block 1 (.reg f25_r4)) (.reg f25_r5)))
noncomputable def f25_r6 : List EOper := [oG 26 (.mv (tG 3)), oG 27 (.len (tG 26)), oG 28 (.bin .eql (tG 27) (cG 0)), oG 29 (.mv (tG 28)), gG 30 29 false (.mv (tG 3)), gG 31 29 false (.mv (tG 3)), gG 32 29 false (.len (tG 31)), gG 33 29 false (.bin .sub (tG 32) (cG 1)), gG 34 29 false (.iads 1 (tG 30) (tG 33)), gG 35 29 false (.ld (tG 34)), gG 36 29 false (.bin .eql (tG 35) (cG 0)), oG 37 (.pick (tG 29) (.c (.b true)) (tG 36))]
noncomputable def f25_r7 : List EOper := [oG 38 (.mv (tG 3)), oG 39 (.bslice 1 1 [(.i .i64 (.ofNat 0))] [(0, 1, (cG 1))]), oG 40 (.app 1 (tG 38) (tG 39)), oG 3 (.as (tG 40))]
noncomputable def f25_r8 : List EOper := [oG 41 (.mv (tG 3)), oG 42 (.mv (tG 3)), oG 43 (.len (tG 42)), oG 44 (.bin .sub (tG 43) (cG 6)), oG 45 (.max (cG 0) (tG 44)), oG 46 (.slice 1 (tG 41) (some (tG 45)) none none), oG 2 (.as (tG 46))]
noncomputable def f25_c : EC := (.seq (.reg f25_r0) (.seq (.reg f25_r1) (.seq (.seq (.reg f25_r2) (.block 0 (.loop f25_l0))) (.seq (.seq (.reg f25_r6) (.cond (tG 37) (.reg f25_r7) .skip)) (.seq (.reg f25_r8) .ret)))))
noncomputable def f25 : EF := ⟨47, [.tmp (.ofNat 2)], f25_c, none⟩
theorem f25_rs : f25.rs = [.tmp (.ofNat 2)] := of_eq_true (eq_self _)
section
variable {fs : T EF} {h : H} {v w : V} {A B L M : List Int}
def f25_I (h : H) (v : V) (L : List Int) (j : Nat) (fr : Fr) (h1 : H) : Prop := j ≤ L.length ∧ j ≤ 6 ∧ Grow h.nx.nat h h1 ∧ ∃ u T, Sl iE h1 u T ∧ Own h.nx.nat u ∧ T.length = j ∧ T.any bigB = false ∧ fr.get (K.ofNat 0) = some (v) ∧ fr.get (K.ofNat 3) = some (u) ∧ fr.get (K.ofNat 4) = some (.i .i64 (j : Int))
theorem any_snoc' {T : List Int} {x : Int} (h1 : T.any bigB = false) (hx : -30 ≤ x ∧ x ≤ 30) : (T ++ [x]).any bigB = false := by
  rw [List.any_append, h1]
  unfold bigB
  simp; omega
theorem f25_end {T : List Int} (hs : T.any bigB = false) (hl : 1 ≤ T.length ∧ T.length ≤ 7) (hn : T.getD (T.length - 1) 0 ≠ 0) : plB (T.drop (T.length - 6)) = true := by
  have hlen : (T.drop (T.length - 6)).length = T.length - (T.length - 6) := by simp
  unfold plB smB
  rw [decide_eq_true (show 1 ≤ (T.drop (T.length - 6)).length by omega), decide_eq_true (show (T.drop (T.length - 6)).length ≤ 6 by omega)]
  have h1 : (T.drop (T.length - 6)).any bigB = false := by
    rw [List.any_eq_false] at hs ⊢
    exact fun x hx => hs x (List.mem_of_mem_drop hx)
  have h2 : (T.drop (T.length - 6)).getD ((T.drop (T.length - 6)).length - 1) 0 = T.getD (T.length - 1) 0 := by
    rw [getD_lt (by omega), getD_lt (by omega), List.getElem_drop]
    congr 1; omega
  rw [h1, h2, decide_eq_true hn]; rfl
theorem f25_ret (hv : Sr iE h v L) (hc : HC h) : Ret fs f25 [v] h fun r h' => ∃ T, Sl iE h' r T ∧ Own h.nx.nat r ∧ plB T = true ∧ Grow h.nx.nat h h' := by
  apply ret_of rfl
  show W fs none f25_c _ _ _
  unfold f25_c
  simp (disch := omega) only [f25_r0, f25_r1, f25_r2, bz]
  refine W_loop (f25_I h v L) (fun j => 6 - j) ?_ 0 ⟨by omega, by omega, Grow.refl _ _, .sn, [], Sl.nil, Own.sn, rfl, rfl, by simp (disch := omega) only [getK_set, Nat.reduceEqDiff, ↓reduceIte, and_self, Int.natCast_zero]⟩
  rintro j fr h1 ⟨hj, hj6, hG, u, T, hs, ho, hT, hsm, g0, g3, g4⟩
  have hc1 := hG.hc hc
  have hv1 := hv.grow hc hG
  have e1 := hv1.len
  unfold f25_l0
  -- behind the loop
  have out : ∀ fr : Fr, fr.get (K.ofNat 3) = some u → W fs none (.seq (.seq (.reg f25_r6) (.cond (.t (K.ofNat 37)) (.reg f25_r7) .skip)) (.seq (.reg f25_r8) .ret)) (retK f25 fun r h' => ∃ T, Sl iE h' r T ∧ Own h.nx.nat r ∧ plB T = true ∧ Grow h.nx.nat h h') fr h1 := by
    clear g0 g3 g4 fr
    intro fr g3
    have fin : ∀ (fr : Fr) (u' : V) (T' : List Int) (h2 : H), fr.get (K.ofNat 3) = some u' → Sl iE h2 u' T' → Own h.nx.nat u' → Grow h.nx.nat h h2 → T'.any bigB = false → (1 ≤ T'.length ∧ T'.length ≤ 7) → T'.getD (T'.length - 1) 0 ≠ 0 → W fs none (.seq (.reg f25_r8) .ret) (retK f25 fun r h' => ∃ T, Sl iE h' r T ∧ Own h.nx.nat r ∧ plB T = true ∧ Grow h.nx.nat h h') fr h2 := by
      intro fr u' T' h2 g3 hs' ho' hG' hsm' hl hn
      have em : max (0 : Int) ((T'.length : Int) - 6) = ((T'.length - 6 : Nat) : Int) := by omega
      obtain ⟨x, x1, x2, x3, _⟩ := hs'.cut (lo := some (.i .i64 ((T'.length - 6 : Nat) : Int))) (hi := none) (l := T'.length - 6) (u := T'.length) bnd_i bnd_none (by omega) (Nat.le_refl _)
      rw [List.take_length] at x2
      simp (disch := omega) only [f25_r8, f25_rs, x_slice, sliceV_eq, Option.map_none, Option.map_some, x_max, max_ii, Option.some.injEq, exists_eq_left', Nat.reduceEqDiff, ↓reduceIte, g3, hs'.len, fw64, em, x1, bz]
      exact ⟨_, x2, x3 _ ho', f25_end hsm' hl hn, hG'⟩
    by_cases h0 : T.length = 0
    · have d1 : decide ((T.length : Int) = 0) = true := decide_eq_true (by omega)
      obtain ⟨u', h2, a1, a2, a3, a4, _⟩ := Sl.push (e := iE) (x := 1) (c := .i .i64 1) rfl hs ho hG.nx hc1 (by omega)
      simp (disch := omega) only [f25_r6, f25_r7, Nat.reduceEqDiff, ↓reduceIte, Bool.false_eq_true, Bool.not_true, g3, hs.len, d1, a1, bz]
      have hT0 : T = [] := List.eq_nil_of_length_eq_zero h0
      subst hT0
      exact fin _ u' _ h2 (by simp (disch := omega) only [getK_set, ↓reduceIte]) a2 a3 (hG.trans a4) (any_snoc' hsm (by omega)) (by simp) (by simp)
    · have d1 : decide ((T.length : Int) = 0) = false := decide_eq_false (by omega)
      have ei : (T.length : Int) - 1 = ((T.length - 1 : Nat) : Int) := by omega
      obtain ⟨p, p1, p2⟩ := hs.at (T.length - 1) (by omega)
      have p2 : loadV h1 p one? = .ok (.i .i64 (T.getD (T.length - 1) 0)) h1 := by rw [getD_lt (by omega)]; exact p2
      by_cases hz : T.getD (T.length - 1) 0 = 0
      · have d2 : decide (T.getD (T.length - 1) 0 = 0) = true := decide_eq_true hz
        obtain ⟨u', h2, a1, a2, a3, a4, _⟩ := Sl.push (e := iE) (x := 1) (c := .i .i64 1) rfl hs ho hG.nx hc1 (by omega)
        simp (disch := omega) only [f25_r6, f25_r7, Nat.reduceEqDiff, ↓reduceIte, Bool.false_eq_true, Bool.not_false, g3, hs.len, d1, ei, fw64, p1, p2, d2, a1, bz]
        exact fin _ u' _ h2 (by simp (disch := omega) only [getK_set, ↓reduceIte]) a2 a3 (hG.trans a4) (any_snoc' hsm (by omega)) (by simp; omega) (by rw [getD_lt (by simp)]; simp)
      · have d2 : decide (T.getD (T.length - 1) 0 = 0) = false := decide_eq_false hz
        simp (disch := omega) only [f25_r6, Nat.reduceEqDiff, ↓reduceIte, Bool.false_eq_true, Bool.not_false, g3, hs.len, d1, ei, fw64, p1, p2, d2, bz]
        exact fin _ u _ h1 (by simp (disch := omega) only [getK_set, Nat.reduceEqDiff, ↓reduceIte, g3]) hs ho hG hsm (by omega) hz
  by_cases hlt : j < L.length
  · have d1 : decide ((j : Int) < (L.length : Int)) = true := decide_eq_true (by omega)
    by_cases h6 : j < 6
    · have d2 : decide ((j : Int) < 6) = true := decide_eq_true (by omega)
      obtain ⟨p, p1, p2⟩ := hv1.at j hlt
      have p2 : loadV h1 p one? = .ok (.i .i64 L[j]) h1 := p2
      have hb := t61_bd L[j]
      have et : fw .i64 (fw .i64 ((fw .u64 L[j]).tmod 61) - 30) = t61 L[j] := by
        rw [show ∀ x : Int, fw .i64 x - 30 = fw .i64 x + (-30) from fun x => rfl, fwA]
        exact fw64 (a := t61 L[j]) (by omega) (by omega)
      obtain ⟨u', h2, a1, a2, a3, a4, _⟩ := Sl.push (e := iE) (x := t61 L[j]) (c := .i .i64 (t61 L[j])) rfl hs ho hG.nx hc1 (by omega)
      have d3 : decide ((61 : Int) = 0) = false := rfl
      have e4 : fw .i64 ((j : Int) + 1) = ((j + 1 : Nat) : Int) := by rw [fw64 (by omega) (by omega)]; rfl
      simp (disch := omega) only [f25_r3, f25_r4, f25_r5, x_conv, bin_rem, Nat.reduceEqDiff, ↓reduceIte, of61, g0, g3, g4, e1, d1, d2, p1, p2, et, a1, e4, bz]
      exact ⟨j + 1, by omega, by omega, by omega, hG.trans a4, u', _, a2, a3, by simp [hT], any_snoc' hsm hb, by simp (disch := omega) only [getK_set, Nat.reduceEqDiff, ↓reduceIte, g0, and_self]⟩
    · have d2 : decide ((j : Int) < 6) = false := decide_eq_false (by omega)
      simp (disch := omega) only [f25_r3, Nat.reduceEqDiff, ↓reduceIte, Bool.false_eq_true, g0, g4, e1, d1, d2, bz]
      exact out _ (by simp (disch := omega) only [getK_set, Nat.reduceEqDiff, ↓reduceIte, g3])
  · have d1 : decide ((j : Int) < (L.length : Int)) = false := decide_eq_false (by omega)
    simp (disch := omega) only [f25_r3, Nat.reduceEqDiff, ↓reduceIte, Bool.false_eq_true, g0, g4, e1, d1, bz]
    exact out _ (by simp (disch := omega) only [getK_set, Nat.reduceEqDiff, ↓reduceIte, g3])
end
end Go.Ev
namespace Go.Ev
open Go Go.RowKit
section
variable {A : List Int}
def cA0 (A : List Int) (j : Nat) : Int := if j < (A.length + 1) / 2 then A.getD (A.length - 1 - 2 * j) 0 else 0
def cA1 (A : List Int) (j : Nat) : Int := if j < A.length / 2 then A.getD (A.length - 2 - 2 * j) 0 else 0
theorem cA0_le (hs : smB A = true) {j : Nat} : (cA0 A j).natAbs ≤ 30 := by
  unfold cA0; split
  · exact sm_nat (sm_at hs _)
  · decide
theorem cA1_le (hs : smB A = true) {j : Nat} : (cA1 A j).natAbs ≤ 30 := by
  unfold cA1; split
  · exact sm_nat (sm_at hs _)
  · decide
theorem dn_at {k t j : Nat} : (dnL A k t).getD j 0 = ((if j < t then A.getD (k - 2 * j) 0 else 0 : Int) : Rat) := by
  by_cases h : j < t
  · rw [if_pos h, List.getD_eq_getElem?_getD, List.getElem?_eq_getElem (by rw [dnL_len]; exact h)]
    simp [dnL]
  · rw [if_neg h, List.getD_eq_getElem?_getD, List.getElem?_eq_none (by rw [dnL_len]; omega)]; rfl
theorem re0 {j : Nat} : reA A 0 j = (cA0 A j : Rat) := dn_at
theorem bf0_0 : (dTop A).bf 0 = 0 := rfl
theorem bf0_s {j : Nat} : (dTop A).bf (j + 1) = (cA1 A j : Rat) := by
  show (((0 : Rat) :: dnL A (A.length - 2) (A.length / 2)).getD (j + 1) 0) = _
  rw [List.getD_cons_succ]
  exact dn_at
theorem reS {i j : Nat} : reA A (i + 2) j = if j < 3 then reA A i (j + 1) - reA A (i + 1) (j + 1) * reA A i 0 / reA A (i + 1) 0 else 0 := rfl
theorem re1 (hA : A.length ≤ 6) {j : Nat} : reA A 1 j = (cA1 A j : Rat) := by
  show (if j < 3 then (dTop A).bf (j + 1) - reA A 0 (j + 1) * (dTop A).bf 0 / reA A 0 0 else 0) = _
  rw [bf0_s, bf0_0]
  by_cases h : j < 3
  · rw [if_pos h]; grind
  · rw [if_neg h]
    unfold cA1; rw [if_neg (by omega)]; rfl
def nA2 (A : List Int) (j : Nat) : Int := cA0 A (j + 1) * cA1 A 0 - cA1 A (j + 1) * cA0 A 0
def nA3 (A : List Int) (j : Nat) : Int := cA1 A (j + 1) * nA2 A 0 - nA2 A (j + 1) * cA1 A 0
def nA4 (A : List Int) (j : Nat) : Int := nA2 A (j + 1) * nA3 A 0 - nA3 A (j + 1) * nA2 A 0
theorem nA2_le (hs : smB A = true) {j : Nat} : (nA2 A j).natAbs ≤ 1800 := nsub (nm (cA0_le hs) (cA1_le hs)) (nm (cA1_le hs) (cA0_le hs))
theorem nA3_le (hs : smB A = true) {j : Nat} : (nA3 A j).natAbs ≤ 108000 := nsub (nm (cA1_le hs) (nA2_le hs)) (nm (nA2_le hs) (cA1_le hs))
theorem nA4_le (hs : smB A = true) {j : Nat} : (nA4 A j).natAbs ≤ 388800000 := nsub (nm (nA2_le hs) (nA3_le hs)) (nm (nA3_le hs) (nA2_le hs))
theorem cA_far (hA : A.length ≤ 6) {j : Nat} (hj : 3 ≤ j) : cA0 A j = 0 ∧ cA1 A j = 0 := by
  unfold cA0 cA1
  rw [if_neg (by omega), if_neg (by omega)]
  exact ⟨rfl, rfl⟩
theorem nA2_far (hA : A.length ≤ 6) {j : Nat} (hj : 2 ≤ j) : nA2 A j = 0 := by
  obtain ⟨h1, h2⟩ := cA_far hA (j := j + 1) (by omega)
  unfold nA2; rw [h1, h2]; simp
theorem nA3_far (hA : A.length ≤ 6) {j : Nat} (hj : 2 ≤ j) : nA3 A j = 0 := by
  obtain ⟨_, h2⟩ := cA_far hA (j := j + 1) (by omega)
  unfold nA3; rw [h2, nA2_far hA (j := j + 1) (by omega)]; simp
theorem nA4_far (hA : A.length ≤ 6) {j : Nat} (hj : 1 ≤ j) : nA4 A j = 0 := by
  unfold nA4; rw [nA2_far hA (j := j + 1) (by omega), nA3_far hA (j := j + 1) (by omega)]; simp
theorem re2 (hA : A.length ≤ 6) (h1 : (cA1 A 0 : Rat) ≠ 0) {j : Nat} : reA A 2 j = (nA2 A j : Rat) / (cA1 A 0 : Rat) := by
  rw [reS, re0, re0, re1 hA, re1 hA]
  by_cases h : j < 3
  · rw [if_pos h]
    have : (nA2 A j : Rat) = (cA0 A (j + 1) : Rat) * (cA1 A 0 : Rat) - (cA1 A (j + 1) : Rat) * (cA0 A 0 : Rat) := by unfold nA2; rw [Rat.intCast_sub, Rat.intCast_mul, Rat.intCast_mul]
    rw [this]; grind
  · rw [if_neg h, nA2_far hA (by omega)]; grind
theorem re3 (hA : A.length ≤ 6) (h1 : (cA1 A 0 : Rat) ≠ 0) (h2 : (nA2 A 0 : Rat) ≠ 0) {j : Nat} : reA A 3 j = (nA3 A j : Rat) / (nA2 A 0 : Rat) := by
  rw [reS, re1 hA, re1 hA, re2 hA h1, re2 hA h1]
  by_cases h : j < 3
  · rw [if_pos h]
    have : (nA3 A j : Rat) = (cA1 A (j + 1) : Rat) * (nA2 A 0 : Rat) - (nA2 A (j + 1) : Rat) * (cA1 A 0 : Rat) := by unfold nA3; rw [Rat.intCast_sub, Rat.intCast_mul, Rat.intCast_mul]
    rw [this]; grind
  · rw [if_neg h, nA3_far hA (by omega)]; grind
theorem re4 (hA : A.length ≤ 6) (h1 : (cA1 A 0 : Rat) ≠ 0) (h2 : (nA2 A 0 : Rat) ≠ 0) (h3 : (nA3 A 0 : Rat) ≠ 0) {j : Nat} : reA A 4 j = (nA4 A j : Rat) / ((cA1 A 0 * nA3 A 0 : Int) : Rat) := by
  rw [reS, re2 hA h1, re2 hA h1, re3 hA h1 h2, re3 hA h1 h2, Rat.intCast_mul]
  by_cases h : j < 3
  · rw [if_pos h]
    have : (nA4 A j : Rat) = (nA2 A (j + 1) : Rat) * (nA3 A 0 : Rat) - (nA3 A (j + 1) : Rat) * (nA2 A 0 : Rat) := by unfold nA4; rw [Rat.intCast_sub, Rat.intCast_mul, Rat.intCast_mul]
    rw [this]; grind
  · rw [if_neg h, nA4_far hA (by omega)]; grind
theorem re5 (hA : A.length ≤ 6) (h1 : (cA1 A 0 : Rat) ≠ 0) (h2 : (nA2 A 0 : Rat) ≠ 0) (h3 : (nA3 A 0 : Rat) ≠ 0) {j : Nat} (hj : j < 3) : reA A 5 j = reA A 3 (j + 1) := by
  rw [reS, re4 hA h1 h2 h3, nA4_far hA (j := j + 1) (by omega), if_pos hj]; grind
theorem idiv {a b : Int} : (a : Rat) / (b : Rat) = Rat.divInt a b := (Rat.divInt_eq_div a b).symm
theorem ic_ne {a : Int} (h : (a : Rat) ≠ 0) : a ≠ 0 := fun e => h (by rw [e]; rfl)
theorem q_of {q : Rat} {a b : Int} {M N : Nat} (h : q = (a : Rat) / (b : Rat)) (hb : (b : Rat) ≠ 0) (ha : a.natAbs ≤ M) (hb' : b.natAbs ≤ N) : Fr' q M N := Fr'.of (h.trans idiv) (ic_ne hb) ha hb'
theorem q_ne {a b : Rat} (h : a / b ≠ 0) : a ≠ 0 := fun e => h (by rw [e]; grind)
theorem fr0 {M N : Nat} (hN : 1 ≤ N) : Fr' 0 M N := ⟨Nat.zero_le _, hN⟩
structure RwB (A : List Int) : Prop where
  r0 : ∀ j, Fr' (reA A 0 j) 30 1
  r1 : ∀ j, Fr' (reA A 1 j) 30 1
  r2 : reA A 1 0 ≠ 0 → ∀ j, Fr' (reA A 2 j) 1800 30
  r3 : reA A 1 0 ≠ 0 → reA A 2 0 ≠ 0 → ∀ j, Fr' (reA A 3 j) 108000 1800
  r4 : reA A 1 0 ≠ 0 → reA A 2 0 ≠ 0 → reA A 3 0 ≠ 0 → ∀ j, Fr' (reA A 4 j) 388800000 3240000
  z4 : reA A 1 0 ≠ 0 → reA A 2 0 ≠ 0 → reA A 3 0 ≠ 0 → ∀ j, reA A 4 (j + 1) = 0
  r5 : reA A 1 0 ≠ 0 → reA A 2 0 ≠ 0 → reA A 3 0 ≠ 0 → ∀ j, j < 3 → Fr' (reA A 5 j) 108000 1800
theorem rwB (hA : A.length ≤ 6) (hs : smB A = true) : RwB A := by
  have n1 : reA A 1 0 ≠ 0 → (cA1 A 0 : Rat) ≠ 0 := fun h => by rw [re1 hA] at h; exact h
  have n2 : reA A 1 0 ≠ 0 → reA A 2 0 ≠ 0 → (nA2 A 0 : Rat) ≠ 0 := fun h1 h => by rw [re2 hA (n1 h1)] at h; exact q_ne h
  have n3 : reA A 1 0 ≠ 0 → reA A 2 0 ≠ 0 → reA A 3 0 ≠ 0 → (nA3 A 0 : Rat) ≠ 0 := fun h1 h2 h => by rw [re3 hA (n1 h1) (n2 h1 h2)] at h; exact q_ne h
  refine ⟨fun j => by rw [re0]; exact Fr'.int (cA0_le hs), fun j => by rw [re1 hA]; exact Fr'.int (cA1_le hs), fun h1 j => q_of (re2 hA (n1 h1)) (n1 h1) (nA2_le hs) (cA1_le hs), fun h1 h2 j => q_of (re3 hA (n1 h1) (n2 h1 h2)) (n2 h1 h2) (nA3_le hs) (nA2_le hs), fun h1 h2 h3 j => q_of (re4 hA (n1 h1) (n2 h1 h2) (n3 h1 h2 h3)) ?_ (nA4_le hs) (nm (cA1_le hs) (nA3_le hs)), fun h1 h2 h3 j => ?_, fun h1 h2 h3 j hj => ?_⟩
  · have a := n1 h1
    have b := n3 h1 h2 h3
    rw [Rat.intCast_mul]
    exact fun e => by rcases Rat.mul_eq_zero.1 e with e | e; exact a e; exact b e
  · rw [re4 hA (n1 h1) (n2 h1 h2) (n3 h1 h2 h3), nA4_far hA (j := j + 1) (by omega)]; grind
  · rw [re5 hA (n1 h1) (n2 h1 h2) (n3 h1 h2 h3) hj]
    exact q_of (re3 hA (n1 h1) (n2 h1 h2)) (n2 h1 h2) (nA3_le hs) (nA2_le hs)
theorem inR_nat {x : Int} (h : x.natAbs ≤ M63) : inR .i64 x = true := by
  unfold M63 at h
  cases x with
  | ofNat m => exact Nat.ble_eq_true_of_le (show m ≤ 9223372036854775807 by simpa using h)
  | negSucc m => exact Nat.ble_eq_true_of_le (show m + 1 ≤ 9223372036854775808 by simp at h; omega)
theorem num_ne {q : Rat} (h : q ≠ 0) : q.num ≠ 0 := fun e => h (Rat.num_eq_zero.1 e)
theorem tb_b (hA1 : 1 ≤ A.length) (hA : A.length ≤ 6) (hs : smB A = true) : TbB A := by
  have R := rwB hA hs
  constructor
  · intro i hi nz
    have nz : ∀ j, j ≤ i → reA A j 0 ≠ 0 := nz
    show StpB ((dTop A).at i).bf (reA A i)
    match i, hi, nz with
    | 0, _, nz => exact stp_of (M := 30) (N := 1) (M0 := 0) (N0 := 1) (M1 := 30) (N1 := 1) (M2 := 30) (N2 := 1) (num_ne (nz 0 (by omega))) (fun j _ => R.r0 _) ⟨Nat.le_refl _, Nat.le_refl _⟩ (R.r0 _) (fun j _ => by show Fr' ((dTop A).bf (j + 1)) 30 1; rw [bf0_s]; exact Fr'.int (cA1_le hs)) (by decide) (by decide) (by decide) (by decide) (by decide) (by decide)
    | 1, _, nz => exact stp_of (M := 30) (N := 1) (M0 := 30) (N0 := 1) (M1 := 30) (N1 := 1) (M2 := 30) (N2 := 1) (num_ne (nz 1 (by omega))) (fun j _ => R.r1 _) (R.r0 _) (R.r1 _) (fun j _ => R.r0 _) (by decide) (by decide) (by decide) (by decide) (by decide) (by decide)
    | 2, _, nz =>
      have h1 := nz 1 (by omega)
      exact stp_of (M := 1800) (N := 30) (M0 := 30) (N0 := 1) (M1 := 1800) (N1 := 30) (M2 := 30) (N2 := 1) (num_ne (nz 2 (by omega))) (fun j _ => R.r2 h1 _) (R.r1 _) (R.r2 h1 _) (fun j _ => R.r1 _) (by decide) (by decide) (by decide) (by decide) (by decide) (by decide)
    | 3, _, nz =>
      have h1 := nz 1 (by omega)
      have h2 := nz 2 (by omega)
      exact stp_of (M := 108000) (N := 1800) (M0 := 1800) (N0 := 30) (M1 := 108000) (N1 := 1800) (M2 := 1800) (N2 := 30) (num_ne (nz 3 (by omega))) (fun j _ => R.r3 h1 h2 _) (R.r2 h1 _) (R.r3 h1 h2 _) (fun j _ => R.r2 h1 _) (by decide) (by decide) (by decide) (by decide) (by decide) (by decide)
    | 4, _, nz =>
      have h1 := nz 1 (by omega)
      have h2 := nz 2 (by omega)
      have h3 := nz 3 (by omega)
      exact stp_of (M := 0) (N := 1) (M0 := 108000) (N0 := 1800) (M1 := 388800000) (N1 := 3240000) (M2 := 108000) (N2 := 1800) (num_ne (nz 4 (by omega))) (fun j _ => by rw [R.z4 h1 h2 h3]; exact fr0 (Nat.le_refl _)) (R.r3 h1 h2 _) (R.r4 h1 h2 h3 _) (fun j _ => R.r3 h1 h2 _) (by decide) (by decide) (by decide) (by decide) (by decide) (by decide)
    | i + 5, hi, _ => omega
  · intro i hi nz
    have nz : ∀ j, j < i → reA A j 0 ≠ 0 := nz
    show inR .i64 (reA A i 0).num = true ∧ inR .i64 ((reA A i 0).den : Int) = true
    have key : ∀ {q : Rat} {M N : Nat}, Fr' q M N → M ≤ M63 → N ≤ M63 → inR .i64 q.num = true ∧ inR .i64 (q.den : Int) = true := fun h k1 k2 => by
      exact ⟨inR_nat (Nat.le_trans h.1 k1), inR_nat (Nat.le_trans (nden h.2) k2)⟩
    match i, hi, nz with
    | 0, _, _ => exact key (R.r0 0) (by decide) (by decide)
    | 1, _, _ => exact key (R.r1 0) (by decide) (by decide)
    | 2, _, nz => exact key (R.r2 (nz 1 (by omega)) 0) (by decide) (by decide)
    | 3, _, nz => exact key (R.r3 (nz 1 (by omega)) (nz 2 (by omega)) 0) (by decide) (by decide)
    | 4, _, nz => exact key (R.r4 (nz 1 (by omega)) (nz 2 (by omega)) (nz 3 (by omega)) 0) (by decide) (by decide)
    | 5, _, nz => exact key (R.r5 (nz 1 (by omega)) (nz 2 (by omega)) (nz 3 (by omega)) 0 (by omega)) (by decide) (by decide)
    | i + 6, hi, _ => omega
end
end Go.Ev
namespace Go.Ev
open Go Go.RowKit
def dstep (B e : Nat → Int) (p : Int × Int) (c : Nat) : Int × Int := (fw .i64 (p.1 + fw .i64 (fw .i64 (p.2 * e c) * B c)), fw .i64 (0 - p.2))
def detL (el : Nat → Nat → Int) : Nat → Nat → List Nat → Int
  | 0, _, _ => 1
  | d + 1, row, rem => (rem.foldl (dstep (fun c => detL el d (row + 1) (rem.filter fun x => decide (x ≠ c))) (el row)) (0, 1)).1
def remT (s t : Nat) : List Nat := (List.range s).filter fun c => !t.testBit c
theorem rng_filter {p : Nat → Bool} {c : Nat} : (List.range (c + 1)).filter p = (List.range c).filter p ++ (if p c = true then [c] else []) := by
  rw [List.range_succ, List.filter_append]
  congr 1
  cases h : p c <;> simp [h]
theorem remT_or {s t c : Nat} : remT s (t ||| 2 ^ c) = (remT s t).filter fun x => decide (x ≠ c) := by
  unfold remT
  rw [List.filter_filter]
  apply List.filter_congr
  intro x _
  rw [Nat.testBit_or, Nat.testBit_two_pow]
  by_cases e : c = x
  · subst e; simp
  · have : x ≠ c := fun h => e h.symm
    simp [e, this]
theorem testBit_mod {t c : Nat} : t / 2 ^ c % 2 = if t.testBit c = true then 1 else 0 := by
  rw [Nat.testBit_eq_decide_div_mod_eq]
  by_cases h : t / 2 ^ c % 2 = 1
  · simp [h]
  · simp [h]; omega
theorem filter_ne {c : Nat} : ∀ {l : List Nat}, l.Nodup → c ∈ l → (l.filter fun x => decide (x ≠ c)).length + 1 = l.length
  | [], _, h => absurd h (by simp)
  | x :: l, hn, h => by
    rw [List.nodup_cons] at hn
    rw [List.filter_cons]
    by_cases e : x = c
    · subst e
      have : l.filter (fun y => decide (y ≠ x)) = l := List.filter_eq_self.2 fun y hy => decide_eq_true fun e => hn.1 (e ▸ hy)
      rw [this]; simp
    · rw [if_pos (by simpa using e)]
      have : c ∈ l := by rcases List.mem_cons.1 h with h | h; exact absurd h.symm e; exact h
      have := filter_ne hn.2 this
      simp only [List.length_cons]; omega
theorem remT_0 {s : Nat} : remT s 0 = List.range s := by
  unfold remT
  rw [List.filter_eq_self]
  intro x _
  simp
def elN (A : List Int) (r c : Nat) : Int := if ((A.length : Int) - 1 - 2 * c + r - 1 < 0 ∨ (A.length : Int) - 1 - 2 * c + r - 1 > (A.length : Int) - 1) then 0 else A.getD ((A.length : Int) - 1 - 2 * c + r - 1).toNat 0
def minL (A : List Int) : List Int := (List.range (A.length - 1)).map fun i => detL (elN A) (i + 1) 0 (List.range (i + 1))
theorem minL_len {A : List Int} : (minL A).length = A.length - 1 := by simp [minL]
theorem minL_at {A : List Int} {i : Nat} (hi : i < (minL A).length) : (minL A)[i] = detL (elN A) (i + 1) 0 (List.range (i + 1)) := by simp [minL]
def ngL (A : List Int) : List Int := A.map fun a => fw .i64 (0 - a)
theorem prd_neg {A : List Int} : prd A [-1] = ngL A := by
  have hl : (prd A [-1]).length = A.length := by rw [prd_len]; simp
  apply List.ext_getElem
  · rw [hl]; simp [ngL]
  · intro k h1 h2
    rw [prd_at]
    have hk : k < A.length := by omega
    simp only [ngL, List.getElem_map]
    congr 1
    unfold cvF
    rw [sg_one (j := k) hk]
    · unfold abF
      rw [if_pos (Nat.le_refl _), Nat.sub_self, getD_lt hk]
      show A[k] * (-1) = 0 - A[k]
      omega
    · intro i hi hne
      unfold abF
      split
      · rw [getD_ge (L := [-1]) (by simp; omega), Int.mul_zero]
      · rfl
def upL (A : List Int) : List Int := if A.getD (A.length - 1) 0 < 0 then ngL A else A
theorem upL_len {A : List Int} : (upL A).length = A.length := by unfold upL; split <;> simp [ngL]
def stB (A : List Int) : Bool := !(minL (upL A)).any fun m => decide (m ≤ 0)
end Go.Ev
namespace Go.Ev
open Go Go.RowKit
def dstZ (B e : Nat → Int) (p : Int × Int) (c : Nat) : Int × Int := (p.1 + p.2 * e c * B c, -p.2)
def detZ (el : Nat → Nat → Int) : Nat → Nat → List Nat → Int
  | 0, _, _ => 1
  | d + 1, row, rem => (rem.foldl (dstZ (fun c => detZ el d (row + 1) (rem.filter fun x => decide (x ≠ c))) (el row)) (0, 1)).1
def dbN : Nat → Nat
  | 0 => 1
  | d + 1 => (d + 1) * (30 * dbN d)
theorem fold_z {B B' e : Nat → Int} {M : Nat} (he : ∀ c, (e c).natAbs ≤ 30) : ∀ {l : List Nat} {p s : Int} {K : Nat}, (∀ c ∈ l, B c = B' c ∧ (B' c).natAbs ≤ M) → (s = 1 ∨ s = -1) → p.natAbs ≤ K → K + l.length * (30 * M) ≤ 9223372036854775807 → l.foldl (dstep B e) (p, s) = l.foldl (dstZ B' e) (p, s) ∧ (l.foldl (dstZ B' e) (p, s)).1.natAbs ≤ K + l.length * (30 * M)
  | [], p, s, K, _, _, hp, _ => ⟨rfl, by simpa using hp⟩
  | c :: l, p, s, K, hB, hs, hp, hK => by
    obtain ⟨e1, b1⟩ := hB c (by simp)
    have hl : (c :: l).length * (30 * M) = 30 * M + l.length * (30 * M) := by rw [List.length_cons, Nat.succ_mul]; omega
    rw [hl] at hK ⊢
    have h1 : (s * e c).natAbs ≤ 30 := by
      have := he c
      rcases hs with rfl | rfl <;> omega
    have h2 : (s * e c * B' c).natAbs ≤ 30 * M := nm h1 b1
    have w1 : fw .i64 (s * e c) = s * e c := fw64 (by omega) (by omega)
    have w2 : fw .i64 (s * e c * B' c) = s * e c * B' c := fw64 (by omega) (by omega)
    have w3 : fw .i64 (p + s * e c * B' c) = p + s * e c * B' c := fw64 (by omega) (by omega)
    have w4 : fw .i64 (0 - s) = -s := by rw [fw64 (by omega) (by omega)]; omega
    have st : dstep B e (p, s) c = dstZ B' e (p, s) c := by
      show (fw .i64 (p + fw .i64 (fw .i64 (s * e c) * B c)), fw .i64 (0 - s)) = (p + s * e c * B' c, -s)
      rw [e1, w1, w2, w3, w4]
    rw [List.foldl_cons, List.foldl_cons, st]
    have := fold_z he (B := B) (B' := B') (M := M) (l := l) (p := p + s * e c * B' c) (s := -s) (K := K + 30 * M) (fun x hx => hB x (List.mem_cons_of_mem _ hx)) (by omega) (by omega) (by omega)
    refine ⟨this.1, Nat.le_trans this.2 (by omega)⟩
theorem dbN_le : ∀ {d : Nat}, d ≤ 5 → dbN d ≤ 2916000000
  | 0, _ => by decide
  | 1, _ => by decide
  | 2, _ => by decide
  | 3, _ => by decide
  | 4, _ => by decide
  | 5, _ => by decide
  | d + 6, h => by omega
theorem detZ_of {el : Nat → Nat → Int} (he : ∀ r c, (el r c).natAbs ≤ 30) : ∀ {d : Nat}, d ≤ 5 → ∀ {row : Nat} {rem : List Nat}, rem.Nodup → rem.length = d → detL el d row rem = detZ el d row rem ∧ (detZ el d row rem).natAbs ≤ dbN d
  | 0, _, row, rem, _, _ => ⟨rfl, by show (1 : Int).natAbs ≤ 1; decide⟩
  | d + 1, hd, row, rem, hn, hl => by
    have hb := dbN_le hd
    have := fold_z (he row) (B := fun c => detL el d (row + 1) (rem.filter fun x => decide (x ≠ c))) (B' := fun c => detZ el d (row + 1) (rem.filter fun x => decide (x ≠ c))) (M := dbN d) (l := rem) (p := 0) (s := 1) (K := 0) (fun c hc => detZ_of he (by omega) (List.Sublist.nodup List.filter_sublist hn) (by have := filter_ne hn hc; omega)) (.inl rfl) (by decide) (by rw [hl]; unfold dbN at hb; omega)
    refine ⟨congrArg Prod.fst this.1, ?_⟩
    have h2 := this.2
    rw [hl, Nat.zero_add] at h2
    exact h2
theorem elN_le {A : List Int} (hs : smB A = true) {r c : Nat} : (elN A r c).natAbs ≤ 30 := by
  unfold elN; split
  · decide
  · exact sm_nat (sm_at hs _)
def mnA (A : List Int) (k : Nat) : Int := detZ (elN A) k 0 (List.range k)
theorem mn_of {A : List Int} (hs : smB A = true) (hA : A.length ≤ 6) {i : Nat} (hi : i < (minL A).length) : (minL A)[i] = mnA A (i + 1) := by
  have := minL_len (A := A)
  rw [minL_at]
  exact (detZ_of (fun r c => elN_le hs) (by omega) List.nodup_range (by simp)).1
theorem mn_0 {A : List Int} : mnA A 0 = 1 := rfl
theorem el0 {A : List Int} (_ : 1 ≤ A.length) {c : Nat} : elN A 0 c = cA1 A c := by
  unfold elN cA1
  by_cases hc : c < A.length / 2
  · rw [if_neg (by omega), if_pos hc]; congr 1; omega
  · rw [if_pos (by omega), if_neg hc]
theorem el1 {A : List Int} (_ : 1 ≤ A.length) {c : Nat} : elN A 1 c = cA0 A c := by
  unfold elN cA0
  by_cases hc : c < (A.length + 1) / 2
  · rw [if_neg (by omega), if_pos hc]; congr 1; omega
  · rw [if_pos (by omega), if_neg hc]
theorem elSS {A : List Int} {r c : Nat} : elN A (r + 2) (c + 1) = elN A r c := by
  unfold elN
  by_cases hc : ((A.length : Int) - 1 - 2 * c + r - 1 < 0 ∨ (A.length : Int) - 1 - 2 * c + r - 1 > (A.length : Int) - 1)
  · rw [if_pos hc, if_pos (by omega)]
  · rw [if_neg hc, if_neg (by omega)]; congr 1; omega
theorem elS0 {A : List Int} {r : Nat} : elN A (r + 2) 0 = 0 := by
  unfold elN
  rw [if_pos (by omega)]
section
variable {el : Nat → Nat → Int} {x y : Nat → Int}
theorem dz2 (h0 : ∀ c, el 0 c = x c) (h1 : ∀ c, el 1 c = y c) : detZ el 2 0 (List.range 2) = x 0 * y 1 - x 1 * y 0 := by
  have : detZ el 2 0 (List.range 2) = 0 + 1 * el 0 0 * (0 + 1 * el 1 1 * 1) + -1 * el 0 1 * (0 + 1 * el 1 0 * 1) := rfl
  rw [this, h0, h0, h1, h1]; grind
theorem dz3 (h0 : ∀ c, el 0 c = x c) (h1 : ∀ c, el 1 c = y c) (hs : ∀ r c, el (r + 2) (c + 1) = el r c) (hz : ∀ r, el (r + 2) 0 = 0) : detZ el 3 0 (List.range 3) = x 1 * (x 0 * y 1 - x 1 * y 0) - (x 0 * y 2 - x 2 * y 0) * x 0 := by
  have e20 := hz 0
  have e21 := hs 0 0
  have e22 := hs 0 1
  rw [h0] at e21 e22
  simp only [Nat.zero_add, Nat.reduceAdd] at e20 e21 e22
  have : detZ el 3 0 (List.range 3) = 0 + 1 * el 0 0 * (0 + 1 * el 1 1 * (0 + 1 * el 2 2 * 1) + -1 * el 1 2 * (0 + 1 * el 2 1 * 1)) + -1 * el 0 1 * (0 + 1 * el 1 0 * (0 + 1 * el 2 2 * 1) + -1 * el 1 2 * (0 + 1 * el 2 0 * 1)) + (- -1) * el 0 2 * (0 + 1 * el 1 0 * (0 + 1 * el 2 1 * 1) + -1 * el 1 1 * (0 + 1 * el 2 0 * 1)) := rfl
  rw [this, h0, h0, h0, h1, h1, h1, e20, e21, e22]; grind
theorem dz4 (h0 : ∀ c, el 0 c = x c) (h1 : ∀ c, el 1 c = y c) (hs : ∀ r c, el (r + 2) (c + 1) = el r c) (hz : ∀ r, el (r + 2) 0 = 0) : x 0 * detZ el 4 0 (List.range 4) = (x 0 * y 2 - x 2 * y 0) * (x 1 * (x 0 * y 1 - x 1 * y 0) - (x 0 * y 2 - x 2 * y 0) * x 0) - (x 2 * (x 0 * y 1 - x 1 * y 0) - (x 0 * y 3 - x 3 * y 0) * x 0) * (x 0 * y 1 - x 1 * y 0) := by
  have e20 := hz 0
  have e21 := hs 0 0
  have e22 := hs 0 1
  have e23 := hs 0 2
  have e30 := hz 1
  have e31 := hs 1 0
  have e32 := hs 1 1
  have e33 := hs 1 2
  rw [h0] at e21 e22 e23
  rw [h1] at e31 e32 e33
  simp only [Nat.zero_add, Nat.reduceAdd] at e20 e21 e22 e23 e30 e31 e32 e33
  simp [detZ, dstZ, List.range, List.range.loop, List.filter, e20, e21, e22, e23, e30, e31, e32, e33, h0, h1]
  grind
theorem dz5 (h0 : ∀ c, el 0 c = x c) (h1 : ∀ c, el 1 c = y c) (hs : ∀ r c, el (r + 2) (c + 1) = el r c) (hz : ∀ r, el (r + 2) 0 = 0) (hx : x 3 = 0 ∧ x 4 = 0) (hy : y 3 = 0 ∧ y 4 = 0) : detZ el 5 0 (List.range 5) = x 2 * detZ el 4 0 (List.range 4) := by
  have e20 := hz 0
  have e21 := hs 0 0
  have e22 := hs 0 1
  have e23 := hs 0 2
  have e24 := hs 0 3
  have e30 := hz 1
  have e31 := hs 1 0
  have e32 := hs 1 1
  have e33 := hs 1 2
  have e34 := hs 1 3
  have e40 := hz 2
  have e41 := hs 2 0
  have e42 := hs 2 1
  have e43 := hs 2 2
  have e44 := hs 2 3
  rw [h0] at e21 e22 e23 e24
  rw [h1] at e31 e32 e33 e34
  simp only [Nat.zero_add, Nat.reduceAdd] at e20 e21 e22 e23 e24 e30 e31 e32 e33 e34 e40 e41 e42 e43 e44
  rw [e20] at e41
  rw [e21] at e42
  rw [e22] at e43
  rw [e23] at e44
  simp [detZ, dstZ, List.range, List.range.loop, List.filter, e20, e21, e22, e23, e24, e30, e31, e32, e33, e34, e40, e41, e42, e43, e44, h0, h1, hx, hy]
  grind
end
section
variable {A : List Int}
theorem mn_1 (h : 1 ≤ A.length) : mnA A 1 = cA1 A 0 := by
  have : mnA A 1 = 0 + 1 * elN A 0 0 * 1 := rfl
  rw [this, el0 h]; omega
theorem mn_2 (h : 1 ≤ A.length) : mnA A 2 = nA2 A 0 := by
  unfold mnA; rw [dz2 (fun c => el0 h) (fun c => el1 h)]; unfold nA2; grind
theorem mn_3 (h : 1 ≤ A.length) : mnA A 3 = nA3 A 0 := by
  unfold mnA; rw [dz3 (fun c => el0 h) (fun c => el1 h) (fun r c => elSS) (fun r => elS0)]; unfold nA3 nA2; grind
theorem mn_4 (h : 1 ≤ A.length) : cA1 A 0 * mnA A 4 = nA4 A 0 := by
  unfold mnA; rw [dz4 (fun c => el0 h) (fun c => el1 h) (fun r c => elSS) (fun r => elS0)]; unfold nA4 nA3 nA2; grind
theorem mn_5 (h : 1 ≤ A.length) (hA : A.length ≤ 6) : mnA A 5 = cA1 A 2 * mnA A 4 := by
  unfold mnA
  exact dz5 (fun c => el0 h) (fun c => el1 h) (fun r c => elSS) (fun r => elS0) ⟨(cA_far hA (by omega)).2, (cA_far hA (by omega)).2⟩ ⟨(cA_far hA (by omega)).1, (cA_far hA (by omega)).1⟩
theorem re_mn (h : 1 ≤ A.length) (hA : A.length ≤ 6) : ∀ {r : Nat}, r + 1 < A.length → (∀ j, j < r + 1 → reA A j 0 ≠ 0) → mnA A r ≠ 0 ∧ reA A (r + 1) 0 = (mnA A (r + 1) : Rat) / (mnA A r : Rat)
  | 0, _, _ => ⟨by show (1 : Int) ≠ 0; decide, by rw [re1 hA, mn_1 h]; show _ = (cA1 A 0 : Rat) / 1; grind⟩
  | 1, _, nz => by
    have n1 := nz 1 (by omega)
    rw [re1 hA] at n1
    rw [re2 hA n1, mn_2 h, mn_1 h]
    exact ⟨ic_ne n1, rfl⟩
  | 2, _, nz => by
    have n1 := nz 1 (by omega)
    have n2 := nz 2 (by omega)
    rw [re1 hA] at n1
    rw [re2 hA n1] at n2
    have n2 := q_ne n2
    rw [re3 hA n1 n2, mn_3 h, mn_2 h]
    exact ⟨ic_ne n2, rfl⟩
  | 3, _, nz => by
    have n1 := nz 1 (by omega)
    have n2 := nz 2 (by omega)
    have n3 := nz 3 (by omega)
    rw [re1 hA] at n1
    rw [re2 hA n1] at n2
    have n2 := q_ne n2
    rw [re3 hA n1 n2] at n3
    have n3 := q_ne n3
    rw [re4 hA n1 n2 n3, mn_3 h, ← mn_4 h, Rat.intCast_mul, Rat.intCast_mul]
    exact ⟨ic_ne n3, by grind⟩
  | 4, hr, nz => by
    have n1 := nz 1 (by omega)
    have n2 := nz 2 (by omega)
    have n3 := nz 3 (by omega)
    have n4 := nz 4 (by omega)
    rw [re1 hA] at n1
    rw [re2 hA n1] at n2
    have n2 := q_ne n2
    rw [re3 hA n1 n2] at n3
    have n3 := q_ne n3
    rw [re4 hA n1 n2 n3] at n4
    have n4 := q_ne n4
    have m4 : (mnA A 4 : Rat) ≠ 0 := by
      rw [← mn_4 h, Rat.intCast_mul] at n4
      intro e; rw [e] at n4; exact n4 (by grind)
    refine ⟨ic_ne m4, ?_⟩
    rw [re5 hA n1 n2 n3 (by omega), re3 hA n1 n2, mn_5 h hA, Rat.intCast_mul]
    have : nA3 A (0 + 1) = cA1 A 2 * nA2 A 0 := by
      show cA1 A 2 * nA2 A 0 - nA2 A 2 * cA1 A 0 = _
      rw [nA2_far hA (j := 2) (by omega)]; omega
    rw [this, Rat.intCast_mul]
    grind
  | r + 5, hr, _ => by omega
theorem rat_pos {a : Int} : (0 : Rat) < (a : Rat) ↔ 0 < a := by exact_mod_cast Iff.rfl
theorem first_pos (h : 1 ≤ A.length) (hA : A.length ≤ 6) (hl : 0 < A.getD (A.length - 1) 0) (hm : ∀ k, k + 1 < A.length → 0 < mnA A (k + 1)) : ∀ r, r < A.length → 0 < reA A r 0
  | 0, _ => by
    rw [re0]
    have : cA0 A 0 = A.getD (A.length - 1) 0 := by unfold cA0; rw [if_pos (by omega)]; rfl
    rw [this]; exact rat_pos.2 hl
  | r + 1, hr => by
    have nz : ∀ j, j < r + 1 → reA A j 0 ≠ 0 := fun j hj => by
      have := first_pos h hA hl hm j (by omega)
      intro e; rw [e] at this; exact absurd this (by decide)
    rw [(re_mn h hA hr nz).2]
    have a := rat_pos.2 (hm r (by omega))
    have b : 0 < mnA A r := by
      cases r with
      | zero => show (0 : Int) < 1; decide
      | succ r => exact hm r (by omega)
    rw [Rat.div_def]; exact Rat.mul_pos a (Rat.inv_pos.2 (rat_pos.2 b))
theorem minor_pos (h : 1 ≤ A.length) (hA : A.length ≤ 6) (hp : ∀ r, r < A.length → 0 < reA A r 0) : ∀ k, k < A.length → 0 < mnA A k
  | 0, _ => by show (0 : Int) < 1; decide
  | k + 1, hk => by
    have nz : ∀ j, j < k + 1 → reA A j 0 ≠ 0 := fun j hj => by
      have := hp j (by omega)
      intro e; rw [e] at this; exact absurd this (by decide)
    obtain ⟨h0, e⟩ := re_mn h hA hk nz
    have a := hp (k + 1) hk
    rw [e] at a
    have b := rat_pos.2 (minor_pos h hA hp k (by omega))
    refine rat_pos.1 ?_
    have := Rat.mul_pos a b
    rwa [Rat.div_mul_cancel (Ne.symm (Rat.ne_of_lt b))] at this
theorem pos_l {x y : Int} (hy : 0 < y) (h : 0 < x * y) : 0 < x := by
  rcases Int.lt_or_le 0 x with h1 | h1
  · exact h1
  · exact absurd (Int.mul_nonpos_of_nonpos_of_nonneg h1 (Int.le_of_lt hy)) (Int.not_le.2 h)
theorem coef_pos (h : 1 ≤ A.length) (hA : A.length ≤ 6) (hl : 0 < A.getD (A.length - 1) 0) (hm : ∀ k, k + 1 < A.length → 0 < mnA A (k + 1)) : (∀ j, j < (A.length + 1) / 2 → 0 < cA0 A j) ∧ (∀ j, j < A.length / 2 → 0 < cA1 A j) := by
  have y0 : 0 < cA0 A 0 := by
    have : cA0 A 0 = A.getD (A.length - 1) 0 := by unfold cA0; rw [if_pos (by omega)]; rfl
    rw [this]; exact hl
  have q1 := fun h2 => (mn_1 h) ▸ hm 0 h2
  have q2 := fun h2 => (mn_2 h) ▸ hm 1 h2
  have q3 := fun h2 => (mn_3 h) ▸ hm 2 h2
  have fx : ∀ j, A.length / 2 ≤ j → cA1 A j = 0 := fun j hj => by unfold cA1; rw [if_neg (by omega)]
  have fy : ∀ j, (A.length + 1) / 2 ≤ j → cA0 A j = 0 := fun j hj => by unfold cA0; rw [if_neg (by omega)]
  have key : ∀ (a b : Nat), ((A.length + 1) / 2 = a) → (A.length / 2 = b) → (∀ j, j < 3 → j < a → 0 < cA0 A j) → (∀ j, j < 3 → j < b → 0 < cA1 A j) → _ := fun a b ea eb ha hb => (⟨fun j hj => ha j (by omega) (by omega), fun j hj => hb j (by omega) (by omega)⟩ : (∀ j, j < (A.length + 1) / 2 → 0 < cA0 A j) ∧ (∀ j, j < A.length / 2 → 0 < cA1 A j))
  have three : ∀ {f : Nat → Int} {n : Nat}, (0 < n → 0 < f 0) → (1 < n → 0 < f 1) → (2 < n → 0 < f 2) → ∀ j, j < 3 → j < n → 0 < f j := fun a b c j hj hn => by
    match j, hj with
    | 0, _ => exact a hn
    | 1, _ => exact b hn
    | 2, _ => exact c hn
    | j + 3, hj => omega
  have hcase : A.length = 1 ∨ A.length = 2 ∨ A.length = 3 ∨ A.length = 4 ∨ A.length = 5 ∨ A.length = 6 := by omega
  rcases hcase with e | e | e | e | e | e
  · exact key 1 0 (by omega) (by omega) (three (fun _ => y0) (fun h => by omega) (fun h => by omega)) (three (fun h => by omega) (fun h => by omega) (fun h => by omega))
  · have x0 := q1 (by omega)
    exact key 1 1 (by omega) (by omega) (three (fun _ => y0) (fun h => by omega) (fun h => by omega)) (three (fun _ => x0) (fun h => by omega) (fun h => by omega))
  · have x0 := q1 (by omega)
    have d2 := q2 (by omega)
    have y1 : 0 < cA0 A 1 := by
      unfold nA2 at d2
      rw [fx (0 + 1) (by omega), Int.zero_mul, Int.sub_zero] at d2
      exact pos_l x0 d2
    exact key 2 1 (by omega) (by omega) (three (fun _ => y0) (fun _ => y1) (fun h => by omega)) (three (fun _ => x0) (fun h => by omega) (fun h => by omega))
  · have x0 := q1 (by omega)
    have d2 := q2 (by omega)
    have d3 := q3 (by omega)
    have x1 : 0 < cA1 A 1 := by
      unfold nA3 at d3
      have z : nA2 A (0 + 1) = 0 := by show cA0 A 2 * cA1 A 0 - cA1 A 2 * cA0 A 0 = 0; rw [fx 2 (by omega), fy 2 (by omega)]; omega
      rw [z, Int.zero_mul, Int.sub_zero] at d3
      exact pos_l d2 d3
    have y1 : 0 < cA0 A 1 := by
      have d2 : 0 < cA0 A 1 * cA1 A 0 - cA1 A 1 * cA0 A 0 := d2
      have := Int.mul_pos x1 y0
      exact pos_l x0 (by omega)
    exact key 2 2 (by omega) (by omega) (three (fun _ => y0) (fun _ => y1) (fun h => by omega)) (three (fun _ => x0) (fun _ => x1) (fun h => by omega))
  · have x0 := q1 (by omega)
    have d2 := q2 (by omega)
    have d3 := q3 (by omega)
    have d4 := hm 3 (by omega)
    have p4 : 0 < nA4 A 0 := by rw [← mn_4 h]; exact Int.mul_pos x0 d4
    have z31 : nA3 A (0 + 1) = 0 := by show cA1 A 2 * nA2 A 0 - nA2 A 2 * cA1 A 0 = 0; rw [fx 2 (by omega), nA2_far hA (j := 2) (by omega)]; omega
    have p21 : 0 < nA2 A (0 + 1) := by
      unfold nA4 at p4
      rw [z31, Int.zero_mul, Int.sub_zero] at p4
      exact pos_l d3 p4
    have y2 : 0 < cA0 A 2 := by
      have p21 : 0 < cA0 A 2 * cA1 A 0 - cA1 A 2 * cA0 A 0 := p21
      rw [fx 2 (by omega), Int.zero_mul, Int.sub_zero] at p21
      exact pos_l x0 p21
    have x1 : 0 < cA1 A 1 := by
      have d3 : 0 < cA1 A 1 * nA2 A 0 - nA2 A (0 + 1) * cA1 A 0 := d3
      have := Int.mul_pos p21 x0
      exact pos_l d2 (by omega)
    have y1 : 0 < cA0 A 1 := by
      have d2 : 0 < cA0 A 1 * cA1 A 0 - cA1 A 1 * cA0 A 0 := d2
      have := Int.mul_pos x1 y0
      exact pos_l x0 (by omega)
    exact key 3 2 (by omega) (by omega) (three (fun _ => y0) (fun _ => y1) (fun _ => y2)) (three (fun _ => x0) (fun _ => x1) (fun h => by omega))
  · have x0 := q1 (by omega)
    have d2 := q2 (by omega)
    have d3 := q3 (by omega)
    have d4 := hm 3 (by omega)
    have d5 := hm 4 (by omega)
    have x2 : 0 < cA1 A 2 := by
      have d5 : 0 < mnA A 5 := d5
      rw [mn_5 h hA] at d5
      exact pos_l d4 d5
    have p4 : 0 < nA4 A 0 := by rw [← mn_4 h]; exact Int.mul_pos x0 d4
    have z31 : nA3 A (0 + 1) = cA1 A 2 * nA2 A 0 := by show cA1 A 2 * nA2 A 0 - nA2 A 2 * cA1 A 0 = _; rw [nA2_far hA (j := 2) (by omega)]; omega
    have p21 : 0 < nA2 A (0 + 1) := by
      have p4 : 0 < nA2 A (0 + 1) * nA3 A 0 - nA3 A (0 + 1) * nA2 A 0 := p4
      rw [z31] at p4
      have := Int.mul_pos (Int.mul_pos x2 d2) d2
      exact pos_l d3 (by omega)
    have y2 : 0 < cA0 A 2 := by
      have p21 : 0 < cA0 A 2 * cA1 A 0 - cA1 A 2 * cA0 A 0 := p21
      have := Int.mul_pos x2 y0
      exact pos_l x0 (by omega)
    have x1 : 0 < cA1 A 1 := by
      have d3 : 0 < cA1 A 1 * nA2 A 0 - nA2 A (0 + 1) * cA1 A 0 := d3
      have := Int.mul_pos p21 x0
      exact pos_l d2 (by omega)
    have y1 : 0 < cA0 A 1 := by
      have d2 : 0 < cA0 A 1 * cA1 A 0 - cA1 A 1 * cA0 A 0 := d2
      have := Int.mul_pos x1 y0
      exact pos_l x0 (by omega)
    exact key 3 3 (by omega) (by omega) (three (fun _ => y0) (fun _ => y1) (fun _ => y2)) (three (fun _ => x0) (fun _ => x1) (fun _ => x2))
theorem all_pos (h : 1 ≤ A.length) (hA : A.length ≤ 6) (hl : 0 < A.getD (A.length - 1) 0) (hm : ∀ k, k + 1 < A.length → 0 < mnA A (k + 1)) {i : Nat} (hi : i < A.length) : 0 < A.getD i 0 := by
  obtain ⟨ha, hb⟩ := coef_pos h hA hl hm
  by_cases he : (A.length - 1 - i) % 2 = 0
  · have := ha ((A.length - 1 - i) / 2) (by omega)
    unfold cA0 at this
    rw [if_pos (by omega)] at this
    rwa [show A.length - 1 - 2 * ((A.length - 1 - i) / 2) = i by omega] at this
  · have := hb ((A.length - 1 - i) / 2) (by omega)
    unfold cA1 at this
    rw [if_pos (by omega)] at this
    rwa [show A.length - 2 - 2 * ((A.length - 1 - i) / 2) = i by omega] at this
end
end Go.Ev
namespace Go.Ev
open Go Go.RowKit
section
variable {A : List Int}
end
end Go.Ev
namespace Go.Ev
open Go Go.RowKit
noncomputable def f5_r0 : List EOper := [oG 2 (.as (.c (.b false)))]
noncomputable def f5_r1 : List EOper := [oG 12 (.mv (tG 0)), oG 13 (.call (fG 25) [(tG 12)]), oG 3 (.as (tG 13))]
noncomputable def f5_r2 : List EOper := [oG 15 (.mv (tG 3)), oG 16 (.call (fG 20) [(tG 15)]), oG 14 (.mv (tG 16)), oG 17 (.ext (tG 14) 0), oG 18 (.ext (tG 14) 1), oG 4 (.as (tG 17)), oG 5 (.as (tG 18))]
noncomputable def f5_r3 : List EOper := [oG 20 (.mv (tG 3)), oG 21 (.call (fG 21) [(tG 20)]), oG 19 (.mv (tG 21)), oG 22 (.ext (tG 19) 0), oG 23 (.ext (tG 19) 1), oG 6 (.as (tG 22)), oG 7 (.as (tG 23))]
noncomputable def f5_r4 : List EOper := [oG 25 (.mv (tG 3)), oG 26 (.call (fG 33) [(tG 25)]), oG 24 (.mv (tG 26)), oG 27 (.ext (tG 24) 0), oG 28 (.ext (tG 24) 1), oG 8 (.as (tG 27)), oG 9 (.as (tG 28))]
noncomputable def f5_r5 : List EOper := [oG 29 (.mv (tG 9)), oG 30 (.mv (tG 29)), gG 31 30 true (.mv (tG 5)), gG 32 30 true (.bin .neq (tG 31) (cG 0)), gG 33 30 true (.mv (tG 32)), gG 34 33 false (.mv (tG 4)), gG 35 33 false (.mv (tG 8)), gG 36 33 false (.call (fG 34) [(tG 34), (tG 35)]), gG 37 33 false (.not (tG 36)), gG 38 30 true (.pick (tG 33) (.c (.b true)) (tG 37)), oG 39 (.pick (tG 30) (tG 38) (.c (.b false))), oG 40 (.mv (tG 39)), gG 41 40 false (.mv (tG 9)), gG 42 40 false (.not (tG 41)), gG 43 40 false (.mv (tG 42)), gG 44 43 true (.mv (tG 5)), gG 45 43 true (.bin .neq (tG 44) (cG 4)), gG 46 43 true (.mv (tG 45)), gG 47 46 false (.mv (tG 4)), gG 48 46 false (.len (tG 47)), gG 49 46 false (.bin .neq (tG 48) (cG 0)), gG 50 43 true (.pick (tG 46) (.c (.b true)) (tG 49)), gG 51 40 false (.pick (tG 43) (tG 50) (.c (.b false))), oG 52 (.pick (tG 40) (.c (.b true)) (tG 51))]
noncomputable def f5_r6 : List EOper := [oG 2 (.as (.c (.b false)))]
noncomputable def f5_r7 : List EOper := [oG 54 (.mv (tG 3)), oG 55 (.call (fG 35) [(tG 54)]), oG 53 (.mv (tG 55)), oG 56 (.ext (tG 53) 0), oG 57 (.ext (tG 53) 1), oG 10 (.as (tG 56)), oG 11 (.as (tG 57))]
noncomputable def f5_r8 : List EOper := [oG 58 (.mv (tG 11))]
noncomputable def f5_r9 : List EOper := [oG 59 (.mv (tG 7)), oG 60 (.bin .eql (tG 59) (cG 0)), oG 61 (.mv (tG 60)), gG 62 61 true (.mv (tG 6)), gG 63 61 true (.mv (tG 10)), gG 64 61 true (.bin .eql (tG 62) (tG 63)), oG 65 (.pick (tG 61) (tG 64) (.c (.b false))), oG 66 (.mv (tG 65)), gG 67 66 true (.call (fG 19) []), oG 68 (.pick (tG 66) (tG 67) (.c (.b false))), oG 2 (.as (tG 68))]
noncomputable def f5_r10 : List EOper := [oG 69 (.mv (tG 7)), oG 70 (.bin .eql (tG 69) (cG 4)), oG 71 (.mv (tG 70)), gG 72 71 true (.mv (tG 6)), gG 73 71 true (.bin .eql (tG 72) (cG 0)), oG 74 (.pick (tG 71) (tG 73) (.c (.b false))), oG 75 (.mv (tG 74)), gG 76 75 true (.call (fG 19) []), oG 77 (.pick (tG 75) (tG 76) (.c (.b false))), oG 2 (.as (tG 77))]
noncomputable def f5_c : EC := (.seq (.reg f5_r0) (.seq (.reg f5_r1) (.seq (.reg f5_r2) (.seq (.reg f5_r3) (.seq (.reg f5_r4) (.seq (.seq (.reg f5_r5) (.cond (tG 52) (.seq (.reg f5_r6) .ret) .skip)) (.seq (.seq (.reg f5_r7) (.seq (.reg f5_r8) (.cond (tG 58) (.seq (.reg f5_r9) .ret) .skip))) (.seq (.reg f5_r10) .ret))))))))
noncomputable def f5 : EF := ⟨78, [.tmp (.ofNat 2)], f5_c, none⟩
section
variable {fs : T EF} {h : H} {v w u : V} {A L : List Int}
end
end Go.Ev
namespace Go.Ev
open Go Go.RowKit
end Go.Ev
