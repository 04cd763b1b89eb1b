/-
  Steady: the rows of a descent, one after another (91, 102)., and what follows.
-/
import Derived.Test.YtlnkpocijfgikaaDoorPd
import Derived.Test.YtlnkpocijfgikaaDoorPe
namespace Go.Ev
open Go Go.RowKit
noncomputable def f102_r0 : List EOper := [oG 5 (.ldn 8 (tG 1)), oG 4 (.alloc 8 [(.i .i64 (.ofNat 0)), (.i .i64 (.ofNat 0)), (.i .i64 (.ofNat 0)), (.i .i64 (.ofNat 0)), (.i .i64 (.ofNat 0)), (.i .i64 (.ofNat 0)), (.i .i64 (.ofNat 0)), (.i .i64 (.ofNat 0))]), ⟨none, none, .st 8 (tG 4) (tG 5)⟩]
noncomputable def f102_r1 : List EOper := [oG 6 (.mv (tG 0)), oG 7 (.ldn 8 (tG 4)), oG 8 (.call (tG 6) [(tG 7)])]
noncomputable def f102_r2 : List EOper := [oG 11 (.ldn 8 (tG 4))]
noncomputable def f102_r3 : List EOper := [oG 4 (.alloc 8 [(.i .i64 (.ofNat 0)), (.i .i64 (.ofNat 0)), (.i .i64 (.ofNat 0)), (.i .i64 (.ofNat 0)), (.i .i64 (.ofNat 0)), (.i .i64 (.ofNat 0)), (.i .i64 (.ofNat 0)), (.i .i64 (.ofNat 0))]), ⟨none, none, .st 8 (tG 4) (tG 11)⟩]
noncomputable def f102_r4 : List EOper := [oG 9 (.ld (tG 2)), oG 10 (.call (tG 9) []), ⟨none, none, .st 8 (tG 4) (tG 10)⟩]
noncomputable def f102_l0 : EC := (.seq (.seq (.reg f102_r1) (.cond (tG 8) .skip (.exit 0))) (.seq (.block 1 .skip) (.seq (.seq (.reg f102_r2) (.reg f102_r3)) (.reg f102_r4))))
noncomputable def f102_c : EC := (.seq (.reg f102_r0) (.block 0 (.loop f102_l0)))
noncomputable def f102 : EF := ⟨12, [], f102_c, none⟩
theorem f102_rs : f102.rs = [] := of_eq_true (eq_self _)
noncomputable def f91_r0 : List EOper := [oG 2 (.box 8 (tG 0)), oG 3 (.box 1 (tG 1)), oG 4 (.as (.c .fnil))]
noncomputable def f91_r1 : List EOper := [oG 5 (.mkfn (.ofNat 102) [(tG 2), (tG 3)]), oG 4 (.as (tG 5))]
noncomputable def f91_c : EC := (.seq (.reg f91_r0) (.seq (.reg f91_r1) .ret))
noncomputable def f91 : EF := ⟨6, [.tmp (.ofNat 4)], f91_c, none⟩
theorem f91_rs : f91.rs = [.tmp (.ofNat 4)] := of_eq_true (eq_self _)
section
variable {fs : T EF} {h : H} {v w u : V}
theorem callP_bf {k : K} {ef : EF} {args fst : List V} {P : V → H → Prop} (hf : fs.get k = some ef) (hn : ef.nv = none) (hr : Ret fs ef (fst ++ args) h P) : CallP fs (.bf k fst []) args h P := by
  obtain ⟨n, v, h', e, hp⟩ := hr
  refine ⟨n, v, h', ?_, hp⟩
  show (oGet (fs.get k) RV.no fun ef => callE (eval fs n) ef (cat fst (cat args [])) h) = _
  rw [hf, cat_eq, cat_eq, List.append_nil]
  show oGet ef.nv (callF (eval fs n) ef (fst ++ args) h) _ = _
  rw [hn]; exact e
structure Dsc where
  bf : Nat → Rat
  re : Nat → Rat
noncomputable def Dsc.next (d : Dsc) : Dsc := ⟨d.re, nxR d.bf d.re⟩
noncomputable def Dsc.at (d : Dsc) : Nat → Dsc
  | 0 => d
  | n + 1 => (d.at n).next
def Dsc.blk (d : Dsc) : Blk := .cells 16 (rowE d.bf ++ rowE d.re)
structure NR (idd b1 b2 : K) (d0 d : Dsc) (h : H) : Prop where
  hd : h.get idd = d.blk
  h1 : h.get b1 = .cells 8 (rowE d0.re)
  h2 : h.get b2 = .cells 1 [.bf (K.ofNat 92) [.p idd 0] []]
  ld : idd.nat < h.nx.nat
  n1 : b1.nat ≠ idd.nat
  n2 : b2.nat ≠ idd.nat
  hc : HC h
def YieldsD (fs : T EF) (k : K) (idd b1 b2 : K) (d : Dsc) (n : Nat) : Prop :=
  ∀ (id : K) (I : Nat → H → Prop) (D : H → Prop) (h : H), (∀ i h1, I i h1 → NR idd b1 b2 d (d.at (i - 1)) h1) → I 0 h →
    (∀ i h1 h2, i ≤ n → I i h1 → Kpt idd h1 h2 → h2.get idd = (d.at i).blk → ∃ r h', Round fs id (.agg (rowE (d.at i).re)) h2 r h' ∧ (r = true → (i < n ∧ StpB (d.at i).bf (d.at i).re) ∧ I (i + 1) h' ∧ ∀ k : K, h1.nx.nat ≤ k.nat → k.nat < h2.nx.nat → h'.get k = h2.get k) ∧ (r = false → D h')) →
    CallP fs (.fn k [.p b1 0, .p b2 0]) [.yl id] h fun r h' => r = .tup [] ∧ D h'
def f102_I (id idd b1 b2 : K) (d : Dsc) (n : Nat) (I : Nat → H → Prop) (i : Nat) (fr : Fr) (h2 : H) : Prop := i ≤ n ∧ ∃ h1 b4, I i h1 ∧ Kpt idd h1 h2 ∧ h2.get idd = (d.at i).blk ∧ h2.get b4 = .cells 8 (rowE (d.at i).re) ∧ h1.nx.nat ≤ b4.nat ∧ b4.nat < h2.nx.nat ∧ fr.get (K.ofNat 0) = some (.yl id) ∧ fr.get (K.ofNat 1) = some (.p b1 0) ∧ fr.get (K.ofNat 2) = some (.p b2 0) ∧ fr.get (K.ofNat 4) = some (.p b4 0)
theorem rows_yield {d : Dsc} {n : Nat} {idd b1 b2 : K} (h102 : fs.get (K.ofNat 102) = some f102) (k92 : fs.get (K.ofNat 92) = some f92) (k : CallsF fs) : YieldsD fs (K.ofNat 102) idd b1 b2 d n := by
  intro id I D h hN hI round
  refine callP_of (ef := f102) h102 rfl ?_
  show Ret fs f102 [.yl id, .p b1 0, .p b2 0] h _
  apply ret_of rfl
  show W fs none f102_c _ _ _
  unfold f102_c
  have N0 := hN _ _ hI
  have l1 := load8 N0.h1 rfl
  have hz : [V.i IntKind.i64 0, .i .i64 0, .i .i64 0, .i .i64 0, .i .i64 0, .i .i64 0, .i .i64 0, .i .i64 0] = zr 0 := rfl
  have st := store8 (h := h.new (.cells 8 (zr 0))) (id := h.nx) (us := rowE d.re) get_new_same rfl rfl
  have gB := (Grow.new (Nat.le_refl h.nx.nat) (.cells 8 (zr 0))).trans (Grow.put (h := h.new (.cells 8 (zr 0))) (k := h.nx) (Nat.le_refl _) (by rw [nx_new]; omega) (.cells 8 (rowE d.re)))
  have n2 : ((h.new (.cells 8 (zr 0))).put h.nx (.cells 8 (rowE d.re))).nx.nat = h.nx.nat + 1 := by rw [nx_put, nx_new]
  have q4 : ((h.new (.cells 8 (zr 0))).put h.nx (.cells 8 (rowE d.re))).get h.nx = .cells 8 (rowE d.re) := get_put_same
  simp (disch := omega) only [f102_r0, frame_3, Nat.reduceEqDiff, ↓reduceIte, l1, hz, st, bz]
  refine W_loop (f102_I id idd b1 b2 d n I) (fun i => n - i) ?_ 0 ⟨Nat.zero_le _, h, h.nx, hI, Kpt.of gB, (gB.old _ N0.ld).trans N0.hd, q4, Nat.le_refl _, by omega, by simp (disch := omega) only [getK_set, Nat.reduceEqDiff, ↓reduceIte, and_self]⟩
  clear l1 st gB n2 q4 N0 hI
  rintro i fr h2 ⟨hi, h1, b4, hIi, hK, qd, q4, l4, l4', g0, g1, g2, g4⟩
  unfold f102_l0
  have ld4 := load8 q4 rfl
  obtain ⟨r, h3, ⟨m, hr⟩, r1, r2⟩ := round i h1 h2 hi hIi hK qd
  have e6 : ∀ P : V → H → Prop, P (.b r) h3 → CallP fs (.yl id) [.agg (rowE (d.at i).re)] h2 P := fun P hP => ⟨m, _, _, hr, hP⟩
  simp (disch := omega) only [f102_r1, Nat.reduceEqDiff, ↓reduceIte, g0, g4, ld4, bz]
  refine e6 _ ?_
  cases r with
  | false =>
    simp (disch := omega) only [f102_rs, retK_n, retV_0, Option.some.injEq, exists_eq_left', ↓reduceIte, Bool.false_eq_true, bz]
    exact r2 rfl
  | true =>
    obtain ⟨⟨hin, hS⟩, hI3, hk3⟩ := r1 rfl
    have N3 := hN _ _ hI3
    have hd3 : h3.get idd = (d.at i).blk := N3.hd
    have q43 := (hk3 b4 l4 l4').trans q4
    have ld43 := load8 q43 rfl
    have st := store8 (h := h3.new (.cells 8 (zr 0))) (id := h3.nx) (us := rowE (d.at i).re) get_new_same rfl rfl
    have gB := (Grow.new (Nat.le_refl h3.nx.nat) (.cells 8 (zr 0))).trans (Grow.put (h := h3.new (.cells 8 (zr 0))) (k := h3.nx) (Nat.le_refl _) (by rw [nx_new]; omega) (.cells 8 (rowE (d.at i).re)))
    have n4 : ((h3.new (.cells 8 (zr 0))).put h3.nx (.cells 8 (rowE (d.at i).re))).nx.nat = h3.nx.nat + 1 := by rw [nx_put, nx_new]
    have q5 : ((h3.new (.cells 8 (zr 0))).put h3.nx (.cells 8 (rowE (d.at i).re))).get h3.nx = .cells 8 (rowE (d.at i).re) := get_put_same
    have lb : loadV ((h3.new (.cells 8 (zr 0))).put h3.nx (.cells 8 (rowE (d.at i).re))) (.p b2 0) one? = .ok (.bf (K.ofNat 92) [.p idd 0] []) _ := load_p ((gB.old b2 (N3.hc.cells N3.h2)).trans N3.h2) rfl
    simp (disch := omega) only [f102_r2, f102_r3, f102_r4, Nat.reduceEqDiff, ↓reduceIte, g2, g4, ld43, hz, st, lb, bz]
    have ld := N3.ld
    have qd4 := (gB.old idd ld).trans hd3
    have hc4 := gB.hc N3.hc
    generalize (h3.new (.cells 8 (zr 0))).put h3.nx (.cells 8 (rowE (d.at i).re)) = h4 at *
    refine (callP_bf k92 rfl (f92_ret k qd4 (by omega) hS hc4)).mono ?_
    rintro r' h5 ⟨rfl, k5, qd5⟩
    have q55 := (k5.old h3.nx (by omega) (by omega)).trans q5
    have st5 := store8 (us := rowE (nxR (d.at i).bf (d.at i).re)) q55 rfl rfl
    have ne5 : idd ≠ h3.nx := fun e => by rw [e] at ld; omega
    simp (disch := omega) only [Nat.reduceEqDiff, ↓reduceIte, st5, bz]
    have l5 := k5.nx
    exact ⟨i + 1, by omega, by omega, h3, h3.nx, hI3, ⟨Nat.le_trans gB.nx k5.nx, fun k hk hn => (get_put_other (fun e => by rw [e] at hk; omega)).trans ((k5.old k (Nat.lt_of_lt_of_le hk gB.nx) hn).trans (gB.old k hk)), fun _ => (Grow.put (b := 0) (Nat.zero_le _) (by omega) _).hc (k5.hc hc4)⟩, (get_put_other ne5).trans qd5, get_put_same, Nat.le_refl _, by show h3.nx.nat < h5.nx.nat; omega, by simp (disch := omega) only [getK_set, Nat.reduceEqDiff, ↓reduceIte, g0, g1, g2, and_self]⟩
theorem W_rangeD {ro : Option K} {f : EO} {k : K} {p : K} {a c : EC} {fr : Fr} {Q : Ex → Fr → H → Prop} {idd b1 b2 : K} {d : Dsc} {n : Nat} (hro : roOk ro h = true) (hf : ev fr f = .fn k [.p b1 0, .p b2 0]) (hy : YieldsD fs k idd b1 b2 d n)
    (I : Nat → H → Prop) (D : Ex → H → Prop) (hne : h.nx.nat ≠ idd.nat) (hN : ∀ i h1, I i h1 → NR idd b1 b2 d (d.at (i - 1)) h1 ∧ h.nx.nat < h1.nx.nat) (hI0 : I 0 (h.new (rdyB fr [p] a c)))
    (step : ∀ i h1 h2, i ≤ n → I i h1 → Kpt idd h1 h2 → h2.get idd = (d.at i).blk → h2.get h.nx = rdyB fr [p] a c → W fs (some h.nx) a (rndA fs h.nx fr [p] a c (fun h3 => (i < n ∧ StpB (d.at i).bf (d.at i).re) ∧ I (i + 1) h3 ∧ ∀ k : K, h1.nx.nat ≤ k.nat → k.nat < h2.nx.nat → h3.get k = h2.get k) D) (fr.set p (.agg (rowE (d.at i).re))) h2)
    (brk : ∀ e h1, e ≠ .normal → D e h1 → Q e fr h1) : W fs ro (.rangeF f [p] a c) Q fr h := by
  have key := hy h.nx (fun i h1 => I i h1 ∧ h1.get h.nx = rdyB fr [p] a c) (fun h1 => ∃ e, e ≠ .normal ∧ D e (h1.put h.nx .dead) ∧ h1.get h.nx = .loop .done (some e) fr [p] a c) (h.new (rdyB fr [p] a c)) (fun i h1 hi => (hN i h1 hi.1).1) ⟨hI0, get_new_same⟩ ?_
  · obtain ⟨m, r, h1, hc, rfl, e, hne', hD, hb⟩ := key
    exact ⟨e, fr, _, Runs.range hro hf ⟨m, hc⟩ hb (.inr ⟨rfl, rfl⟩), brk e _ hne' hD⟩
  · rintro i h1 h2 hi ⟨hI, hb⟩ hK hd
    have hb2 : h2.get h.nx = rdyB fr [p] a c := (hK.old _ (hN _ _ hI).2 hne).trans hb
    obtain ⟨e1, fr1, h3, r1, rfl, hb3, hw⟩ := W_ok _ _ _ _ (step i h1 h2 hi hI hK hd hb2)
    obtain ⟨e2, fr2, h4, r2, hb4, hq⟩ := W_ok _ _ _ _ hw
    refine ⟨isNo e2, h4.put h.nx (afterR e2 fr [p] a c), round_of hb2 rfl r1 hb3 r2 hb4, fun he => ?_, fun he => ?_⟩
    · cases e2 <;> first | exact ⟨hq.1, ⟨hq.2.1, get_put_same⟩, hq.2.2⟩ | cases he
    · cases e2 with
      | normal => cases he
      | exit j => exact ⟨.exit j, by simp, by rw [H.put_put]; exact hq, get_put_same⟩
      | ret => exact ⟨.ret, by simp, by rw [H.put_put]; exact hq, get_put_same⟩
theorem f91_ret {R : Nat → Rat} {g : V} (hg : cellsN 1 g = some [g]) : Ret fs f91 [.agg (rowE R), g] h fun r h' => r = .fn (.ofNat 102) [.p h.nx 0, .p (h.new (.cells 8 (rowE R))).nx 0] ∧ h' = (h.new (.cells 8 (rowE R))).new (.cells 1 [g]) := by
  apply ret_of rfl
  show W fs none f91_c _ _ _
  unfold f91_c
  have hc8 : cellsN 8 (.agg (rowE R)) = some (rowE R) := cell8 rfl
  simp (disch := omega) only [f91_r0, f91_r1, f91_rs, x_mkfn, Option.some.injEq, exists_eq_left', Nat.reduceEqDiff, ↓reduceIte, hc8, hg, and_self, bz]
end
end Go.Ev
namespace Go.Ev
open Go Go.RowKit
noncomputable def f59_r0 : List EOper := [oG 1 (.box 1 (tG 0)), oG 2 (.alloc 1 [.sn]), oG 3 (.alloc 1 [(.b false)])]
noncomputable def f59_r1 : List EOper := [oG 4 (.alloc 1 [.sn])]
noncomputable def f59_r2 : List EOper := [oG 7 (.ld (tG 1)), oG 8 (.call (fG 90) [(tG 7)]), oG 5 (.alloc 16 (List.replicate 16 (.i .i64 (.ofNat 0)))), ⟨none, none, .st 16 (tG 5) (tG 8)⟩]
noncomputable def f59_r3 : List EOper := [oG 9 (.fadr 8 (tG 5)), oG 10 (.ldn 8 (tG 9)), oG 11 (.mkbf (.ofNat 92) [(tG 5)] []), oG 12 (.call (fG 91) [(tG 10), (tG 11)])]
noncomputable def f59_r4 : List EOper := [oG 6 (.alloc 8 [(.i .i64 (.ofNat 0)), (.i .i64 (.ofNat 0)), (.i .i64 (.ofNat 0)), (.i .i64 (.ofNat 0)), (.i .i64 (.ofNat 0)), (.i .i64 (.ofNat 0)), (.i .i64 (.ofNat 0)), (.i .i64 (.ofNat 0))]), ⟨none, none, .st 8 (tG 6) (tG 13)⟩]
noncomputable def f59_a0 : EC := (.reg f59_r4)
noncomputable def f59_r5 : List EOper := [oG 14 (.ld (tG 4)), oG 15 (.ldn 8 (tG 6)), oG 16 (.bslice 1 8 [(.i .i64 (.ofNat 0)), (.i .i64 (.ofNat 0)), (.i .i64 (.ofNat 0)), (.i .i64 (.ofNat 0)), (.i .i64 (.ofNat 0)), (.i .i64 (.ofNat 0)), (.i .i64 (.ofNat 0)), (.i .i64 (.ofNat 0))] [(0, 8, (tG 15))]), oG 17 (.app 8 (tG 14) (tG 16)), ⟨none, none, .st 1 (tG 4) (tG 17)⟩]
noncomputable def f59_r6 : List EOper := [oG 19 (.ld (tG 4)), oG 20 (.len (tG 19)), oG 21 (.ld (tG 1)), oG 22 (.len (tG 21)), oG 23 (.bin .eql (tG 20) (tG 22)), oG 18 (.as (tG 23))]
noncomputable def f59_r7 : List EOper := [oG 24 (.ld (tG 4)), ⟨none, none, .st 1 (tG 2) (tG 24)⟩, ⟨none, none, .st 1 (tG 3) (.c (.b true))⟩]
noncomputable def f59_r8 : List Stage := [⟨[oG 26 (.ldn 8 (tG 6)), oG 28 (.mv (.c (.agg [(.i .i64 (.ofNat 0)), (.i .i64 (.ofNat 1))])))], [], (some (oG 27 (.call (fG 62) [(tG 26)]))), []⟩, ⟨[oG 29 (.eqk (.many [(some .i64), (some .i64)]) false (tG 27) (tG 28))], [oG 28 (.mv (.c (.agg [(.i .i64 (.ofNat 0)), (.i .i64 (.ofNat 1))])))], (some (oG 25 (.as (tG 29)))), []⟩, ⟨[], [], none, []⟩]
noncomputable def f59_b0 : EC := (.block 1 (.seq (.reg f59_r5) (.block 2 (.seq (.reg f59_r6) (.cond (tG 18) (.seq (.reg f59_r7) .ret) (.seq (.draw f59_r8) (.cond (tG 25) (.exit 0) .skip)))))))
noncomputable def f59_r9 : List EOper := [⟨none, none, .st 1 (tG 2) (.c .sn)⟩, ⟨none, none, .st 1 (tG 3) (.c (.b false))⟩]
noncomputable def f59_c : EC := (.seq (.reg f59_r0) (.scope (.seq (.reg f59_r1) (.seq (.reg f59_r2) (.seq .skip (.seq (.seq (.reg f59_r3) (.block 0 (.rangeF (tG 12) [(.ofNat 13)] f59_a0 f59_b0))) (.seq (.reg f59_r9) .ret)))))))
noncomputable def f59 : EF := ⟨30, [.cell (.ofNat 2), .cell (.ofNat 3)], f59_c, none⟩
theorem f59_rs : f59.rs = [.cell (.ofNat 2), .cell (.ofNat 3)] := of_eq_true (eq_self _)
section
variable {fs : T EF} {h : H} {v w u : V} {A : List Int}
noncomputable def dTop (A : List Int) : Dsc := ⟨fun j => ((0 : Rat) :: dnL A (A.length - 2) (A.length / 2)).getD j 0, fun j => (dnL A (A.length - 1) ((A.length + 1) / 2)).getD j 0⟩
noncomputable def rwsL (A : List Int) (i : Nat) : List (Nat → Rat) := (List.range i).map fun j => ((dTop A).at j).re
theorem rwsL_len {i : Nat} : (rwsL A i).length = i := by simp [rwsL]
theorem rwsL_succ {i : Nat} : rwsL A (i + 1) = rwsL A i ++ [((dTop A).at i).re] := by simp [rwsL, List.range_succ]
structure CallsL59 (fs : T EF) : Prop extends CallsF fs where
  c90 : fs.get (K.ofNat 90) = some f90
  c91 : fs.get (K.ofNat 91) = some f91
  c92 : fs.get (K.ofNat 92) = some f92
  c102 : fs.get (K.ofNat 102) = some f102
theorem rat_zero {q : Rat} : (decide (q.num = 0) && decide ((q.den : Int) = 1)) = decide (q = 0) := by
  by_cases h : q = 0
  · subst h; rfl
  · rw [decide_eq_false h]
    have : ¬ q.num = 0 := fun e => h (Rat.num_eq_zero.1 e)
    rw [decide_eq_false this, Bool.false_and]
theorem fill_8 {fr : Fr} {x : EO} : fillE fr [.i .i64 0, .i .i64 0, .i .i64 0, .i .i64 0, .i .i64 0, .i .i64 0, .i .i64 0, .i .i64 0] [(0, 8, x)] = oGet (cellsN 8 (ev fr x)) none fun cs => some (setMany (zr 0) 0 cs) := of_eq_true (eq_self _)
theorem set_8 {R : Nat → Rat} : setMany (zr 0) 0 (rowE R) = rowE R := rfl
theorem rowE_len : ∀ R, (rowE R).length = 8 := fun _ => rfl
theorem callP_eq3 {f : V} {args : List V} {u : V} {h2 : H} {P : V → H → Prop} (hr : CallP fs f args h fun r h' => r = u ∧ h' = h2) : CallP fs f args h P = P u h2 := by
  apply propext
  obtain ⟨n, v, h', e, rfl, rfl⟩ := hr
  constructor
  · rintro ⟨n2, v2, h2, e2, hp⟩
    have a1 := callV_le (eval_le fs (Nat.le_max_left n n2)) _ _ _ _ _ e
    have a2 := callV_le (eval_le fs (Nat.le_max_right n n2)) _ _ _ _ _ e2
    rw [a1] at a2
    cases a2; exact hp
  · intro hp; exact ⟨n, _, _, e, hp⟩
structure TbI (A : List Int) (h : H) (v : V) (i1 i2 i3 i4 idd x1 x2 lp : K) (i : Nat) (h1 : H) : Prop where
  gr : Grow h.nx.nat h h1
  q1 : h1.get i1 = .cells 1 [v]
  q2 : h1.get i2 = .cells 1 [.sn]
  q3 : h1.get i3 = .cells 1 [.b false]
  q4 : ∃ o, h1.get i4 = .cells 1 [o] ∧ Sk 8 rowE h1 o (rwsL A i) ∧ Own (lp.nat + 1) o
  nr : NR idd x1 x2 (dTop A) ((dTop A).at (i - 1)) h1
  lt : lp.nat < h1.nx.nat
  nz : ∀ j, j < i → ((dTop A).at j).re 0 ≠ 0
def TbD (A : List Int) (h : H) (i2 i3 : K) (lp : K) (e : Ex) (h1 : H) : Prop := Grow h.nx.nat h h1 ∧ HC h1 ∧ i2.nat < h1.nx.nat ∧ i3.nat < h1.nx.nat ∧
  ((e = .ret ∧ (∃ o, h1.get i2 = .cells 1 [o] ∧ Sk 8 rowE h1 o (rwsL A A.length) ∧ Own (lp.nat + 1) o) ∧ h1.get i3 = .cells 1 [.b true] ∧ ∀ j, j + 1 < A.length → ((dTop A).at j).re 0 ≠ 0) ∨
  (e = .exit 0 ∧ h1.get i2 = .cells 1 [.sn] ∧ h1.get i3 = .cells 1 [.b false] ∧ ∃ j, j + 1 < A.length ∧ ((dTop A).at j).re 0 = 0))
theorem f59_ret (k : CallsL59 fs) (hA1 : 1 ≤ A.length) (hA : A.length ≤ 6) (hs : smB A = true) (hB : ∀ i, i + 1 < A.length → (∀ j, j ≤ i → ((dTop A).at j).re 0 ≠ 0) → StpB ((dTop A).at i).bf ((dTop A).at i).re) (hR : ∀ i, i < A.length → (∀ j, j < i → ((dTop A).at j).re 0 ≠ 0) → inR .i64 (((dTop A).at i).re 0).num = true ∧ inR .i64 ((((dTop A).at i).re 0).den : Int) = true) (hv : Sr iE h v A) (hc : HC h) : Ret fs f59 [v] h fun r h' => ∃ o b, r = .tup [o, .b b] ∧ Grow h.nx.nat h h' ∧ Own h.nx.nat o ∧ ((b = true ∧ Sk 8 rowE h' o (rwsL A A.length) ∧ ∀ j, j + 1 < A.length → ((dTop A).at j).re 0 ≠ 0) ∨ (b = false ∧ o = .sn ∧ ∃ j, j + 1 < A.length ∧ ((dTop A).at j).re 0 = 0)) := by
  apply ret_of rfl
  show W fs none f59_c _ _ _
  unfold f59_c
  have hv1 : cellsN 1 v = some [v] := hv.one
  have gA := Grow.new (Nat.le_refl h.nx.nat) (.cells 1 [v])
  have nA := nx_new h (.cells 1 [v])
  have a1 : (h.new (.cells 1 [v])).get h.nx = .cells 1 [v] := get_new_same
  simp (disch := omega) only [f59_r0, f59_r1, w_scope, ↓reduceIte, hv1, bz]
  have gA2 : Grow h.nx.nat h (h.new (.cells 1 [v])) := gA
  generalize h.new (.cells 1 [v]) = hA' at *
  have gB := Grow.new (Nat.le_refl hA'.nx.nat) (.cells 1 [.sn])
  have nB := nx_new hA' (.cells 1 [.sn])
  have b1 : (hA'.new (.cells 1 [.sn])).get h.nx = .cells 1 [v] := (gB.old _ (by omega)).trans a1
  have b2 : (hA'.new (.cells 1 [.sn])).get hA'.nx = .cells 1 [.sn] := get_new_same
  have GB := gA2.trans (gB.low gA2.nx)
  generalize hi2 : hA'.nx = i2 at *
  generalize hA'.new (.cells 1 [.sn]) = hB' at *
  have gC := Grow.new (Nat.le_refl hB'.nx.nat) (.cells 1 [.b false])
  have nC := nx_new hB' (.cells 1 [.b false])
  have c1 : (hB'.new (.cells 1 [.b false])).get h.nx = .cells 1 [v] := (gC.old _ (by omega)).trans b1
  have c2 : (hB'.new (.cells 1 [.b false])).get i2 = .cells 1 [.sn] := (gC.old _ (by omega)).trans b2
  have c3 : (hB'.new (.cells 1 [.b false])).get hB'.nx = .cells 1 [.b false] := get_new_same
  have GC := GB.trans (gC.low GB.nx)
  generalize hi3 : hB'.nx = i3 at *
  generalize hB'.new (.cells 1 [.b false]) = hC' at *
  have gD := Grow.new (Nat.le_refl hC'.nx.nat) (.cells 1 [.sn])
  have nD := nx_new hC' (.cells 1 [.sn])
  have d1 : (hC'.new (.cells 1 [.sn])).get h.nx = .cells 1 [v] := (gD.old _ (by omega)).trans c1
  have d2 : (hC'.new (.cells 1 [.sn])).get i2 = .cells 1 [.sn] := (gD.old _ (by omega)).trans c2
  have d3 : (hC'.new (.cells 1 [.sn])).get i3 = .cells 1 [.b false] := (gD.old _ (by omega)).trans c3
  have d4 : (hC'.new (.cells 1 [.sn])).get hC'.nx = .cells 1 [.sn] := get_new_same
  have GD := GC.trans (gD.low GC.nx)
  generalize hi4 : hC'.nx = i4 at *
  generalize hC'.new (.cells 1 [.sn]) = hD at *
  have l1 : loadV hD (.p h.nx 0) one? = .ok v hD := load_p d1 rfl
  have hcD := GD.hc hc
  simp (disch := omega) only [f59_r2, Nat.reduceEqDiff, ↓reduceIte, l1, bz]
  refine (callP_0 (ef := f90) k.c90 rfl (f90_ret k.c100 k.c101 k.c107 hA1 hA hs (hv.grow hc GD) hcD)).mono ?_
  rintro r h5 ⟨rfl, g5⟩
  have hcat : rowE (fun j => ((0 : Rat) :: dnL A (A.length - 2) (A.length / 2)).getD j 0) ++ rowE (fun j => (dnL A (A.length - 1) ((A.length + 1) / 2)).getD j 0) = rowE (dTop A).bf ++ rowE (dTop A).re := rfl
  rw [hcat]
  have G5 := GD.trans (g5.low GD.nx)
  have st := store16 (h := h5.new (.cells 16 (List.replicate 16 (.i .i64 0)))) (id := h5.nx) (us := rowE (dTop A).bf ++ rowE (dTop A).re) get_new_same rfl rfl
  have gE := (Grow.new (Nat.le_refl h5.nx.nat) (.cells 16 (List.replicate 16 (.i .i64 0)))).trans (Grow.put (h := h5.new (.cells 16 (List.replicate 16 (.i .i64 0)))) (k := h5.nx) (Nat.le_refl _) (by rw [nx_new]; omega) (.cells 16 (rowE (dTop A).bf ++ rowE (dTop A).re)))
  have nE : ((h5.new (.cells 16 (List.replicate 16 (.i .i64 0)))).put h5.nx (.cells 16 (rowE (dTop A).bf ++ rowE (dTop A).re))).nx.nat = h5.nx.nat + 1 := by rw [nx_put, nx_new]
  have e5 : ((h5.new (.cells 16 (List.replicate 16 (.i .i64 0)))).put h5.nx (.cells 16 (rowE (dTop A).bf ++ rowE (dTop A).re))).get h5.nx = .cells 16 (rowE (dTop A).bf ++ rowE (dTop A).re) := get_put_same
  simp (disch := omega) only [Nat.reduceEqDiff, ↓reduceIte, st, bz]
  have lt5 : h5.nx.nat > i4.nat := by have := g5.nx; omega
  have e1 := (gE.old h.nx (by omega)).trans ((g5.old h.nx (by omega)).trans d1)
  have e2 := (gE.old i2 (by omega)).trans ((g5.old i2 (by omega)).trans d2)
  have e3 := (gE.old i3 (by omega)).trans ((g5.old i3 (by omega)).trans d3)
  have e4 := (gE.old i4 (by omega)).trans ((g5.old i4 (by omega)).trans d4)
  have GE := G5.trans (gE.low G5.nx)
  generalize hid : h5.nx = idd at *
  generalize (h5.new (.cells 16 (List.replicate 16 (.i .i64 0)))).put idd (.cells 16 (rowE (dTop A).bf ++ rowE (dTop A).re)) = h6 at *
  have lC := ld_C e5
  have e91 := fun P => callP_eq3 (P := P) (callP_0 (ef := f91) k.c91 rfl (f91_ret (h := h6) (R := (dTop A).re) (g := .bf (K.ofNat 92) [.p idd 0] []) rfl))
  simp (disch := omega) only [f59_r3, x_fadr, Nat.reduceEqDiff, ↓reduceIte, x_mkbf, lC, e91, bz]
  generalize hfr : T.set (K.ofNat 12) _ _ = fr
  have g1 : fr.get (K.ofNat 1) = some (.p h.nx 0) := by rw [← hfr]; simp only [getK_set, Nat.reduceEqDiff, ↓reduceIte]
  have g2 : fr.get (K.ofNat 2) = some (.p i2 0) := by rw [← hfr]; simp only [getK_set, Nat.reduceEqDiff, ↓reduceIte]
  have g3 : fr.get (K.ofNat 3) = some (.p i3 0) := by rw [← hfr]; simp only [getK_set, Nat.reduceEqDiff, ↓reduceIte]
  have g4 : fr.get (K.ofNat 4) = some (.p i4 0) := by rw [← hfr]; simp only [getK_set, Nat.reduceEqDiff, ↓reduceIte]
  have g12 : fr.get (K.ofNat 12) = some (.fn (K.ofNat 102) [.p h6.nx 0, .p (h6.new (.cells 8 (rowE (dTop A).re))).nx 0]) := by rw [← hfr]; simp only [getK_set, ↓reduceIte]
  clear hfr
  clear e91
  have gF := Grow.new (Nat.le_refl h6.nx.nat) (.cells 8 (rowE (dTop A).re))
  have nF := nx_new h6 (.cells 8 (rowE (dTop A).re))
  have f5 : (h6.new (.cells 8 (rowE (dTop A).re))).get h6.nx = .cells 8 (rowE (dTop A).re) := get_new_same
  have GF := GE.trans (gF.low GE.nx)
  generalize hx1 : h6.nx = x1 at *
  generalize h6.new (.cells 8 (rowE (dTop A).re)) = h6' at *
  have gG := Grow.new (Nat.le_refl h6'.nx.nat) (.cells 1 [.bf (K.ofNat 92) [.p idd 0] []])
  have nG := nx_new h6' (.cells 1 [.bf (K.ofNat 92) [.p idd 0] []])
  have f6 : (h6'.new (.cells 1 [.bf (K.ofNat 92) [.p idd 0] []])).get h6'.nx = .cells 1 [.bf (K.ofNat 92) [.p idd 0] []] := get_new_same
  have GG := GF.trans (gG.low GF.nx)
  generalize hx2 : h6'.nx = x2 at *
  generalize h6'.new (.cells 1 [.bf (K.ofNat 92) [.p idd 0] []]) = h7 at *
  have t1 := (gG.old h.nx (by omega)).trans ((gF.old h.nx (by omega)).trans e1)
  have t2 := (gG.old i2 (by omega)).trans ((gF.old i2 (by omega)).trans e2)
  have t3 := (gG.old i3 (by omega)).trans ((gF.old i3 (by omega)).trans e3)
  have t4 := (gG.old i4 (by omega)).trans ((gF.old i4 (by omega)).trans e4)
  have t5 := (gG.old idd (by omega)).trans ((gF.old idd (by omega)).trans e5)
  have t6 := (gG.old x1 (by omega)).trans f5
  have hz : [V.i IntKind.i64 0, .i .i64 0, .i .i64 0, .i .i64 0, .i .i64 0, .i .i64 0, .i .i64 0, .i .i64 0] = zr 0 := rfl
  clear lC e1 e2 e3 e4 e5 gF gG GF gE gD gC gB gA gA2 GB GC GD GE G5 g5 st hcat f5 b1 b2 c1 c2 c3 d1 d2 d3 d4 a1 l1 hcD
  refine W_rangeD (idd := idd) (b1 := x1) (b2 := x2) (d := dTop A) (n := A.length - 1) rfl (by simp (disch := omega) only [ev_t, getV_some, g12]) (rows_yield k.c102 k.c92 k.toCallsF) (TbI A h v h.nx i2 i3 i4 idd x1 x2 h7.nx) (TbD A h i2 i3 h7.nx) (by omega) (fun i h1 T => ⟨T.nr, T.lt⟩) ?_ ?_ ?_
  · have gH := Grow.new (Nat.le_refl h7.nx.nat) (rdyB fr [(K.ofNat 13)] f59_a0 f59_b0)
    have nH := nx_new h7 (rdyB fr [(K.ofNat 13)] f59_a0 f59_b0)
    have hc8 := (GG.trans (gH.low GG.nx)).hc hc
    exact ⟨GG.trans (gH.low GG.nx), (gH.old _ (by omega)).trans t1, (gH.old _ (by omega)).trans t2, (gH.old _ (by omega)).trans t3, ⟨.sn, (gH.old _ (by omega)).trans t4, Sk.nil, Own.sn⟩, ⟨(gH.old _ (by omega)).trans t5, (gH.old _ (by omega)).trans t6, (gH.old _ (by omega)).trans f6, by omega, by omega, by omega, hc8⟩, by omega, fun j hj => absurd hj (by omega)⟩
  · rintro i h1 h2 hi T kp hd hr
    have Tlt := T.lt
    have Kn := kp.nx
    have hcK := kp.hc T.nr.hc
    obtain ⟨o, q4, sk, oo⟩ := T.q4
    have q1' := (kp.old h.nx (by omega) (by omega)).trans T.q1
    have q2' := (kp.old i2 (by omega) (by omega)).trans T.q2
    have q3' := (kp.old i3 (by omega) (by omega)).trans T.q3
    have q4' := (kp.old i4 (by omega) (by omega)).trans q4
    have p1' := (kp.old x1 (by omega) (by omega)).trans T.nr.h1
    have p2' := (kp.old x2 (by omega) (by omega)).trans T.nr.h2
    have sk2 : Sk 8 rowE h2 o (rwsL A i) := sk.same fun id off n sz e => kp.old id (sk.lt T.nr.hc _ _ _ _ e) (by have := oo _ _ _ _ e; omega)
    have G2 := T.gr.trans (kp.grow (b := h.nx.nat) (by omega) (by omega))
    have hrow : (rowE ((dTop A).at i).re).length = 8 := rfl
    generalize hRow : ((dTop A).at i).re = R at *
    have st6 := store8 (h := h2.new (.cells 8 (zr 0))) (id := h2.nx) (us := rowE R) get_new_same rfl rfl
    have gN := (Grow.new (Nat.le_refl h2.nx.nat) (.cells 8 (zr 0))).trans (Grow.put (h := h2.new (.cells 8 (zr 0))) (k := h2.nx) (Nat.le_refl _) (by rw [nx_new]; omega) (.cells 8 (rowE R)))
    have nN : ((h2.new (.cells 8 (zr 0))).put h2.nx (.cells 8 (rowE R))).nx.nat = h2.nx.nat + 1 := by rw [nx_put, nx_new]
    have q6 : ((h2.new (.cells 8 (zr 0))).put h2.nx (.cells 8 (rowE R))).get h2.nx = .cells 8 (rowE R) := get_put_same
    show W fs (some h7.nx) (.reg f59_r4) _ _ _
    simp (disch := omega) only [f59_r4, rndA_n, Nat.reduceEqDiff, ↓reduceIte, hz, st6, bz]
    generalize hb6 : h2.nx = b6 at *
    generalize (h2.new (.cells 8 (zr 0))).put b6 (.cells 8 (rowE R)) = h3 at *
    have l3 : h7.nx.nat < h3.nx.nat := by omega
    refine ⟨(gN.old _ (by omega)).trans hr, ?_⟩
    have gP := Grow.put (b := h7.nx.nat) (h := h3) (Nat.le_refl _) l3 (bsyB fr [(K.ofNat 13)] f59_a0 f59_b0)
    have u1 := (gP.old h.nx (by omega)).trans ((gN.old h.nx (by omega)).trans q1')
    have u2 := (gP.old i2 (by omega)).trans ((gN.old i2 (by omega)).trans q2')
    have u3 := (gP.old i3 (by omega)).trans ((gN.old i3 (by omega)).trans q3')
    have u4 := (gP.old i4 (by omega)).trans ((gN.old i4 (by omega)).trans q4')
    have u5 := (gP.old idd (by omega)).trans ((gN.old idd (by omega)).trans hd)
    have u6 : (h3.put h7.nx (bsyB fr [(K.ofNat 13)] f59_a0 f59_b0)).get b6 = .cells 8 (rowE R) := (get_put_other (fun e => by have := congrArg K.nat e; omega)).trans q6
    have v1 := (gP.old x1 (by omega)).trans ((gN.old x1 (by omega)).trans p1')
    have v2 := (gP.old x2 (by omega)).trans ((gN.old x2 (by omega)).trans p2')
    have ub : (h3.put h7.nx (bsyB fr [(K.ofNat 13)] f59_a0 f59_b0)).get h7.nx = bsyB fr [(K.ofNat 13)] f59_a0 f59_b0 := get_put_same
    have sk4 : Sk 8 rowE (h3.put h7.nx (bsyB fr [(K.ofNat 13)] f59_a0 f59_b0)) o (rwsL A i) := (sk2.grow hcK (by rw [hb6]; exact gN)).put (oo.notIn (by omega)) _
    have G4 : Grow h.nx.nat h (h3.put h7.nx (bsyB fr [(K.ofNat 13)] f59_a0 f59_b0)) := (G2.trans (gN.low (by omega))).trans (gP.low (by omega))
    have hc4 := G4.hc hc
    have hkk : ∀ k : K, h1.nx.nat ≤ k.nat → k.nat < b6.nat → (h3.put h7.nx (bsyB fr [(K.ofNat 13)] f59_a0 f59_b0)).get k = h2.get k := fun k l1 l2 => (get_put_other (fun e => by rw [e] at l1; omega)).trans (gN.old k (by omega))
    have n4' : (h3.put h7.nx (bsyB fr [(K.ofNat 13)] f59_a0 f59_b0)).nx = h3.nx := rfl
    generalize h3.put h7.nx (bsyB fr [(K.ofNat 13)] f59_a0 f59_b0) = h4 at *
    have n4 : h4.nx.nat = b6.nat + 1 := by rw [n4']; omega
    have ll4 : loadV h4 (.p i4 0) one? = .ok o h4 := load_p u4 rfl
    have l8 := load8 u6 rfl
    have hcell : cellsN 8 (.agg (rowE R)) = some (rowE R) := cell8 rfl
    obtain ⟨o', h5', a1, sk5, oo5, g5, k5⟩ := Sk.push rowE_len (by omega) (x := R) sk4 oo (by omega) hc4 (by rw [rwsL_len]; omega)
    have ho' : cellsN 1 o' = some [o'] := sk5.one
    have w4 := (g5.old i4 (by omega)).trans u4
    have st4 : storeV h5' 1 (.p i4 0) o' = .ok undefV (h5'.put i4 (.cells 1 [o'])) := by rw [store_p w4 ho' (by omega)]; rfl
    have n5 := g5.nx
    have gQ := Grow.put (b := i4.nat) (h := h5') (Nat.le_refl _) (by omega) (.cells 1 [o'])
    show W fs (some h7.nx) (.block 1 (.seq (.reg f59_r5) (.block 2 (.seq (.reg f59_r6) (.cond (.t (K.ofNat 18)) (.seq (.reg f59_r7) .ret) (.seq (.draw f59_r8) (.cond (.t (K.ofNat 25)) (.exit 0) .skip))))))) _ _ _
    simp (disch := omega) only [f59_r5, Nat.reduceEqDiff, ↓reduceIte, g4, ll4, l8, hcell, fill_8, set_8, a1, st4, bz]
    have z1 : (h5'.put i4 (.cells 1 [o'])).get h.nx = .cells 1 [v] := (get_put_other (fun e => by have := congrArg K.nat e; omega)).trans ((g5.old _ (by omega)).trans u1)
    have z2 : (h5'.put i4 (.cells 1 [o'])).get i2 = .cells 1 [.sn] := (get_put_other (fun e => by have := congrArg K.nat e; omega)).trans ((g5.old _ (by omega)).trans u2)
    have z3 : (h5'.put i4 (.cells 1 [o'])).get i3 = .cells 1 [.b false] := (get_put_other (fun e => by have := congrArg K.nat e; omega)).trans ((g5.old _ (by omega)).trans u3)
    have z4 : (h5'.put i4 (.cells 1 [o'])).get i4 = .cells 1 [o'] := get_put_same
    have z5 : (h5'.put i4 (.cells 1 [o'])).get idd = ((dTop A).at i).blk := (get_put_other (fun e => by have := congrArg K.nat e; omega)).trans ((g5.old _ (by omega)).trans u5)
    have y1 : (h5'.put i4 (.cells 1 [o'])).get x1 = .cells 8 (rowE (dTop A).re) := (get_put_other (fun e => by have := congrArg K.nat e; omega)).trans ((g5.old _ (by omega)).trans v1)
    have y2 : (h5'.put i4 (.cells 1 [o'])).get x2 = .cells 1 [.bf (K.ofNat 92) [.p idd 0] []] := (get_put_other (fun e => by have := congrArg K.nat e; omega)).trans ((g5.old _ (by omega)).trans v2)
    have yb : (h5'.put i4 (.cells 1 [o'])).get h7.nx = bsyB fr [(K.ofNat 13)] f59_a0 f59_b0 := (get_put_other (fun e => by have := congrArg K.nat e; omega)).trans ((g5.old _ (by omega)).trans ub)
    have sk6 : Sk 8 rowE (h5'.put i4 (.cells 1 [o'])) o' (rwsL A i ++ [R]) := sk5.put (oo5.notIn (by omega)) _
    have G6 : Grow h.nx.nat h (h5'.put i4 (.cells 1 [o'])) := (G4.trans (g5.low (by omega))).trans (gQ.low (by omega))
    have y6 : (h5'.put i4 (.cells 1 [o'])).get b6 = .cells 8 (rowE R) := (get_put_other (fun e => by have := congrArg K.nat e; omega)).trans ((k5 b6 (by omega) (fun off n sz e => by have e1 := sk2.lt hcK _ _ _ _ e; rw [hb6] at e1; omega)).1.trans u6)
    have hkk6 : ∀ k : K, h1.nx.nat ≤ k.nat → k.nat < b6.nat → (h5'.put i4 (.cells 1 [o'])).get k = h2.get k := fun k l1 l2 => (get_put_other (fun e => by have := congrArg K.nat e; omega)).trans ((k5 k (by omega) (fun off n sz e => absurd (sk.lt T.nr.hc _ _ _ _ e) (by omega))).1.trans (hkk k l1 l2))
    have nq : (h5'.put i4 (.cells 1 [o'])).nx = h5'.nx := rfl
    have hc6 := G6.hc hc
    have hrl : rwsL A i ++ [R] = rwsL A (i + 1) := by rw [rwsL_succ, hRow]
    rw [hrl] at sk6
    generalize h5'.put i4 (.cells 1 [o']) = h6q at *
    have n6 : h6q.nx.nat ≥ b6.nat + 1 := by rw [nq]; omega
    have m1 : loadV h6q (.p h.nx 0) one? = .ok v h6q := load_p z1 rfl
    have m4 : loadV h6q (.p i4 0) one? = .ok o' h6q := load_p z4 rfl
    have elo := sk6.len
    rw [rwsL_len] at elo
    have elv := hv.len
    have l86 := load8 y6 rfl
    have hfi := hR i (by omega) T.nz
    rw [hRow] at hfi
    clear u1 u2 u3 u4 u5 u6 v1 v2 ub q1' q2' q3' q4' p1' p2' a1 st4 ll4 l8 sk5 k5 g5 gQ w4 G4 hkk gP gN q6 st6 sk4 sk2 G2 sk q4
    by_cases hlast : i + 1 = A.length
    · have d1 : decide (((i + 1 : Nat) : Int) = (A.length : Int)) = true := decide_eq_true (by omega)
      have s2 : storeV h6q 1 (.p i2 0) o' = .ok undefV (h6q.put i2 (.cells 1 [o'])) := by rw [store_p z2 ho' (by omega)]; rfl
      have z3' : (h6q.put i2 (.cells 1 [o'])).get i3 = .cells 1 [.b false] := (get_put_other (fun e => by have := congrArg K.nat e; omega)).trans z3
      have s3 : storeV (h6q.put i2 (.cells 1 [o'])) 1 (.p i3 0) (.b true) = .ok undefV ((h6q.put i2 (.cells 1 [o'])).put i3 (.cells 1 [.b true])) := by rw [store_p z3' (xs := [.b true]) rfl (by omega)]; rfl
      simp (disch := omega) only [f59_r6, f59_r7, atK_r, rndK_r, Nat.reduceEqDiff, ↓reduceIte, g1, g2, g3, g4, m1, m4, elo, elv, d1, s2, s3, bz]
      have nz2 : ((h6q.put i2 (.cells 1 [o'])).put i3 (.cells 1 [.b true])).nx.nat = h6q.nx.nat := rfl
      have gz : Grow h.nx.nat h ((h6q.put i2 (.cells 1 [o'])).put i3 (.cells 1 [.b true])) := (G6.trans (Grow.put (by omega) (by omega) _)).trans (Grow.put (by omega) (by rw [nx_put]; omega) _)
      have gz2 := gz.trans (Grow.put (b := h.nx.nat) (k := h7.nx) (by omega) (by omega) .dead)
      refine ⟨(get_put_other (fun e => by have := congrArg K.nat e; omega)).trans ((get_put_other (fun e => by have := congrArg K.nat e; omega)).trans yb), gz2, gz2.hc hc, by rw [nx_put]; omega, by rw [nx_put]; omega, .inl ⟨rfl, ⟨o', ?_, ?_, oo5⟩, ?_, ?_⟩⟩
      · exact (get_put_other (fun e => by have := congrArg K.nat e; omega)).trans ((get_put_other (fun e => by have := congrArg K.nat e; omega)).trans get_put_same)
      · rw [← hlast]
        exact ((sk6.put (oo5.notIn (by omega)) _).put (oo5.notIn (by omega)) _).put (oo5.notIn (by omega)) _
      · exact (get_put_other (fun e => by have := congrArg K.nat e; omega)).trans get_put_same
      · intro j hj; exact T.nz j (by omega)
    · have d1 : decide (((i + 1 : Nat) : Int) = (A.length : Int)) = false := decide_eq_false (by omega)
      simp (disch := omega) only [f59_r6, f59_r8, Nat.reduceEqDiff, ↓reduceIte, Bool.false_eq_true, g1, g4, m1, m4, elo, elv, d1, l86, bz]
      refine (callP_0 (ef := f62) k.c62 rfl f62_ret).mono ?_
      rintro r h8 ⟨rfl, g8⟩
      have kq := keyEq_2 (c := 0) (d := 1) hfi.1 hfi.2 rfl rfl
      rw [rat_zero] at kq
      have kq : keyEq (.many [some .i64, some .i64]) (.agg (frL (R 0))) (.agg [.i .i64 0, .i .i64 1]) = some (decide (R 0 = 0)) := kq
      have n8 := g8.nx
      have G8 := G6.trans (g8.low (by omega))
      have yb8 := (g8.old _ (by omega)).trans yb
      by_cases hz0 : R 0 = 0
      · have dz : decide (R 0 = 0) = true := decide_eq_true hz0
        rw [dz] at kq
        simp (disch := omega) only [rndK_e, Nat.reduceEqDiff, ↓reduceIte, kq, cond_false, bz]
        have gz2 := G8.trans (Grow.put (b := h.nx.nat) (k := h7.nx) (by omega) (by omega) .dead)
        refine ⟨yb8, gz2, gz2.hc hc, by rw [nx_put]; omega, by rw [nx_put]; omega, .inr ⟨rfl, ?_, ?_, i, by omega, by rw [hRow]; exact hz0⟩⟩
        · exact (get_put_other (fun e => by have := congrArg K.nat e; omega)).trans ((g8.old _ (by omega)).trans z2)
        · exact (get_put_other (fun e => by have := congrArg K.nat e; omega)).trans ((g8.old _ (by omega)).trans z3)
      · have dz : decide (R 0 = 0) = false := decide_eq_false hz0
        rw [dz] at kq
        simp (disch := omega) only [rndK_n, Nat.reduceEqDiff, ↓reduceIte, Bool.false_eq_true, kq, cond_false, bz]
        have gz2 := G8.trans (Grow.put (b := h.nx.nat) (k := h7.nx) (by omega) (by omega) (rdyB fr [(K.ofNat 13)] f59_a0 f59_b0))
        have ne : ∀ {k : K} {x : Blk}, k.nat < h6q.nx.nat → k.nat ≠ h7.nx.nat → h6q.get k = x → (h8.put h7.nx (rdyB fr [(K.ofNat 13)] f59_a0 f59_b0)).get k = x := fun hk hn hx => (get_put_other (fun e => hn (congrArg K.nat e))).trans ((g8.old _ hk).trans hx)
        have hnz : ∀ j, j < i + 1 → ((dTop A).at j).re 0 ≠ 0 := fun j hj => by
          by_cases e : j = i
          · subst e; rw [hRow]; exact hz0
          · exact T.nz j (by omega)
        refine ⟨yb8, ⟨by omega, ?_⟩, ⟨gz2, ne (by omega) (by omega) z1, ne (by omega) (by omega) z2, ne (by omega) (by omega) z3, ⟨o', ne (by omega) (by omega) z4, ((sk6.grow hc6 g8).put (oo5.notIn (by omega)) _), oo5⟩, ⟨ne (by omega) (by omega) z5, ne (by omega) (by omega) y1, ne (by omega) (by omega) y2, by rw [nx_put]; omega, by omega, by omega, gz2.hc hc⟩, by rw [nx_put]; omega, hnz⟩, fun k l1 l2 => ne (by omega) (by omega) (hkk6 k l1 l2)⟩
        have := hB i (by omega) (fun j hj => hnz j (by omega))
        rw [hRow] at this
        exact this
  · rintro e h1 hne ⟨G, hc1, l2, l3, hcase⟩
    rcases hcase with ⟨rfl, ⟨o, q2, sk, ow⟩, q3, nz⟩ | ⟨rfl, q2, q3, z⟩
    · have r2 : readP h1 (.p i2 0) one? = some o := by show (h1.get i2).onC none (fun n cs => one? cs n 0) = _; rw [q2]; rfl
      have r3 : readP h1 (.p i3 0) one? = some (.b true) := by show (h1.get i3).onC none (fun n cs => one? cs n 0) = _; rw [q3]; rfl
      simp (disch := omega) only [f59_rs, atK_r, readRs_c, Option.some.injEq, exists_eq_left', g2, g3, r2, r3, bz]
      exact ⟨o, true, rfl, G, fun id off n sz e => by have := ow _ _ _ _ e; omega, .inl ⟨rfl, sk, nz⟩⟩
    · have st2 : storeV h1 1 (.p i2 0) .sn = .ok undefV (h1.put i2 (.cells 1 [.sn])) := by rw [store_p q2 (xs := [.sn]) rfl (by omega)]; rfl
      have q3' : (h1.put i2 (.cells 1 [.sn])).get i3 = .cells 1 [.b false] := (get_put_other (fun e => by have := congrArg K.nat e; omega)).trans q3
      have st3 : storeV (h1.put i2 (.cells 1 [.sn])) 1 (.p i3 0) (.b false) = .ok undefV ((h1.put i2 (.cells 1 [.sn])).put i3 (.cells 1 [.b false])) := by rw [store_p q3' (xs := [.b false]) rfl (by omega)]; rfl
      have w2 : ((h1.put i2 (.cells 1 [.sn])).put i3 (.cells 1 [.b false])).get i2 = .cells 1 [.sn] := (get_put_other (fun e => by have := congrArg K.nat e; omega)).trans get_put_same
      have w3 : ((h1.put i2 (.cells 1 [.sn])).put i3 (.cells 1 [.b false])).get i3 = .cells 1 [.b false] := get_put_same
      have r2 : readP ((h1.put i2 (.cells 1 [.sn])).put i3 (.cells 1 [.b false])) (.p i2 0) one? = some .sn := by show (((h1.put i2 (.cells 1 [.sn])).put i3 (.cells 1 [.b false])).get i2).onC none (fun n cs => one? cs n 0) = _; rw [w2]; rfl
      have r3 : readP ((h1.put i2 (.cells 1 [.sn])).put i3 (.cells 1 [.b false])) (.p i3 0) one? = some (.b false) := by show (((h1.put i2 (.cells 1 [.sn])).put i3 (.cells 1 [.b false])).get i3).onC none (fun n cs => one? cs n 0) = _; rw [w3]; rfl
      simp (disch := omega) only [f59_r9, f59_rs, readRs_c, Option.some.injEq, exists_eq_left', ↓reduceIte, g2, g3, st2, st3, r2, r3, bz]
      exact ⟨.sn, false, rfl, (G.trans (Grow.put (by omega) l2 _)).trans (Grow.put (by omega) (by rw [nx_put]; exact l3) _), Own.sn, .inr ⟨rfl, rfl, z⟩⟩
end
end Go.Ev
namespace Go.Ev
open Go Go.RowKit
def ch (B : List Int) (X : List Int) : Nat → List Int
  | 0 => X
  | k + 1 => prd (ch B X k) B
theorem fwu_def (x : Int) : fw .u64 x = x % 18446744073709551616 := by
  rw [fw_eq]; simp [IntKind.wrap, IntKind.bits, IntKind.signed]
def t61 (x : Int) : Int := (fw .u64 x).tmod 61 - 30
theorem t61_bd (x : Int) : -30 ≤ t61 x ∧ t61 x ≤ 30 := by
  unfold t61
  rw [fwu_def, Int.tmod_eq_emod_of_nonneg (by omega)]
  omega
end Go.Ev
namespace Go.Ev
open Go Go.RowKit
section
variable {fs : T EF} {h : H} {v w : V} {A B L : List Int}
end
end Go.Ev
namespace Go.Ev
open Go Go.RowKit
section
variable {fs : T EF} {h : H} {v w : V} {A B L : List Int}
theorem plB_len {A : List Int} (h : plB A = true) : 1 ≤ A.length ∧ A.length ≤ 6 ∧ smB A = true ∧ A.getD (A.length - 1) 0 ≠ 0 := by
  unfold plB at h; simp only [Bool.and_eq_true, decide_eq_true_eq] at h; exact ⟨h.1, h.2.1, h.2.2.1, h.2.2.2⟩
end
end Go.Ev
namespace Go.Ev
open Go Go.RowKit
noncomputable def f20_r0 : List EOper := [oG 2 (.as (.c .sn)), oG 3 (.as (cG 0))]
noncomputable def f20_r1 : List EOper := [oG 10 (.mv (tG 0)), oG 11 (.call (fG 14) [(tG 10)]), oG 4 (.as (tG 11))]
noncomputable def f20_r2 : List EOper := [oG 12 (.mv (tG 4)), oG 13 (.bin .neq (tG 12) (cG 0))]
noncomputable def f20_r3 : List EOper := [oG 14 (.mv (tG 4)), oG 2 (.as (.c .sn)), oG 3 (.as (tG 14))]
noncomputable def f20_r4 : List EOper := [oG 16 (.mv (tG 0)), oG 17 (.call (fG 59) [(tG 16)]), oG 15 (.mv (tG 17)), oG 18 (.ext (tG 15) 0), oG 19 (.ext (tG 15) 1), oG 5 (.as (tG 18)), oG 6 (.as (tG 19))]
noncomputable def f20_r5 : List EOper := [oG 20 (.mv (tG 6)), oG 21 (.not (tG 20))]
noncomputable def f20_r6 : List EOper := [oG 2 (.as (.c .sn)), oG 3 (.as (cG 4))]
noncomputable def f20_r7 : List EOper := [oG 22 (.mv (tG 5)), oG 23 (.len (tG 22)), oG 24 (.mkslice 1 [.sn] (tG 23)), oG 7 (.as (tG 24))]
noncomputable def f20_r8 : List EOper := [oG 25 (.mv (tG 5)), oG 26 (.len (tG 25)), oG 27 (.mv (cG 0))]
noncomputable def f20_r9 : List EOper := [oG 28 (.bin .lss (tG 27) (tG 26))]
noncomputable def f20_r10 : List EOper := [oG 29 (.mv (tG 27)), oG 30 (.iads 8 (tG 25) (tG 27)), oG 31 (.ldn 8 (tG 30)), oG 9 (.alloc 8 [(.i .i64 (.ofNat 0)), (.i .i64 (.ofNat 0)), (.i .i64 (.ofNat 0)), (.i .i64 (.ofNat 0)), (.i .i64 (.ofNat 0)), (.i .i64 (.ofNat 0)), (.i .i64 (.ofNat 0)), (.i .i64 (.ofNat 0))]), oG 8 (.as (tG 29)), ⟨none, none, .st 8 (tG 9) (tG 31)⟩]
noncomputable def f20_r11 : List Stage := [⟨[oG 32 (.mv (tG 7)), oG 33 (.mv (tG 8)), oG 34 (.ldn 8 (tG 9)), oG 35 (.mv (tG 0)), oG 36 (.mv (tG 8))], [], (some (oG 37 (.call (fG 61) [(tG 35), (tG 36)]))), []⟩, ⟨[], [oG 32 (.mv (tG 7)), oG 33 (.mv (tG 8)), oG 34 (.ldn 8 (tG 9))], (some (oG 38 (.call (fG 60) [(tG 34), (tG 37)]))), []⟩, ⟨[oG 39 (.iads 1 (tG 32) (tG 33))], [oG 32 (.mv (tG 7)), oG 33 (.mv (tG 8))], (some ⟨none, none, .st 1 (tG 39) (tG 38)⟩), []⟩, ⟨[], [], none, []⟩]
noncomputable def f20_r12 : List EOper := [oG 40 (.bin .add (tG 27) (cG 1)), oG 27 (.mv (tG 40))]
noncomputable def f20_l0 : EC := (.seq (.reg f20_r9) (.seq (.cond (tG 28) .skip (.exit 0)) (.seq (.block 1 (.seq (.reg f20_r10) (.draw f20_r11))) (.reg f20_r12))))
noncomputable def f20_r13 : List EOper := [oG 41 (.mv (tG 7)), oG 2 (.as (tG 41)), oG 3 (.as (cG 0))]
noncomputable def f20_c : EC := (.seq (.reg f20_r0) (.seq (.seq (.reg f20_r1) (.seq (.reg f20_r2) (.cond (tG 13) (.seq (.reg f20_r3) .ret) .skip))) (.seq (.reg f20_r4) (.seq (.seq (.reg f20_r5) (.cond (tG 21) (.seq (.reg f20_r6) .ret) .skip)) (.seq (.reg f20_r7) (.seq (.seq (.reg f20_r8) (.block 0 (.loop f20_l0))) (.seq (.reg f20_r13) .ret)))))))
noncomputable def f20 : EF := ⟨42, [.tmp (.ofNat 2), .tmp (.ofNat 3)], f20_c, none⟩
theorem f20_rs : f20.rs = [.tmp (.ofNat 2), .tmp (.ofNat 3)] := of_eq_true (eq_self _)
section
variable {fs : T EF} {h : H} {v w u : V} {A : List Int}
theorem Sk.at8 {L : List (Nat → Rat)} (hs : Sk 8 rowE h v L) {i : Nat} (hi : i < L.length) : ∃ p, (∀ k h1, iadsV 8 v (.i k (i : Int)) h1 = .ok p h1) ∧ loadV h p (many? 8) = .ok (.agg (rowE L[i])) h := by
  rcases hs with ⟨rfl, rfl⟩ | ⟨id, off, m, cs, rfl, hb, hl, hm, hx⟩
  · simp at hi
  · refine ⟨.p id (off + i * 8), fun k h1 => ?_, ?_⟩
    · rw [iads_sl, idx_n hi]
    · rw [loadn_p hb (by omega), takeN_eq, dropN_eq]
      have h1 := flat_drop rowE_len L i hi
      rw [← hx, List.drop_take, List.take_take, List.drop_drop, Nat.min_eq_left (by omega)] at h1
      rw [h1]
theorem mks_vs {k : IntKind} {n : Nat} (hn : n ≤ 1000000) : mksV 1 [.sn] h (.i k (n : Int)) = .ok (.sl h.nx 0 n 1) (h.new (.cells (n * 1) (rep [.sn] n))) := by
  show (bif Nat.ble n 1000000 then RV.ok (.sl h.nx 0 n 1) (h.new (.cells (n * 1) (rep [.sn] n))) else .no) = _
  rw [Nat.ble_eq_true_of_le hn]; rfl
theorem rep_sn : ∀ n, rep [V.sn] n = List.replicate n V.sn
  | 0 => rfl
  | n + 1 => by
    show cat [V.sn] (rep [V.sn] n) = _
    rw [cat_eq, rep_sn n, List.replicate_succ]; rfl
theorem mks_vsl {n : Nat} : Sl vE (h.new (.cells (n * 1) (rep [.sn] n))) (.sl h.nx 0 n 1) (List.replicate n V.sn) := by
  refine .inr ⟨h.nx, 0, n * 1, _, by simp, get_new_same, by rw [rep_sn]; simp, by simp, fun i hi => ?_⟩
  rw [rep_sn, Nat.zero_add, List.getElem?_replicate, if_pos (by simpa using hi)]
  simp [vE]
def rwN (A : List Int) (i : Nat) : Nat := (A.length - 1 - i) / 2 + 1
noncomputable def tbL (A : List Int) : List (List (Int × Int)) := (List.range A.length).map fun i => rwL ((dTop A).at i).re (rwN A i)
theorem tbL_len : (tbL A).length = A.length := by simp [tbL]
theorem tbL_at {i : Nat} (hi : i < (tbL A).length) : (tbL A)[i] = rwL ((dTop A).at i).re (rwN A i) := by simp [tbL]
structure CallsL20 (fs : T EF) : Prop extends CallsL59 fs, CSm fs where
  c54 : fs.get (K.ofNat 54) = some f54
  c14 : fs.get (K.ofNat 14) = some f14
  c59 : fs.get (K.ofNat 59) = some f59
  c60 : fs.get (K.ofNat 60) = some f60
  c61 : fs.get (K.ofNat 61) = some f61
  c93 : fs.get (K.ofNat 93) = some f93
structure TbB (A : List Int) : Prop where
  st : ∀ i, i + 1 < A.length → (∀ j, j ≤ i → ((dTop A).at j).re 0 ≠ 0) → StpB ((dTop A).at i).bf ((dTop A).at i).re
  ra : ∀ i, i < A.length → (∀ j, j < i → ((dTop A).at j).re 0 ≠ 0) → inR .i64 (((dTop A).at i).re 0).num = true ∧ inR .i64 ((((dTop A).at i).re 0).den : Int) = true
def f20_I (A : List Int) (h0 : H) (v o : V) (zb : K) (i : Nat) (fr : Fr) (h1 : H) : Prop := i ≤ A.length ∧ Grow h0.nx.nat h0 h1 ∧ Sk 8 rowE h1 o (rwsL A A.length) ∧ (∃ ws, Sl vE h1 (.sl zb 0 A.length 1) ws ∧ ws.length = A.length ∧ ∀ j (hj : j < ws.length), j < i → Srp h1 ws[j] (rwL ((dTop A).at j).re (rwN A j)) ∧ Own (zb.nat + 1) ws[j]) ∧ zb.nat < h1.nx.nat ∧ fr.get (K.ofNat 0) = some (v) ∧ fr.get (K.ofNat 7) = some (.sl zb 0 A.length 1) ∧ fr.get (K.ofNat 25) = some (o) ∧ fr.get (K.ofNat 26) = some (.i .i64 (A.length : Int)) ∧ fr.get (K.ofNat 27) = some (.i .i64 (i : Int))
theorem f20_ret (k : CallsL20 fs) (hA : plB A = true) (hB : TbB A) (hv : Sr iE h v A) (hc : HC h) : Ret fs f20 [v] h fun r h' => Grow h.nx.nat h h' ∧ (((∀ j, j + 1 < A.length → ((dTop A).at j).re 0 ≠ 0) ∧ ∃ o us, r = .tup [o, .i .i64 0] ∧ Srr h' o us (tbL A)) ∨ ((∃ j, j + 1 < A.length ∧ ((dTop A).at j).re 0 = 0) ∧ r = .tup [.sn, .i .i64 4])) := by
  obtain ⟨l1, l2, l3, _⟩ := plB_len hA
  apply ret_of rfl
  show W fs none f20_c _ _ _
  unfold f20_c
  have ca : ckI A = 0 := by unfold ckI; rw [if_pos hA]
  have eA := fun P => f14_eq k.toCSm k.c54 k.c14 hv (by omega) (P := P)
  have d0 : decide ((0 : Int) ≠ 0) = false := rfl
  simp (disch := omega) only [f20_r0, f20_r1, f20_r2, f20_r4, Nat.reduceEqDiff, ↓reduceIte, Bool.false_eq_true, eA, ca, d0, bz]
  refine (callP_0 (ef := f59) k.c59 rfl (f59_ret k.toCallsL59 l1 l2 l3 hB.st hB.ra hv hc)).mono ?_
  rintro r h1 ⟨o, b, rfl, g1, oo, hcase⟩
  have hc1 := g1.hc hc
  rcases hcase with ⟨rfl, sk, nz⟩ | ⟨rfl, rfl, z⟩
  · have elo := sk.len
    rw [rwsL_len] at elo
    have ho1 := sk.one
    have hmk := mks_vs (h := h1) (k := .i64) (n := A.length) (by omega)
    have hsl := mks_vsl (h := h1) (n := A.length)
    have gN := Grow.new (Nat.le_refl h1.nx.nat) (.cells (A.length * 1) (rep [.sn] A.length))
    have nN := nx_new h1 (.cells (A.length * 1) (rep [.sn] A.length))
    simp (disch := omega) only [f20_r5, f20_r7, f20_r8, x_mks, Nat.reduceEqDiff, ↓reduceIte, Bool.false_eq_true, Bool.not_true, elo, hmk, bz]
    have G2 := g1.trans (gN.low g1.nx)
    have skN := sk.grow hc1 gN
    have olt : ∀ id off n sz, o = .sl id off n sz → id.nat < h1.nx.nat := sk.lt hc1
    generalize hzb : h1.nx = zb at *
    generalize h1.new (.cells (A.length * 1) (rep [.sn] A.length)) = h2 at *
    refine W_loop (f20_I A h v o zb) (fun i => A.length - i) ?_ 0 ⟨by omega, G2, skN, ⟨_, hsl, by simp, fun j _ hj => absurd hj (by omega)⟩, by omega, by simp (disch := omega) only [getK_set, Nat.reduceEqDiff, ↓reduceIte, and_self, Int.natCast_zero]⟩
    clear hsl skN G2 gN hmk ho1 elo sk
    rintro i fr h3 ⟨hi, hG, sk, ⟨ws, sw, lw, aw⟩, hzl, g0, g7, g25, g26, g27⟩
    have hc3 := hG.hc hc
    unfold f20_l0
    by_cases hlt : i < A.length
    · have d1 : decide ((i : Int) < (A.length : Int)) = true := decide_eq_true (by omega)
      have e4 : fw .i64 ((i : Int) + 1) = ((i + 1 : Nat) : Int) := by rw [fw64 (by omega) (by omega)]; rfl
      obtain ⟨p, p1, p2⟩ := sk.at8 (i := i) (by rw [rwsL_len]; exact hlt)
      have eR : (rwsL A A.length)[i]'(by rw [rwsL_len]; exact hlt) = ((dTop A).at i).re := by simp [rwsL]
      rw [eR] at p2
      have hz : [V.i IntKind.i64 0, .i .i64 0, .i .i64 0, .i .i64 0, .i .i64 0, .i .i64 0, .i .i64 0, .i .i64 0] = zr 0 := rfl
      have st := store8 (h := h3.new (.cells 8 (zr 0))) (id := h3.nx) (us := rowE ((dTop A).at i).re) get_new_same rfl rfl
      have gP := (Grow.new (Nat.le_refl h3.nx.nat) (.cells 8 (zr 0))).trans (Grow.put (h := h3.new (.cells 8 (zr 0))) (k := h3.nx) (Nat.le_refl _) (by rw [nx_new]; omega) (.cells 8 (rowE ((dTop A).at i).re)))
      have nP : ((h3.new (.cells 8 (zr 0))).put h3.nx (.cells 8 (rowE ((dTop A).at i).re))).nx.nat = h3.nx.nat + 1 := by rw [nx_put, nx_new]
      have q9 : ((h3.new (.cells 8 (zr 0))).put h3.nx (.cells 8 (rowE ((dTop A).at i).re))).get h3.nx = .cells 8 (rowE ((dTop A).at i).re) := get_put_same
      have l9 := load8 q9 rfl
      have hvP := (hv.grow hc hG).grow hc3 gP
      have e61 := fun P => callP_eq2 (P := P) (callP_0 (ef := f61) k.c61 rfl (f61_ret (m := i) hvP (by omega) (by omega)))
      have hbz : beqV (.sl zb 0 A.length 1) (.sl zb 0 A.length 1) = true := sw.beq
      simp (disch := omega) only [f20_r9, f20_r10, f20_r11, Nat.reduceEqDiff, ↓reduceIte, g0, g7, g25, g26, g27, d1, p1, p2, hz, st, l9, e61, hbz, beq_row, bz]
      generalize (h3.new (.cells 8 (zr 0))).put h3.nx (.cells 8 (rowE ((dTop A).at i).re)) = h4 at *
      have hc4 := gP.hc hc3
      refine (callP_0 (ef := f60) k.c60 rfl (f60_ret (n := rwN A i) k.c93 (by unfold rwN; omega) hc4)).mono ?_
      rintro u h5 ⟨su, ou, g5⟩
      have G35 := gP.trans (g5.low gP.nx)
      have sw5 := sw.grow hc3 G35
      obtain ⟨p', id, m, cs', a1, a2, a3, ⟨off, n', sz, a4⟩, a5⟩ := sw5.st (i := i) (by rw [lw]; exact hlt) (x := u) (c := u) rfl su.one (g5.hc hc4)
      cases a4
      simp (disch := omega) only [f20_r12, Nat.reduceEqDiff, ↓reduceIte, g7, g27, a1, a2, hbz, e4, bz]
      have n5 := g5.nx
      have G6 := (hG.trans (G35.low hG.nx)).trans (Grow.put (b := h.nx.nat) (by have := g1.nx; rw [hzb] at this; exact this) a5 (.cells m cs'))
      refine ⟨i + 1, by omega, by omega, G6, (sk.grow hc3 G35).put (fun off n sz e => absurd (olt _ _ _ _ e) (Nat.lt_irrefl _)) _, ⟨_, a3, by simp [lw], fun j hj hn => ?_⟩, a5, by simp (disch := omega) only [getK_set, Nat.reduceEqDiff, ↓reduceIte, g0, g7, g25, g26, and_self]⟩
      rw [List.getElem_set]
      by_cases e : i = j
      · subst e
        rw [if_pos rfl]
        have nu : NotIn zb u := fun off n sz e => by have := ou _ _ _ _ e; omega
        exact ⟨su.srp.old (fun id off n sz e => get_put_other (fun e2 => nu off n sz (by rw [e, e2]))), fun id off n sz e => by have := ou _ _ _ _ e; omega⟩
      · rw [if_neg e]
        have hj' : j < ws.length := by simpa using hj
        obtain ⟨s1, s2⟩ := aw j hj' (by omega)
        have nu : NotIn zb ws[j] := s2.notIn (by omega)
        exact ⟨(s1.grow hc3 G35).old (fun id off n sz e => get_put_other (fun e2 => nu off n sz (by rw [e, e2]))), s2⟩
    · have d1 : decide ((i : Int) < (A.length : Int)) = false := decide_eq_false (by omega)
      obtain rfl : i = A.length := by omega
      simp (disch := omega) only [f20_r9, f20_r13, f20_rs, Option.some.injEq, exists_eq_left', Nat.reduceEqDiff, ↓reduceIte, Bool.false_eq_true, g7, g26, g27, d1, bz]
      exact ⟨hG, .inl ⟨nz, _, ws, rfl, by rw [tbL_len, lw], sw.sr, fun j h1 h2 => by rw [tbL_at]; exact (aw j h1 (by omega)).1⟩⟩
  · simp (disch := omega) only [f20_r5, f20_r6, f20_rs, Option.some.injEq, exists_eq_left', Nat.reduceEqDiff, ↓reduceIte, Bool.not_false, bz]
    exact ⟨g1, .inr ⟨z, trivial⟩⟩
end
end Go.Ev
namespace Go.Ev
open Go Go.RowKit
noncomputable def f63_r0 : List EOper := [oG 2 (.as (cG 0))]
noncomputable def f63_r1 : List EOper := [oG 3 (.as (cG 0))]
noncomputable def f63_r2 : List EOper := [oG 6 (.mv (tG 0)), oG 7 (.slice 8 (tG 6) (some (cG 1)) none none), oG 8 (.len (tG 7)), oG 9 (.mv (cG 0))]
noncomputable def f63_r3 : List EOper := [oG 10 (.bin .lss (tG 9) (tG 8))]
noncomputable def f63_r4 : List EOper := [oG 11 (.mv (tG 9)), oG 12 (.iads 8 (tG 7) (tG 9)), oG 13 (.ldn 8 (tG 12)), oG 5 (.alloc 8 [(.i .i64 (.ofNat 0)), (.i .i64 (.ofNat 0)), (.i .i64 (.ofNat 0)), (.i .i64 (.ofNat 0)), (.i .i64 (.ofNat 0)), (.i .i64 (.ofNat 0)), (.i .i64 (.ofNat 0)), (.i .i64 (.ofNat 0))]), oG 4 (.as (tG 11)), ⟨none, none, .st 8 (tG 5) (tG 13)⟩]
noncomputable def f63_r5 : List Stage := [⟨[oG 14 (.ldn 8 (tG 5)), oG 18 (.mv (tG 0)), oG 19 (.mv (tG 4)), oG 20 (.iads 8 (tG 18) (tG 19)), oG 21 (.ldn 8 (tG 20))], [], (some (oG 15 (.call (fG 62) [(tG 14)]))), []⟩, ⟨[oG 16 (.fld 0 none (tG 15)), oG 17 (.bin .lss (tG 16) (cG 0))], [oG 18 (.mv (tG 0)), oG 19 (.mv (tG 4)), oG 20 (.iads 8 (tG 18) (tG 19)), oG 21 (.ldn 8 (tG 20))], (some (oG 22 (.call (fG 62) [(tG 21)]))), []⟩, ⟨[oG 23 (.fld 0 none (tG 22)), oG 24 (.bin .lss (tG 23) (cG 0)), oG 25 (.eqk (.one none) true (tG 17) (tG 24))], [oG 16 (.fld 0 none (tG 15)), oG 17 (.bin .lss (tG 16) (cG 0))], none, []⟩]
noncomputable def f63_r6 : List EOper := [oG 26 (.mv (tG 3)), oG 27 (.bin .add (tG 26) (cG 1)), oG 3 (.as (tG 27))]
noncomputable def f63_r7 : List EOper := [oG 28 (.bin .add (tG 9) (cG 1)), oG 9 (.mv (tG 28))]
noncomputable def f63_l0 : EC := (.seq (.reg f63_r3) (.seq (.cond (tG 10) .skip (.exit 0)) (.seq (.block 1 (.seq (.reg f63_r4) (.seq (.draw f63_r5) (.cond (tG 25) (.reg f63_r6) .skip)))) (.reg f63_r7))))
noncomputable def f63_r8 : List EOper := [oG 29 (.mv (tG 3)), oG 2 (.as (tG 29))]
noncomputable def f63_c : EC := (.seq (.reg f63_r0) (.seq (.reg f63_r1) (.seq (.seq (.reg f63_r2) (.block 0 (.loop f63_l0))) (.seq (.reg f63_r8) .ret))))
noncomputable def f63 : EF := ⟨30, [.tmp (.ofNat 2)], f63_c, none⟩
theorem f63_rs : f63.rs = [.tmp (.ofNat 2)] := of_eq_true (eq_self _)
noncomputable def f21_r0 : List EOper := [oG 2 (.as (cG 0)), oG 3 (.as (cG 0))]
noncomputable def f21_r1 : List EOper := [oG 7 (.mv (tG 0)), oG 8 (.call (fG 14) [(tG 7)]), oG 4 (.as (tG 8))]
noncomputable def f21_r2 : List EOper := [oG 9 (.mv (tG 4)), oG 10 (.bin .neq (tG 9) (cG 0))]
noncomputable def f21_r3 : List EOper := [oG 11 (.mv (tG 4)), oG 2 (.as (cG 0)), oG 3 (.as (tG 11))]
noncomputable def f21_r4 : List EOper := [oG 13 (.mv (tG 0)), oG 14 (.call (fG 59) [(tG 13)]), oG 12 (.mv (tG 14)), oG 15 (.ext (tG 12) 0), oG 16 (.ext (tG 12) 1), oG 5 (.as (tG 15)), oG 6 (.as (tG 16))]
noncomputable def f21_r5 : List Stage := [⟨[oG 17 (.mv (tG 6)), oG 18 (.not (tG 17)), oG 19 (.mv (tG 18)), gG 20 19 false (.mv (tG 5)), gG 21 19 false (.mv (tG 0)), gG 22 19 false (.len (tG 21)), gG 23 19 false (.bin .sub (tG 22) (cG 1)), gG 24 19 false (.iads 8 (tG 20) (tG 23)), gG 25 19 false (.ldn 8 (tG 24)), gG 27 19 false (.mv (.c (.agg [(.i .i64 (.ofNat 0)), (.i .i64 (.ofNat 1))])))], [], (some (gG 26 19 false (.call (fG 62) [(tG 25)]))), []⟩, ⟨[gG 28 19 false (.eqk (.many [(some .i64), (some .i64)]) false (tG 26) (tG 27)), oG 29 (.pick (tG 19) (.c (.b true)) (tG 28))], [gG 27 19 false (.mv (.c (.agg [(.i .i64 (.ofNat 0)), (.i .i64 (.ofNat 1))])))], none, []⟩]
noncomputable def f21_r6 : List EOper := [oG 2 (.as (cG 0)), oG 3 (.as (cG 4))]
noncomputable def f21_r7 : List EOper := [oG 30 (.mv (tG 5)), oG 31 (.call (fG 63) [(tG 30)]), oG 2 (.as (tG 31)), oG 3 (.as (cG 0))]
noncomputable def f21_c : EC := (.seq (.reg f21_r0) (.seq (.seq (.reg f21_r1) (.seq (.reg f21_r2) (.cond (tG 10) (.seq (.reg f21_r3) .ret) .skip))) (.seq (.reg f21_r4) (.seq (.seq (.draw f21_r5) (.cond (tG 29) (.seq (.reg f21_r6) .ret) .skip)) (.seq (.reg f21_r7) .ret)))))
noncomputable def f21 : EF := ⟨32, [.tmp (.ofNat 2), .tmp (.ofNat 3)], f21_c, none⟩
theorem f21_rs : f21.rs = [.tmp (.ofNat 2), .tmp (.ofNat 3)] := of_eq_true (eq_self _)
section
variable {fs : T EF} {h : H} {v w u : V} {A : List Int} {L : List (Nat → Rat)}
theorem Sk.tl {L : List (Nat → Rat)} (hs : Sk 8 rowE h v L) (hL : 1 ≤ L.length) : ∃ v', (∀ h1, sliceB 8 v (some (.i .i64 1)) none none h1 = .ok v' h1) ∧ Sk 8 rowE h v' (L.drop 1) := by
  rcases hs with ⟨rfl, rfl⟩ | ⟨id, off, m, cs, rfl, hb, hll, hm, hx⟩
  · simp at hL
  · refine ⟨.sl id (off + 1 * 8) (L.length - 1) 8, fun h1 => ?_, .inr ⟨id, off + 1 * 8, m, cs, by simp, hb, hll, by simp; omega, ?_⟩⟩
    · unfold sliceB
      show cutV id off L.length 8 h1 1 L.length none = _
      unfold cutV
      rw [Nat.ble_eq_true_of_le hL, Nat.ble_eq_true_of_le (Nat.le_refl _)]; rfl
    · have h2 : (L.flatMap rowE).drop 8 = (L.drop 1).flatMap rowE := by
        cases L with
        | nil => simp at hL
        | cons x T => rw [List.flatMap_cons]; exact List.drop_left' rfl
      rw [← h2, ← hx, List.drop_take, List.drop_drop, List.length_drop]
      congr 1; omega
theorem Sk.at8b {L : List (Nat → Rat)} (hs : Sk 8 rowE h v L) {i : Nat} (hi : i < L.length) : ∃ p, (∀ k h1, iadsV 8 v (.i k (i : Int)) h1 = .ok p h1) ∧ loadV h p (many? 8) = .ok (.agg (rowE L[i])) h ∧ beqV p p = true := by
  rcases hs with ⟨rfl, rfl⟩ | ⟨id, off, m, cs, rfl, hb, hl, hm, hx⟩
  · simp at hi
  · refine ⟨.p id (off + i * 8), fun k h1 => ?_, ?_, beq_p⟩
    · rw [iads_sl, idx_n hi]
    · rw [loadn_p hb (by omega), takeN_eq, dropN_eq]
      have h1 := flat_drop rowE_len L i hi
      rw [← hx, List.drop_take, List.take_take, List.drop_drop, Nat.min_eq_left (by omega)] at h1
      rw [h1]
def sgc (L : List (Nat → Rat)) : Nat → Nat
  | 0 => 0
  | i + 1 => sgc L i + (if decide (((L.getD (i + 1) fun _ => 0) 0).num < 0) = decide (((L.getD i fun _ => 0) 0).num < 0) then 0 else 1)
theorem sgc_le {i : Nat} : sgc L i ≤ i := by
  induction i with
  | zero => exact Nat.le_refl _
  | succ i ih => unfold sgc; split <;> omega
theorem getR_lt {i : Nat} (hi : i < L.length) : (L.getD i fun _ => 0) = L[i] := by rw [List.getD_eq_getElem?_getD, List.getElem?_eq_getElem hi]; rfl
theorem keq_bb {x y : Bool} : keyEq (.one none) (.b x) (.b y) = some (decide (x = y)) := by cases x <;> cases y <;> rfl
def f63_I (h0 : H) (v z : V) (L : List (Nat → Rat)) (i : Nat) (fr : Fr) (h1 : H) : Prop := i + 1 ≤ L.length ∧ Grow h0.nx.nat h0 h1 ∧ fr.get (K.ofNat 0) = some (v) ∧ fr.get (K.ofNat 3) = some (.i .i64 (sgc L i : Int)) ∧ fr.get (K.ofNat 7) = some (z) ∧ fr.get (K.ofNat 8) = some (.i .i64 ((L.length - 1 : Nat) : Int)) ∧ fr.get (K.ofNat 9) = some (.i .i64 (i : Int))
theorem f63_ret (k62 : fs.get (.ofNat 62) = some f62) (hL1 : 1 ≤ L.length) (hL : L.length ≤ 1000) (hv : Sk 8 rowE h v L) (hc : HC h) : Ret fs f63 [v] h fun r h' => r = .i .i64 (sgc L (L.length - 1) : Int) ∧ Grow h.nx.nat h h' := by
  apply ret_of rfl
  show W fs none f63_c _ _ _
  unfold f63_c
  obtain ⟨z, z1, z2⟩ := hv.tl hL1
  have ez := z2.len
  rw [List.length_drop] at ez
  simp (disch := omega) only [f63_r0, f63_r1, f63_r2, x_slice, sliceV_eq, Option.map_none, Option.map_some, Nat.reduceEqDiff, ↓reduceIte, z1, ez, bz]
  refine W_loop (f63_I h v z L) (fun i => L.length - i) ?_ 0 ⟨by omega, Grow.refl _ _, by simp (disch := omega) only [getK_set, Nat.reduceEqDiff, ↓reduceIte, and_self, Int.natCast_zero, sgc]⟩
  rintro i fr h1 ⟨hi, hG, g0, g3, g7, g8, g9⟩
  have hc1 := hG.hc hc
  unfold f63_l0
  by_cases hlt : i < L.length - 1
  · have d1 : decide ((i : Int) < ((L.length - 1 : Nat) : Int)) = true := decide_eq_true (by omega)
    have e4 : fw .i64 ((i : Int) + 1) = ((i + 1 : Nat) : Int) := by rw [fw64 (by omega) (by omega)]; rfl
    have hs := sgc_le (L := L) (i := i)
    have e5 : fw .i64 ((sgc L i : Int) + 1) = ((sgc L i + 1 : Nat) : Int) := by rw [fw64 (by omega) (by omega)]; rfl
    obtain ⟨p, p1, p2⟩ := (z2.grow hc hG).at8 (i := i) (by rw [List.length_drop]; exact hlt)
    have eR : (L.drop 1)[i]'(by rw [List.length_drop]; exact hlt) = L.getD (i + 1) fun _ => 0 := by rw [List.getElem_drop, getR_lt (by omega)]; congr 1; omega
    rw [eR] at p2
    have hz : [V.i IntKind.i64 0, .i .i64 0, .i .i64 0, .i .i64 0, .i .i64 0, .i .i64 0, .i .i64 0, .i .i64 0] = zr 0 := rfl
    have hss : sgc L (i + 1) = sgc L i + (if decide (((L.getD (i + 1) fun _ => 0) 0).num < 0) = decide (((L.getD i fun _ => 0) 0).num < 0) then 0 else 1) := rfl
    obtain ⟨q, q1, q2, q3⟩ := (hv.grow hc hG).at8b (i := i) (by omega)
    have eQ : L[i]'(by omega) = L.getD i fun _ => 0 := by rw [getR_lt (by omega)]
    rw [eQ] at q2
    generalize hR : (L.getD (i + 1) fun _ => 0) = R at *
    generalize hS : (L.getD i fun _ => 0) = S at *
    have st := store8 (h := h1.new (.cells 8 (zr 0))) (id := h1.nx) (us := rowE R) get_new_same rfl rfl
    have gP := (Grow.new (Nat.le_refl h1.nx.nat) (.cells 8 (zr 0))).trans (Grow.put (h := h1.new (.cells 8 (zr 0))) (k := h1.nx) (Nat.le_refl _) (by rw [nx_new]; omega) (.cells 8 (rowE R)))
    have q9 : ((h1.new (.cells 8 (zr 0))).put h1.nx (.cells 8 (rowE R))).get h1.nx = .cells 8 (rowE R) := get_put_same
    have l9 := load8 q9 rfl
    obtain ⟨q', q1', q2'⟩ := ((hv.grow hc hG).grow hc1 gP).at8 (i := i) (by omega)
    rw [eQ] at q2'
    obtain rfl : q = q' := (RV.ok.inj ((q1 .i64 h1).symm.trans (q1' .i64 h1))).1
    simp (disch := omega) only [f63_r3, f63_r4, f63_r5, Nat.reduceEqDiff, ↓reduceIte, g0, g7, g8, g9, d1, p1, p2, hz, st, l9, q1, q2', bz]
    generalize (h1.new (.cells 8 (zr 0))).put h1.nx (.cells 8 (rowE R)) = h2 at *
    refine (callP_0 (ef := f62) k62 rfl f62_ret).mono ?_
    rintro r h3 ⟨rfl, g3'⟩
    have lb : loadV h2 q (many? 8) = .ok (.agg (rowE S)) h2 := q2'
    have G3 := gP.trans (g3'.low gP.nx)
    obtain ⟨q', q1'', q2''⟩ := ((hv.grow hc hG).grow hc1 G3).at8 (i := i) (by omega)
    rw [eQ] at q2''
    obtain rfl : q = q' := (RV.ok.inj ((q1 .i64 h1).symm.trans (q1'' .i64 h1))).1
    have fl : ∀ (q : Rat) (h : H), fldV 0 none (.agg (frL q)) h = .ok (.i .i64 q.num) h := fun _ _ => rfl
    simp (disch := omega) only [xg_fld, stay_iads, Nat.reduceEqDiff, ↓reduceIte, g0, q1, q2'', q3, hv.beq, beq_row, fl, and_self, bz]
    refine (callP_0 (ef := f62) k62 rfl f62_ret).mono ?_
    rintro r h4 ⟨rfl, g4'⟩
    have G4 := G3.trans (g4'.low G3.nx)
    by_cases hsg : decide ((R 0).num < 0) = decide ((S 0).num < 0)
    · rw [if_pos hsg] at hss
      have kq := keq_bb (x := decide ((R 0).num < 0)) (y := decide ((S 0).num < 0))
      rw [decide_eq_true hsg] at kq
      simp (disch := omega) only [f63_r7, xg_fld, beq_b, Nat.reduceEqDiff, ↓reduceIte, Bool.false_eq_true, Bool.not_true, stay_fld, g9, fl, kq, cond_true, e4, bz]
      exact ⟨i + 1, by omega, by omega, hG.trans (G4.low hG.nx), by simp (disch := omega) only [getK_set, Nat.reduceEqDiff, ↓reduceIte, g0, g3, g7, g8, hss, Nat.add_zero, and_self]⟩
    · rw [if_neg hsg] at hss
      have kq := keq_bb (x := decide ((R 0).num < 0)) (y := decide ((S 0).num < 0))
      rw [decide_eq_false hsg] at kq
      simp (disch := omega) only [f63_r6, f63_r7, xg_fld, beq_b, Nat.reduceEqDiff, ↓reduceIte, Bool.not_false, stay_fld, g3, g9, fl, kq, cond_true, e4, e5, bz]
      exact ⟨i + 1, by omega, by omega, hG.trans (G4.low hG.nx), by simp (disch := omega) only [getK_set, Nat.reduceEqDiff, ↓reduceIte, g0, g7, g8, hss, and_self]⟩
  · have d1 : decide ((i : Int) < ((L.length - 1 : Nat) : Int)) = false := decide_eq_false (by omega)
    obtain rfl : i = L.length - 1 := by omega
    simp (disch := omega) only [f63_r3, f63_r8, f63_rs, Option.some.injEq, exists_eq_left', Nat.reduceEqDiff, ↓reduceIte, Bool.false_eq_true, g3, g8, g9, d1, bz]
    exact hG
structure CallsL21 (fs : T EF) : Prop extends CallsL20 fs where
  c63 : fs.get (K.ofNat 63) = some f63
def RtOk (A : List Int) : Prop := ∀ j, j < A.length → ((dTop A).at j).re 0 ≠ 0
theorem rws_last (hA : 1 ≤ A.length) : (rwsL A A.length)[A.length - 1]'(by rw [rwsL_len]; omega) = ((dTop A).at (A.length - 1)).re := by simp [rwsL]
theorem f21_ret (k : CallsL21 fs) (hA : plB A = true) (hB : TbB A) (hv : Sr iE h v A) (hc : HC h) : Ret fs f21 [v] h fun r h' => Grow h.nx.nat h h' ∧ ((RtOk A ∧ r = .tup [.i .i64 (sgc (rwsL A A.length) (A.length - 1) : Int), .i .i64 0]) ∨ (¬ RtOk A ∧ r = .tup [.i .i64 0, .i .i64 4])) := by
  obtain ⟨l1, l2, l3, _⟩ := plB_len hA
  apply ret_of rfl
  show W fs none f21_c _ _ _
  unfold f21_c
  have ca : ckI A = 0 := by unfold ckI; rw [if_pos hA]
  have eA := fun P => f14_eq k.toCSm k.c54 k.c14 hv (by omega) (P := P)
  have d0 : decide ((0 : Int) ≠ 0) = false := rfl
  have el := hv.len
  have ei : fw .i64 ((A.length : Int) - 1) = ((A.length - 1 : Nat) : Int) := by rw [fw64 (by omega) (by omega)]; omega
  simp (disch := omega) only [f21_r0, f21_r1, f21_r2, f21_r4, Nat.reduceEqDiff, ↓reduceIte, Bool.false_eq_true, eA, ca, d0, bz]
  refine (callP_0 (ef := f59) k.c59 rfl (f59_ret k.toCallsL59 l1 l2 l3 hB.st hB.ra hv hc)).mono ?_
  rintro r h1 ⟨o, b, rfl, g1, oo, hcase⟩
  have hc1 := g1.hc hc
  rcases hcase with ⟨rfl, sk, nz⟩ | ⟨rfl, rfl, z⟩
  · have ho1 := sk.one
    obtain ⟨p, p1, p2, p3⟩ := sk.at8b (i := A.length - 1) (by rw [rwsL_len]; omega)
    rw [rws_last l1] at p2
    have hra := hB.ra (A.length - 1) (by omega) (fun j hj => nz j (by omega))
    simp (disch := omega) only [f21_r5, xg_g, xg_not, xg_len, Nat.reduceEqDiff, ↓reduceIte, Bool.not_true, Bool.not_false, el, ei, p1, p2, bz]
    refine (callP_0 (ef := f62) k.c62 rfl f62_ret).mono ?_
    rintro r h2 ⟨rfl, g2⟩
    have kq := keyEq_2 (c := 0) (d := 1) hra.1 hra.2 rfl rfl
    rw [rat_zero] at kq
    have kq : keyEq (.many [some .i64, some .i64]) (.agg (frL (((dTop A).at (A.length - 1)).re 0))) (.agg [.i .i64 0, .i .i64 1]) = some (decide (((dTop A).at (A.length - 1)).re 0 = 0)) := kq
    have G2 := g1.trans (g2.low g1.nx)
    by_cases hz : ((dTop A).at (A.length - 1)).re 0 = 0
    · rw [decide_eq_true hz] at kq
      simp (disch := omega) only [f21_r6, f21_rs, xg_g, xg_pick, Option.some.injEq, exists_eq_left', Nat.reduceEqDiff, ↓reduceIte, Bool.false_eq_true, Bool.not_false, stay_g, kq, cond_false, bz]
      exact ⟨G2, .inr ⟨fun e => e _ (by omega) hz, trivial⟩⟩
    · rw [decide_eq_false hz] at kq
      simp (disch := omega) only [f21_r7, xg_g, xg_pick, Nat.reduceEqDiff, ↓reduceIte, Bool.false_eq_true, Bool.not_false, stay_g, kq, cond_false, bz]
      refine (callP_0 (ef := f63) k.c63 rfl (f63_ret k.c62 (by rw [rwsL_len]; exact l1) (by rw [rwsL_len]; omega) (sk.grow hc1 g2) (g2.hc hc1))).mono ?_
      rintro r h3 ⟨rfl, g3⟩
      rw [rwsL_len]
      simp (disch := omega) only [f21_rs, Option.some.injEq, exists_eq_left', Nat.reduceEqDiff, ↓reduceIte, bz]
      refine ⟨G2.trans (g3.low G2.nx), .inl ⟨fun j hj => ?_, trivial⟩⟩
      by_cases e : j = A.length - 1
      · subst e; exact hz
      · exact nz j (by omega)
  · simp (disch := omega) only [f21_r5, f21_r6, f21_rs, xg_g, xg_pick, xg_not, Option.some.injEq, exists_eq_left', Nat.reduceEqDiff, ↓reduceIte, Bool.false_eq_true, Bool.not_true, Bool.not_false, stay_g, dst_k, isU_u, bz]
    obtain ⟨j, hj, hz⟩ := z
    exact ⟨g1, .inr ⟨fun e => e j (by omega) hz, trivial⟩⟩
end
end Go.Ev
namespace Go.Ev
open Go Go.RowKit
noncomputable def f33_r0 : List EOper := [oG 2 (.as (.c .sn)), oG 3 (.as (.c (.b false)))]
noncomputable def f33_r1 : List EOper := [oG 14 (.mv (tG 0)), oG 15 (.len (tG 14)), oG 16 (.bin .sub (tG 15) (cG 1)), oG 4 (.as (tG 16))]
noncomputable def f33_r2 : List EOper := [oG 5 (.as (.c .sn))]
noncomputable def f33_r3 : List EOper := [oG 6 (.as (cG 0))]
noncomputable def f33_r4 : List EOper := [oG 17 (.mv (tG 6)), oG 18 (.mv (tG 4)), oG 19 (.bin .leq (tG 17) (tG 18))]
noncomputable def f33_r5 : List EOper := [oG 7 (.as (.c .sn))]
noncomputable def f33_r6 : List EOper := [oG 22 (.mv (tG 6)), oG 23 (.bin .lss (tG 22) (cG 2))]
noncomputable def f33_r7 : List EOper := [oG 24 (.mv (tG 4)), oG 25 (.mv (tG 6)), oG 26 (.bin .sub (tG 24) (tG 25)), oG 8 (.as (tG 26))]
noncomputable def f33_r8 : List EOper := [oG 27 (.mv (tG 8)), oG 28 (.bin .geq (tG 27) (cG 0))]
noncomputable def f33_r9 : List EOper := [oG 31 (.mv (tG 7)), oG 32 (.mv (tG 0)), oG 33 (.mv (tG 8)), oG 34 (.iads 1 (tG 32) (tG 33)), oG 35 (.ld (tG 34)), oG 36 (.build [(.i .i64 (.ofNat 0)), (.i .i64 (.ofNat 0))] [(0, 1, (tG 35)), (1, 1, (cG 1))]), oG 37 (.bslice 1 2 [(.i .i64 (.ofNat 0)), (.i .i64 (.ofNat 0))] [(0, 2, (tG 36))]), oG 38 (.app 2 (tG 31) (tG 37)), oG 7 (.as (tG 38))]
noncomputable def f33_r10 : List EOper := [oG 29 (.mv (tG 8)), oG 30 (.bin .sub (tG 29) (cG 2)), oG 8 (.as (tG 30))]
noncomputable def f33_l0 : EC := (.seq (.seq (.reg f33_r8) (.cond (tG 28) .skip (.exit 2))) (.seq (.block 3 (.reg f33_r9)) (.reg f33_r10)))
noncomputable def f33_r11 : List Stage := [⟨[oG 39 (.mv (tG 5)), oG 40 (.mv (tG 6)), oG 41 (.bin .sub (tG 40) (cG 2)), oG 42 (.iads 1 (tG 39) (tG 41)), oG 43 (.ld (tG 42)), oG 44 (.mv (tG 5)), oG 45 (.mv (tG 6)), oG 46 (.bin .sub (tG 45) (cG 1)), oG 47 (.iads 1 (tG 44) (tG 46)), oG 48 (.ld (tG 47))], [], (some (oG 9 (.as (tG 43)))), []⟩, ⟨[], [oG 44 (.mv (tG 5)), oG 45 (.mv (tG 6)), oG 46 (.bin .sub (tG 45) (cG 1)), oG 47 (.iads 1 (tG 44) (tG 46)), oG 48 (.ld (tG 47))], (some (oG 10 (.as (tG 48)))), []⟩, ⟨[], [], none, []⟩]
noncomputable def f33_r12 : List EOper := [oG 49 (.mv (tG 10)), oG 50 (.iads 2 (tG 49) (cG 0)), oG 51 (.iadr 2 1 (tG 50) (cG 0)), oG 52 (.ld (tG 51)), oG 53 (.bin .eql (tG 52) (cG 0))]
noncomputable def f33_r13 : List EOper := [oG 2 (.as (.c .sn)), oG 3 (.as (.c (.b false)))]
noncomputable def f33_r14 : List Stage := [⟨[oG 54 (.mv (tG 9)), oG 55 (.iads 2 (tG 54) (cG 0)), oG 56 (.ldn 2 (tG 55)), oG 57 (.mv (tG 10)), oG 58 (.iads 2 (tG 57) (cG 0)), oG 59 (.ldn 2 (tG 58)), oG 11 (.alloc 2 [(.i .i64 (.ofNat 0)), (.i .i64 (.ofNat 0))])], [], (some (oG 60 (.call (fG 73) [(tG 59)]))), [(.ofNat 11)]⟩, ⟨[], [oG 54 (.mv (tG 9)), oG 55 (.iads 2 (tG 54) (cG 0)), oG 56 (.ldn 2 (tG 55)), oG 11 (.alloc 2 [(.i .i64 (.ofNat 0)), (.i .i64 (.ofNat 0))])], (some (oG 61 (.call (fG 72) [(tG 56), (tG 60)]))), []⟩, ⟨[], [oG 11 (.alloc 2 [(.i .i64 (.ofNat 0)), (.i .i64 (.ofNat 0))])], (some ⟨none, none, .st 2 (tG 11) (tG 61)⟩), []⟩, ⟨[], [], none, []⟩]
noncomputable def f33_r15 : List EOper := [oG 12 (.as (cG 1))]
noncomputable def f33_r16 : List EOper := [oG 62 (.mv (tG 12)), oG 63 (.mv (tG 9)), oG 64 (.len (tG 63)), oG 65 (.bin .lss (tG 62) (tG 64))]
noncomputable def f33_r17 : List EOper := [oG 68 (.mv (tG 9)), oG 69 (.mv (tG 12)), oG 70 (.iads 2 (tG 68) (tG 69)), oG 71 (.ldn 2 (tG 70)), oG 13 (.alloc 2 [(.i .i64 (.ofNat 0)), (.i .i64 (.ofNat 0))]), ⟨none, none, .st 2 (tG 13) (tG 71)⟩]
noncomputable def f33_r18 : List EOper := [oG 72 (.mv (tG 12)), oG 73 (.mv (tG 10)), oG 74 (.len (tG 73)), oG 75 (.bin .lss (tG 72) (tG 74))]
noncomputable def f33_r19 : List Stage := [⟨[oG 76 (.ldn 2 (tG 13)), oG 77 (.build [(.i .i64 (.ofNat 0)), (.i .i64 (.ofNat 0))] [(0, 1, (.c (.i .i64 (.negSucc 0)))), (1, 1, (cG 1))]), oG 78 (.mv (tG 10)), oG 79 (.mv (tG 12)), oG 80 (.iads 2 (tG 78) (tG 79)), oG 81 (.ldn 2 (tG 80)), oG 82 (.ldn 2 (tG 11))], [], (some (oG 83 (.call (fG 72) [(tG 81), (tG 82)]))), []⟩, ⟨[], [oG 76 (.ldn 2 (tG 13)), oG 77 (.build [(.i .i64 (.ofNat 0)), (.i .i64 (.ofNat 0))] [(0, 1, (.c (.i .i64 (.negSucc 0)))), (1, 1, (cG 1))])], (some (oG 84 (.call (fG 72) [(tG 77), (tG 83)]))), []⟩, ⟨[], [oG 76 (.ldn 2 (tG 13))], (some (oG 85 (.call (fG 74) [(tG 76), (tG 84)]))), []⟩, ⟨[], [], (some ⟨none, none, .st 2 (tG 13) (tG 85)⟩), []⟩, ⟨[], [], none, []⟩]
noncomputable def f33_r20 : List EOper := [oG 86 (.mv (tG 7)), oG 87 (.ldn 2 (tG 13)), oG 88 (.bslice 1 2 [(.i .i64 (.ofNat 0)), (.i .i64 (.ofNat 0))] [(0, 2, (tG 87))]), oG 89 (.app 2 (tG 86) (tG 88)), oG 7 (.as (tG 89))]
noncomputable def f33_r21 : List EOper := [oG 66 (.mv (tG 12)), oG 67 (.bin .add (tG 66) (cG 1)), oG 12 (.as (tG 67))]
noncomputable def f33_l1 : EC := (.seq (.seq (.reg f33_r16) (.cond (tG 65) .skip (.exit 4))) (.seq (.block 5 (.seq (.reg f33_r17) (.seq (.seq (.reg f33_r18) (.cond (tG 75) (.draw f33_r19) .skip)) (.reg f33_r20)))) (.reg f33_r21)))
noncomputable def f33_r22 : List EOper := [oG 90 (.mv (tG 5)), oG 91 (.mv (tG 7)), oG 92 (.bslice 1 1 [.sn] [(0, 1, (tG 91))]), oG 93 (.app 1 (tG 90) (tG 92)), oG 5 (.as (tG 93))]
noncomputable def f33_r23 : List EOper := [oG 20 (.mv (tG 6)), oG 21 (.bin .add (tG 20) (cG 1)), oG 6 (.as (tG 21))]
noncomputable def f33_l2 : EC := (.seq (.seq (.reg f33_r4) (.cond (tG 19) .skip (.exit 0))) (.seq (.block 1 (.seq (.reg f33_r5) (.seq (.seq (.reg f33_r6) (.cond (tG 23) (.seq (.reg f33_r7) (.block 2 (.loop f33_l0))) (.seq (.draw f33_r11) (.seq (.seq (.reg f33_r12) (.cond (tG 53) (.seq (.reg f33_r13) .ret) .skip)) (.seq (.draw f33_r14) (.seq (.reg f33_r15) (.block 4 (.loop f33_l1)))))))) (.reg f33_r22)))) (.reg f33_r23)))
noncomputable def f33_r24 : List EOper := [oG 94 (.mv (tG 5)), oG 2 (.as (tG 94)), oG 3 (.as (.c (.b true)))]
noncomputable def f33_c : EC := (.seq (.reg f33_r0) (.seq (.reg f33_r1) (.seq (.reg f33_r2) (.seq (.seq (.reg f33_r3) (.block 0 (.loop f33_l2))) (.seq (.reg f33_r24) .ret)))))
noncomputable def f33 : EF := ⟨95, [.tmp (.ofNat 2), .tmp (.ofNat 3)], f33_c, none⟩
theorem f33_rs : f33.rs = [.tmp (.ofNat 2), .tmp (.ofNat 3)] := of_eq_true (eq_self _)
section
variable {fs : T EF} {h : H} {v w u : V} {A : List Int} {L : List (Nat → Rat)}
theorem fill_1p {fr : Fr} {x : EO} {z1 z2 : V} : fillE fr [z1, z2] [(0, 2, x)] = oGet (cellsN 2 (ev fr x)) none fun cs => some (setMany [z1, z2] 0 cs) := of_eq_true (eq_self _)
def f33_J (A : List Int) (h2 : H) (v o : V) (r t : Nat) (fr : Fr) (h1 : H) : Prop := t ≤ (A.length - 1 - r) / 2 + 1 ∧ Grow h2.nx.nat h2 h1 ∧ ∃ u, Sk 2 qE h1 u ((dnL A (A.length - 1 - r) t).map frP) ∧ Own h2.nx.nat u ∧ fr.get (K.ofNat 0) = some (v) ∧ fr.get (K.ofNat 4) = some (.i .i64 ((A.length - 1 : Nat) : Int)) ∧ fr.get (K.ofNat 5) = some (o) ∧ fr.get (K.ofNat 6) = some (.i .i64 (r : Int)) ∧ fr.get (K.ofNat 7) = some (u) ∧ fr.get (K.ofNat 8) = some (.i .i64 (((A.length - 1 - r : Nat) : Int) - 2 * (t : Int)))
theorem f33_in0 {Q : Ex → Fr → H → Prop} {o : V} {r : Nat} {h2 h1 : H} {fr : Fr} (hA1 : 1 ≤ A.length) (hA : A.length ≤ 6) (hr : r + 1 ≤ A.length) (hv : Sr iE h2 v A) (hc : HC h2)
    (hI : f33_J A h2 v o r 0 fr h1) (hq : ∀ fr h1, f33_J A h2 v o r ((A.length - 1 - r) / 2 + 1) fr h1 → Q (.exit 2) fr h1) : W fs none (.loop f33_l0) Q fr h1 := by
  refine W_loop (f33_J A h2 v o r) (fun t => (A.length - 1 - r) / 2 + 1 - t) ?_ 0 hI
  clear hI fr h1
  rintro t fr h1 ⟨ht, hG, u, su, ou, g0, g4, g5, g6, g7, g8⟩
  have hc1 := hG.hc hc
  have hv1 := hv.grow hc hG
  unfold f33_l0
  by_cases hlt : t < (A.length - 1 - r) / 2 + 1
  · have d1 : decide (((A.length - 1 - r : Nat) : Int) - 2 * (t : Int) ≥ 0) = true := decide_eq_true (by omega)
    have e0 : ((A.length - 1 - r : Nat) : Int) - 2 * (t : Int) = ((A.length - 1 - r - 2 * t : Nat) : Int) := by omega
    have e4 : fw .i64 (((A.length - 1 - r : Nat) : Int) - 2 * (t : Int) - 2) = ((A.length - 1 - r : Nat) : Int) - 2 * ((t + 1 : Nat) : Int) := by rw [fw64 (by omega) (by omega)]; omega
    obtain ⟨p, p1, p2⟩ := hv1.at (A.length - 1 - r - 2 * t) (by omega)
    rw [← e0] at p1
    have p2 : loadV h1 p one? = .ok (.i .i64 (A.getD (A.length - 1 - r - 2 * t) 0)) h1 := by rw [getD_lt (by omega)]; exact p2
    obtain ⟨u', h3, a1, a2, a3, a4, _⟩ := Sk.push qE_len (by omega) (x := frP ((A.getD (A.length - 1 - r - 2 * t) 0 : Int) : Rat)) su ou hG.nx hc1 (by simp [dnL]; omega)
    have hx : (dnL A (A.length - 1 - r) t).map frP ++ [frP ((A.getD (A.length - 1 - r - 2 * t) 0 : Int) : Rat)] = (dnL A (A.length - 1 - r) (t + 1)).map frP := by rw [dnL_succ, List.map_append]; rfl
    rw [hx] at a2
    have a1 : appV 2 (h1.new (.cells (1 * 2) [.i .i64 (A.getD (A.length - 1 - r - 2 * t) 0), .i .i64 1])) u (.sl h1.nx 0 1 2) = .ok u' h3 := a1
    simp (disch := omega) only [f33_r8, f33_r9, f33_r10, x_build, Nat.reduceEqDiff, ↓reduceIte, g0, g7, g8, d1, p1, p2, fill_1p, set_q, a1, e4, bz]
    exact ⟨t + 1, by omega, by omega, hG.trans a4, u', a2, a3, by simp (disch := omega) only [getK_set, Nat.reduceEqDiff, ↓reduceIte, g0, g4, g5, g6, and_self]⟩
  · have d1 : decide (((A.length - 1 - r : Nat) : Int) - 2 * (t : Int) ≥ 0) = false := decide_eq_false (by omega)
    obtain rfl : t = (A.length - 1 - r) / 2 + 1 := by omega
    simp (disch := omega) only [f33_r8, ↓reduceIte, Bool.false_eq_true, g8, d1, bz]
    exact hq _ _ ⟨Nat.le_refl _, hG, u, su, ou, by simp (disch := omega) only [getK_set, Nat.reduceEqDiff, ↓reduceIte, g0, g4, g5, g6, g7, g8, and_self]⟩
structure MlB (p q : Rat) : Prop where
  p1 : p.num.natAbs ≤ M63
  p2 : (p.den : Int).natAbs ≤ M63
  q1 : q.num.natAbs ≤ M63
  q2 : (q.den : Int).natAbs ≤ M63
  b1 : (p.num / (Int.gcd p.num (q.den : Int) : Int) * (q.num / (Int.gcd q.num (p.den : Int) : Int))).natAbs ≤ M63
  b2 : ((p.den : Int) / (Int.gcd q.num (p.den : Int) : Int) * ((q.den : Int) / (Int.gcd p.num (q.den : Int) : Int))).natAbs ≤ M63
structure AdB (p q : Rat) : Prop where
  p2 : (p.den : Int).natAbs ≤ M63
  q2 : (q.den : Int).natAbs ≤ M63
  b1 : (p.num * ((q.den : Int) / (Int.gcd (p.den : Int) (q.den : Int) : Int)) + q.num * ((p.den : Int) / (Int.gcd (p.den : Int) (q.den : Int) : Int))).natAbs ≤ M63
  b2 : ((p.den : Int) / (Int.gcd (p.den : Int) (q.den : Int) : Int) * (q.den : Int)).natAbs ≤ M63
  b3 : (p.num * ((q.den : Int) / (Int.gcd (p.den : Int) (q.den : Int) : Int))).natAbs ≤ M63
  b4 : (q.num * ((p.den : Int) / (Int.gcd (p.den : Int) (q.den : Int) : Int))).natAbs ≤ M63
structure CallsL33 (fs : T EF) : Prop where
  c52 : fs.get (K.ofNat 52) = some f52
  c72 : fs.get (K.ofNat 72) = some f72
  c73 : fs.get (K.ofNat 73) = some f73
  c74 : fs.get (K.ofNat 74) = some f74
  c83 : fs.get (K.ofNat 83) = some f83
noncomputable def stE (Ru Rl : Nat → Rat) (z : Rat) (nl j : Nat) : Rat := if j < nl then Ru j + (-1) * (Rl j * z) else Ru j
noncomputable def stL (Ru Rl : Nat → Rat) (z : Rat) (nl t : Nat) : List (Int × Int) := (List.range t).map fun i => frP (stE Ru Rl z nl (i + 1))
theorem stL_succ {Ru Rl : Nat → Rat} {z : Rat} {nl t : Nat} : stL Ru Rl z nl (t + 1) = stL Ru Rl z nl t ++ [frP (stE Ru Rl z nl (t + 1))] := by simp [stL, List.range_succ]
theorem rwL_at {R : Nat → Rat} {n i : Nat} (hi : i < (rwL R n).length) : (rwL R n)[i] = frP (R i) := by simp [rwL]
def f33_K (h2 : H) (vv o a b : V) (zk : K) (n r : Int) (Ru Rl : Nat → Rat) (z : Rat) (nu nl t : Nat) (fr : Fr) (h1 : H) : Prop := t + 1 ≤ nu ∧ Grow h2.nx.nat h2 h1 ∧ ∃ u, Sk 2 qE h1 u (stL Ru Rl z nl t) ∧ Own h2.nx.nat u ∧ fr.get (K.ofNat 0) = some (vv) ∧ fr.get (K.ofNat 4) = some (.i .i64 n) ∧ fr.get (K.ofNat 5) = some (o) ∧ fr.get (K.ofNat 6) = some (.i .i64 r) ∧ fr.get (K.ofNat 7) = some (u) ∧ fr.get (K.ofNat 9) = some (a) ∧ fr.get (K.ofNat 10) = some (b) ∧ fr.get (K.ofNat 11) = some (.p zk 0) ∧ fr.get (K.ofNat 12) = some (.i .i64 ((t + 1 : Nat) : Int))
theorem f33_in1 {Q : Ex → Fr → H → Prop} {vv o a b : V} {zk : K} {n r : Int} {Ru Rl : Nat → Rat} {z : Rat} {nu nl : Nat} {h2 h1 : H} {fr : Fr} (k : CallsL33 fs) (hnu : nu ≤ 6) (ha : Srp h2 a (rwL Ru nu)) (hb : Srp h2 b (rwL Rl nl)) (hzk : h2.get zk = .cells 2 (frL z)) (hc : HC h2)
    (hB : ∀ j, j < nl → j < nu → 1 ≤ j → MlB (Rl j) z ∧ MlB (-1) (Rl j * z) ∧ AdB (Ru j) (-1 * (Rl j * z)))
    (hI : f33_K h2 vv o a b zk n r Ru Rl z nu nl 0 fr h1) (hq : ∀ fr h1, f33_K h2 vv o a b zk n r Ru Rl z nu nl (nu - 1) fr h1 → Q (.exit 4) fr h1) : W fs none (.loop f33_l1) Q fr h1 := by
  refine W_loop (f33_K h2 vv o a b zk n r Ru Rl z nu nl) (fun t => nu - t) ?_ 0 hI
  clear hI fr h1
  rintro t fr h1 ⟨ht, hG, u, su, ou, g0, g4, g5, g6, g7, g9, g10, g11, g12⟩
  have hc1 := hG.hc hc
  have ha1 := ha.grow hc hG
  have hb1 := hb.grow hc hG
  have ea := ha1.len
  have eb := hb1.len
  rw [rwL_len] at ea eb
  have zl := hc.cells hzk
  have hz1 := (hG.old zk zl).trans hzk
  unfold f33_l1
  by_cases hlt : t + 1 < nu
  · have d1 : decide (((t + 1 : Nat) : Int) < (nu : Int)) = true := decide_eq_true (by omega)
    have e4 : fw .i64 (((t + 1 : Nat) : Int) + 1) = ((t + 1 + 1 : Nat) : Int) := by rw [fw64 (by omega) (by omega)]; rfl
    obtain ⟨ia, p, p1, p2, _⟩ := ha1.at2 (i := t + 1) (by rw [rwL_len]; exact hlt)
    rw [rwL_at] at p2
    have p2 : loadV h1 (.p ia p) (many? 2) = .ok (.agg (frL (Ru (t + 1)))) h1 := p2
    have st0 : storeV (h1.new (.cells 2 [.i .i64 0, .i .i64 0])) 2 (.p h1.nx 0) (.agg (frL (Ru (t + 1)))) = .ok undefV ((h1.new (.cells 2 [.i .i64 0, .i .i64 0])).put h1.nx (.cells 2 (frL (Ru (t + 1))))) := store2 get_new_same
    have nN := nx_new h1 (.cells 2 [.i .i64 0, .i .i64 0])
    have gM := (Grow.new (Nat.le_refl h1.nx.nat) (.cells 2 [.i .i64 0, .i .i64 0])).trans (Grow.put (k := h1.nx) (Nat.le_refl _) (by omega) (.cells 2 (frL (Ru (t + 1)))))
    have q9 : ((h1.new (.cells 2 [.i .i64 0, .i .i64 0])).put h1.nx (.cells 2 (frL (Ru (t + 1))))).get h1.nx = .cells 2 (frL (Ru (t + 1))) := get_put_same
    have nM : ((h1.new (.cells 2 [.i .i64 0, .i .i64 0])).put h1.nx (.cells 2 (frL (Ru (t + 1))))).nx.nat = h1.nx.nat + 1 := by rw [nx_put, nx_new]
    have fin : ∀ {Q' : Ex → Fr → H → Prop} {fr : Fr} {h3 : H}, Grow h1.nx.nat h1 h3 → h3.get h1.nx = .cells 2 (frL (stE Ru Rl z nl (t + 1))) → fr.get (K.ofNat 0) = some (vv) ∧ fr.get (K.ofNat 4) = some (.i .i64 n) ∧ fr.get (K.ofNat 5) = some (o) ∧ fr.get (K.ofNat 6) = some (.i .i64 r) ∧ fr.get (K.ofNat 7) = some (u) ∧ fr.get (K.ofNat 9) = some (a) ∧ fr.get (K.ofNat 10) = some (b) ∧ fr.get (K.ofNat 11) = some (.p zk 0) ∧ fr.get (K.ofNat 12) = some (.i .i64 ((t + 1 : Nat) : Int)) ∧ fr.get (K.ofNat 13) = some (.p h1.nx 0) → (∀ fr h4, f33_K h2 vv o a b zk n r Ru Rl z nu nl (t + 1) fr h4 → Q' .normal fr h4) → W fs none (.reg f33_r20) (fun e fr h => seqK (W fs none (.reg f33_r21)) Q' e fr h) fr h3 := by
      rintro Q' fr h3 g3 q3 ⟨g0, g4, g5, g6, g7, g9, g10, g11, g12, g13⟩ hQ
      have G3 := hG.trans (g3.low hG.nx)
      have hc3 := G3.hc hc
      have l3 : loadV h3 (.p h1.nx 0) (many? 2) = .ok (.agg (frL (stE Ru Rl z nl (t + 1)))) h3 := by rw [loadn_p q3 (by omega)]; rfl
      obtain ⟨u', h4, a1, a2, a3, a4, _⟩ := Sk.push qE_len (by omega) (x := frP (stE Ru Rl z nl (t + 1))) (su.grow hc1 g3) ou G3.nx hc3 (by simp [stL]; omega)
      rw [← stL_succ] at a2
      have hcell : cellsN 2 (.agg (frL (stE Ru Rl z nl (t + 1)))) = some (frL (stE Ru Rl z nl (t + 1))) := rfl
      have hset : ∀ z1 z2, setMany [z1, z2] 0 (frL (stE Ru Rl z nl (t + 1))) = frL (stE Ru Rl z nl (t + 1)) := fun _ _ => rfl
      have a1 : appV 2 (h3.new (.cells (1 * 2) (frL (stE Ru Rl z nl (t + 1))))) u (.sl h3.nx 0 1 2) = .ok u' h4 := a1
      simp (disch := omega) only [f33_r20, f33_r21, Nat.reduceEqDiff, ↓reduceIte, g7, g12, g13, l3, hcell, fill_1p, hset, a1, e4, bz]
      exact hQ _ _ ⟨by omega, G3.trans a4, u', a2, a3, by simp (disch := omega) only [getK_set, Nat.reduceEqDiff, ↓reduceIte, g0, g4, g5, g6, g9, g10, g11, and_self]⟩
    simp only [w_reg] at fin
    by_cases hl : t + 1 < nl
    · have d2 : decide (((t + 1 : Nat) : Int) < (nl : Int)) = true := decide_eq_true (by omega)
      have hE : stE Ru Rl z nl (t + 1) = Ru (t + 1) + (-1) * (Rl (t + 1) * z) := by unfold stE; rw [if_pos hl]
      obtain ⟨mb1, mb2, ab⟩ := hB (t + 1) hl hlt (by omega)
      simp (disch := omega) only [f33_r16, f33_r17, Nat.reduceEqDiff, ↓reduceIte, g9, g12, ea, d1, p1, p2, st0, bz]
      generalize (h1.new (.cells 2 [.i .i64 0, .i .i64 0])).put h1.nx (.cells 2 (frL (Ru (t + 1)))) = h3 at *
      have hc3 := gM.hc hc1
      have hb3 := hb1.grow hc1 gM
      obtain ⟨ib, q, q1, q2, _⟩ := hb3.at2 (i := t + 1) (by rw [rwL_len]; exact hl)
      rw [rwL_at] at q2
      have q2 : loadV h3 (.p ib q) (many? 2) = .ok (.agg (frL (Rl (t + 1)))) h3 := q2
      have lz : loadV h3 (.p zk 0) (many? 2) = .ok (.agg (frL z)) h3 := by rw [loadn_p ((gM.old zk (hc1.cells hz1)).trans hz1) (by omega)]; rfl
      have lx : loadV h3 (.p h1.nx 0) (many? 2) = .ok (.agg (frL (Ru (t + 1)))) h3 := by rw [loadn_p q9 (by omega)]; rfl
      have hm1 : (.agg [.i .i64 (Int.negSucc 0), .i .i64 1] : V) = .agg (frL (-1)) := rfl
      simp (disch := omega) only [f33_r18, f33_r19, xg_build, Nat.reduceEqDiff, ↓reduceIte, g10, g11, g12, eb, d2, q1, q2, lz, lx, hm1, bz]
      refine (callP_0 (ef := f72) k.c72 rfl (f72_ret k.c52 k.c83 mb1.p1 mb1.p2 mb1.q1 mb1.q2 mb1.b1 mb1.b2)).mono ?_
      rintro r' h4 ⟨rfl, g4'⟩
      have lx4 : loadV h4 (.p h1.nx 0) (many? 2) = .ok (.agg (frL (Ru (t + 1)))) h4 := by rw [loadn_p ((g4'.old h1.nx (by omega)).trans q9) (by omega)]; rfl
      simp (disch := omega) only [Nat.reduceEqDiff, ↓reduceIte, stay_build, lx4, hm1, beq_fr, bz]
      refine (callP_0 (ef := f72) k.c72 rfl (f72_ret k.c52 k.c83 mb2.p1 mb2.p2 mb2.q1 mb2.q2 mb2.b1 mb2.b2)).mono ?_
      rintro r' h5 ⟨rfl, g5'⟩
      have G45 := g4'.trans (g5'.low g4'.nx)
      have n45 := G45.nx
      have lx5 : loadV h5 (.p h1.nx 0) (many? 2) = .ok (.agg (frL (Ru (t + 1)))) h5 := by rw [loadn_p ((G45.old h1.nx (by omega)).trans q9) (by omega)]; rfl
      simp (disch := omega) only [Nat.reduceEqDiff, ↓reduceIte, lx5, beq_fr, bz]
      refine (callP_0 (ef := f74) k.c74 rfl (f74_ret k.c52 k.c83 ab.p2 ab.q2 ab.b1 ab.b2 ab.b3 ab.b4)).mono ?_
      rintro r' h6 ⟨rfl, g6'⟩
      have G46 := G45.trans (g6'.low G45.nx)
      have n46 := G46.nx
      have st6 : storeV h6 2 (.p h1.nx 0) (.agg (frL (Ru (t + 1) + -1 * (Rl (t + 1) * z)))) = .ok undefV (h6.put h1.nx (.cells 2 (frL (Ru (t + 1) + -1 * (Rl (t + 1) * z))))) := store2 ((G46.old h1.nx (by omega)).trans q9)
      simp (disch := omega) only [Nat.reduceEqDiff, ↓reduceIte, st6, bz]
      refine fin ((gM.trans (G46.low gM.nx)).trans (Grow.put (Nat.le_refl _) (by omega) _)) (by rw [hE]; exact get_put_same) (by simp (disch := omega) only [getK_set, Nat.reduceEqDiff, ↓reduceIte, g0, g4, g5, g6, g7, g9, g10, g11, g12, and_self]) ?_
      intro fr h4 hK
      simp (disch := omega) only [loopK_n]
      exact ⟨t + 1, by omega, hK⟩
    · have d2 : decide (((t + 1 : Nat) : Int) < (nl : Int)) = false := decide_eq_false (by omega)
      have hE : stE Ru Rl z nl (t + 1) = Ru (t + 1) := by unfold stE; rw [if_neg hl]
      simp (disch := omega) only [f33_r16, f33_r17, f33_r18, Nat.reduceEqDiff, ↓reduceIte, Bool.false_eq_true, g9, g10, g12, ea, eb, d1, d2, p1, p2, st0, bz]
      refine fin gM (by rw [hE]; exact q9) (by simp (disch := omega) only [getK_set, Nat.reduceEqDiff, ↓reduceIte, g0, g4, g5, g6, g7, g9, g10, g11, g12, and_self]) ?_
      intro fr h4 hK
      simp (disch := omega) only [loopK_n]
      exact ⟨t + 1, by omega, hK⟩
  · have d1 : decide (((t + 1 : Nat) : Int) < (nu : Int)) = false := decide_eq_false (by omega)
    obtain rfl : t = nu - 1 := by omega
    simp (disch := omega) only [f33_r16, Nat.reduceEqDiff, ↓reduceIte, Bool.false_eq_true, g9, g12, ea, d1, bz]
    exact hq _ _ ⟨by omega, hG, u, su, ou, by simp (disch := omega) only [getK_set, Nat.reduceEqDiff, ↓reduceIte, g0, g4, g5, g6, g7, g9, g10, g11, g12, and_self]⟩
end
end Go.Ev
namespace Go.Ev
open Go Go.RowKit
section
variable {fs : T EF} {h : H} {v w u : V} {A : List Int} {L : List (Nat → Rat)}
noncomputable def reA (A : List Int) (i : Nat) : Nat → Rat := ((dTop A).at i).re
noncomputable def zA (A : List Int) (i : Nat) : Rat := reA A (i - 2) 0 * (reA A (i - 1) 0)⁻¹
structure RfB (A : List Int) : Prop where
  i1 : ∀ i, 2 ≤ i → i < A.length → (∀ j, j < i → reA A j 0 ≠ 0) → (reA A (i - 1) 0).num.natAbs ≤ M63 ∧ ((reA A (i - 1) 0).den : Int).natAbs ≤ M63
  ml : ∀ i, 2 ≤ i → i < A.length → (∀ j, j < i → reA A j 0 ≠ 0) → MlB (reA A (i - 2) 0) (reA A (i - 1) 0)⁻¹
  st : ∀ i, 2 ≤ i → i < A.length → (∀ j, j < i → reA A j 0 ≠ 0) → ∀ j, j < rwN A (i - 1) → j < rwN A (i - 2) → 1 ≤ j → MlB (reA A (i - 1) j) (zA A i) ∧ MlB (-1) (reA A (i - 1) j * zA A i) ∧ AdB (reA A (i - 2) j) (-1 * (reA A (i - 1) j * zA A i))
  r0 : ∀ i, i < 2 → i < A.length → (dnL A (A.length - 1 - i) ((A.length - 1 - i) / 2 + 1)).map frP = rwL (reA A i) (rwN A i)
  r2 : ∀ i, 2 ≤ i → i < A.length → stL (reA A (i - 2)) (reA A (i - 1)) (zA A i) (rwN A (i - 1)) (rwN A (i - 2) - 1) = rwL (reA A i) (rwN A i)
  n0 : reA A 0 0 ≠ 0
noncomputable def tbP (A : List Int) (i : Nat) : List (List (Int × Int)) := (List.range i).map fun j => rwL (reA A j) (rwN A j)
theorem tbP_len {i : Nat} : (tbP A i).length = i := by simp [tbP]
theorem tbP_at {i j : Nat} (hj : j < (tbP A i).length) : (tbP A i)[j] = rwL (reA A j) (rwN A j) := by simp [tbP]
theorem tbP_succ {i : Nat} : tbP A (i + 1) = tbP A i ++ [rwL (reA A i) (rwN A i)] := by simp [tbP, List.range_succ]
def f33_I (A : List Int) (h0 : H) (v : V) (i : Nat) (fr : Fr) (h1 : H) : Prop := i ≤ A.length ∧ Grow h0.nx.nat h0 h1 ∧ (∃ o us, Sll h1 o us (tbP A i) ∧ Own h0.nx.nat o ∧ fr.get (K.ofNat 0) = some (v) ∧ fr.get (K.ofNat 4) = some (.i .i64 ((A.length - 1 : Nat) : Int)) ∧ fr.get (K.ofNat 5) = some (o) ∧ fr.get (K.ofNat 6) = some (.i .i64 (i : Int))) ∧ ∀ j, j + 1 < i → reA A j 0 ≠ 0
theorem f33_ret (k : CallsL33 fs) (hA1 : 1 ≤ A.length) (hA : A.length ≤ 6) (hB : RfB A) (hv : Sr iE h v A) (hc : HC h) : Ret fs f33 [v] h fun r h' => Grow h.nx.nat h h' ∧ (((∀ j, j + 1 < A.length → reA A j 0 ≠ 0) ∧ ∃ o us, r = .tup [o, .b true] ∧ Srr h' o us (tbP A A.length)) ∨ ((∃ j, j + 1 < A.length ∧ reA A j 0 = 0) ∧ r = .tup [.sn, .b false])) := by
  apply ret_of rfl
  show W fs none f33_c _ _ _
  unfold f33_c
  have el := hv.len
  have ei : fw .i64 ((A.length : Int) - 1) = ((A.length - 1 : Nat) : Int) := by rw [fw64 (by omega) (by omega)]; omega
  simp (disch := omega) only [f33_r0, f33_r1, f33_r2, f33_r3, Nat.reduceEqDiff, ↓reduceIte, el, ei, bz]
  refine W_loop (f33_I A h v) (fun i => A.length - i) ?_ 0 ⟨by omega, Grow.refl _ _, ⟨.sn, [], Sll.nil, Own.sn, by simp (disch := omega) only [getK_set, Nat.reduceEqDiff, ↓reduceIte, and_self, Int.natCast_zero]⟩, fun j hj => absurd hj (by omega)⟩
  rintro i fr h1 ⟨hi, hG, ⟨o, us, so, oo, g0, g4, g5, g6⟩, nz⟩
  have hc1 := hG.hc hc
  have hv1 := hv.grow hc hG
  have olt := so.out.lt hc1
  unfold f33_l2
  have bo := so.out.beq
  -- a row is put behind the others
  have fin : ∀ {fr : Fr} {h2 : H} {u : V} {Q' : Ex → Fr → H → Prop}, i < A.length → Grow h1.nx.nat h1 h2 → Srp h2 u (rwL (reA A i) (rwN A i)) → Own h1.nx.nat u → (∀ j, j + 1 < i + 1 → reA A j 0 ≠ 0) → fr.get (K.ofNat 0) = some (v) ∧ fr.get (K.ofNat 4) = some (.i .i64 ((A.length - 1 : Nat) : Int)) ∧ fr.get (K.ofNat 5) = some (o) ∧ fr.get (K.ofNat 6) = some (.i .i64 (i : Int)) ∧ fr.get (K.ofNat 7) = some (u) → (∀ fr h3, f33_I A h v (i + 1) fr h3 → Q' .normal fr h3) → W fs none (.reg f33_r22) (fun e fr h => seqK (W fs none (.reg f33_r23)) Q' e fr h) fr h2 := by
    rintro fr h2 u Q' hin g su ou nz' ⟨g0, g4, g5, g6, g7⟩ hQ
    have G2 := hG.trans (g.low hG.nx)
    have hc2 := G2.hc hc
    have e4 : fw .i64 ((i : Int) + 1) = ((i + 1 : Nat) : Int) := by rw [fw64 (by omega) (by omega)]; rfl
    obtain ⟨o', h3, a1, a2, a3, a4, _⟩ := (so.grow hc1 g).push oo G2.nx hc2 (by rw [tbP_len]; omega) su (fun id off n sz e off' n' sz' e' => by have := ou _ _ _ _ e; have := olt _ _ _ _ e'; omega)
    rw [← tbP_succ] at a2
    have hu1 := su.cell
    simp (disch := omega) only [f33_r22, f33_r23, fill_1, set_1, Nat.reduceEqDiff, ↓reduceIte, g5, g6, g7, hu1, a1, e4, bz]
    exact hQ _ _ ⟨by omega, G2.trans a4, ⟨o', _, a2, a3, by simp (disch := omega) only [getK_set, Nat.reduceEqDiff, ↓reduceIte, g0, g4, and_self]⟩, nz'⟩
  simp only [w_reg] at fin
  by_cases hlt : i < A.length
  · have d1 : decide ((i : Int) ≤ ((A.length - 1 : Nat) : Int)) = true := decide_eq_true (by omega)
    by_cases h2 : i < 2
    · have d2 : decide ((i : Int) < 2) = true := decide_eq_true (by omega)
      have e7 : fw .i64 (((A.length - 1 : Nat) : Int) - (i : Int)) = ((A.length - 1 - i : Nat) : Int) := by rw [fw64 (by omega) (by omega)]; omega
      simp (disch := omega) only [f33_r4, f33_r5, f33_r6, f33_r7, Nat.reduceEqDiff, ↓reduceIte, g4, g6, d1, d2, e7, bz]
      refine f33_in0 (o := o) (r := i) (h2 := h1) hA1 hA (by omega) hv1 hc1 ⟨by omega, Grow.refl _ _, .sn, Sk.nil, Own.sn, by simp (disch := omega) only [getK_set, Nat.reduceEqDiff, ↓reduceIte, g0, g4, g5, g6, and_self, Int.natCast_zero, Int.mul_zero, Int.sub_zero]⟩ ?_
      clear g0 g4 g5 g6 fr
      rintro fr h3 ⟨_, g, u, su, ou, g0, g4, g5, g6, g7, g8⟩
      rw [hB.r0 i h2 hlt] at su
      have nz' : ∀ j, j + 1 < i + 1 → reA A j 0 ≠ 0 := fun j hj => by
        obtain rfl : j = 0 := by omega
        exact hB.n0
      simp (disch := omega) only [w_reg, seqK_n, atK_e, ↓reduceIte]
      refine fin hlt g su.srp ou nz' (by simp (disch := omega) only [g0, g4, g5, g6, g7, and_self]) ?_
      intro fr h4 hK
      simp (disch := omega) only [loopK_n]
      exact ⟨i + 1, by omega, hK⟩
    · have d2 : decide ((i : Int) < 2) = false := decide_eq_false (by omega)
      have e2 : fw .i64 ((i : Int) - 2) = ((i - 2 : Nat) : Int) := by rw [fw64 (by omega) (by omega)]; omega
      have e1 : fw .i64 ((i : Int) - 1) = ((i - 1 : Nat) : Int) := by rw [fw64 (by omega) (by omega)]; omega
      have lu : us.length = i := by rw [so.len, tbP_len]
      obtain ⟨pa, a1, a2, a3⟩ := so.out.sr.atb (i - 2) (by omega)
      obtain ⟨pb, b1, b2, b3⟩ := so.out.sr.atb (i - 1) (by omega)
      have sa := so.inn (i - 2) (by omega) (by rw [tbP_len]; omega)
      have sb := so.inn (i - 1) (by omega) (by rw [tbP_len]; omega)
      rw [tbP_at] at sa sb
      have a2 : loadV h1 pa one? = .ok (us[i - 2]'(by omega)) h1 := a2
      have b2 : loadV h1 pb one? = .ok (us[i - 1]'(by omega)) h1 := b2
      generalize us[i - 2]'(by omega) = ua at *
      generalize us[i - 1]'(by omega) = ub at *
      have n1 : 1 ≤ rwN A (i - 2) := by unfold rwN; omega
      have n2 : 1 ≤ rwN A (i - 1) := by unfold rwN; omega
      obtain ⟨ka, qa, p1, p2, p3, _⟩ := sa.at2 (i := 0) (by rw [rwL_len]; omega)
      obtain ⟨kb, qb, r1, r2, r3, _⟩ := sb.at2 (i := 0) (by rw [rwL_len]; omega)
      rw [rwL_at] at p2 r2 r3
      have p1 : ∀ (k : IntKind) (h1 : H), iadsV 2 ua (.i k 0) h1 = .ok (.p ka qa) h1 := p1
      have r1 : ∀ (k : IntKind) (h1 : H), iadsV 2 ub (.i k 0) h1 = .ok (.p kb qb) h1 := r1
      have p2 : loadV h1 (.p ka qa) (many? 2) = .ok (.agg (frL (reA A (i - 2) 0))) h1 := p2
      have r2 : loadV h1 (.p kb qb) (many? 2) = .ok (.agg (frL (reA A (i - 1) 0))) h1 := r2
      have r3 : loadV h1 (.p kb (qb + 0 * 1)) one? = .ok (.i .i64 (reA A (i - 1) 0).num) h1 := r3
      have ca := sa.cell
      have cb := sb.cell
      have ba := sa.beq
      have bb := sb.beq
      by_cases hz : reA A (i - 1) 0 = 0
      · have dz : decide ((reA A (i - 1) 0).num = 0) = true := decide_eq_true (Rat.num_eq_zero.2 hz)
        simp (disch := omega) only [f33_r4, f33_r5, f33_r6, f33_r11, f33_r12, f33_r13, f33_rs, atK_r, loopK_r, stay_iads, stay_ld, Option.some.injEq, exists_eq_left', Nat.reduceEqDiff, ↓reduceIte, Bool.false_eq_true, g4, g5, g6, d1, d2, e1, e2, a1, a2, b1, b2, b3, bb, bo, r1, r3, dz, bz]
        exact ⟨hG, .inr ⟨⟨i - 1, by omega, hz⟩, trivial⟩⟩
      · have dz : decide ((reA A (i - 1) 0).num = 0) = false := decide_eq_false (fun e => hz (Rat.num_eq_zero.1 e))
        have nz' : ∀ j, j + 1 < i + 1 → reA A j 0 ≠ 0 := fun j hj => by
          by_cases e : j = i - 1
          · subst e; exact hz
          · exact nz j (by omega)
        have nzi : ∀ j, j < i → reA A j 0 ≠ 0 := fun j hj => nz' j (by omega)
        obtain ⟨x1, x2⟩ := hB.i1 i (by omega) hlt nzi
        have ml := hB.ml i (by omega) hlt nzi
        have gN := Grow.new (Nat.le_refl h1.nx.nat) (.cells 2 [.i .i64 0, .i .i64 0])
        have nN := nx_new h1 (.cells 2 [.i .i64 0, .i .i64 0])
        simp (disch := omega) only [f33_r4, f33_r5, f33_r6, f33_r11, f33_r12, f33_r14, stay_iads, stay_ld, Nat.reduceEqDiff, ↓reduceIte, Bool.false_eq_true, xg_alloc, g4, g5, g6, d1, d2, e1, e2, a1, a2, b1, b2, b3, bb, bo, p1, p2, r1, r2, r3, dz, hc1.dead, bz]
        refine ⟨fresh_p (by simp (disch := omega) only [getK_set, ↓reduceIte]), ?_⟩
        have q0 : (h1.new (.cells 2 [.i .i64 0, .i .i64 0])).get h1.nx = .cells 2 [.i .i64 0, .i .i64 0] := get_new_same
        generalize h1.new (.cells 2 [.i .i64 0, .i .i64 0]) = h2 at *
        refine (callP_0 (ef := f73) k.c73 rfl (f73_ret (fun e => hz (Rat.num_eq_zero.1 e)) x1 x2)).mono ?_
        rintro r h3 ⟨rfl, g3⟩
        have G3 := gN.trans (g3.low gN.nx)
        have q3 := (g3.old h1.nx (by omega)).trans q0
        have w3 := nw2 q3
        obtain ⟨kc, qc, t1, t2, _⟩ := (sa.grow hc1 G3).at2 (i := 0) (by rw [rwL_len]; omega)
        rw [rwL_at] at t2
        have t1 : ∀ (k : IntKind) (h1 : H), iadsV 2 ua (.i k 0) h1 = .ok (.p kc qc) h1 := t1
        obtain ⟨rfl, rfl⟩ : ka = kc ∧ qa = qc := by
          have := (RV.ok.inj ((p1 .i64 h1).symm.trans (t1 .i64 h1))).1
          exact ⟨(V.p.inj this).1, (V.p.inj this).2⟩
        have t2 : loadV h3 (.p ka qa) (many? 2) = .ok (.agg (frL (reA A (i - 2) 0))) h3 := t2
        simp (disch := omega) only [stay_iads, beq_p, Nat.reduceEqDiff, ↓reduceIte, p1, t2, ba, beq_fr, stay_alloc, w3, and_self, bz]
        refine (callP_0 (ef := f72) k.c72 rfl (f72_ret k.c52 k.c83 ml.p1 ml.p2 ml.q1 ml.q2 ml.b1 ml.b2)).mono ?_
        rintro r h4 ⟨rfl, g4'⟩
        have G4 := G3.trans (g4'.low G3.nx)
        have n3 := g3.nx
        have n4 := g4'.nx
        have q4 := (g4'.old h1.nx (by omega)).trans q3
        have w4 := nw2 q4
        have st4 : storeV h4 2 (.p h1.nx 0) (.agg (frL (zA A i))) = .ok undefV (h4.put h1.nx (.cells 2 (frL (zA A i)))) := store2 q4
        have hzA : reA A (i - 2) 0 * (reA A (i - 1) 0)⁻¹ = zA A i := rfl
        rw [hzA]
        simp (disch := omega) only [f33_r15, Nat.reduceEqDiff, ↓reduceIte, stay_alloc, w4, st4, bz]
        have G5 := G4.trans (Grow.put (b := h1.nx.nat) (k := h1.nx) (Nat.le_refl _) (by omega) (.cells 2 (frL (zA A i))))
        have q5 : (h4.put h1.nx (.cells 2 (frL (zA A i)))).get h1.nx = .cells 2 (frL (zA A i)) := get_put_same
        generalize h4.put h1.nx (.cells 2 (frL (zA A i))) = h5 at *
        have hc5 := G5.hc hc1
        refine f33_in1 (vv := v) (o := o) (a := ua) (b := ub) (zk := h1.nx) (n := ((A.length - 1 : Nat) : Int)) (r := (i : Int)) (Ru := reA A (i - 2)) (Rl := reA A (i - 1)) (z := zA A i) (nu := rwN A (i - 2)) (nl := rwN A (i - 1)) (h2 := h5) k (by unfold rwN; omega) (sa.grow hc1 G5) (sb.grow hc1 G5) q5 hc5 (hB.st i (by omega) hlt nzi) ⟨by omega, Grow.refl _ _, .sn, Sk.nil, Own.sn, by simp (disch := omega) only [getK_set, Nat.reduceEqDiff, ↓reduceIte, g0, g4, g5, g6, and_self, Int.natCast_one, Nat.zero_add]⟩ ?_
        clear g0 g4 g5 g6 fr
        rintro fr h6 ⟨_, g, u, su, ou, g0, g4, g5, g6, g7, g9, g10, g11, g12⟩
        rw [hB.r2 i (by omega) hlt] at su
        have G56 := G5.trans (g.low G5.nx)
        have n5 := G5.nx
        simp (disch := omega) only [w_reg, seqK_n, atK_e, ↓reduceIte]
        refine fin hlt G56 su.srp (fun id off n sz e => by have := ou _ _ _ _ e; omega) nz' (by simp (disch := omega) only [g0, g4, g5, g6, g7, and_self]) ?_
        intro fr h4 hK
        simp (disch := omega) only [loopK_n]
        exact ⟨i + 1, by omega, hK⟩
  · have d1 : decide ((i : Int) ≤ ((A.length - 1 : Nat) : Int)) = false := decide_eq_false (by omega)
    obtain rfl : i = A.length := by omega
    simp (disch := omega) only [f33_r4, f33_r24, f33_rs, Option.some.injEq, exists_eq_left', Nat.reduceEqDiff, ↓reduceIte, Bool.false_eq_true, g4, g5, g6, d1, bz]
    exact ⟨hG, .inl ⟨nz, o, us, rfl, so.srr⟩⟩
end
end Go.Ev
namespace Go.Ev
open Go Go.RowKit
noncomputable def f35_r0 : List EOper := [oG 2 (.as (cG 0)), oG 3 (.as (.c (.b false)))]
noncomputable def f35_r1 : List EOper := [oG 9 (.mv (tG 0)), oG 10 (.call (fG 33) [(tG 9)]), oG 8 (.mv (tG 10)), oG 11 (.ext (tG 8) 0), oG 12 (.ext (tG 8) 1), oG 4 (.as (tG 11)), oG 5 (.as (tG 12))]
noncomputable def f35_r2 : List EOper := [oG 13 (.mv (tG 5)), oG 14 (.not (tG 13)), oG 15 (.mv (tG 14)), gG 16 15 false (.mv (tG 4)), gG 17 15 false (.mv (tG 4)), gG 18 15 false (.len (tG 17)), gG 19 15 false (.bin .sub (tG 18) (cG 1)), gG 20 15 false (.iads 1 (tG 16) (tG 19)), gG 21 15 false (.ld (tG 20)), gG 22 15 false (.iads 2 (tG 21) (cG 0)), gG 23 15 false (.iadr 2 1 (tG 22) (cG 0)), gG 24 15 false (.ld (tG 23)), gG 25 15 false (.bin .eql (tG 24) (cG 0)), oG 26 (.pick (tG 15) (.c (.b true)) (tG 25))]
noncomputable def f35_r3 : List EOper := [oG 2 (.as (cG 0)), oG 3 (.as (.c (.b false)))]
noncomputable def f35_r4 : List EOper := [oG 6 (.as (cG 0))]
noncomputable def f35_r5 : List EOper := [oG 7 (.as (cG 1))]
noncomputable def f35_r6 : List EOper := [oG 27 (.mv (tG 7)), oG 28 (.mv (tG 4)), oG 29 (.len (tG 28)), oG 30 (.bin .lss (tG 27) (tG 29))]
noncomputable def f35_r7 : List Stage := [⟨[oG 33 (.mv (tG 4)), oG 34 (.mv (tG 7)), oG 35 (.iads 1 (tG 33) (tG 34)), oG 36 (.ld (tG 35)), oG 37 (.iads 2 (tG 36) (cG 0)), oG 38 (.iadr 2 1 (tG 37) (cG 0)), oG 39 (.ld (tG 38)), oG 40 (.bin .lss (tG 39) (cG 0)), oG 41 (.mv (tG 4)), oG 42 (.mv (tG 7)), oG 43 (.bin .sub (tG 42) (cG 1)), oG 44 (.iads 1 (tG 41) (tG 43)), oG 45 (.ld (tG 44)), oG 46 (.iads 2 (tG 45) (cG 0)), oG 47 (.iadr 2 1 (tG 46) (cG 0)), oG 48 (.ld (tG 47)), oG 49 (.bin .lss (tG 48) (cG 0)), oG 50 (.eqk (.one none) true (tG 40) (tG 49))], [], none, []⟩]
noncomputable def f35_r8 : List EOper := [oG 51 (.mv (tG 6)), oG 52 (.bin .add (tG 51) (cG 1)), oG 6 (.as (tG 52))]
noncomputable def f35_r9 : List EOper := [oG 31 (.mv (tG 7)), oG 32 (.bin .add (tG 31) (cG 1)), oG 7 (.as (tG 32))]
noncomputable def f35_l0 : EC := (.seq (.seq (.reg f35_r6) (.cond (tG 30) .skip (.exit 0))) (.seq (.block 1 (.seq (.draw f35_r7) (.cond (tG 50) (.reg f35_r8) .skip))) (.reg f35_r9)))
noncomputable def f35_r10 : List EOper := [oG 53 (.mv (tG 6)), oG 2 (.as (tG 53)), oG 3 (.as (.c (.b true)))]
noncomputable def f35_c : EC := (.seq (.reg f35_r0) (.seq (.reg f35_r1) (.seq (.seq (.reg f35_r2) (.cond (tG 26) (.seq (.reg f35_r3) .ret) .skip)) (.seq (.reg f35_r4) (.seq (.seq (.reg f35_r5) (.block 0 (.loop f35_l0))) (.seq (.reg f35_r10) .ret))))))
noncomputable def f35 : EF := ⟨54, [.tmp (.ofNat 2), .tmp (.ofNat 3)], f35_c, none⟩
theorem f35_rs : f35.rs = [.tmp (.ofNat 2), .tmp (.ofNat 3)] := of_eq_true (eq_self _)
section
variable {fs : T EF} {h : H} {v w u : V} {A : List Int} {L : List (Nat → Rat)}
theorem rws_at {j : Nat} (hj : j < A.length) : ((rwsL A A.length).getD j fun _ => 0) = reA A j := by
  rw [getR_lt (by rw [rwsL_len]; exact hj)]
  simp [rwsL, reA]
def f35_I (A : List Int) (h0 : H) (o : V) (t : Nat) (fr : Fr) (h1 : H) : Prop := t + 1 ≤ A.length ∧ h1 = h0 ∧ fr.get (K.ofNat 4) = some (o) ∧ fr.get (K.ofNat 6) = some (.i .i64 (sgc (rwsL A A.length) t : Int)) ∧ fr.get (K.ofNat 7) = some (.i .i64 ((t + 1 : Nat) : Int))
theorem f35_ret (k : CallsL33 fs) (k33 : fs.get (.ofNat 33) = some f33) (hA1 : 1 ≤ A.length) (hA : A.length ≤ 6) (hB : RfB A) (hv : Sr iE h v A) (hc : HC h) : Ret fs f35 [v] h fun r h' => Grow h.nx.nat h h' ∧ ((RtOk A ∧ r = .tup [.i .i64 (sgc (rwsL A A.length) (A.length - 1) : Int), .b true]) ∨ (¬ RtOk A ∧ r = .tup [.i .i64 0, .b false])) := by
  apply ret_of rfl
  show W fs none f35_c _ _ _
  unfold f35_c
  simp (disch := omega) only [f35_r0, f35_r1, Nat.reduceEqDiff, ↓reduceIte, bz]
  refine (callP_0 (ef := f33) k33 rfl (f33_ret k hA1 hA hB hv hc)).mono ?_
  rintro r h1 ⟨g1, hcase⟩
  have hc1 := g1.hc hc
  rcases hcase with ⟨nz, o, us, rfl, so⟩ | ⟨⟨j, hj, hz⟩, rfl⟩
  · have ho1 := so.out.one
    have lu : us.length = A.length := by rw [so.len, tbP_len]
    have el := so.out.len
    rw [lu] at el
    have ei : fw .i64 ((A.length : Int) - 1) = ((A.length - 1 : Nat) : Int) := by rw [fw64 (by omega) (by omega)]; omega
    -- an element's first number
    have row : ∀ {j : Nat} (hj : j < A.length), ∃ pa u ka qa, (∀ k h1, iadsV 1 o (.i k (j : Int)) h1 = .ok pa h1) ∧ loadV h1 pa one? = .ok u h1 ∧ beqV pa pa = true ∧ beqV u u = true ∧ (∀ k h1, iadsV 2 u (.i k 0) h1 = .ok (.p ka qa) h1) ∧ loadV h1 (.p ka (qa + 0 * 1)) one? = .ok (.i .i64 (reA A j 0).num) h1 := fun {j} hj => by
      obtain ⟨pa, a1, a2, a3⟩ := so.out.atb j (by omega)
      have sa := so.inn j (by omega) (by rw [tbP_len]; exact hj)
      rw [tbP_at] at sa
      obtain ⟨ka, qa, p1, p2, p3, _⟩ := sa.at2 (i := 0) (by rw [rwL_len]; unfold rwN; omega)
      rw [rwL_at] at p3
      exact ⟨pa, _, ka, qa, a1, a2, a3, sa.beq, p1, p3⟩
    obtain ⟨pl, ul, kl, ql, a1, a2, a3, a4, a5, a6⟩ := row (j := A.length - 1) (by omega)
    by_cases hz : reA A (A.length - 1) 0 = 0
    · have dz : decide ((reA A (A.length - 1) 0).num = 0) = true := decide_eq_true (Rat.num_eq_zero.2 hz)
      simp (disch := omega) only [f35_r2, f35_r3, f35_rs, Option.some.injEq, exists_eq_left', Nat.reduceEqDiff, ↓reduceIte, Bool.false_eq_true, Bool.not_true, Bool.not_false, el, ei, a1, a2, a5, a6, dz, bz]
      exact ⟨g1, .inr ⟨fun e => e _ (by omega) hz, trivial⟩⟩
    · have dz : decide ((reA A (A.length - 1) 0).num = 0) = false := decide_eq_false (fun e => hz (Rat.num_eq_zero.1 e))
      have ok : RtOk A := fun j hj => by
        by_cases e : j = A.length - 1
        · subst e; exact hz
        · exact nz j (by omega)
      simp (disch := omega) only [f35_r2, f35_r4, f35_r5, Nat.reduceEqDiff, ↓reduceIte, Bool.false_eq_true, Bool.not_true, Bool.not_false, el, ei, a1, a2, a5, a6, dz, bz]
      refine W_loop (f35_I A h1 o) (fun t => A.length - t) ?_ 0 ⟨by omega, rfl, by simp (disch := omega) only [getK_set, Nat.reduceEqDiff, ↓reduceIte, and_self, Int.natCast_zero, Int.natCast_one, sgc, Nat.zero_add]⟩
      clear a1 a2 a3 a4 a5 a6
      rintro t fr h2 ⟨ht, rfl, g4, g6, g7⟩
      unfold f35_l0
      by_cases hlt : t + 1 < A.length
      · have d1 : decide (((t + 1 : Nat) : Int) < (A.length : Int)) = true := decide_eq_true (by omega)
        have e4 : fw .i64 (((t + 1 : Nat) : Int) + 1) = ((t + 1 + 1 : Nat) : Int) := by rw [fw64 (by omega) (by omega)]; rfl
        have hs := sgc_le (L := rwsL A A.length) (i := t)
        have e5 : fw .i64 ((sgc (rwsL A A.length) t : Int) + 1) = ((sgc (rwsL A A.length) t + 1 : Nat) : Int) := by rw [fw64 (by omega) (by omega)]; rfl
        have e6 : fw .i64 (((t + 1 : Nat) : Int) - 1) = (t : Int) := by rw [fw64 (by omega) (by omega)]; omega
        obtain ⟨pa, ua, ka, qa, a1, a2, a3, a4, a5, a6⟩ := row (j := t + 1) hlt
        obtain ⟨pb, ub, kb, qb, b1, b2, b3, b4, b5, b6⟩ := row (j := t) (by omega)
        have hss : sgc (rwsL A A.length) (t + 1) = sgc (rwsL A A.length) t + (if decide ((((rwsL A A.length).getD (t + 1) fun _ => 0) 0).num < 0) = decide ((((rwsL A A.length).getD t fun _ => 0) 0).num < 0) then 0 else 1) := rfl
        rw [rws_at hlt, rws_at (by omega)] at hss
        have bo := so.out.beq
        have kq := keq_bb (x := decide ((reA A (t + 1) 0).num < 0)) (y := decide ((reA A t 0).num < 0))
        by_cases hsg : decide ((reA A (t + 1) 0).num < 0) = decide ((reA A t 0).num < 0)
        · rw [if_pos hsg] at hss
          rw [decide_eq_true hsg] at kq
          simp (disch := omega) only [f35_r6, f35_r7, f35_r9, Nat.reduceEqDiff, ↓reduceIte, Bool.false_eq_true, Bool.not_true, g4, g7, el, d1, e6, a1, a2, a5, a6, b1, b2, b5, b6, kq, cond_true, e4, bz]
          exact ⟨t + 1, by omega, by omega, rfl, by simp (disch := omega) only [getK_set, Nat.reduceEqDiff, ↓reduceIte, g4, g6, hss, Nat.add_zero, and_self]⟩
        · rw [if_neg hsg] at hss
          rw [decide_eq_false hsg] at kq
          simp (disch := omega) only [f35_r6, f35_r7, f35_r8, f35_r9, Nat.reduceEqDiff, ↓reduceIte, Bool.not_false, g4, g6, g7, el, d1, e6, a1, a2, a5, a6, b1, b2, b5, b6, kq, cond_true, e4, e5, bz]
          exact ⟨t + 1, by omega, by omega, rfl, by simp (disch := omega) only [getK_set, Nat.reduceEqDiff, ↓reduceIte, g4, hss, and_self]⟩
      · have d1 : decide (((t + 1 : Nat) : Int) < (A.length : Int)) = false := decide_eq_false (by omega)
        obtain rfl : t = A.length - 1 := by omega
        simp (disch := omega) only [f35_r6, f35_r10, f35_rs, Option.some.injEq, exists_eq_left', Nat.reduceEqDiff, ↓reduceIte, Bool.false_eq_true, g4, g6, g7, el, d1, bz]
        exact ⟨g1, .inl ⟨ok, trivial⟩⟩
  · simp (disch := omega) only [f35_r2, f35_r3, f35_rs, Option.some.injEq, exists_eq_left', Nat.reduceEqDiff, ↓reduceIte, Bool.false_eq_true, Bool.not_true, Bool.not_false, bz]
    exact ⟨g1, .inr ⟨fun e => e j (by omega) hz, trivial⟩⟩
end
end Go.Ev
namespace Go.Ev
open Go Go.RowKit
def Fr' (q : Rat) (M N : Nat) : Prop := q.num.natAbs ≤ M ∧ q.den ≤ N
theorem div_le {a b : Int} (hb : b ≠ 0) : (Rat.divInt a b).num.natAbs ≤ a.natAbs ∧ (Rat.divInt a b).den ≤ b.natAbs := by
  obtain ⟨h1, h2⟩ := fr_div (a := a) hb
  constructor
  · rw [h1, Int.natAbs_tdiv]; exact Nat.div_le_self _ _
  · have : ((Rat.divInt a b).den : Int).natAbs ≤ b.natAbs := by rw [h2, Int.natAbs_tdiv]; exact Nat.div_le_self _ _
    simpa using this
theorem Fr'.mul {p q : Rat} {M N M' N' : Nat} (h : Fr' p M N) (h' : Fr' q M' N') : Fr' (p * q) (M * M') (N * N') := by
  have e := div_le (a := p.num * q.num) (b := (p.den : Int) * (q.den : Int)) (fun e => by rcases Int.mul_eq_zero.1 e with h | h; exact rat_den h; exact rat_den h)
  rw [rat_mul, Int.natAbs_mul, Int.natAbs_mul] at e
  exact ⟨Nat.le_trans e.1 (Nat.mul_le_mul h.1 h'.1), Nat.le_trans e.2 (by simpa using Nat.mul_le_mul h.2 h'.2)⟩
theorem Fr'.div {p q : Rat} {M N M' N' : Nat} (h : Fr' p M N) (h' : Fr' q M' N') (hq : q.num ≠ 0) : Fr' (p / q) (M * N') (N * M') := by
  have e := div_le (a := p.num * (q.den : Int)) (b := (p.den : Int) * q.num) (fun e => by rcases Int.mul_eq_zero.1 e with h | h; exact rat_den h; exact hq h)
  rw [rat_div, Int.natAbs_mul, Int.natAbs_mul] at e
  exact ⟨Nat.le_trans e.1 (by simpa using Nat.mul_le_mul h.1 h'.2), Nat.le_trans e.2 (by simpa using Nat.mul_le_mul h.2 h'.1)⟩
theorem Fr'.inv {q : Rat} {M N : Nat} (h : Fr' q M N) (hq : q.num ≠ 0) : Fr' q⁻¹ N M := by
  obtain ⟨h1, h2⟩ := inv_frac hq
  constructor
  · rw [h1]; split
    · have := h.2; omega
    · have := h.2; omega
  · have : (q⁻¹.den : Int).natAbs ≤ M := by rw [h2]; split <;> (have := h.1; omega)
    simpa using this
theorem Fr'.int {a : Int} {M : Nat} (h : a.natAbs ≤ M) : Fr' (a : Rat) M 1 := ⟨by simpa using h, by simp⟩
theorem Fr'.of {a b : Int} {q : Rat} {M N : Nat} (hq : q = Rat.divInt a b) (hb : b ≠ 0) (ha : a.natAbs ≤ M) (hb' : b.natAbs ≤ N) : Fr' q M N := by
  subst hq
  obtain ⟨h1, h2⟩ := div_le (a := a) hb
  exact ⟨Nat.le_trans h1 ha, Nat.le_trans h2 hb'⟩
theorem nm {a b : Int} {M N : Nat} (ha : a.natAbs ≤ M) (hb : b.natAbs ≤ N) : (a * b).natAbs ≤ M * N := by rw [Int.natAbs_mul]; exact Nat.mul_le_mul ha hb
theorem nsub {a b : Int} {M N : Nat} (ha : a.natAbs ≤ M) (hb : b.natAbs ≤ N) : (a - b).natAbs ≤ M + N := by omega
theorem nadd {a b : Int} {M N : Nat} (ha : a.natAbs ≤ M) (hb : b.natAbs ≤ N) : (a + b).natAbs ≤ M + N := by omega
theorem nden {q : Rat} {N : Nat} (h : q.den ≤ N) : (q.den : Int).natAbs ≤ N := by simpa using h
theorem stp_of {B C : Nat → Rat} {M N M0 N0 M1 N1 M2 N2 : Nat} (nz : (C 0).num ≠ 0) (hC : ∀ j, j < 3 → Fr' (C (j + 1)) M N) (hB0 : Fr' (B 0) M0 N0) (hC0 : Fr' (C 0) M1 N1) (hB : ∀ j, j < 3 → Fr' (B (j + 1)) M2 N2)
    (k1 : M * M0 ≤ M63) (k2 : N * N0 ≤ M63) (k3 : M * M0 * N1 ≤ M63) (k4 : N * N0 * M1 ≤ M63) (k5 : M2 * (N * N0 * M1) + M * M0 * N1 * N2 ≤ M63) (k6 : N2 * (N * N0 * M1) ≤ M63) : StpB B C := by
  have hm := fun j hj => (hC j hj).mul hB0
  have hd := fun j hj => (hm j hj).div hC0 nz
  exact ⟨nz, fun j hj => Nat.le_trans (nm (hC j hj).1 hB0.1) k1, fun j hj => Nat.le_trans (nm (nden (hC j hj).2) (nden hB0.2)) k2,
    fun j hj => Nat.le_trans (nm (hm j hj).1 (nden hC0.2)) k3, fun j hj => Nat.le_trans (nm (nden (hm j hj).2) hC0.1) k4,
    fun j hj => Nat.le_trans (nsub (nm (hB j hj).1 (nden (hd j hj).2)) (nm (hd j hj).1 (nden (hB j hj).2))) k5,
    fun j hj => Nat.le_trans (nm (nden (hB j hj).2) (nden (hd j hj).2)) k6,
    fun j hj => Nat.le_trans (nm (hB j hj).1 (nden (hd j hj).2)) (by omega),
    fun j hj => Nat.le_trans (nm (hd j hj).1 (nden (hB j hj).2)) (by omega)⟩
theorem ed_le {a g : Int} {M : Nat} (ha : a.natAbs ≤ M) (hg : g ∣ a) : (a / g).natAbs ≤ M := by
  rw [← Int.tdiv_eq_ediv_of_dvd hg, Int.natAbs_tdiv]; exact Nat.le_trans (Nat.div_le_self _ _) ha
theorem mlb_of {p q : Rat} {M N M' N' : Nat} (h : Fr' p M N) (h' : Fr' q M' N') (k1 : M ≤ M63) (k2 : N ≤ M63) (k3 : M' ≤ M63) (k4 : N' ≤ M63) (k5 : M * M' ≤ M63) (k6 : N * N' ≤ M63) : MlB p q :=
  ⟨Nat.le_trans h.1 k1, Nat.le_trans (nden h.2) k2, Nat.le_trans h'.1 k3, Nat.le_trans (nden h'.2) k4, Nat.le_trans (nm (ed_le h.1 gL) (ed_le h'.1 gL)) k5, Nat.le_trans (nm (ed_le (nden h.2) gR) (ed_le (nden h'.2) gR)) k6⟩
theorem adb_of {p q : Rat} {M N M' N' : Nat} (h : Fr' p M N) (h' : Fr' q M' N') (k2 : N ≤ M63) (k4 : N' ≤ M63) (k5 : M * N' + M' * N ≤ M63) (k6 : N * N' ≤ M63) : AdB p q :=
  ⟨Nat.le_trans (nden h.2) k2, Nat.le_trans (nden h'.2) k4, Nat.le_trans (nadd (nm h.1 (ed_le (nden h'.2) gR)) (nm h'.1 (ed_le (nden h.2) gL))) k5, Nat.le_trans (nm (ed_le (nden h.2) gL) (nden h'.2)) k6, Nat.le_trans (nm h.1 (ed_le (nden h'.2) gR)) (by omega), Nat.le_trans (nm h'.1 (ed_le (nden h.2) gL)) (by omega)⟩
end Go.Ev
namespace Go.Ev
open Go Go.RowKit
end Go.Ev
namespace Go.Ev
open Go Go.RowKit
noncomputable def f25_r0 : List EOper := [oG 2 (.as (.c .sn))]
noncomputable def f25_r1 : List EOper := [oG 3 (.as (.c .sn))]
noncomputable def f25_r2 : List EOper := [oG 4 (.as (cG 0))]
noncomputable def f25_r3 : List EOper := [oG 5 (.mv (tG 4)), oG 6 (.mv (tG 0)), oG 7 (.len (tG 6)), oG 8 (.bin .lss (tG 5) (tG 7)), oG 9 (.mv (tG 8)), gG 10 9 true (.mv (tG 4)), gG 11 9 true (.bin .lss (tG 10) (cG 6)), oG 12 (.pick (tG 9) (tG 11) (.c (.b false)))]
noncomputable def f25_r4 : List EOper := [oG 15 (.mv (tG 3)), oG 16 (.mv (tG 0)), oG 17 (.mv (tG 4)), oG 18 (.iads 1 (tG 16) (tG 17)), oG 19 (.ld (tG 18)), oG 20 (.conv .u64 (tG 19)), oG 21 (.bin .rem (tG 20) (.c (.i .u64 (.ofNat 61)))), oG 22 (.conv .i64 (tG 21)), oG 23 (.bin .sub (tG 22) (cG 30)), oG 24 (.bslice 1 1 [(.i .i64 (.ofNat 0))] [(0, 1, (tG 23))]), oG 25 (.app 1 (tG 15) (tG 24)), oG 3 (.as (tG 25))]
noncomputable def f25_r5 : List EOper := [oG 13 (.mv (tG 4)), oG 14 (.bin .add (tG 13) (cG 1)), oG 4 (.as (tG 14))]
noncomputable def f25_l0 : EC := (.seq (.seq (.reg f25_r3) (.cond (tG 12) .skip (.exit 0))) (.seq (.block 1 (.reg f25_r4)) (.reg f25_r5)))
noncomputable def f25_r6 : List EOper := [oG 26 (.mv (tG 3)), oG 27 (.len (tG 26)), oG 28 (.bin .eql (tG 27) (cG 0)), oG 29 (.mv (tG 28)), gG 30 29 false (.mv (tG 3)), gG 31 29 false (.mv (tG 3)), gG 32 29 false (.len (tG 31)), gG 33 29 false (.bin .sub (tG 32) (cG 1)), gG 34 29 false (.iads 1 (tG 30) (tG 33)), gG 35 29 false (.ld (tG 34)), gG 36 29 false (.bin .eql (tG 35) (cG 0)), oG 37 (.pick (tG 29) (.c (.b true)) (tG 36))]
noncomputable def f25_r7 : List EOper := [oG 38 (.mv (tG 3)), oG 39 (.bslice 1 1 [(.i .i64 (.ofNat 0))] [(0, 1, (cG 1))]), oG 40 (.app 1 (tG 38) (tG 39)), oG 3 (.as (tG 40))]
noncomputable def f25_r8 : List EOper := [oG 41 (.mv (tG 3)), oG 42 (.mv (tG 3)), oG 43 (.len (tG 42)), oG 44 (.bin .sub (tG 43) (cG 6)), oG 45 (.max (cG 0) (tG 44)), oG 46 (.slice 1 (tG 41) (some (tG 45)) none none), oG 2 (.as (tG 46))]
noncomputable def f25_c : EC := (.seq (.reg f25_r0) (.seq (.reg f25_r1) (.seq (.seq (.reg f25_r2) (.block 0 (.loop f25_l0))) (.seq (.seq (.reg f25_r6) (.cond (tG 37) (.reg f25_r7) .skip)) (.seq (.reg f25_r8) .ret)))))
noncomputable def f25 : EF := ⟨47, [.tmp (.ofNat 2)], f25_c, none⟩
theorem f25_rs : f25.rs = [.tmp (.ofNat 2)] := of_eq_true (eq_self _)
section
variable {fs : T EF} {h : H} {v w : V} {A B L M : List Int}
def f25_I (h : H) (v : V) (L : List Int) (j : Nat) (fr : Fr) (h1 : H) : Prop := j ≤ L.length ∧ j ≤ 6 ∧ Grow h.nx.nat h h1 ∧ ∃ u T, Sl iE h1 u T ∧ Own h.nx.nat u ∧ T.length = j ∧ T.any bigB = false ∧ fr.get (K.ofNat 0) = some (v) ∧ fr.get (K.ofNat 3) = some (u) ∧ fr.get (K.ofNat 4) = some (.i .i64 (j : Int))
theorem any_snoc' {T : List Int} {x : Int} (h1 : T.any bigB = false) (hx : -30 ≤ x ∧ x ≤ 30) : (T ++ [x]).any bigB = false := by
  rw [List.any_append, h1]
  unfold bigB
  simp; omega
theorem f25_end {T : List Int} (hs : T.any bigB = false) (hl : 1 ≤ T.length ∧ T.length ≤ 7) (hn : T.getD (T.length - 1) 0 ≠ 0) : plB (T.drop (T.length - 6)) = true := by
  have hlen : (T.drop (T.length - 6)).length = T.length - (T.length - 6) := by simp
  unfold plB smB
  rw [decide_eq_true (show 1 ≤ (T.drop (T.length - 6)).length by omega), decide_eq_true (show (T.drop (T.length - 6)).length ≤ 6 by omega)]
  have h1 : (T.drop (T.length - 6)).any bigB = false := by
    rw [List.any_eq_false] at hs ⊢
    exact fun x hx => hs x (List.mem_of_mem_drop hx)
  have h2 : (T.drop (T.length - 6)).getD ((T.drop (T.length - 6)).length - 1) 0 = T.getD (T.length - 1) 0 := by
    rw [getD_lt (by omega), getD_lt (by omega), List.getElem_drop]
    congr 1; omega
  rw [h1, h2, decide_eq_true hn]; rfl
theorem f25_ret (hv : Sr iE h v L) (hc : HC h) : Ret fs f25 [v] h fun r h' => ∃ T, Sl iE h' r T ∧ Own h.nx.nat r ∧ plB T = true ∧ Grow h.nx.nat h h' := by
  apply ret_of rfl
  show W fs none f25_c _ _ _
  unfold f25_c
  simp (disch := omega) only [f25_r0, f25_r1, f25_r2, bz]
  refine W_loop (f25_I h v L) (fun j => 6 - j) ?_ 0 ⟨by omega, by omega, Grow.refl _ _, .sn, [], Sl.nil, Own.sn, rfl, rfl, by simp (disch := omega) only [getK_set, Nat.reduceEqDiff, ↓reduceIte, and_self, Int.natCast_zero]⟩
  rintro j fr h1 ⟨hj, hj6, hG, u, T, hs, ho, hT, hsm, g0, g3, g4⟩
  have hc1 := hG.hc hc
  have hv1 := hv.grow hc hG
  have e1 := hv1.len
  unfold f25_l0
  -- behind the loop
  have out : ∀ fr : Fr, fr.get (K.ofNat 3) = some u → W fs none (.seq (.seq (.reg f25_r6) (.cond (.t (K.ofNat 37)) (.reg f25_r7) .skip)) (.seq (.reg f25_r8) .ret)) (retK f25 fun r h' => ∃ T, Sl iE h' r T ∧ Own h.nx.nat r ∧ plB T = true ∧ Grow h.nx.nat h h') fr h1 := by
    clear g0 g3 g4 fr
    intro fr g3
    have fin : ∀ (fr : Fr) (u' : V) (T' : List Int) (h2 : H), fr.get (K.ofNat 3) = some u' → Sl iE h2 u' T' → Own h.nx.nat u' → Grow h.nx.nat h h2 → T'.any bigB = false → (1 ≤ T'.length ∧ T'.length ≤ 7) → T'.getD (T'.length - 1) 0 ≠ 0 → W fs none (.seq (.reg f25_r8) .ret) (retK f25 fun r h' => ∃ T, Sl iE h' r T ∧ Own h.nx.nat r ∧ plB T = true ∧ Grow h.nx.nat h h') fr h2 := by
      intro fr u' T' h2 g3 hs' ho' hG' hsm' hl hn
      have em : max (0 : Int) ((T'.length : Int) - 6) = ((T'.length - 6 : Nat) : Int) := by omega
      obtain ⟨x, x1, x2, x3, _⟩ := hs'.cut (lo := some (.i .i64 ((T'.length - 6 : Nat) : Int))) (hi := none) (l := T'.length - 6) (u := T'.length) bnd_i bnd_none (by omega) (Nat.le_refl _)
      rw [List.take_length] at x2
      simp (disch := omega) only [f25_r8, f25_rs, x_slice, sliceV_eq, Option.map_none, Option.map_some, x_max, max_ii, Option.some.injEq, exists_eq_left', Nat.reduceEqDiff, ↓reduceIte, g3, hs'.len, fw64, em, x1, bz]
      exact ⟨_, x2, x3 _ ho', f25_end hsm' hl hn, hG'⟩
    by_cases h0 : T.length = 0
    · have d1 : decide ((T.length : Int) = 0) = true := decide_eq_true (by omega)
      obtain ⟨u', h2, a1, a2, a3, a4, _⟩ := Sl.push (e := iE) (x := 1) (c := .i .i64 1) rfl hs ho hG.nx hc1 (by omega)
      simp (disch := omega) only [f25_r6, f25_r7, fill_1, set_1, Nat.reduceEqDiff, ↓reduceIte, Bool.false_eq_true, Bool.not_true, g3, hs.len, d1, a1, bz]
      have hT0 : T = [] := List.eq_nil_of_length_eq_zero h0
      subst hT0
      exact fin _ u' _ h2 (by simp (disch := omega) only [getK_set, ↓reduceIte]) a2 a3 (hG.trans a4) (any_snoc' hsm (by omega)) (by simp) (by simp)
    · have d1 : decide ((T.length : Int) = 0) = false := decide_eq_false (by omega)
      have ei : (T.length : Int) - 1 = ((T.length - 1 : Nat) : Int) := by omega
      obtain ⟨p, p1, p2⟩ := hs.at (T.length - 1) (by omega)
      have p2 : loadV h1 p one? = .ok (.i .i64 (T.getD (T.length - 1) 0)) h1 := by rw [getD_lt (by omega)]; exact p2
      by_cases hz : T.getD (T.length - 1) 0 = 0
      · have d2 : decide (T.getD (T.length - 1) 0 = 0) = true := decide_eq_true hz
        obtain ⟨u', h2, a1, a2, a3, a4, _⟩ := Sl.push (e := iE) (x := 1) (c := .i .i64 1) rfl hs ho hG.nx hc1 (by omega)
        simp (disch := omega) only [f25_r6, f25_r7, fill_1, set_1, Nat.reduceEqDiff, ↓reduceIte, Bool.false_eq_true, Bool.not_false, g3, hs.len, d1, ei, fw64, p1, p2, d2, a1, bz]
        exact fin _ u' _ h2 (by simp (disch := omega) only [getK_set, ↓reduceIte]) a2 a3 (hG.trans a4) (any_snoc' hsm (by omega)) (by simp; omega) (by rw [getD_lt (by simp)]; simp)
      · have d2 : decide (T.getD (T.length - 1) 0 = 0) = false := decide_eq_false hz
        simp (disch := omega) only [f25_r6, Nat.reduceEqDiff, ↓reduceIte, Bool.false_eq_true, Bool.not_false, g3, hs.len, d1, ei, fw64, p1, p2, d2, bz]
        exact fin _ u _ h1 (by simp (disch := omega) only [getK_set, Nat.reduceEqDiff, ↓reduceIte, g3]) hs ho hG hsm (by omega) hz
  by_cases hlt : j < L.length
  · have d1 : decide ((j : Int) < (L.length : Int)) = true := decide_eq_true (by omega)
    by_cases h6 : j < 6
    · have d2 : decide ((j : Int) < 6) = true := decide_eq_true (by omega)
      obtain ⟨p, p1, p2⟩ := hv1.at j hlt
      have p2 : loadV h1 p one? = .ok (.i .i64 L[j]) h1 := p2
      have hb := t61_bd L[j]
      have et : fw .i64 (fw .i64 ((fw .u64 L[j]).tmod 61) - 30) = t61 L[j] := by
        rw [show ∀ x : Int, fw .i64 x - 30 = fw .i64 x + (-30) from fun x => rfl, fwA]
        exact fw64 (a := t61 L[j]) (by omega) (by omega)
      obtain ⟨u', h2, a1, a2, a3, a4, _⟩ := Sl.push (e := iE) (x := t61 L[j]) (c := .i .i64 (t61 L[j])) rfl hs ho hG.nx hc1 (by omega)
      have d3 : decide ((61 : Int) = 0) = false := rfl
      have e4 : fw .i64 ((j : Int) + 1) = ((j + 1 : Nat) : Int) := by rw [fw64 (by omega) (by omega)]; rfl
      simp (disch := omega) only [f25_r3, f25_r4, f25_r5, x_conv, bin_rem, onI_i, fill_1, set_1, Nat.reduceEqDiff, ↓reduceIte, of30, of61, g0, g3, g4, e1, d1, d2, of30, p1, p2, et, a1, e4, bz]
      exact ⟨j + 1, by omega, by omega, by omega, hG.trans a4, u', _, a2, a3, by simp [hT], any_snoc' hsm hb, by simp (disch := omega) only [getK_set, Nat.reduceEqDiff, ↓reduceIte, g0, and_self]⟩
    · have d2 : decide ((j : Int) < 6) = false := decide_eq_false (by omega)
      simp (disch := omega) only [f25_r3, Nat.reduceEqDiff, ↓reduceIte, Bool.false_eq_true, g0, g4, e1, d1, d2, bz]
      exact out _ (by simp (disch := omega) only [getK_set, Nat.reduceEqDiff, ↓reduceIte, g3])
  · have d1 : decide ((j : Int) < (L.length : Int)) = false := decide_eq_false (by omega)
    simp (disch := omega) only [f25_r3, Nat.reduceEqDiff, ↓reduceIte, Bool.false_eq_true, g0, g4, e1, d1, bz]
    exact out _ (by simp (disch := omega) only [getK_set, Nat.reduceEqDiff, ↓reduceIte, g3])
end
end Go.Ev
namespace Go.Ev
open Go Go.RowKit
section
variable {A : List Int}
def cA0 (A : List Int) (j : Nat) : Int := if j < (A.length + 1) / 2 then A.getD (A.length - 1 - 2 * j) 0 else 0
def cA1 (A : List Int) (j : Nat) : Int := if j < A.length / 2 then A.getD (A.length - 2 - 2 * j) 0 else 0
theorem cA0_le (hs : smB A = true) {j : Nat} : (cA0 A j).natAbs ≤ 30 := by
  unfold cA0; split
  · exact sm_nat (sm_at hs _)
  · decide
theorem cA1_le (hs : smB A = true) {j : Nat} : (cA1 A j).natAbs ≤ 30 := by
  unfold cA1; split
  · exact sm_nat (sm_at hs _)
  · decide
theorem dn_at {k t j : Nat} : (dnL A k t).getD j 0 = ((if j < t then A.getD (k - 2 * j) 0 else 0 : Int) : Rat) := by
  by_cases h : j < t
  · rw [if_pos h, List.getD_eq_getElem?_getD, List.getElem?_eq_getElem (by rw [dnL_len]; exact h)]
    simp [dnL]
  · rw [if_neg h, List.getD_eq_getElem?_getD, List.getElem?_eq_none (by rw [dnL_len]; omega)]; rfl
theorem re0 {j : Nat} : reA A 0 j = (cA0 A j : Rat) := dn_at
theorem bf0_0 : (dTop A).bf 0 = 0 := rfl
theorem bf0_s {j : Nat} : (dTop A).bf (j + 1) = (cA1 A j : Rat) := by
  show (((0 : Rat) :: dnL A (A.length - 2) (A.length / 2)).getD (j + 1) 0) = _
  rw [List.getD_cons_succ]
  exact dn_at
theorem reS {i j : Nat} : reA A (i + 2) j = if j < 3 then reA A i (j + 1) - reA A (i + 1) (j + 1) * reA A i 0 / reA A (i + 1) 0 else 0 := rfl
theorem re1 (hA : A.length ≤ 6) {j : Nat} : reA A 1 j = (cA1 A j : Rat) := by
  show (if j < 3 then (dTop A).bf (j + 1) - reA A 0 (j + 1) * (dTop A).bf 0 / reA A 0 0 else 0) = _
  rw [bf0_s, bf0_0]
  by_cases h : j < 3
  · rw [if_pos h]; grind
  · rw [if_neg h]
    unfold cA1; rw [if_neg (by omega)]; rfl
def nA2 (A : List Int) (j : Nat) : Int := cA0 A (j + 1) * cA1 A 0 - cA1 A (j + 1) * cA0 A 0
def nA3 (A : List Int) (j : Nat) : Int := cA1 A (j + 1) * nA2 A 0 - nA2 A (j + 1) * cA1 A 0
def nA4 (A : List Int) (j : Nat) : Int := nA2 A (j + 1) * nA3 A 0 - nA3 A (j + 1) * nA2 A 0
theorem nA2_le (hs : smB A = true) {j : Nat} : (nA2 A j).natAbs ≤ 1800 := nsub (nm (cA0_le hs) (cA1_le hs)) (nm (cA1_le hs) (cA0_le hs))
theorem nA3_le (hs : smB A = true) {j : Nat} : (nA3 A j).natAbs ≤ 108000 := nsub (nm (cA1_le hs) (nA2_le hs)) (nm (nA2_le hs) (cA1_le hs))
theorem nA4_le (hs : smB A = true) {j : Nat} : (nA4 A j).natAbs ≤ 388800000 := nsub (nm (nA2_le hs) (nA3_le hs)) (nm (nA3_le hs) (nA2_le hs))
theorem cA_far (hA : A.length ≤ 6) {j : Nat} (hj : 3 ≤ j) : cA0 A j = 0 ∧ cA1 A j = 0 := by
  unfold cA0 cA1
  rw [if_neg (by omega), if_neg (by omega)]
  exact ⟨rfl, rfl⟩
theorem nA2_far (hA : A.length ≤ 6) {j : Nat} (hj : 2 ≤ j) : nA2 A j = 0 := by
  obtain ⟨h1, h2⟩ := cA_far hA (j := j + 1) (by omega)
  unfold nA2; rw [h1, h2]; simp
theorem nA3_far (hA : A.length ≤ 6) {j : Nat} (hj : 2 ≤ j) : nA3 A j = 0 := by
  obtain ⟨_, h2⟩ := cA_far hA (j := j + 1) (by omega)
  unfold nA3; rw [h2, nA2_far hA (j := j + 1) (by omega)]; simp
theorem nA4_far (hA : A.length ≤ 6) {j : Nat} (hj : 1 ≤ j) : nA4 A j = 0 := by
  unfold nA4; rw [nA2_far hA (j := j + 1) (by omega), nA3_far hA (j := j + 1) (by omega)]; simp
theorem re2 (hA : A.length ≤ 6) (h1 : (cA1 A 0 : Rat) ≠ 0) {j : Nat} : reA A 2 j = (nA2 A j : Rat) / (cA1 A 0 : Rat) := by
  rw [reS, re0, re0, re1 hA, re1 hA]
  by_cases h : j < 3
  · rw [if_pos h]
    have : (nA2 A j : Rat) = (cA0 A (j + 1) : Rat) * (cA1 A 0 : Rat) - (cA1 A (j + 1) : Rat) * (cA0 A 0 : Rat) := by unfold nA2; rw [Rat.intCast_sub, Rat.intCast_mul, Rat.intCast_mul]
    rw [this]; grind
  · rw [if_neg h, nA2_far hA (by omega)]; grind
theorem re3 (hA : A.length ≤ 6) (h1 : (cA1 A 0 : Rat) ≠ 0) (h2 : (nA2 A 0 : Rat) ≠ 0) {j : Nat} : reA A 3 j = (nA3 A j : Rat) / (nA2 A 0 : Rat) := by
  rw [reS, re1 hA, re1 hA, re2 hA h1, re2 hA h1]
  by_cases h : j < 3
  · rw [if_pos h]
    have : (nA3 A j : Rat) = (cA1 A (j + 1) : Rat) * (nA2 A 0 : Rat) - (nA2 A (j + 1) : Rat) * (cA1 A 0 : Rat) := by unfold nA3; rw [Rat.intCast_sub, Rat.intCast_mul, Rat.intCast_mul]
    rw [this]; grind
  · rw [if_neg h, nA3_far hA (by omega)]; grind
theorem re4 (hA : A.length ≤ 6) (h1 : (cA1 A 0 : Rat) ≠ 0) (h2 : (nA2 A 0 : Rat) ≠ 0) (h3 : (nA3 A 0 : Rat) ≠ 0) {j : Nat} : reA A 4 j = (nA4 A j : Rat) / ((cA1 A 0 * nA3 A 0 : Int) : Rat) := by
  rw [reS, re2 hA h1, re2 hA h1, re3 hA h1 h2, re3 hA h1 h2, Rat.intCast_mul]
  by_cases h : j < 3
  · rw [if_pos h]
    have : (nA4 A j : Rat) = (nA2 A (j + 1) : Rat) * (nA3 A 0 : Rat) - (nA3 A (j + 1) : Rat) * (nA2 A 0 : Rat) := by unfold nA4; rw [Rat.intCast_sub, Rat.intCast_mul, Rat.intCast_mul]
    rw [this]; grind
  · rw [if_neg h, nA4_far hA (by omega)]; grind
theorem re5 (hA : A.length ≤ 6) (h1 : (cA1 A 0 : Rat) ≠ 0) (h2 : (nA2 A 0 : Rat) ≠ 0) (h3 : (nA3 A 0 : Rat) ≠ 0) {j : Nat} (hj : j < 3) : reA A 5 j = reA A 3 (j + 1) := by
  rw [reS, re4 hA h1 h2 h3, nA4_far hA (j := j + 1) (by omega), if_pos hj]; grind
theorem re_far (hA : A.length ≤ 6) : ∀ {i j : Nat}, i < A.length → rwN A i ≤ j → reA A i j = 0
  | 0, j, hi, hj => by
    rw [re0]; unfold cA0; unfold rwN at hj; rw [if_neg (by omega)]; rfl
  | 1, j, hi, hj => by
    rw [re1 hA]; unfold cA1; unfold rwN at hj; rw [if_neg (by omega)]; rfl
  | i + 2, j, hi, hj => by
    rw [reS]
    have a := re_far hA (i := i) (j := j + 1) (by omega) (by unfold rwN at hj ⊢; omega)
    have b := re_far hA (i := i + 1) (j := j + 1) (by omega) (by unfold rwN at hj ⊢; omega)
    rw [a, b]; split <;> grind
theorem idiv {a b : Int} : (a : Rat) / (b : Rat) = Rat.divInt a b := (Rat.divInt_eq_div a b).symm
theorem ic_ne {a : Int} (h : (a : Rat) ≠ 0) : a ≠ 0 := fun e => h (by rw [e]; rfl)
theorem q_of {q : Rat} {a b : Int} {M N : Nat} (h : q = (a : Rat) / (b : Rat)) (hb : (b : Rat) ≠ 0) (ha : a.natAbs ≤ M) (hb' : b.natAbs ≤ N) : Fr' q M N := Fr'.of (h.trans idiv) (ic_ne hb) ha hb'
theorem q_ne {a b : Rat} (h : a / b ≠ 0) : a ≠ 0 := fun e => h (by rw [e]; grind)
theorem fr0 {M N : Nat} (hN : 1 ≤ N) : Fr' 0 M N := ⟨Nat.zero_le _, hN⟩
structure RwB (A : List Int) : Prop where
  r0 : ∀ j, Fr' (reA A 0 j) 30 1
  r1 : ∀ j, Fr' (reA A 1 j) 30 1
  r2 : reA A 1 0 ≠ 0 → ∀ j, Fr' (reA A 2 j) 1800 30
  r3 : reA A 1 0 ≠ 0 → reA A 2 0 ≠ 0 → ∀ j, Fr' (reA A 3 j) 108000 1800
  r4 : reA A 1 0 ≠ 0 → reA A 2 0 ≠ 0 → reA A 3 0 ≠ 0 → ∀ j, Fr' (reA A 4 j) 388800000 3240000
  z4 : reA A 1 0 ≠ 0 → reA A 2 0 ≠ 0 → reA A 3 0 ≠ 0 → ∀ j, reA A 4 (j + 1) = 0
  r5 : reA A 1 0 ≠ 0 → reA A 2 0 ≠ 0 → reA A 3 0 ≠ 0 → ∀ j, j < 3 → Fr' (reA A 5 j) 108000 1800
theorem rwB (hA : A.length ≤ 6) (hs : smB A = true) : RwB A := by
  have n1 : reA A 1 0 ≠ 0 → (cA1 A 0 : Rat) ≠ 0 := fun h => by rw [re1 hA] at h; exact h
  have n2 : reA A 1 0 ≠ 0 → reA A 2 0 ≠ 0 → (nA2 A 0 : Rat) ≠ 0 := fun h1 h => by rw [re2 hA (n1 h1)] at h; exact q_ne h
  have n3 : reA A 1 0 ≠ 0 → reA A 2 0 ≠ 0 → reA A 3 0 ≠ 0 → (nA3 A 0 : Rat) ≠ 0 := fun h1 h2 h => by rw [re3 hA (n1 h1) (n2 h1 h2)] at h; exact q_ne h
  refine ⟨fun j => by rw [re0]; exact Fr'.int (cA0_le hs), fun j => by rw [re1 hA]; exact Fr'.int (cA1_le hs), fun h1 j => q_of (re2 hA (n1 h1)) (n1 h1) (nA2_le hs) (cA1_le hs), fun h1 h2 j => q_of (re3 hA (n1 h1) (n2 h1 h2)) (n2 h1 h2) (nA3_le hs) (nA2_le hs), fun h1 h2 h3 j => q_of (re4 hA (n1 h1) (n2 h1 h2) (n3 h1 h2 h3)) ?_ (nA4_le hs) (nm (cA1_le hs) (nA3_le hs)), fun h1 h2 h3 j => ?_, fun h1 h2 h3 j hj => ?_⟩
  · have a := n1 h1
    have b := n3 h1 h2 h3
    rw [Rat.intCast_mul]
    exact fun e => by rcases Rat.mul_eq_zero.1 e with e | e; exact a e; exact b e
  · rw [re4 hA (n1 h1) (n2 h1 h2) (n3 h1 h2 h3), nA4_far hA (j := j + 1) (by omega)]; grind
  · rw [re5 hA (n1 h1) (n2 h1 h2) (n3 h1 h2 h3) hj]
    exact q_of (re3 hA (n1 h1) (n2 h1 h2)) (n2 h1 h2) (nA3_le hs) (nA2_le hs)
theorem inR_nat {x : Int} (h : x.natAbs ≤ M63) : inR .i64 x = true := by
  unfold M63 at h
  cases x with
  | ofNat m => exact Nat.ble_eq_true_of_le (show m ≤ 9223372036854775807 by simpa using h)
  | negSucc m => exact Nat.ble_eq_true_of_le (show m + 1 ≤ 9223372036854775808 by simp at h; omega)
theorem num_ne {q : Rat} (h : q ≠ 0) : q.num ≠ 0 := fun e => h (Rat.num_eq_zero.1 e)
theorem tb_b (hA1 : 1 ≤ A.length) (hA : A.length ≤ 6) (hs : smB A = true) : TbB A := by
  have R := rwB hA hs
  constructor
  · intro i hi nz
    have nz : ∀ j, j ≤ i → reA A j 0 ≠ 0 := nz
    show StpB ((dTop A).at i).bf (reA A i)
    match i, hi, nz with
    | 0, _, nz => exact stp_of (M := 30) (N := 1) (M0 := 0) (N0 := 1) (M1 := 30) (N1 := 1) (M2 := 30) (N2 := 1) (num_ne (nz 0 (by omega))) (fun j _ => R.r0 _) ⟨Nat.le_refl _, Nat.le_refl _⟩ (R.r0 _) (fun j _ => by show Fr' ((dTop A).bf (j + 1)) 30 1; rw [bf0_s]; exact Fr'.int (cA1_le hs)) (by decide) (by decide) (by decide) (by decide) (by decide) (by decide)
    | 1, _, nz => exact stp_of (M := 30) (N := 1) (M0 := 30) (N0 := 1) (M1 := 30) (N1 := 1) (M2 := 30) (N2 := 1) (num_ne (nz 1 (by omega))) (fun j _ => R.r1 _) (R.r0 _) (R.r1 _) (fun j _ => R.r0 _) (by decide) (by decide) (by decide) (by decide) (by decide) (by decide)
    | 2, _, nz =>
      have h1 := nz 1 (by omega)
      exact stp_of (M := 1800) (N := 30) (M0 := 30) (N0 := 1) (M1 := 1800) (N1 := 30) (M2 := 30) (N2 := 1) (num_ne (nz 2 (by omega))) (fun j _ => R.r2 h1 _) (R.r1 _) (R.r2 h1 _) (fun j _ => R.r1 _) (by decide) (by decide) (by decide) (by decide) (by decide) (by decide)
    | 3, _, nz =>
      have h1 := nz 1 (by omega)
      have h2 := nz 2 (by omega)
      exact stp_of (M := 108000) (N := 1800) (M0 := 1800) (N0 := 30) (M1 := 108000) (N1 := 1800) (M2 := 1800) (N2 := 30) (num_ne (nz 3 (by omega))) (fun j _ => R.r3 h1 h2 _) (R.r2 h1 _) (R.r3 h1 h2 _) (fun j _ => R.r2 h1 _) (by decide) (by decide) (by decide) (by decide) (by decide) (by decide)
    | 4, _, nz =>
      have h1 := nz 1 (by omega)
      have h2 := nz 2 (by omega)
      have h3 := nz 3 (by omega)
      exact stp_of (M := 0) (N := 1) (M0 := 108000) (N0 := 1800) (M1 := 388800000) (N1 := 3240000) (M2 := 108000) (N2 := 1800) (num_ne (nz 4 (by omega))) (fun j _ => by rw [R.z4 h1 h2 h3]; exact fr0 (Nat.le_refl _)) (R.r3 h1 h2 _) (R.r4 h1 h2 h3 _) (fun j _ => R.r3 h1 h2 _) (by decide) (by decide) (by decide) (by decide) (by decide) (by decide)
    | i + 5, hi, _ => omega
  · intro i hi nz
    have nz : ∀ j, j < i → reA A j 0 ≠ 0 := nz
    show inR .i64 (reA A i 0).num = true ∧ inR .i64 ((reA A i 0).den : Int) = true
    have key : ∀ {q : Rat} {M N : Nat}, Fr' q M N → M ≤ M63 → N ≤ M63 → inR .i64 q.num = true ∧ inR .i64 (q.den : Int) = true := fun h k1 k2 => by
      exact ⟨inR_nat (Nat.le_trans h.1 k1), inR_nat (Nat.le_trans (nden h.2) k2)⟩
    match i, hi, nz with
    | 0, _, _ => exact key (R.r0 0) (by decide) (by decide)
    | 1, _, _ => exact key (R.r1 0) (by decide) (by decide)
    | 2, _, nz => exact key (R.r2 (nz 1 (by omega)) 0) (by decide) (by decide)
    | 3, _, nz => exact key (R.r3 (nz 1 (by omega)) (nz 2 (by omega)) 0) (by decide) (by decide)
    | 4, _, nz => exact key (R.r4 (nz 1 (by omega)) (nz 2 (by omega)) (nz 3 (by omega)) 0) (by decide) (by decide)
    | 5, _, nz => exact key (R.r5 (nz 1 (by omega)) (nz 2 (by omega)) (nz 3 (by omega)) 0 (by omega)) (by decide) (by decide)
    | i + 6, hi, _ => omega
end
end Go.Ev
namespace Go.Ev
open Go Go.RowKit
section
variable {A : List Int}
theorem frm1 : Fr' (-1) 1 1 := ⟨by decide, by decide⟩
theorem row_b {Ru Rl : Nat → Rat} {M N M' N' Ml Nl j : Nat} (hu : ∀ j, Fr' (Ru j) M N) (hl : ∀ j, Fr' (Rl j) Ml Nl) (h0 : (Rl 0).num ≠ 0) (hz : Fr' (Ru 0 * (Rl 0)⁻¹) M' N')
    (k1 : Ml ≤ M63) (k2 : Nl ≤ M63) (k3 : M' ≤ M63) (k4 : N' ≤ M63) (k5 : Ml * M' ≤ M63) (k6 : Nl * N' ≤ M63) (k7 : N ≤ M63) (k8 : M * (Nl * N') + Ml * M' * N ≤ M63) (k9 : N * (Nl * N') ≤ M63) :
    MlB (Rl j) (Ru 0 * (Rl 0)⁻¹) ∧ MlB (-1) (Rl j * (Ru 0 * (Rl 0)⁻¹)) ∧ AdB (Ru j) (-1 * (Rl j * (Ru 0 * (Rl 0)⁻¹))) := by
  have _ := h0
  have y := (hl j).mul hz
  have y1 := frm1.mul y
  rw [Nat.one_mul, Nat.one_mul] at y1
  exact ⟨mlb_of (hl j) hz k1 k2 k3 k4 k5 k6, mlb_of frm1 y (by decide) (by decide) k5 k6 (by omega) (by omega), adb_of (hu j) y1 k7 k6 k8 k9⟩
theorem rf_b (hA1 : 1 ≤ A.length) (hA : A.length ≤ 6) (hs : smB A = true) (hl : A.getD (A.length - 1) 0 ≠ 0) : RfB A := by
  have R := rwB hA hs
  refine ⟨fun i h2 hi nz => ?_, fun i h2 hi nz => ?_, fun i h2 hi nz j j1 j2 j3 => ?_, fun i h2 hi => ?_, fun i h2 hi => ?_, ?_⟩
  · have key : ∀ {q : Rat} {M N : Nat}, Fr' q M N → M ≤ M63 → N ≤ M63 → q.num.natAbs ≤ M63 ∧ (q.den : Int).natAbs ≤ M63 := fun h k1 k2 => ⟨Nat.le_trans h.1 k1, Nat.le_trans (nden h.2) k2⟩
    match i, h2, hi, nz with
    | 2, _, _, _ => exact key (R.r1 0) (by decide) (by decide)
    | 3, _, _, nz => exact key (R.r2 (nz 1 (by omega)) 0) (by decide) (by decide)
    | 4, _, _, nz => exact key (R.r3 (nz 1 (by omega)) (nz 2 (by omega)) 0) (by decide) (by decide)
    | 5, _, _, nz => exact key (R.r4 (nz 1 (by omega)) (nz 2 (by omega)) (nz 3 (by omega)) 0) (by decide) (by decide)
    | i + 6, _, hi, _ => omega
  · match i, h2, hi, nz with
    | 2, _, _, nz => exact mlb_of (R.r0 0) ((R.r1 0).inv (num_ne (nz 1 (by omega)))) (by decide) (by decide) (by decide) (by decide) (by decide) (by decide)
    | 3, _, _, nz => exact mlb_of (R.r1 0) ((R.r2 (nz 1 (by omega)) 0).inv (num_ne (nz 2 (by omega)))) (by decide) (by decide) (by decide) (by decide) (by decide) (by decide)
    | 4, _, _, nz => exact mlb_of (R.r2 (nz 1 (by omega)) 0) ((R.r3 (nz 1 (by omega)) (nz 2 (by omega)) 0).inv (num_ne (nz 3 (by omega)))) (by decide) (by decide) (by decide) (by decide) (by decide) (by decide)
    | 5, _, _, nz => exact mlb_of (R.r3 (nz 1 (by omega)) (nz 2 (by omega)) 0) ((R.r4 (nz 1 (by omega)) (nz 2 (by omega)) (nz 3 (by omega)) 0).inv (num_ne (nz 4 (by omega)))) (by decide) (by decide) (by decide) (by decide) (by decide) (by decide)
    | i + 6, _, hi, _ => omega
  · match i, h2, hi, nz, j1 with
    | 2, _, _, nz, _ => exact row_b (R.r0) (R.r1) (num_ne (nz 1 (by omega))) ((R.r0 0).mul ((R.r1 0).inv (num_ne (nz 1 (by omega))))) (by decide) (by decide) (by decide) (by decide) (by decide) (by decide) (by decide) (by decide) (by decide)
    | 3, _, _, nz, _ => exact row_b (R.r1) (R.r2 (nz 1 (by omega))) (num_ne (nz 2 (by omega))) ((R.r1 0).mul ((R.r2 (nz 1 (by omega)) 0).inv (num_ne (nz 2 (by omega))))) (by decide) (by decide) (by decide) (by decide) (by decide) (by decide) (by decide) (by decide) (by decide)
    | 4, _, _, nz, _ => exact row_b (R.r2 (nz 1 (by omega))) (R.r3 (nz 1 (by omega)) (nz 2 (by omega))) (num_ne (nz 3 (by omega))) ((R.r2 (nz 1 (by omega)) 0).mul ((R.r3 (nz 1 (by omega)) (nz 2 (by omega)) 0).inv (num_ne (nz 3 (by omega))))) (by decide) (by decide) (by decide) (by decide) (by decide) (by decide) (by decide) (by decide) (by decide)
    | 5, _, hi, _, j1 => exact absurd j1 (by unfold rwN; omega)
    | i + 6, _, hi, _, _ => omega
  · have key : ∀ (f : Nat → Rat) (k t m : Nat), t = m → (∀ j, j < t → ((A.getD (k - 2 * j) 0 : Int) : Rat) = f j) → (dnL A k t).map frP = rwL f m := fun f k t m ht hf => by
      subst ht
      unfold dnL rwL
      rw [List.map_map]
      exact List.map_congr_left fun j hj => congrArg frP (hf j (List.mem_range.1 hj))
    match i, h2, hi with
    | 0, _, _ => exact key _ _ _ _ (by unfold rwN; omega) (fun j hj => by rw [re0]; unfold cA0; rw [if_pos (by omega)]; rfl)
    | 1, _, _ => exact key _ _ _ _ (by unfold rwN; omega) (fun j hj => by rw [re1 hA]; unfold cA1; rw [if_pos (by omega)]; congr 2 <;> omega)
  · have hn : rwN A (i - 2) - 1 = rwN A i := by unfold rwN; omega
    rw [hn]
    unfold stL rwL
    refine List.map_congr_left fun t ht => ?_
    have ht := List.mem_range.1 ht
    congr 1
    obtain ⟨i, rfl⟩ : ∃ k, i = k + 2 := ⟨i - 2, by omega⟩
    rw [reS, if_pos (by unfold rwN at ht; omega)]
    show stE (reA A i) (reA A (i + 1)) (reA A i 0 * (reA A (i + 1) 0)⁻¹) (rwN A (i + 1)) (t + 1) = _
    unfold stE
    by_cases h : t + 1 < rwN A (i + 1)
    · rw [if_pos h, Rat.div_def]; grind
    · rw [if_neg h, re_far hA (i := i + 1) (j := t + 1) (by omega) (by omega)]; grind
  · rw [re0]
    unfold cA0
    rw [if_pos (by omega)]
    exact fun e => hl (by exact_mod_cast e)
end
end Go.Ev
