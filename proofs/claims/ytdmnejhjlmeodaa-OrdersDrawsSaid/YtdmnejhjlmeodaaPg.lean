/-
  Orders: the list of a relation's arrows; an order of a graph (oriented)., and what follows.
-/
import Derived.Test.YtdmnejhjlmeodaaPe
import Derived.Test.YtdmnejhjlmeodaaPf
namespace Go.Ev
open Go Go.RowKit
noncomputable def f60_r0 : List EOper := [oG 1 (.box 49 (tG 0)), oG 2 (.alloc 49 (List.replicate 49 (.b false))), oG 3 (.as (.c (.b false)))]
noncomputable def f60_r1 : List EOper := [oG 4 (.as (.c .sn))]
noncomputable def f60_r2 : List EOper := [oG 10 (.ldn 49 (tG 1)), oG 11 (.call (fG 87) [(tG 10)]), oG 9 (.mv (tG 11)), oG 12 (.ext (tG 9) 0), oG 13 (.ext (tG 9) 1), oG 5 (.alloc 2 [(.i .i64 (.ofNat 0)), (.i .i64 (.ofNat 0))]), ⟨none, none, .st 2 (tG 5) (tG 12)⟩, oG 6 (.as (tG 13))]
noncomputable def f60_r3 : List EOper := [oG 14 (.mv (tG 6))]
noncomputable def f60_r4 : List EOper := [oG 20 (.ldn 49 (tG 1)), oG 21 (.ldn 2 (tG 5)), oG 22 (.call (fG 57) [(tG 20), (tG 21)]), oG 7 (.alloc 49 (List.replicate 49 (.b false))), ⟨none, none, .st 49 (tG 7) (tG 22)⟩]
noncomputable def f60_r5 : List EOper := [oG 23 (.ldn 49 (tG 7)), oG 24 (.call (fG 70) [(tG 23)]), oG 8 (.alloc 49 (List.replicate 49 (.b false))), ⟨none, none, .st 49 (tG 8) (tG 24)⟩]
noncomputable def f60_r6 : List EOper := [oG 25 (.ldn 49 (tG 7)), oG 26 (.ldn 49 (tG 8)), oG 27 (.eqk (.many (List.replicate 49 none)) false (tG 25) (tG 26))]
noncomputable def f60_r7 : List EOper := [oG 28 (.build (List.replicate 49 (.b false)) []), ⟨none, none, .st 49 (tG 2) (tG 28)⟩, oG 3 (.as (.c (.b false)))]
noncomputable def f60_r8 : List EOper := [oG 29 (.mv (tG 4)), oG 30 (.ldn 49 (tG 7)), oG 31 (.bslice 1 49 (List.replicate 49 (.b false)) [(0, 49, (tG 30))]), oG 32 (.app 49 (tG 29) (tG 31)), oG 4 (.as (tG 32))]
noncomputable def f60_r9 : List Stage := [⟨[oG 33 (.ldn 49 (tG 1)), oG 34 (.ldn 49 (tG 7)), oG 35 (.ldn 49 (tG 8)), oG 36 (.bslice 2 49 (List.replicate 98 (.b false)) [(0, 49, (tG 34)), (49, 49, (tG 35))])], [], (some (oG 37 (.call (fG 69) [(tG 36)]))), [(.ofNat 36)]⟩, ⟨[], [oG 33 (.ldn 49 (tG 1))], (some (oG 38 (.call (fG 81) [(tG 33), (tG 37)]))), []⟩, ⟨[], [], (some ⟨none, none, .st 49 (tG 1) (tG 38)⟩), []⟩, ⟨[], [], none, []⟩]
noncomputable def f60_r10 : List EOper := [oG 39 (.ldn 2 (tG 5))]
noncomputable def f60_r11 : List EOper := [oG 5 (.alloc 2 [(.i .i64 (.ofNat 0)), (.i .i64 (.ofNat 0))]), ⟨none, none, .st 2 (tG 5) (tG 39)⟩]
noncomputable def f60_r12 : List EOper := [oG 16 (.ldn 49 (tG 1)), oG 17 (.call (fG 87) [(tG 16)]), oG 15 (.mv (tG 17)), oG 18 (.ext (tG 15) 0), oG 19 (.ext (tG 15) 1), ⟨none, none, .st 2 (tG 5) (tG 18)⟩, oG 6 (.as (tG 19))]
noncomputable def f60_l0 : EC := (.seq (.seq (.reg f60_r3) (.cond (tG 14) .skip (.exit 0))) (.seq (.block 1 (.seq (.reg f60_r4) (.seq (.reg f60_r5) (.seq (.seq (.reg f60_r6) (.cond (tG 27) (.seq (.reg f60_r7) .ret) .skip)) (.seq (.reg f60_r8) (.draw f60_r9)))))) (.seq (.seq (.reg f60_r10) (.reg f60_r11)) (.reg f60_r12))))
noncomputable def f60_r13 : List EOper := [oG 40 (.mv (tG 4)), oG 41 (.call (fG 69) [(tG 40)]), ⟨none, none, .st 49 (tG 2) (tG 41)⟩, oG 3 (.as (.c (.b true)))]
noncomputable def f60_c : EC := (.seq (.reg f60_r0) (.seq (.reg f60_r1) (.seq (.seq (.reg f60_r2) (.block 0 (.loop f60_l0))) (.seq (.reg f60_r13) .ret))))
noncomputable def f60 : EF := ⟨42, [.celln (.ofNat 2) 49, .tmp (.ofNat 3)], f60_c, none⟩
theorem f60_rs : f60.rs = [.celln (.ofNat 2) 49, .tmp (.ofNat 3)] := of_eq_true (eq_self _)
section
variable {fs : T EF} {h h' : H}
theorem f58_ret {L : List Bool} (k : Nat4 fs) (hL : L.length = 49) (hc : HC h) : Ret fs f58 [rV L] h fun r h' => Sk 2 qE h' r (arI (rat L)) ∧ Own h.nx.nat r ∧ Grow h.nx.nat h h' := by
  apply ret_of rfl
  show W fs none f58_c _ _ _
  unfold f58_c
  have c1 := rC_cells hL
  have n1 := nx_new h (.cells 49 (L.map V.b))
  have gr1 : Grow h.nx.nat h (h.new (.cells 49 (L.map V.b))) := Grow.new (Nat.le_refl _) _
  have e1 : (h.new (.cells 49 (L.map V.b))).get h.nx = rC L := get_new_same
  simp (disch := omega) only [f58_r0, ↓reduceIte, c1, bz]
  generalize h.new (.cells 49 (L.map V.b)) = h1 at *
  have n2 := nx_new h1 (.cells 1 [.sn])
  have gr2 : Grow h1.nx.nat h1 (h1.new (.cells 1 [.sn])) := Grow.new (Nat.le_refl _) _
  have e2 : (h1.new (.cells 1 [.sn])).get h1.nx = .cells 1 [.sn] := get_new_same
  simp (disch := omega) only [f58_r1, bz]
  generalize h1.new (.cells 1 [.sn]) = h2 at *
  have hc2 := gr2.hc (gr1.hc hc)
  have l2 := rC_ldn hL ((gr2.old h.nx (by omega)).trans e1)
  simp (disch := omega) only [f58_r2, Nat.reduceEqDiff, ↓reduceIte, l2, bz]
  refine (callP_0 (ef := f84) k.c84 rfl (f84_ret hL)).mono ?_
  rintro r h3 ⟨rfl, rfl⟩
  have n3 := nx_new h2 (rC L)
  have gr3 : Grow h2.nx.nat h2 (h2.new (rC L)) := Grow.new (Nat.le_refl _) _
  have e3 : (h2.new (rC L)).get h2.nx = rC L := get_new_same
  have hc3 := gr3.hc hc2
  have e2' := (gr3.old h1.nx (by omega)).trans e2
  simp (disch := omega) only [bz]
  generalize h2.new (rC L) = h3 at *
  generalize hfr : T.set (K.ofNat 6) _ _ = fr
  have g3 : fr.get (K.ofNat 3) = some (.p h1.nx 0) := by rw [← hfr]; simp only [getK_set, Nat.reduceEqDiff, ↓reduceIte]
  have g6 : fr.get (K.ofNat 6) = some (.fn (K.ofNat 101) [.p h2.nx 0]) := by rw [← hfr]; simp only [getK_set, ↓reduceIte]
  clear hfr
  refine W_itr (by simp (disch := omega) only [ev_t, getV_some, g6]) (all_yieldsR hL k.c101) (fun id => id = h1.nx) (fun i h5 => ∃ u, h5.get h1.nx = .cells 1 [u] ∧ Sk 2 qE h5 u (((arw (rat L)).take i).map toI) ∧ Own (h3.nx.nat + 1) u) (fun _ _ => False) hc3 rfl (by rintro id rfl; omega)
    (fun h5 ks => (ks.old _ (by omega) (fun e => by have := congrArg K.nat e; omega)).trans e3) ?_ (fun _ _ _ h _ _ _ => h.elim) ?_ ?_ ?_ (fun _ _ _ h => h.elim)
  · rintro i h5 h6 ⟨u, q1, q2, q3⟩ hc5 hn ho
    exact ⟨u, by rw [ho _ (by omega) (kNe (by omega))]; exact q1, q2.same fun id off n sz e => ho _ (q2.lt hc5 _ _ _ _ e) (fun e2 => by have := q3 _ _ _ _ e; rw [e2] at this; omega), q3⟩
  · exact fun h5 hg => ⟨.sn, (hg.old _ (by omega)).trans e2', Sk.nil, Own.sn⟩
  · rintro i ⟨x, y⟩ h5 hx hk hn ⟨u, q1, q2, q3⟩
    obtain ⟨hst, gB, c7, n5⟩ := arr_var (h := h5) (x := x) (y := y)
    have b1 := (gB.old h1.nx (by omega)).trans q1
    have b2 := q2.grow hk.hc gB
    unfold f58_a0
    simp (disch := omega) only [f58_r3, Nat.reduceEqDiff, ↓reduceIte, hst, itA_n, bz]
    generalize (h5.new (.cells 2 [.i .i64 0, .i .i64 0])).put h5.nx (.cells 2 [.i .i64 (x : Int), .i .i64 (y : Int)]) = h6 at *
    refine ⟨gB, fun h7 n7 hc7 o7 _ => ?_⟩
    have n7' : h7.nx.nat = h6.nx.nat := congrArg K.nat n7
    have l1 := ldn2 ((o7 _ (kNe hn).symm).trans c7)
    have b1' := (o7 h1.nx (kNe (by omega))).trans b1
    have l0 := load_p (off := 0) b1' (show nth [u] 0 = some u from rfl)
    have b2' : Sk 2 qE h7 u (((arw (rat L)).take i).map toI) := b2.same fun id off n sz e => o7 _ (fun e2 => by have := q3 _ _ _ _ e; rw [e2] at this; omega)
    have hlen : (((arw (rat L)).take i).map toI).length < 16777216 := by
      have := arI_len (g := rat L)
      unfold arI at this
      rw [List.length_map] at this ⊢
      rw [List.length_take]; omega
    obtain ⟨u', h8, a1, s1, o1, gr8, k8⟩ := Sk.push qE_len (by omega) (x := toI (x, y)) b2' q3 (by omega) hc7 hlen
    have a1' : appV 2 (h7.new (.cells (1 * 2) [.i .i64 (x : Int), .i .i64 (y : Int)])) u (.sl h7.nx 0 1 2) = .ok u' h8 := a1
    obtain ⟨k81, k82⟩ := k8 h1.nx (by omega) (q3.notIn (by omega))
    have hav : V.agg [.i .i64 (x : Int), .i .i64 (y : Int)] = pV (toI (x, y)) := rfl
    have cp : cellsN 2 (pV (toI (x, y))) = some [.i .i64 (x : Int), .i .i64 (y : Int)] := rfl
    have sp : setMany [V.i .i64 0, V.i .i64 0] 0 [V.i .i64 (x : Int), V.i .i64 (y : Int)] = [V.i .i64 (x : Int), V.i .i64 (y : Int)] := rfl
    have s8 : storeV h8 1 (.p h1.nx 0) u' = .ok undefV (h8.put h1.nx (.cells 1 [u'])) := st1 (k81.trans b1') s1.one
    have hbq := q2.beq
    unfold f58_b0
    simp (disch := omega) only [f58_r4, stay_ld, Option.some.injEq, exists_eq_left', Nat.reduceEqDiff, ↓reduceIte, g3, l0, l1, hav, k.n78, fill_c, cp, sp, hc7.dead, bz]
    refine ⟨fresh_one (n := 1) (sz := 2) (by simp (disch := omega) only [getK_set, ↓reduceIte]), ?_⟩
    have gL : Grow h7.nx.nat h7 (h7.new (.cells (1 * 2) [.i .i64 (x : Int), .i .i64 (y : Int)])) := Grow.new (Nat.le_refl _) _
    have l0' := load_p (off := 0) ((gL.old h1.nx (by omega)).trans b1') (show nth [u] 0 = some u from rfl)
    simp (disch := omega) only [Nat.reduceEqDiff, ↓reduceIte, g3, l0', hbq, a1', s8, itC_n, and_self, bz]
    have g8n := gr8.nx
    refine ⟨⟨u', get_put_same, ?_, o1⟩, ?_⟩
    · rw [List.take_add_one, hx]
      simp only [Option.toList_some, List.map_append, List.map_cons, List.map_nil]
      exact s1.put k82 _
    · have h0 : Kr (fun id => id = h1.nx) h3.nx h7 h8 := Kr.of hc7 gr8 (by omega)
      exact h0.put (by omega) (.inl rfl) _
  · rintro h5 ⟨u, q1, q2, q3⟩ hk hn
    rw [List.take_length] at q2
    have l5 := load_p (off := 0) q1 (show nth [u] 0 = some u from rfl)
    simp (disch := omega) only [f58_r5, f58_rs, Option.some.injEq, exists_eq_left', ↓reduceIte, g3, l5, bz]
    exact ⟨q2, q3.low (by omega), gr1.trans ((gr2.low (by omega)).trans ((gr3.low (by omega)).trans (hk.toGrow (by rintro id rfl; omega) (by omega))))⟩
/-! ### Slices of relations that are gathered -/
noncomputable def eR (L : List Bool) : List V := (rl (rat L)).map V.b
theorem eR_len : ∀ x, (eR x).length = 49 := fun x => by simp [eR, rl_len]
theorem eR_eq {L : List Bool} (hL : L.length = 49) : eR L = L.map V.b := by unfold eR; rw [rl_rat hL]
theorem Rs.ofSk {v : V} {Ls : List (List Bool)} (s : Sk 49 eR h v Ls) (hl : ∀ L ∈ Ls, L.length = 49) : Rs h v Ls := by
  refine ⟨s.len, fun i hi => ?_⟩
  rcases s with ⟨_, rfl⟩ | ⟨id, off, m, cs, rfl, h1, h2, h3, h4⟩
  · simp at hi
  · have hh := flat_drop eR_len Ls i hi
    rw [← h4, List.drop_take, List.take_take, List.drop_drop, Nat.min_eq_left (by omega)] at hh
    refine ⟨id, off + i * 49, m, cs, fun h1 => by rw [iads_sl, idx_n hi], h1, ?_, ?_⟩
    · have : (i + 1) * 49 ≤ Ls.length * 49 := Nat.mul_le_mul_right _ hi
      omega
    · rw [takeN_eq, dropN_eq, hh, eR_eq (hl _ (List.getElem_mem hi))]
def f60_I (h0 : H) (id1 id2 : K) (L0 : List Bool) (s : List Bool × List (List Bool)) (fr : Fr) (h1 : H) : Prop := SymR s.1 ∧ (∀ C ∈ s.2, C.length = 49) ∧ cntT s.1 + s.2.length ≤ 49 ∧ (∀ r, OrS s.1 r → OrS L0 (r.map (s.2 ++ ·))) ∧ Kp id1 h0 h1 ∧ h1.get id1 = rC s.1 ∧
  ∃ u id5 x, Sk 49 eR h1 u s.2 ∧ Own (h0.nx.nat) u ∧ h0.nx.nat ≤ id5.nat ∧ id5.nat < h1.nx.nat ∧ NotIn id5 u ∧ h1.get id5 = .cells 2 [.i .i64 ((x : Nat × Nat).1 : Int), .i .i64 (x.2 : Int)] ∧ (∀ y, frO s.1 = some y → x = y) ∧ fr.get (K.ofNat 1) = some (.p id1 0) ∧ fr.get (K.ofNat 2) = some (.p id2 0) ∧ fr.get (K.ofNat 4) = some (u) ∧ fr.get (K.ofNat 5) = some (.p id5 0) ∧ fr.get (K.ofNat 6) = some (.b (frO s.1).isSome)
def frX (L : List Bool) : Nat × Nat := (frO L).getD (0, 0)
theorem frV_eq {L : List Bool} : frV L = .tup [aV (frX L), .b (frO L).isSome] := by
  unfold frV frX
  cases frO L <;> rfl
theorem zero49 : (V.agg (List.replicate 49 (.b false))) = rV (rl fun _ _ => false) := rfl
theorem set49a {L : List Bool} (hL : L.length = 49) : setMany (List.replicate 49 (.b false)) 0 (L.map V.b) = L.map V.b := by
  rw [setMany_eq _ _ _ (by simp [hL])]; simp [hL]
theorem f60_ret {L0 : List Bool} (k : Nat4 fs) (sy : SymR L0) (hc : HC h) : Ret fs f60 [rV L0] h fun r _ => r = orV L0 := by
  have hL := sy.len
  apply ret_of rfl
  show W fs none f60_c _ _ _
  unfold f60_c
  have c1 := rC_cells hL
  have n1 := nx_new h (.cells 49 (L0.map V.b))
  have gr1 : Grow h.nx.nat h (h.new (.cells 49 (L0.map V.b))) := Grow.new (Nat.le_refl _) _
  have e1 : (h.new (.cells 49 (L0.map V.b))).get h.nx = rC L0 := get_new_same
  simp (disch := omega) only [f60_r0, ↓reduceIte, c1, bz]
  generalize h.new (.cells 49 (L0.map V.b)) = h1 at *
  have n2 := nx_new h1 (.cells 49 (List.replicate 49 (.b false)))
  have gr2 : Grow h1.nx.nat h1 (h1.new (.cells 49 (List.replicate 49 (.b false)))) := Grow.new (Nat.le_refl _) _
  have e2 : (h1.new (.cells 49 (List.replicate 49 (.b false)))).get h1.nx = rC (rl fun _ _ => false) := by rw [rl_false]; exact get_new_same
  generalize h1.new (.cells 49 (List.replicate 49 (.b false))) = h2 at *
  have hc2 := gr2.hc (gr1.hc hc)
  have e1' := (gr2.old h.nx (by omega)).trans e1
  have e2' := e2
  have l2 := rC_ldn hL e1'
  obtain ⟨hst, gB, c7, n5⟩ := arr_var (h := h2) (x := (frX L0).1) (y := (frX L0).2)
  replace hst : storeV (h2.new (.cells 2 [.i .i64 0, .i .i64 0])) 2 (.p h2.nx 0) (aV (frX L0)) = _ := hst
  simp (disch := omega) only [f60_r1, f60_r2, Nat.reduceEqDiff, ↓reduceIte, l2, k.n87 _ _ _ hL, frV_eq, hst, bz]
  generalize (h2.new (.cells 2 [.i .i64 0, .i .i64 0])).put h2.nx (.cells 2 [.i .i64 ((frX L0).1 : Int), .i .i64 ((frX L0).2 : Int)]) = h3 at *
  have k3 : Kp h.nx h2 h3 := Kp.of hc2 gB (Nat.le_refl _)
  refine W_loop (f60_I h2 h.nx h1.nx L0) (fun s => cntT s.1) ?_ (L0, []) ⟨sy, fun C hC => (by cases hC), by have := cntT_le hL; simpa using this, fun r hr => by cases r <;> exact hr, k3, (gB.old h.nx (by omega)).trans e1', .sn, h2.nx, frX L0, Sk.nil, Own.sn, Nat.le_refl _, by omega, NotIn.sn, c7, fun y hy => by unfold frX; rw [hy]; rfl, by simp (disch := omega) only [getK_set, Nat.reduceEqDiff, ↓reduceIte, and_self]⟩
  clear c7 hst n5 gB k3 h3
  rintro ⟨L, P⟩ fr h3 ⟨sL, hP, hcn, hO, hk, hB, u, id5, x, hu, hou, h5a, h5b, h5n, e5, hx, g1, g2, g4, g5, g6⟩
  simp only at sL hP hcn hO hB hu hx g6
  have hkn := hk.nx
  have hLl := sL.len
  unfold f60_l0
  cases hf : frO L with
  | none =>
    rw [hf] at g6
    have g6 : fr.get (K.ofNat 6) = some (.b false) := g6
    have hor : orO L0 = some P := by
      have := orO_eq (hO _ (.done hf))
      simpa using this
    simp (disch := omega) only [f60_r3, f60_r13, Nat.reduceEqDiff, ↓reduceIte, Bool.false_eq_true, g4, g6, bz]
    have hRs : Rs h3 u P := Rs.ofSk hu hP
    refine (callP_0 (ef := f69) k.c69 rfl (f69_ret k.c84 k.c101 hRs hP (by omega) hk.hc)).mono ?_
    rintro r h4 ⟨rfl, gr4⟩
    have hJ : (jnR P).length = 49 := rl_len
    have s4 := rC_stn hJ rl_len (M := rl fun _ _ => false) ((gr4.old h1.nx (by omega)).trans ((hk.old h1.nx (by omega) (kNe (by omega)).symm).trans e2'))
    have hr4 : readP (h4.put h1.nx (rC (jnR P))) (.p h1.nx 0) (many? 49) = some (rV (jnR P)) := rC_read hJ get_put_same
    simp (disch := omega) only [f60_rs, Option.some.injEq, exists_eq_left', Nat.reduceEqDiff, ↓reduceIte, g2, s4, hr4, bz]
    unfold orV
    rw [hor]
  | some y =>
    have hxy := hx y hf
    subst hxy
    rw [hf] at g6
    have g6 : fr.get (K.ofNat 6) = some (.b true) := g6
    obtain ⟨hx1, hx2, hxr⟩ := frO_some hf
    have l3 := rC_ldn hLl hB
    have l5 := ldn2 e5
    have hav : V.agg [.i .i64 (x.1 : Int), .i .i64 (x.2 : Int)] = aV x := rfl
    have hC : (clsR L x).length = 49 := clsR_len
    have hT : (turnR (clsR L x)).length = 49 := rl_len
    have hnx : nxR L x = woR L (jnR [clsR L x, turnR (clsR L x)]) := rfl
    have hct := nxR_cnt sL hf
    have hstep := fun r hne => OrS.step (r := r) hf hne
    have hclash := OrS.clash hf
    have sN := sL.next (x := x) ⟨hx1, hx2⟩
    have hcls := k.n57 L x
    generalize clsR L x = C at *
    have n4 := nx_new h3 (.cells 49 (List.replicate 49 (.b false)))
    have s4 := rC_stn hC rl_len (M := rl fun _ _ => false) (h := h3.new (.cells 49 (List.replicate 49 (.b false)))) (id := h3.nx) (by rw [rl_false]; exact get_new_same)
    have gr4 : Grow h3.nx.nat h3 ((h3.new (.cells 49 (List.replicate 49 (.b false)))).put h3.nx (rC C)) := (Grow.new (Nat.le_refl _) _).trans (Grow.put (Nat.le_refl _) (by omega) _)
    have n4' : ((h3.new (.cells 49 (List.replicate 49 (.b false)))).put h3.nx (rC C)).nx.nat = h3.nx.nat + 1 := n4
    have e4 : ((h3.new (.cells 49 (List.replicate 49 (.b false)))).put h3.nx (rC C)).get h3.nx = rC C := get_put_same
    simp (disch := omega) only [f60_r3, f60_r4, Nat.reduceEqDiff, ↓reduceIte, g1, g5, g6, l3, l5, hav, hcls _ _ hLl ⟨hx1, hx2⟩, s4, bz]
    generalize (h3.new (.cells 49 (List.replicate 49 (.b false)))).put h3.nx (rC C) = h4 at *
    have l4 := rC_ldn hC e4
    have n6 := nx_new h4 (.cells 49 (List.replicate 49 (.b false)))
    have s6 := rC_stn hT rl_len (M := rl fun _ _ => false) (h := h4.new (.cells 49 (List.replicate 49 (.b false)))) (id := h4.nx) (by rw [rl_false]; exact get_new_same)
    have gr6 : Grow h4.nx.nat h4 ((h4.new (.cells 49 (List.replicate 49 (.b false)))).put h4.nx (rC (turnR C))) := (Grow.new (Nat.le_refl _) _).trans (Grow.put (Nat.le_refl _) (by omega) _)
    have n6' : ((h4.new (.cells 49 (List.replicate 49 (.b false)))).put h4.nx (rC (turnR C))).nx.nat = h4.nx.nat + 1 := n6
    have e6 : ((h4.new (.cells 49 (List.replicate 49 (.b false)))).put h4.nx (rC (turnR C))).get h4.nx = rC (turnR C) := get_put_same
    simp (disch := omega) only [f60_r5, Nat.reduceEqDiff, ↓reduceIte, l4, k.n70 _ _ _ hC, s6, bz]
    generalize (h4.new (.cells 49 (List.replicate 49 (.b false)))).put h4.nx (rC (turnR C)) = h5 at *
    have gA : Grow h3.nx.nat h3 h5 := gr4.trans (gr6.low (by omega))
    have hc5 := gA.hc hk.hc
    have lC := rC_ldn hC ((gr6.old h3.nx (by omega)).trans e4)
    have lT := rC_ldn hT e6
    have hq := keyEq_rel2 hC hT
    by_cases e : C = turnR C
    · have d0 : decide (C = turnR C) = true := decide_eq_true e
      have hor : orO L0 = none := by
        have := orO_eq (hO _ (hclash e))
        simpa using this
      rw [d0] at hq
      have s7 := rC_stn (L := rl fun _ _ => false) rl_len rl_len (M := rl fun _ _ => false) ((gA.old h1.nx (by omega)).trans ((hk.old h1.nx (by omega) (kNe (by omega)).symm).trans e2'))
      have hr7 : readP (h5.put h1.nx (rC (rl fun _ _ => false))) (.p h1.nx 0) (many? 49) = some (rV (rl fun _ _ => false)) := rC_read rl_len get_put_same
      simp (disch := omega) only [f60_r6, f60_r7, f60_rs, Option.some.injEq, exists_eq_left', Nat.reduceEqDiff, ↓reduceIte, g2, lC, lT, hq, cond_false, zero49, s7, hr7, bz]
      unfold orV
      rw [hor]
    · have d0 : decide (C = turnR C) = false := decide_eq_false e
      rw [d0] at hq
      have cC := rC_cells hC
      have cT := rC_cells hT
      have hu5 := hu.grow hk.hc gA
      obtain ⟨u', h7, a1, s1, o1, gr7, k7⟩ := Sk.push (b := h2.nx.nat) eR_len (by omega) (x := C) hu5 hou (by omega) hc5 (by omega)
      rw [eR_eq hC] at a1
      have hc7 := gr7.hc hc5
      have g7n := gr7.nx
      -- what is older than these parts
      have old7 : ∀ id : K, id.nat < h5.nx.nat → NotIn id u → h7.get id = h5.get id := fun id hi hn => (k7 id hi hn).1
      have nlt : ∀ id : K, id.nat < h2.nx.nat → NotIn id u := fun id hi => hou.notIn hi
      have nge : ∀ id : K, h3.nx.nat ≤ id.nat → NotIn id u := fun id hi off n sz ee => by have := hu.lt hk.hc _ _ _ _ ee; omega
      have e1_7 : h7.get h.nx = rC L := (old7 h.nx (by omega) (nlt _ (by omega))).trans ((gA.old h.nx (by omega)).trans hB)
      have eC_7 : h7.get h3.nx = rC C := (old7 h3.nx (by omega) (nge _ (Nat.le_refl _))).trans ((gr6.old h3.nx (by omega)).trans e4)
      have eT_7 : h7.get h4.nx = rC (turnR C) := (old7 h4.nx (by omega) (nge _ (by omega))).trans e6
      have e5_7 : h7.get id5 = .cells 2 [.i .i64 (x.1 : Int), .i .i64 (x.2 : Int)] := (old7 id5 (by omega) h5n).trans ((gA.old id5 (by omega)).trans e5)
      have gL : Grow h7.nx.nat h7 (h7.new (.cells (2 * 49) (C.map V.b ++ (turnR C).map V.b))) := Grow.new (Nat.le_refl _) _
      have lL7 := rC_ldn hLl e1_7
      have lC7 := rC_ldn hC eC_7
      have lT7 := rC_ldn hT eT_7
      simp (disch := omega) only [f60_r6, f60_r8, Nat.reduceEqDiff, ↓reduceIte, Bool.false_eq_true, g4, lC, lT, hq, cond_false, fill_c, cC, set49a hC, a1, bz]
      simp (disch := omega) only [f60_r9, Option.some.injEq, exists_eq_left', Nat.reduceEqDiff, ↓reduceIte, g1, lL7, lC7, lT7, fill_c, cC, cT, set98a hC, set98b hC hT, hc7.dead, bz]
      refine ⟨fresh_one (n := 2) (sz := 49) (by simp (disch := omega) only [getK_set, ↓reduceIte]), ?_⟩
      have hr8 := Rs.two (h := h7) hC hT
      have n8 := nx_new h7 (.cells (2 * 49) (C.map V.b ++ (turnR C).map V.b))
      have hc8 := gL.hc hc7
      generalize h7.new (.cells (2 * 49) (C.map V.b ++ (turnR C).map V.b)) = h8 at *
      have hall : ∀ z ∈ [C, turnR C], z.length = 49 := fun z hz => by
        simp only [List.mem_cons, List.not_mem_nil, or_false] at hz
        rcases hz with rfl | rfl
        · exact hC
        · exact hT
      refine (callP_0 (ef := f69) k.c69 rfl (f69_ret k.c84 k.c101 hr8 hall (by simp) hc8)).mono ?_
      rintro r h9 ⟨rfl, gr9⟩
      have gD : Grow h7.nx.nat h7 h9 := gL.trans (gr9.low (by omega))
      have hc9 := gr9.hc hc8
      have g9n := gr9.nx
      have hJ : (jnR [C, turnR C]).length = 49 := rl_len
      have hN : (woR L (jnR [C, turnR C])).length = 49 := rl_len
      have e1_9 := (gD.old h.nx (by omega)).trans e1_7
      have lL9 := rC_ldn hLl e1_9
      have s9 := rC_stn hN hLl e1_9
      have kk : Kp h.nx h2 h9 := ((hk.grow gA hkn).grow gr7 (Nat.le_refl _)).grow gD (by omega)
      have kP := kk.put (by have := hkn; omega) (rC (woR L (jnR [C, turnR C])))
      have e5_9 := (gD.old id5 (by omega)).trans e5_7
      have nid5 : id5 ≠ h.nx := fun e => by have := congrArg K.nat e; omega
      have e5_10 : (h9.put h.nx (rC (woR L (jnR [C, turnR C])))).get id5 = .cells 2 [.i .i64 (x.1 : Int), .i .i64 (x.2 : Int)] := by rw [get_put_other nid5]; exact e5_9
      have e1_10 : (h9.put h.nx (rC (woR L (jnR [C, turnR C])))).get h.nx = rC (woR L (jnR [C, turnR C])) := get_put_same
      have u_10 : Sk 49 eR (h9.put h.nx (rC (woR L (jnR [C, turnR C])))) u' (P ++ [C]) := (s1.grow hc7 gD).put (o1.notIn (by omega)) _
      have n10 : (h9.put h.nx (rC (woR L (jnR [C, turnR C])))).nx.nat = h9.nx.nat := rfl
      have hn81 := k.n81 L (jnR [C, turnR C])
      simp (disch := omega) only [Nat.reduceEqDiff, ↓reduceIte, g1, lL9, beq_rV, hn81 _ _ hLl hJ, s9, bz]
      generalize h9.put h.nx (rC (woR L (jnR [C, turnR C]))) = h10 at *
      have l10 := ldn2 e5_10
      obtain ⟨hst, gB, c7, n11⟩ := arr_var (h := h10) (x := x.1) (y := x.2)
      replace hst : storeV (h10.new (.cells 2 [.i .i64 0, .i .i64 0])) 2 (.p h10.nx 0) (aV x) = _ := hst
      simp (disch := omega) only [f60_r10, f60_r11, Nat.reduceEqDiff, ↓reduceIte, g5, l10, hav, hst, bz]
      generalize (h10.new (.cells 2 [.i .i64 0, .i .i64 0])).put h10.nx (.cells 2 [.i .i64 (x.1 : Int), .i .i64 (x.2 : Int)]) = h11 at *
      have l11 := rC_ldn hN ((gB.old h.nx (by omega)).trans e1_10)
      have s11 : storeV h11 2 (.p h10.nx 0) (aV (frX (woR L (jnR [C, turnR C])))) = .ok undefV (h11.put h10.nx (.cells 2 [.i .i64 ((frX (woR L (jnR [C, turnR C]))).1 : Int), .i .i64 ((frX (woR L (jnR [C, turnR C]))).2 : Int)])) := st2 c7
      simp (disch := omega) only [f60_r12, Nat.reduceEqDiff, ↓reduceIte, g1, l11, k.n87 _ _ _ hN, frV_eq, s11, bz]
      have gE : Grow h10.nx.nat h10 (h11.put h10.nx (.cells 2 [.i .i64 ((frX (woR L (jnR [C, turnR C]))).1 : Int), .i .i64 ((frX (woR L (jnR [C, turnR C]))).2 : Int)])) := gB.trans (Grow.put (Nat.le_refl _) (by omega) _)
      rw [hnx] at hct hstep sN
      refine ⟨(woR L (jnR [C, turnR C]), P ++ [C]), hct, sN, fun z hz => ?_, ?_, fun r hr => ?_, kP.grow gE (by omega), (gE.old h.nx (by omega)).trans e1_10, u', h10.nx, frX (woR L (jnR [C, turnR C])), u_10.grow kP.hc gE, o1, by omega, by rw [nx_put]; omega, fun off n sz ee => by have := u_10.lt kP.hc _ _ _ _ ee; omega, get_put_same, fun y hy => by unfold frX; rw [hy]; rfl, by simp (disch := omega) only [getK_set, Nat.reduceEqDiff, ↓reduceIte, g1, g2, and_self]⟩
      · rcases List.mem_append.1 hz with hz | hz
        · exact hP z hz
        · rw [List.mem_singleton.1 hz]; exact hC
      · simp only at hct hcn ⊢
        rw [List.length_append]
        show cntT (woR L (jnR [C, turnR C])) + (P.length + 1) ≤ 49
        omega
      · have := hO _ (hstep r e hr)
        cases r with
        | none => exact this
        | some qs =>
          simp only [Option.map_some] at this ⊢
          rw [List.append_assoc]; exact this
end
end Go.Ev
namespace Go.Ev
open Go Go.RowKit
theorem nd_arI {f : Nat → Nat → Bool} : Nd (arI f) := fun x hx => by
  obtain ⟨a, b, h1, h2, _, rfl⟩ := mem_arI.1 hx
  show ((0 : Int) ≤ (a : Int) ∧ (a : Int) < 7) ∧ ((0 : Int) ≤ (b : Int) ∧ (b : Int) < 7)
  omega
theorem relR_iff {L : List (Int × Int)} {a b : Nat} (hn : Nd L) : rat (relR L) a b = true ↔ ((a : Int), (b : Int)) ∈ L := by
  unfold relR
  rw [rat_rl]
  simp only [Bool.and_eq_true, decide_eq_true_eq]
  exact ⟨fun h => h.2, fun h => ⟨by have := hn _ h; simp only at this; omega, h⟩⟩
theorem gR_iff {L : List (Int × Int)} {a b : Nat} (hn : Nd L) : rat (gR L) a b = true ↔ ((a : Int), (b : Int)) ∈ L ∨ ((b : Int), (a : Int)) ∈ L := by
  unfold gR
  rw [show jnR [relR L, turnR (relR L)] = jn2 (relR L) (turnR (relR L)) from rfl, jn2_iff, turnR_iff, relR_iff hn, relR_iff hn]
theorem gR_arI {n : Nat} {g : Nat → Nat → Bool} (hg : Gph n g) {a b : Nat} : rat (gR (arI g)) a b = true ↔ sy g a b = true := by
  rw [gR_iff nd_arI, mem_arI', mem_arI']
  unfold sy
  rw [Bool.or_eq_true]
  have h7 := hg.n7
  exact or_congr ⟨fun h => h.2.2, fun h => by have := hg.up _ _ h; exact ⟨by omega, by omega, h⟩⟩ ⟨fun h => h.2.2, fun h => by have := hg.up _ _ h; exact ⟨by omega, by omega, h⟩⟩
theorem symR_g {n : Nat} {g : Nat → Nat → Bool} (hg : Gph n g) : SymR (gR (arI g)) := by
  refine ⟨gR_len, ⟨fun a b h => ?_, fun a h => ?_⟩⟩
  · have h := (gR_arI hg).1 h
    exact (gR_arI hg).2 (by unfold sy at h ⊢; rw [Bool.or_comm]; exact h)
  · have h := (gR_arI hg).1 h
    unfold sy at h
    rw [Bool.or_self] at h
    have := hg.up _ _ h
    omega
theorem Er_lt {n : Nat} {g : Nat → Nat → Bool} (hg : Gph n g) {a b : Nat} (h : Er (gR (arI g)) a b) : a < n ∧ b < n ∧ a ≠ b := by
  have h := (gR_arI hg).1 h
  unfold sy at h
  rcases Bool.or_eq_true _ _ ▸ h with h | h
  · have := hg.up _ _ h; omega
  · have := hg.up _ _ h; omega
theorem ris_arI {f : Nat → Nat → Bool} {n : Nat} (hf : ∀ a b, a < 7 → b < 7 → f a b = true → a < n ∧ b < n ∧ a ≠ b) : risB (n : Int) (arI f) = true := by
  unfold risB
  refine @decide_eq_true _ (Classical.propDecidable _) fun j hj => ?_
  have hl : (arI f).length = (arw f).length := by unfold arI; rw [List.length_map]
  have e : ∀ i (hi : i < (arw f).length), (arI f).getD i (0, 0) = toI (arw f)[i] := fun i hi => by
    rw [List.getD_eq_getElem?_getD]
    unfold arI
    rw [List.getElem?_map, List.getElem?_eq_getElem hi]; rfl
  refine ⟨?_, fun h0 => ?_⟩
  · rw [e j (by omega)]
    obtain ⟨h1, h2, h3⟩ := arw_lt (List.getElem_mem (show j < (arw f).length by omega))
    obtain ⟨q1, q2, q3⟩ := hf _ _ h1 h2 h3
    unfold okE nodeB toI
    rw [decide_eq_true (show (0 : Int) ≤ ((arw f)[j].1 : Int) ∧ ((arw f)[j].1 : Int) < (n : Int) by omega), decide_eq_true (show (0 : Int) ≤ ((arw f)[j].2 : Int) ∧ ((arw f)[j].2 : Int) < (n : Int) by omega), decide_eq_true (show ((arw f)[j].1 : Int) ≠ ((arw f)[j].2 : Int) by omega)]
    try rfl
  · rw [e j (by omega), e (j - 1) (by omega)]
    have hs := arw_sorted (g := f) (i := j - 1) (by omega)
    have ej : j - 1 + 1 = j := by omega
    simp only [ej] at hs
    obtain ⟨_, h2, _⟩ := arw_lt (List.getElem_mem (show j < (arw f).length by omega))
    obtain ⟨_, k2, _⟩ := arw_lt (List.getElem_mem (show j - 1 < (arw f).length by omega))
    unfold bfB toI
    by_cases e1 : (arw f)[j - 1].1 < (arw f)[j].1
    · rw [decide_eq_true (show ((arw f)[j - 1].1 : Int) < ((arw f)[j].1 : Int) by omega)]; rfl
    · rw [decide_eq_true (show ((arw f)[j - 1].1 : Int) = ((arw f)[j].1 : Int) by omega), decide_eq_true (show ((arw f)[j - 1].2 : Int) < ((arw f)[j].2 : Int) by omega)]
      simp
theorem chkG_g {n : Nat} {g : Nat → Nat → Bool} (hg : Gph n g) : chkG (n : Int) (arI g) = 0 := by
  have h1 := hg.n1; have h7 := hg.n7
  have hu : UpT (arI g) (arI g).length := fun j hj => by
    have hl : (arI g).length = (arw g).length := by unfold arI; rw [List.length_map]
    rw [List.getD_eq_getElem?_getD]
    unfold arI
    rw [List.getElem?_map, List.getElem?_eq_getElem (show j < (arw g).length by omega)]
    obtain ⟨_, _, h3⟩ := arw_lt (List.getElem_mem (show j < (arw g).length by omega))
    have := hg.up _ _ h3
    show ((arw g)[j].1 : Int) ≤ ((arw g)[j].2 : Int)
    omega
  unfold chkG
  rw [if_neg (by omega), if_pos ⟨ris_arI fun a b _ _ h => by have := hg.up _ _ h; omega, hu⟩]

structure OrdN (n : Nat) (L : List Bool) : Prop where
  len : L.length = 49
  lt : ∀ a b, rat L a b = true → a < n ∧ b < n
  irr : ∀ a, ¬ rat L a a = true
  tr : ∀ a b c, rat L a b = true → rat L b c = true → rat L a c = true
theorem ord_n {n : Nat} {g : Nat → Nat → Bool} (hg : Gph n g) {L : List Bool} (hL : L.length = 49) (o : Ord (Er (gR (arI g))) (Er L)) : OrdN n L :=
  ⟨hL, fun _a _b h => ⟨(Er_lt hg (o.sub _ _ h)).1, (Er_lt hg (o.sub _ _ h)).2.1⟩, fun a h => (symR_g hg).gr.irr a (o.sub _ _ h), o.tr⟩
theorem OrS.total : ∀ (m : Nat) {L : List Bool}, SymR L → cntT L ≤ m → ∃ r, OrS L r := by
  intro m
  induction m with
  | zero =>
    intro L s hm
    cases hf : frO L with
    | none => exact ⟨_, .done hf⟩
    | some x => have := nxR_cnt s hf; omega
  | succ m ih =>
    intro L s hm
    cases hf : frO L with
    | none => exact ⟨_, .done hf⟩
    | some x =>
      by_cases e : clsR L x = turnR (clsR L x)
      · exact ⟨_, .clash hf e⟩
      · obtain ⟨h1, h2, _⟩ := frO_some hf
        obtain ⟨r, hr⟩ := ih (s.next ⟨h1, h2⟩) (by have := nxR_cnt s hf; omega)
        exact ⟨_, .step hf e hr⟩
theorem orO_spec {L : List Bool} (s : SymR L) : (∃ ps, orO L = some ps ∧ Ord (Er L) (Er (jnR ps))) ∨ (orO L = none ∧ ¬ CF (Er L)) := by
  obtain ⟨r, hr⟩ := OrS.total _ s (Nat.le_refl _)
  have h1 := orO_eq hr
  have h2 := hr.sound s
  cases r with
  | none => exact .inr ⟨h1, h2.2 rfl⟩
  | some ps => exact .inl ⟨ps, h1, (h2.1 ps rfl).1⟩
end Go.Ev
namespace Go.Ev
open Go Go.RowKit
noncomputable def f40_r0 : List EOper := [oG 3 (.box 2 (tG 1)), oG 4 (.as (.c (.b false)))]
noncomputable def f40_r1 : List EOper := [oG 5 (.as (cG 0))]
noncomputable def f40_r2 : List EOper := [oG 6 (.mv (tG 5)), oG 7 (.mv (tG 0)), oG 8 (.len (tG 7)), oG 9 (.bin .lss (tG 6) (tG 8))]
noncomputable def f40_r3 : List Stage := [⟨[oG 12 (.mv (tG 0)), oG 13 (.mv (tG 5)), oG 14 (.iads 2 (tG 12) (tG 13)), oG 15 (.ldn 2 (tG 14)), oG 16 (.ldn 2 (tG 3)), oG 17 (.eqk (.many [(some .i64), (some .i64)]) false (tG 15) (tG 16))], [], none, []⟩]
noncomputable def f40_r4 : List EOper := [oG 4 (.as (.c (.b true)))]
noncomputable def f40_r5 : List EOper := [oG 10 (.mv (tG 5)), oG 11 (.bin .add (tG 10) (cG 1)), oG 5 (.as (tG 11))]
noncomputable def f40_l0 : EC := (.seq (.seq (.reg f40_r2) (.cond (tG 9) .skip (.exit 0))) (.seq (.block 1 (.seq (.draw f40_r3) (.cond (tG 17) (.seq (.reg f40_r4) .ret) .skip))) (.reg f40_r5)))
noncomputable def f40_r6 : List EOper := [oG 4 (.as (.c (.b false)))]
noncomputable def f40_c : EC := (.seq (.reg f40_r0) (.seq (.seq (.reg f40_r1) (.block 0 (.loop f40_l0))) (.seq (.reg f40_r6) .ret)))
noncomputable def f40 : EF := ⟨18, [.tmp (.ofNat 4)], f40_c, none⟩
theorem f40_rs : f40.rs = [.tmp (.ofNat 4)] := of_eq_true (eq_self _)
noncomputable def f52_r0 : List EOper := [oG 6 (.as (.c (.b false)))]
noncomputable def f52_r1 : List EOper := [oG 7 (.mv (tG 0)), oG 8 (.mv (tG 1)), oG 9 (.mv (tG 2)), oG 10 (.min (tG 8) (tG 9)), oG 11 (.mv (tG 1)), oG 12 (.mv (tG 2)), oG 13 (.max (tG 11) (tG 12)), oG 14 (.build [(.i .i64 (.ofNat 0)), (.i .i64 (.ofNat 0))] [(0, 1, (tG 10)), (1, 1, (tG 13))]), oG 15 (.call (fG 40) [(tG 7), (tG 14)]), oG 6 (.as (tG 15))]
noncomputable def f52_c : EC := (.seq (.reg f52_r0) (.seq (.reg f52_r1) .ret))
noncomputable def f52 : EF := ⟨16, [.tmp (.ofNat 6)], f52_c, none⟩
theorem f52_rs : f52.rs = [.tmp (.ofNat 6)] := of_eq_true (eq_self _)
section
variable {fs : T EF} {h h' : H}
def inI (x : Int × Int) : Prop := inR .i64 x.1 = true ∧ inR .i64 x.2 = true
theorem inI_nat {a b : Nat} (ha : a < 7) (hb : b < 7) : inI ((a : Int), (b : Int)) := by
  have r : ∀ n : Nat, n < 7 → inR .i64 (n : Int) = true := fun n hn => by
    show Nat.ble n (kmax .i64) = true
    exact Nat.ble_eq_true_of_le (by show n ≤ 9223372036854775807; omega)
  exact ⟨r _ ha, r _ hb⟩
theorem inI_arI {f : Nat → Nat → Bool} : ∀ x ∈ arI f, inI x := fun x hx => by
  obtain ⟨a, b, h1, h2, _, rfl⟩ := mem_arI.1 hx
  exact inI_nat h1 h2
theorem keyEq_pVO {x y : Int × Int} (hx : inI x) (hy : inI y) : keyEq (.many [some .i64, some .i64]) (pV x) (pV y) = some (decide (x = y)) := by
  have := keyEq_2 hx.1 hx.2 hy.1 hy.2
  rw [show keyEq (.many [some .i64, some .i64]) (pV x) (pV y) = _ from this]
  congr 1
  rw [← Bool.decide_and]
  exact decide_eq_decide.2 ⟨fun h => Prod.ext h.1 h.2, fun h => by rw [h]; exact ⟨rfl, rfl⟩⟩
def f40_I (h0 : H) (id3 : K) (v : V) (L : List (Int × Int)) (x : Int × Int) (i : Nat) (fr : Fr) (h1 : H) : Prop := i ≤ L.length ∧ h1 = h0 ∧ x ∉ L.take i ∧ fr.get (K.ofNat 0) = some (v) ∧ fr.get (K.ofNat 3) = some (.p id3 0) ∧ fr.get (K.ofNat 5) = some (.i .i64 (i : Int))
theorem f40_ret {v : V} {L : List (Int × Int)} {x : Int × Int} (hv : Srp h v L) (hL : ∀ y ∈ L, inI y) (hx : inI x) (hb : L.length ≤ 1000000) (hc : HC h) : Ret fs f40 [v, pV x] h fun r h' => r = .b (decide (x ∈ L)) ∧ Grow h.nx.nat h h' := by
  apply ret_of rfl
  show W fs none f40_c _ _ _
  unfold f40_c
  have c1 : cellsN 2 (pV x) = some [.i .i64 x.1, .i .i64 x.2] := rfl
  have gr1 : Grow h.nx.nat h (h.new (.cells 2 [.i .i64 x.1, .i .i64 x.2])) := Grow.new (Nat.le_refl _) _
  have e1 : (h.new (.cells 2 [.i .i64 x.1, .i .i64 x.2])).get h.nx = .cells 2 [.i .i64 x.1, .i .i64 x.2] := get_new_same
  simp (disch := omega) only [f40_r0, f40_r1, ↓reduceIte, c1, bz]
  generalize h.new (.cells 2 [.i .i64 x.1, .i .i64 x.2]) = h1 at *
  have hv1 := hv.grow hc gr1
  have hlen := hv1.len
  have l1 := ldn2 e1
  have hvb := hv.beq
  refine W_loop (f40_I h1 h.nx v L x) (fun i => L.length - i) ?_ 0 ⟨by omega, rfl, by simp, by simp (disch := omega) only [getK_set, Nat.reduceEqDiff, ↓reduceIte, and_self, Int.natCast_zero]⟩
  rintro i fr h2 ⟨hi, rfl, hn, g0, g3, g5⟩
  unfold f40_l0
  by_cases hlt : i < L.length
  · have d0 : decide ((i : Int) < (L.length : Int)) = true := decide_eq_true (by omega)
    obtain ⟨id, q, p1, p2, _⟩ := hv1.at2 hlt
    have hq := keyEq_pVO (hL _ (List.getElem_mem hlt)) hx
    have hav1 : V.agg [.i .i64 L[i].1, .i .i64 L[i].2] = pV L[i] := rfl
    have hav2 : V.agg [.i .i64 x.1, .i .i64 x.2] = pV x := rfl
    by_cases e : L[i] = x
    · have d1 : decide (L[i] = x) = true := decide_eq_true e
      rw [d1] at hq
      simp (disch := omega) only [f40_r2, f40_r3, f40_r4, f40_rs, Option.some.injEq, exists_eq_left', Nat.reduceEqDiff, ↓reduceIte, g0, g3, g5, hlen, d0, p1, p2, l1, hav1, hav2, hq, cond_false, bz]
      exact ⟨by rw [decide_eq_true (show x ∈ L by rw [← e]; exact List.getElem_mem hlt)], gr1⟩
    · have d1 : decide (L[i] = x) = false := decide_eq_false e
      rw [d1] at hq
      simp (disch := omega) only [f40_r2, f40_r3, f40_r5, Nat.reduceEqDiff, ↓reduceIte, Bool.false_eq_true, g0, g3, g5, hlen, d0, p1, p2, l1, hav1, hav2, hq, cond_false, bz]
      refine ⟨i + 1, by omega, hlt, rfl, ?_, by simp (disch := omega) only [getK_set, Nat.reduceEqDiff, ↓reduceIte, g0, g3, and_self, Int.natCast_add, Int.natCast_one]⟩
      rw [List.take_succ_eq_append_getElem hlt, List.mem_append, List.mem_singleton]
      exact fun h => h.elim hn (fun h => e h.symm)
  · have d0 : decide ((i : Int) < (L.length : Int)) = false := decide_eq_false (by omega)
    have ei : i = L.length := by omega
    subst ei
    rw [List.take_length] at hn
    simp (disch := omega) only [f40_r2, f40_r6, f40_rs, Option.some.injEq, exists_eq_left', Nat.reduceEqDiff, ↓reduceIte, Bool.false_eq_true, g0, g5, hlen, d0, bz]
    exact ⟨by rw [decide_eq_false hn], gr1⟩
theorem f52_ret {v : V} {L : List (Int × Int)} {a b : Int} (h40 : fs.get (.ofNat 40) = some f40) (hv : Srp h v L) (hL : ∀ y ∈ L, inI y) (hx : inI (min a b, max a b)) (hb : L.length ≤ 1000000) (hc : HC h) : Ret fs f52 [v, .i .i64 a, .i .i64 b] h fun r h' => r = .b (decide ((min a b, max a b) ∈ L)) ∧ Grow h.nx.nat h h' := by
  apply ret_of rfl
  show W fs none f52_c _ _ _
  unfold f52_c
  have hav : V.agg [.i .i64 (min a b), .i .i64 (max a b)] = pV (min a b, max a b) := rfl
  simp (disch := omega) only [f52_r0, f52_r1, x_min, x_max, min_ii, max_ii, Nat.reduceEqDiff, ↓reduceIte, hav, bz]
  refine (callP_0 (ef := f40) h40 rfl (f40_ret hv hL hx hb hc)).mono ?_
  rintro r h1 ⟨rfl, hG⟩
  simp (disch := omega) only [f52_rs, Option.some.injEq, exists_eq_left', ↓reduceIte, bz]
  exact hG
/-! ### Orient -/
structure CallsOr (fs : T EF) : Prop extends CallsCk fs where
  c47 : fs.get (K.ofNat 47) = some f47
  c48 : fs.get (K.ofNat 48) = some f48
  c58 : fs.get (K.ofNat 58) = some f58
  n60 : ∀ L h P, SymR L → CallP fs (.fn (K.ofNat 60) []) [rV L] h P = P (orV L) h
structure OrI (g : Nat → Nat → Bool) (b : Bool) (F : List Bool) : Prop where
  len : F.length = 49
  yes : b = true → Ord (Er (gR (arI g))) (Er F)
  no : b = false → F = rl (fun _ _ => false) ∧ ¬ CF (Er (gR (arI g)))
theorem orI_of {n : Nat} {g : Nat → Nat → Bool} (hg : Gph n g) : ∃ b F, orV (gR (arI g)) = .tup [rV F, .b b] ∧ OrI g b F := by
  unfold orV
  rcases orO_spec (symR_g hg) with ⟨ps, e, o⟩ | ⟨e, o⟩
  · exact ⟨true, jnR ps, by rw [e], rl_len, fun _ => o, fun e => by cases e⟩
  · exact ⟨false, rl fun _ _ => false, by rw [e], rl_len, (fun e => by cases e), fun _ => ⟨rfl, o⟩⟩
end
end Go.Ev
namespace Go.Ev
open Go Go.RowKit
theorem nodup_leO {α : Type} [DecidableEq α] : ∀ {l m : List α}, l.Nodup → (∀ x ∈ l, x ∈ m) → l.length ≤ m.length
  | [], _, _, _ => Nat.zero_le _
  | x :: l, m, hn, hs => by
    rw [List.nodup_cons] at hn
    have hx : x ∈ m := hs x (by simp)
    have := nodup_leO (l := l) (m := m.erase x) hn.2 fun y hy => (List.mem_erase_of_ne (fun e : y = x => hn.1 (e ▸ hy))).2 (hs y (by simp [hy]))
    rw [List.length_erase_of_mem hx] at this
    have : 0 < m.length := List.length_pos_of_mem hx
    rw [List.length_cons]; omega
section
variable {L : List Bool} {n : Nat}
end
end Go.Ev
namespace Go.Ev
open Go Go.RowKit
section
variable {fs : T EF} {h h' : H}
end
end Go.Ev
namespace Go.Ev
open Go Go.RowKit
section
variable {fs : T EF} {h h' : H}
end
end Go.Ev
namespace Go.Ev
open Go Go.RowKit
section
variable {g : Nat → Nat → Bool} {k n : Nat}
end
end Go.Ev
namespace Go.Ev
open Go Go.RowKit
section
variable {fs : T EF} {h h' : H}
end
end Go.Ev
namespace Go.Ev
open Go Go.RowKit
theorem HC.empty : HC ⟨.e, .nil⟩ := fun _ _ => by show getB (T.get _ .nil) = _; rw [T.get_nil]; rfl
theorem pV_inj {x y : Int × Int} (h : pV x = pV y) : x = y := by
  unfold pV at h
  injection h with h
  injection h with h1 h
  injection h with h2 _
  injection h1 with _ h1
  injection h2 with _ h2
  exact Prod.ext h1 h2
theorem aV_inj {x y : Nat × Nat} (h : aV x = aV y) : x = y := by
  rw [aV_pV, aV_pV] at h
  have := pV_inj h
  injection this with h1 h2
  exact Prod.ext (by omega) (by omega)
theorem iV_inj {k : IntKind} {a b : Int} (h : V.i k a = V.i k b) : a = b := by injection h
section
variable {Y : Rig} {fs : T EF}
theorem frV_plain {L : List Bool} : (frV L).plainT = true := by unfold frV; split <;> rfl
theorem orV_plain {L : List Bool} : (orV L).plainT = true := by
  unfold orV
  split
  · show ([rV _, V.b true].all V.plain) = true
    simp only [List.all_cons, List.all_nil, rV_plain, Bool.true_and]; rfl
  · show ([rV _, V.b false].all V.plain) = true
    simp only [List.all_cons, List.all_nil, rV_plain, Bool.true_and]; rfl
theorem rV_plainT {L : List Bool} : (rV L).plainT = true := rV_plain (L := L)
def D96 : Type := {_x : Int × Int // True}
noncomputable def A96 : D96 → List V := fun ⟨x, _⟩ => [V.i .i64 x.1, V.i .i64 x.2]
noncomputable def F96 : D96 → V := fun ⟨x, _⟩ => V.b (nodeB x.1 x.2)
theorem I96 : ∀ x y, A96 x = A96 y → F96 x = F96 y := by
  rintro ⟨x, p⟩ ⟨y, q⟩ h
  have h : [V.i .i64 x.1, V.i .i64 x.2] = [V.i .i64 y.1, V.i .i64 y.2] := h
  injection h with h0 h
  have e0 := iV_inj h0
  injection h with h1 h
  have e1 := iV_inj h1
  have e : x = y := by
    exact Prod.ext e0 e1
  subst e
  rfl
theorem P96 : ∀ x, (A96 x).all V.plain = true := by
  rintro ⟨x, p⟩
  show ([V.i .i64 x.1, V.i .i64 x.2].all V.plain) = true
  first | rfl | (simp only [List.all_cons, List.all_nil, rV_plain, Bool.true_and, Bool.and_true]; done) | (simp only [List.all_cons, List.all_nil, rV_plain, Bool.true_and, Bool.and_true]; rfl)
theorem Q96 : ∀ x, (F96 x).plainT = true := fun ⟨_, _⟩ => rfl
theorem G96 (hfs : Fns Y fs) (hf : f96.nv = none ∧ ∃ fn c, FnOk Y (K.ofNat 96) f96 fn c) : ∀ args v, dataG A96 F96 args = some v → Gives Y (K.ofNat 96) args v := dataG_gives hfs hf P96 Q96 fun ⟨_, p⟩ => by have _ := p; exact f96_ret
theorem E96 {ef : EF} (hf : fs.get (K.ofNat 96) = some ef) (hn : ef.nv = some (flatG (dataG A96 F96))) (x : Int × Int) (p : True) (h : H) (P : V → H → Prop) : CallP fs (.fn (K.ofNat 96) []) (A96 ⟨x, p⟩) h P = P (F96 ⟨x, p⟩) h := callP_data hf hn I96 _ h P
def D77 : Type := {_x : Int × Int // True}
noncomputable def A77 : D77 → List V := fun ⟨x, _⟩ => [pV x]
noncomputable def F77 : D77 → V := fun ⟨x, _⟩ => pV (x.2, x.1)
theorem I77 : ∀ x y, A77 x = A77 y → F77 x = F77 y := by
  rintro ⟨x, p⟩ ⟨y, q⟩ h
  have h : [pV x] = [pV y] := h
  injection h with h0 h
  have e0 := pV_inj h0
  have e : x = y := by
    exact e0
  subst e
  rfl
theorem P77 : ∀ x, (A77 x).all V.plain = true := by
  rintro ⟨x, p⟩
  show ([pV x].all V.plain) = true
  first | rfl | (simp only [List.all_cons, List.all_nil, rV_plain, Bool.true_and, Bool.and_true]; done) | (simp only [List.all_cons, List.all_nil, rV_plain, Bool.true_and, Bool.and_true]; rfl)
theorem Q77 : ∀ x, (F77 x).plainT = true := fun ⟨_, _⟩ => rfl
theorem G77 (hfs : Fns Y fs) (hf : f77.nv = none ∧ ∃ fn c, FnOk Y (K.ofNat 77) f77 fn c) : ∀ args v, dataG A77 F77 args = some v → Gives Y (K.ofNat 77) args v := dataG_gives hfs hf P77 Q77 fun ⟨_, p⟩ => by have _ := p; exact f77_ret
theorem E77 {ef : EF} (hf : fs.get (K.ofNat 77) = some ef) (hn : ef.nv = some (flatG (dataG A77 F77))) (x : Int × Int) (p : True) (h : H) (P : V → H → Prop) : CallP fs (.fn (K.ofNat 77) []) (A77 ⟨x, p⟩) h P = P (F77 ⟨x, p⟩) h := callP_data hf hn I77 _ h P
def D78 : Type := {_x : Int × Int // True}
noncomputable def A78 : D78 → List V := fun ⟨x, _⟩ => [pV x]
noncomputable def F78 : D78 → V := fun ⟨x, _⟩ => pV x
theorem I78 : ∀ x y, A78 x = A78 y → F78 x = F78 y := by
  rintro ⟨x, p⟩ ⟨y, q⟩ h
  have h : [pV x] = [pV y] := h
  injection h with h0 h
theorem P78 : ∀ x, (A78 x).all V.plain = true := by
  rintro ⟨x, p⟩
  show ([pV x].all V.plain) = true
  first | rfl | (simp only [List.all_cons, List.all_nil, rV_plain, Bool.true_and, Bool.and_true]; done) | (simp only [List.all_cons, List.all_nil, rV_plain, Bool.true_and, Bool.and_true]; rfl)
theorem Q78 : ∀ x, (F78 x).plainT = true := fun ⟨_, _⟩ => rfl
theorem G78 (hfs : Fns Y fs) (hf : f78.nv = none ∧ ∃ fn c, FnOk Y (K.ofNat 78) f78 fn c) : ∀ args v, dataG A78 F78 args = some v → Gives Y (K.ofNat 78) args v := dataG_gives hfs hf P78 Q78 fun ⟨_, p⟩ => by have _ := p; exact f78_ret
theorem E78 {ef : EF} (hf : fs.get (K.ofNat 78) = some ef) (hn : ef.nv = some (flatG (dataG A78 F78))) (x : Int × Int) (p : True) (h : H) (P : V → H → Prop) : CallP fs (.fn (K.ofNat 78) []) (A78 ⟨x, p⟩) h P = P (F78 ⟨x, p⟩) h := callP_data hf hn I78 _ h P
def D56 : Type := {_x : Int × Int // True}
noncomputable def A56 : D56 → List V := fun ⟨x, _⟩ => [pV x]
noncomputable def F56 : D56 → V := fun ⟨x, _⟩ => pV x
theorem I56 : ∀ x y, A56 x = A56 y → F56 x = F56 y := by
  rintro ⟨x, p⟩ ⟨y, q⟩ h
  have h : [pV x] = [pV y] := h
  injection h with h0 h
theorem P56 : ∀ x, (A56 x).all V.plain = true := by
  rintro ⟨x, p⟩
  show ([pV x].all V.plain) = true
  first | rfl | (simp only [List.all_cons, List.all_nil, rV_plain, Bool.true_and, Bool.and_true]; done) | (simp only [List.all_cons, List.all_nil, rV_plain, Bool.true_and, Bool.and_true]; rfl)
theorem Q56 : ∀ x, (F56 x).plainT = true := fun ⟨_, _⟩ => rfl
theorem G56 (hfs : Fns Y fs) (hf : f56.nv = none ∧ ∃ fn c, FnOk Y (K.ofNat 56) f56 fn c) : ∀ args v, dataG A56 F56 args = some v → Gives Y (K.ofNat 56) args v := dataG_gives hfs hf P56 Q56 fun ⟨_, p⟩ => by have _ := p; exact f56_ret
theorem E56 {ef : EF} (hf : fs.get (K.ofNat 56) = some ef) (hn : ef.nv = some (flatG (dataG A56 F56))) (x : Int × Int) (p : True) (h : H) (P : V → H → Prop) : CallP fs (.fn (K.ofNat 56) []) (A56 ⟨x, p⟩) h P = P (F56 ⟨x, p⟩) h := callP_data hf hn I56 _ h P
def D70 : Type := {x : List Bool // x.length = 49}
noncomputable def A70 : D70 → List V := fun ⟨x, _⟩ => [rV x]
noncomputable def F70 : D70 → V := fun ⟨x, _⟩ => rV (turnR x)
theorem I70 : ∀ x y, A70 x = A70 y → F70 x = F70 y := by
  rintro ⟨x, p⟩ ⟨y, q⟩ h
  have h : [rV x] = [rV y] := h
  injection h with h0 h
  have e0 := rV_inj h0
  have e : x = y := by
    exact e0
  subst e
  rfl
theorem P70 : ∀ x, (A70 x).all V.plain = true := by
  rintro ⟨x, p⟩
  show ([rV x].all V.plain) = true
  first | rfl | (simp only [List.all_cons, List.all_nil, rV_plain, Bool.and_true]; done) | (simp only [List.all_cons, List.all_nil, rV_plain, Bool.true_and, Bool.and_true]; rfl)
theorem Q70 : ∀ x, (F70 x).plainT = true := fun ⟨_, _⟩ => rV_plainT
theorem G70 (h84 : fs.get (K.ofNat 84) = some f84) (h101 : fs.get (K.ofNat 101) = some f101) (hfs : Fns Y fs) (hf : f70.nv = none ∧ ∃ fn c, FnOk Y (K.ofNat 70) f70 fn c) : ∀ args v, dataG A70 F70 args = some v → Gives Y (K.ofNat 70) args v := dataG_gives hfs hf P70 Q70 fun ⟨_, p⟩ => by have _ := p; exact (f70_ret p h84 h101 HC.empty).mono fun _ _ h => h.1
theorem E70 {ef : EF} (hf : fs.get (K.ofNat 70) = some ef) (hn : ef.nv = some (flatG (dataG A70 F70))) (x : List Bool) (p : x.length = 49) (h : H) (P : V → H → Prop) : CallP fs (.fn (K.ofNat 70) []) (A70 ⟨x, p⟩) h P = P (F70 ⟨x, p⟩) h := callP_data hf hn I70 _ h P
def D81 : Type := {x : List Bool × List Bool // x.1.length = 49 ∧ x.2.length = 49}
noncomputable def A81 : D81 → List V := fun ⟨x, _⟩ => [rV x.1, rV x.2]
noncomputable def F81 : D81 → V := fun ⟨x, _⟩ => rV (woR x.1 x.2)
theorem I81 : ∀ x y, A81 x = A81 y → F81 x = F81 y := by
  rintro ⟨x, p⟩ ⟨y, q⟩ h
  have h : [rV x.1, rV x.2] = [rV y.1, rV y.2] := h
  injection h with h0 h
  have e0 := rV_inj h0
  injection h with h1 h
  have e1 := rV_inj h1
  have e : x = y := by
    exact Prod.ext e0 e1
  subst e
  rfl
theorem P81 : ∀ x, (A81 x).all V.plain = true := by
  rintro ⟨x, p⟩
  show ([rV x.1, rV x.2].all V.plain) = true
  first | rfl | (simp only [List.all_cons, List.all_nil, rV_plain, Bool.and_true]; done) | (simp only [List.all_cons, List.all_nil, rV_plain, Bool.true_and, Bool.and_true]; rfl)
theorem Q81 : ∀ x, (F81 x).plainT = true := fun ⟨_, _⟩ => rV_plainT
theorem G81 (h84 : fs.get (K.ofNat 84) = some f84) (h101 : fs.get (K.ofNat 101) = some f101) (hfs : Fns Y fs) (hf : f81.nv = none ∧ ∃ fn c, FnOk Y (K.ofNat 81) f81 fn c) : ∀ args v, dataG A81 F81 args = some v → Gives Y (K.ofNat 81) args v := dataG_gives hfs hf P81 Q81 fun ⟨_, p⟩ => by have _ := p; exact f81_ret p.1 p.2 h84 h101 HC.empty
theorem E81 {ef : EF} (hf : fs.get (K.ofNat 81) = some ef) (hn : ef.nv = some (flatG (dataG A81 F81))) (x : List Bool × List Bool) (p : x.1.length = 49 ∧ x.2.length = 49) (h : H) (P : V → H → Prop) : CallP fs (.fn (K.ofNat 81) []) (A81 ⟨x, p⟩) h P = P (F81 ⟨x, p⟩) h := callP_data hf hn I81 _ h P
def D85 : Type := {x : List Bool × (Int × Int) // x.1.length = 49}
noncomputable def A85 : D85 → List V := fun ⟨x, _⟩ => [rV x.1, pV x.2]
noncomputable def F85 : D85 → V := fun ⟨x, _⟩ => V.b (hasR x.1 x.2)
theorem I85 : ∀ x y, A85 x = A85 y → F85 x = F85 y := by
  rintro ⟨x, p⟩ ⟨y, q⟩ h
  have h : [rV x.1, pV x.2] = [rV y.1, pV y.2] := h
  injection h with h0 h
  have e0 := rV_inj h0
  injection h with h1 h
  have e1 := pV_inj h1
  have e : x = y := by
    exact Prod.ext e0 e1
  subst e
  rfl
theorem P85 : ∀ x, (A85 x).all V.plain = true := by
  rintro ⟨x, p⟩
  show ([rV x.1, pV x.2].all V.plain) = true
  first | rfl | (simp only [List.all_cons, List.all_nil, rV_plain, Bool.true_and, Bool.and_true]; done) | (simp only [List.all_cons, List.all_nil, rV_plain, Bool.true_and, Bool.and_true]; rfl)
theorem Q85 : ∀ x, (F85 x).plainT = true := fun ⟨_, _⟩ => rfl
theorem G85 (k : Nat1 fs) (hfs : Fns Y fs) (hf : f85.nv = none ∧ ∃ fn c, FnOk Y (K.ofNat 85) f85 fn c) : ∀ args v, dataG A85 F85 args = some v → Gives Y (K.ofNat 85) args v := dataG_gives hfs hf P85 Q85 fun ⟨_, p⟩ => by have _ := p; exact f85_ret k p
theorem E85 {ef : EF} (hf : fs.get (K.ofNat 85) = some ef) (hn : ef.nv = some (flatG (dataG A85 F85))) (x : List Bool × (Int × Int)) (p : x.1.length = 49) (h : H) (P : V → H → Prop) : CallP fs (.fn (K.ofNat 85) []) (A85 ⟨x, p⟩) h P = P (F85 ⟨x, p⟩) h := callP_data hf hn I85 _ h P
def D87 : Type := {x : List Bool // x.length = 49}
noncomputable def A87 : D87 → List V := fun ⟨x, _⟩ => [rV x]
noncomputable def F87 : D87 → V := fun ⟨x, _⟩ => frV x
theorem I87 : ∀ x y, A87 x = A87 y → F87 x = F87 y := by
  rintro ⟨x, p⟩ ⟨y, q⟩ h
  have h : [rV x] = [rV y] := h
  injection h with h0 h
  have e0 := rV_inj h0
  have e : x = y := by
    exact e0
  subst e
  rfl
theorem P87 : ∀ x, (A87 x).all V.plain = true := by
  rintro ⟨x, p⟩
  show ([rV x].all V.plain) = true
  first | rfl | (simp only [List.all_cons, List.all_nil, rV_plain, Bool.and_true]; done) | (simp only [List.all_cons, List.all_nil, rV_plain, Bool.true_and, Bool.and_true]; rfl)
theorem Q87 : ∀ x, (F87 x).plainT = true := fun ⟨_, _⟩ => frV_plain
theorem G87 (k : Nat2 fs) (hfs : Fns Y fs) (hf : f87.nv = none ∧ ∃ fn c, FnOk Y (K.ofNat 87) f87 fn c) : ∀ args v, dataG A87 F87 args = some v → Gives Y (K.ofNat 87) args v := dataG_gives hfs hf P87 Q87 fun ⟨_, p⟩ => by have _ := p; exact f87_ret k p HC.empty
theorem E87 {ef : EF} (hf : fs.get (K.ofNat 87) = some ef) (hn : ef.nv = some (flatG (dataG A87 F87))) (x : List Bool) (p : x.length = 49) (h : H) (P : V → H → Prop) : CallP fs (.fn (K.ofNat 87) []) (A87 ⟨x, p⟩) h P = P (F87 ⟨x, p⟩) h := callP_data hf hn I87 _ h P
def D92 : Type := {x : List Bool // x.length = 49}
noncomputable def A92 : D92 → List V := fun ⟨x, _⟩ => [rV x]
noncomputable def F92 : D92 → V := fun ⟨x, _⟩ => rV (spR x)
theorem I92 : ∀ x y, A92 x = A92 y → F92 x = F92 y := by
  rintro ⟨x, p⟩ ⟨y, q⟩ h
  have h : [rV x] = [rV y] := h
  injection h with h0 h
  have e0 := rV_inj h0
  have e : x = y := by
    exact e0
  subst e
  rfl
theorem P92 : ∀ x, (A92 x).all V.plain = true := by
  rintro ⟨x, p⟩
  show ([rV x].all V.plain) = true
  first | rfl | (simp only [List.all_cons, List.all_nil, rV_plain, Bool.and_true]; done) | (simp only [List.all_cons, List.all_nil, rV_plain, Bool.true_and, Bool.and_true]; rfl)
theorem Q92 : ∀ x, (F92 x).plainT = true := fun ⟨_, _⟩ => rV_plainT
theorem G92 (k : Nat2 fs) (hfs : Fns Y fs) (hf : f92.nv = none ∧ ∃ fn c, FnOk Y (K.ofNat 92) f92 fn c) : ∀ args v, dataG A92 F92 args = some v → Gives Y (K.ofNat 92) args v := dataG_gives hfs hf P92 Q92 fun ⟨_, p⟩ => by have _ := p; exact f92_ret k p HC.empty
theorem E92 {ef : EF} (hf : fs.get (K.ofNat 92) = some ef) (hn : ef.nv = some (flatG (dataG A92 F92))) (x : List Bool) (p : x.length = 49) (h : H) (P : V → H → Prop) : CallP fs (.fn (K.ofNat 92) []) (A92 ⟨x, p⟩) h P = P (F92 ⟨x, p⟩) h := callP_data hf hn I92 _ h P
def D91 : Type := {x : List Bool × List Bool // x.1.length = 49 ∧ x.2.length = 49}
noncomputable def A91 : D91 → List V := fun ⟨x, _⟩ => [rV x.1, rV x.2]
noncomputable def F91 : D91 → V := fun ⟨x, _⟩ => V.b (cvB x.1 x.2)
theorem I91 : ∀ x y, A91 x = A91 y → F91 x = F91 y := by
  rintro ⟨x, p⟩ ⟨y, q⟩ h
  have h : [rV x.1, rV x.2] = [rV y.1, rV y.2] := h
  injection h with h0 h
  have e0 := rV_inj h0
  injection h with h1 h
  have e1 := rV_inj h1
  have e : x = y := by
    exact Prod.ext e0 e1
  subst e
  rfl
theorem P91 : ∀ x, (A91 x).all V.plain = true := by
  rintro ⟨x, p⟩
  show ([rV x.1, rV x.2].all V.plain) = true
  first | rfl | (simp only [List.all_cons, List.all_nil, rV_plain, Bool.and_true]; done) | (simp only [List.all_cons, List.all_nil, rV_plain, Bool.true_and, Bool.and_true]; rfl)
theorem Q91 : ∀ x, (F91 x).plainT = true := fun ⟨_, _⟩ => rfl
theorem G91 (k : Nat2 fs) (hfs : Fns Y fs) (hf : f91.nv = none ∧ ∃ fn c, FnOk Y (K.ofNat 91) f91 fn c) : ∀ args v, dataG A91 F91 args = some v → Gives Y (K.ofNat 91) args v := dataG_gives hfs hf P91 Q91 fun ⟨_, p⟩ => by have _ := p; exact f91_ret k p.1 p.2 HC.empty
theorem E91 {ef : EF} (hf : fs.get (K.ofNat 91) = some ef) (hn : ef.nv = some (flatG (dataG A91 F91))) (x : List Bool × List Bool) (p : x.1.length = 49 ∧ x.2.length = 49) (h : H) (P : V → H → Prop) : CallP fs (.fn (K.ofNat 91) []) (A91 ⟨x, p⟩) h P = P (F91 ⟨x, p⟩) h := callP_data hf hn I91 _ h P
def D49 : Type := {x : List Bool × Nat // x.1.length = 49 ∧ x.2 ≤ 7}
noncomputable def A49 : D49 → List V := fun ⟨x, _⟩ => [rV x.1, V.i .i64 (x.2 : Int)]
noncomputable def F49 : D49 → V := fun ⟨x, _⟩ => rV (otR x.2 x.1)
theorem I49 : ∀ x y, A49 x = A49 y → F49 x = F49 y := by
  rintro ⟨x, p⟩ ⟨y, q⟩ h
  have h : [rV x.1, V.i .i64 (x.2 : Int)] = [rV y.1, V.i .i64 (y.2 : Int)] := h
  injection h with h0 h
  have e0 := rV_inj h0
  injection h with h1 h
  have e1 := iV_inj h1
  have e : x = y := by
    exact Prod.ext e0 (by omega)
  subst e
  rfl
theorem P49 : ∀ x, (A49 x).all V.plain = true := by
  rintro ⟨x, p⟩
  show ([rV x.1, V.i .i64 (x.2 : Int)].all V.plain) = true
  first | rfl | (simp only [List.all_cons, List.all_nil, rV_plain, Bool.true_and, Bool.and_true]; done) | (simp only [List.all_cons, List.all_nil, rV_plain, Bool.true_and, Bool.and_true]; rfl)
theorem Q49 : ∀ x, (F49 x).plainT = true := fun ⟨_, _⟩ => rV_plainT
theorem G49 (k : Nat2 fs) (hfs : Fns Y fs) (hf : f49.nv = none ∧ ∃ fn c, FnOk Y (K.ofNat 49) f49 fn c) : ∀ args v, dataG A49 F49 args = some v → Gives Y (K.ofNat 49) args v := dataG_gives hfs hf P49 Q49 fun ⟨_, p⟩ => by have _ := p; exact f49_ret k p.1 p.2 HC.empty
theorem E49 {ef : EF} (hf : fs.get (K.ofNat 49) = some ef) (hn : ef.nv = some (flatG (dataG A49 F49))) (x : List Bool × Nat) (p : x.1.length = 49 ∧ x.2 ≤ 7) (h : H) (P : V → H → Prop) : CallP fs (.fn (K.ofNat 49) []) (A49 ⟨x, p⟩) h P = P (F49 ⟨x, p⟩) h := callP_data hf hn I49 _ h P
def D57 : Type := {x : List Bool × (Nat × Nat) // x.1.length = 49 ∧ (x.2.1 < 7 ∧ x.2.2 < 7)}
noncomputable def A57 : D57 → List V := fun ⟨x, _⟩ => [rV x.1, aV x.2]
noncomputable def F57 : D57 → V := fun ⟨x, _⟩ => rV (clsR x.1 x.2)
theorem I57 : ∀ x y, A57 x = A57 y → F57 x = F57 y := by
  rintro ⟨x, p⟩ ⟨y, q⟩ h
  have h : [rV x.1, aV x.2] = [rV y.1, aV y.2] := h
  injection h with h0 h
  have e0 := rV_inj h0
  injection h with h1 h
  have e1 := aV_inj h1
  have e : x = y := by
    exact Prod.ext e0 e1
  subst e
  rfl
theorem P57 : ∀ x, (A57 x).all V.plain = true := by
  rintro ⟨x, p⟩
  show ([rV x.1, aV x.2].all V.plain) = true
  first | rfl | (simp only [List.all_cons, List.all_nil, rV_plain, Bool.true_and, Bool.and_true]; done) | (simp only [List.all_cons, List.all_nil, rV_plain, Bool.true_and, Bool.and_true]; rfl)
theorem Q57 : ∀ x, (F57 x).plainT = true := fun ⟨_, _⟩ => rV_plainT
theorem G57 (k : Nat3 fs) (h86 : fs.get (K.ofNat 86) = some f86) (h102 : fs.get (K.ofNat 102) = some f102) (hfs : Fns Y fs) (hf : f57.nv = none ∧ ∃ fn c, FnOk Y (K.ofNat 57) f57 fn c) : ∀ args v, dataG A57 F57 args = some v → Gives Y (K.ofNat 57) args v := dataG_gives hfs hf P57 Q57 fun ⟨_, p⟩ => by have _ := p; exact f57_ret k h86 h102 p.1 p.2 HC.empty
theorem E57 {ef : EF} (hf : fs.get (K.ofNat 57) = some ef) (hn : ef.nv = some (flatG (dataG A57 F57))) (x : List Bool × (Nat × Nat)) (p : x.1.length = 49 ∧ (x.2.1 < 7 ∧ x.2.2 < 7)) (h : H) (P : V → H → Prop) : CallP fs (.fn (K.ofNat 57) []) (A57 ⟨x, p⟩) h P = P (F57 ⟨x, p⟩) h := callP_data hf hn I57 _ h P
def D55 : Type := {x : List Bool × ((Nat × Nat) × (Nat × Nat)) // x.1.length = 49 ∧ ((x.2.1.1 < 7 ∧ x.2.1.2 < 7) ∧ (x.2.2.1 < 7 ∧ x.2.2.2 < 7))}
noncomputable def A55 : D55 → List V := fun ⟨x, _⟩ => [rV x.1, aV x.2.1, aV x.2.2]
noncomputable def F55 : D55 → V := fun ⟨x, _⟩ => V.b (decide (x.2.2 ∈ fcY x.1 x.2.1.1 x.2.1.2))
theorem I55 : ∀ x y, A55 x = A55 y → F55 x = F55 y := by
  rintro ⟨x, p⟩ ⟨y, q⟩ h
  have h : [rV x.1, aV x.2.1, aV x.2.2] = [rV y.1, aV y.2.1, aV y.2.2] := h
  injection h with h0 h
  have e0 := rV_inj h0
  injection h with h1 h
  have e1 := aV_inj h1
  injection h with h2 h
  have e2 := aV_inj h2
  have e : x = y := by
    exact Prod.ext e0 (Prod.ext e1 e2)
  subst e
  rfl
theorem P55 : ∀ x, (A55 x).all V.plain = true := by
  rintro ⟨x, p⟩
  show ([rV x.1, aV x.2.1, aV x.2.2].all V.plain) = true
  first | rfl | (simp only [List.all_cons, List.all_nil, rV_plain, Bool.true_and, Bool.and_true]; done) | (simp only [List.all_cons, List.all_nil, rV_plain, Bool.true_and, Bool.and_true]; rfl)
theorem Q55 : ∀ x, (F55 x).plainT = true := fun ⟨_, _⟩ => rfl
theorem G55 (h86 : fs.get (K.ofNat 86) = some f86) (h102 : fs.get (K.ofNat 102) = some f102) (hfs : Fns Y fs) (hf : f55.nv = none ∧ ∃ fn c, FnOk Y (K.ofNat 55) f55 fn c) : ∀ args v, dataG A55 F55 args = some v → Gives Y (K.ofNat 55) args v := dataG_gives hfs hf P55 Q55 fun ⟨_, p⟩ => by have _ := p; exact f55_ret h86 h102 p.1 p.2.1 p.2.2 HC.empty
theorem E55 {ef : EF} (hf : fs.get (K.ofNat 55) = some ef) (hn : ef.nv = some (flatG (dataG A55 F55))) (x : List Bool × ((Nat × Nat) × (Nat × Nat))) (p : x.1.length = 49 ∧ ((x.2.1.1 < 7 ∧ x.2.1.2 < 7) ∧ (x.2.2.1 < 7 ∧ x.2.2.2 < 7))) (h : H) (P : V → H → Prop) : CallP fs (.fn (K.ofNat 55) []) (A55 ⟨x, p⟩) h P = P (F55 ⟨x, p⟩) h := callP_data hf hn I55 _ h P
def D76 : Type := {x : List Bool // x.length = 49}
noncomputable def A76 : D76 → List V := fun ⟨x, _⟩ => [rV x]
noncomputable def F76 : D76 → V := fun ⟨x, _⟩ => V.b (trB x)
theorem I76 : ∀ x y, A76 x = A76 y → F76 x = F76 y := by
  rintro ⟨x, p⟩ ⟨y, q⟩ h
  have h : [rV x] = [rV y] := h
  injection h with h0 h
  have e0 := rV_inj h0
  have e : x = y := by
    exact e0
  subst e
  rfl
theorem P76 : ∀ x, (A76 x).all V.plain = true := by
  rintro ⟨x, p⟩
  show ([rV x].all V.plain) = true
  first | rfl | (simp only [List.all_cons, List.all_nil, rV_plain, Bool.and_true]; done) | (simp only [List.all_cons, List.all_nil, rV_plain, Bool.true_and, Bool.and_true]; rfl)
theorem Q76 : ∀ x, (F76 x).plainT = true := fun ⟨_, _⟩ => rfl
theorem G76 (k : Nat3 fs) (hfs : Fns Y fs) (hf : f76.nv = none ∧ ∃ fn c, FnOk Y (K.ofNat 76) f76 fn c) : ∀ args v, dataG A76 F76 args = some v → Gives Y (K.ofNat 76) args v := dataG_gives hfs hf P76 Q76 fun ⟨_, p⟩ => by have _ := p; exact f76_ret k p
theorem E76 {ef : EF} (hf : fs.get (K.ofNat 76) = some ef) (hn : ef.nv = some (flatG (dataG A76 F76))) (x : List Bool) (p : x.length = 49) (h : H) (P : V → H → Prop) : CallP fs (.fn (K.ofNat 76) []) (A76 ⟨x, p⟩) h P = P (F76 ⟨x, p⟩) h := callP_data hf hn I76 _ h P
def D80 : Type := {_x : (Int × Int) × (Int × Int) // True}
noncomputable def A80 : D80 → List V := fun ⟨x, _⟩ => [pV x.1, pV x.2]
noncomputable def F80 : D80 → V := fun ⟨x, _⟩ => V.b (bfB x.1 x.2)
theorem I80 : ∀ x y, A80 x = A80 y → F80 x = F80 y := by
  rintro ⟨x, p⟩ ⟨y, q⟩ h
  have h : [pV x.1, pV x.2] = [pV y.1, pV y.2] := h
  injection h with h0 h
  have e0 := pV_inj h0
  injection h with h1 h
  have e1 := pV_inj h1
  have e : x = y := by
    exact Prod.ext e0 e1
  subst e
  rfl
theorem P80 : ∀ x, (A80 x).all V.plain = true := by
  rintro ⟨x, p⟩
  show ([pV x.1, pV x.2].all V.plain) = true
  first | rfl | (simp only [List.all_cons, List.all_nil, rV_plain, Bool.true_and, Bool.and_true]; done) | (simp only [List.all_cons, List.all_nil, rV_plain, Bool.true_and, Bool.and_true]; rfl)
theorem Q80 : ∀ x, (F80 x).plainT = true := fun ⟨_, _⟩ => rfl
theorem G80 (h99 : fs.get (K.ofNat 99) = some f99) (h108 : fs.get (K.ofNat 108) = some f108) (h121 : fs.get (K.ofNat 121) = some f121) (hfs : Fns Y fs) (hf : f80.nv = none ∧ ∃ fn c, FnOk Y (K.ofNat 80) f80 fn c) : ∀ args v, dataG A80 F80 args = some v → Gives Y (K.ofNat 80) args v := dataG_gives hfs hf P80 Q80 fun ⟨_, p⟩ => by have _ := p; exact f80_ret h99 h108 h121
theorem E80 {ef : EF} (hf : fs.get (K.ofNat 80) = some ef) (hn : ef.nv = some (flatG (dataG A80 F80))) (x : (Int × Int) × (Int × Int)) (p : True) (h : H) (P : V → H → Prop) : CallP fs (.fn (K.ofNat 80) []) (A80 ⟨x, p⟩) h P = P (F80 ⟨x, p⟩) h := callP_data hf hn I80 _ h P
def D60 : Type := {x : List Bool // SymR x}
noncomputable def A60 : D60 → List V := fun ⟨x, _⟩ => [rV x]
noncomputable def F60 : D60 → V := fun ⟨x, _⟩ => orV x
theorem I60 : ∀ x y, A60 x = A60 y → F60 x = F60 y := by
  rintro ⟨x, p⟩ ⟨y, q⟩ h
  have h : [rV x] = [rV y] := h
  injection h with h0 h
  have e0 := rV_inj h0
  have e : x = y := by
    exact e0
  subst e
  rfl
theorem P60 : ∀ x, (A60 x).all V.plain = true := by
  rintro ⟨x, p⟩
  show ([rV x].all V.plain) = true
  first | rfl | (simp only [List.all_cons, List.all_nil, rV_plain, Bool.and_true]; done) | (simp only [List.all_cons, List.all_nil, rV_plain, Bool.true_and, Bool.and_true]; rfl)
theorem Q60 : ∀ x, (F60 x).plainT = true := fun ⟨_, _⟩ => orV_plain
theorem G60 (k : Nat4 fs) (hfs : Fns Y fs) (hf : f60.nv = none ∧ ∃ fn c, FnOk Y (K.ofNat 60) f60 fn c) : ∀ args v, dataG A60 F60 args = some v → Gives Y (K.ofNat 60) args v := dataG_gives hfs hf P60 Q60 fun ⟨_, p⟩ => by have _ := p; exact f60_ret k p HC.empty
theorem E60 {ef : EF} (hf : fs.get (K.ofNat 60) = some ef) (hn : ef.nv = some (flatG (dataG A60 F60))) (x : List Bool) (p : SymR x) (h : H) (P : V → H → Prop) : CallP fs (.fn (K.ofNat 60) []) (A60 ⟨x, p⟩) h P = P (F60 ⟨x, p⟩) h := callP_data hf hn I60 _ h P
end
end Go.Ev
namespace Go.Ev
open Go Go.RowKit
def in7 (x : Nat × Nat) : Prop := x.1 < 7 ∧ x.2 < 7
theorem fcY_rch {L : List Bool} {x : Nat × Nat} {p : Nat × Nat} (h : p ∈ fcY L x.1 x.2) {a b : Nat} (k : Rch (Er L) a b x.1 x.2) : Rch (Er L) a b p.1 p.2 := by
  rcases mem_fcY.1 h with ⟨e, h3⟩ | ⟨e, h3⟩
  · unfold fcA at h3
    simp only [Bool.and_eq_true, Bool.not_eq_true'] at h3
    rw [e]
    exact k.out h3.1 (fun h => by have h : rat L x.2 p.2 = true := h; rw [h3.2] at h; cases h)
  · unfold fcB at h3
    simp only [Bool.and_eq_true, Bool.not_eq_true'] at h3
    rw [e]
    exact k.inn h3.2.1 (fun h => by have h : rat L p.1 x.1 = true := h; rw [h3.2.2] at h; cases h)
end Go.Ev
namespace Go.Ev
open Go Go.RowKit
section
variable {fs : T EF} {h h' : H}
end
end Go.Ev
namespace Go.Ev
open Go Go.RowKit
section
variable {fs : T EF} {h h' : H}
def swN (x : Nat × Nat) : Nat × Nat := (x.2, x.1)
end
end Go.Ev
namespace Go.Ev
open Go Go.RowKit
noncomputable def f20_r0 : List EOper := [oG 4 (.box 2 (tG 1)), oG 5 (.box 2 (tG 2)), oG 6 (.as (.c (.b false)))]
noncomputable def f20_r1 : List EOper := [oG 7 (.ldn 2 (tG 4)), oG 8 (.ldn 2 (tG 5)), oG 9 (.eqk (.many [(some .i64), (some .i64)]) false (tG 7) (tG 8))]
noncomputable def f20_r2 : List EOper := [oG 6 (.as (.c (.b true)))]
noncomputable def f20_r3 : List EOper := [oG 10 (.iadr 2 1 (tG 4) (cG 0)), oG 11 (.ld (tG 10)), oG 12 (.iadr 2 1 (tG 5) (cG 0)), oG 13 (.ld (tG 12)), oG 14 (.bin .eql (tG 11) (tG 13))]
noncomputable def f20_r4 : List EOper := [oG 15 (.mv (tG 0)), oG 16 (.iadr 2 1 (tG 4) (cG 1)), oG 17 (.ld (tG 16)), oG 18 (.iadr 2 1 (tG 5) (cG 1)), oG 19 (.ld (tG 18)), oG 20 (.call (fG 52) [(tG 15), (tG 17), (tG 19)]), oG 21 (.not (tG 20)), oG 6 (.as (tG 21))]
noncomputable def f20_r5 : List EOper := [oG 22 (.iadr 2 1 (tG 4) (cG 1)), oG 23 (.ld (tG 22)), oG 24 (.iadr 2 1 (tG 5) (cG 1)), oG 25 (.ld (tG 24)), oG 26 (.bin .eql (tG 23) (tG 25)), oG 27 (.mv (tG 26)), gG 28 27 true (.mv (tG 0)), gG 29 27 true (.iadr 2 1 (tG 4) (cG 0)), gG 30 27 true (.ld (tG 29)), gG 31 27 true (.iadr 2 1 (tG 5) (cG 0)), gG 32 27 true (.ld (tG 31)), gG 33 27 true (.call (fG 52) [(tG 28), (tG 30), (tG 32)]), gG 34 27 true (.not (tG 33)), oG 35 (.pick (tG 27) (tG 34) (.c (.b false))), oG 6 (.as (tG 35))]
noncomputable def f20_c : EC := (.seq (.reg f20_r0) (.seq (.seq (.reg f20_r1) (.cond (tG 9) (.seq (.reg f20_r2) .ret) .skip)) (.seq (.seq (.reg f20_r3) (.cond (tG 14) (.seq (.reg f20_r4) .ret) .skip)) (.seq (.reg f20_r5) .ret))))
noncomputable def f20 : EF := ⟨36, [.tmp (.ofNat 6)], f20_c, none⟩
theorem f20_rs : f20.rs = [.tmp (.ofNat 6)] := of_eq_true (eq_self _)
noncomputable def f53_r0 : List EOper := [oG 4 (.as (.c .sn))]
noncomputable def f53_r1 : List EOper := [oG 5 (.as (.c .sn))]
noncomputable def f53_r2 : List EOper := [oG 6 (.as (cG 0))]
noncomputable def f53_r3 : List EOper := [oG 8 (.mv (tG 6)), oG 9 (.mv (tG 0)), oG 10 (.bin .lss (tG 8) (tG 9))]
noncomputable def f53_r4 : List EOper := [oG 7 (.as (cG 0))]
noncomputable def f53_r5 : List EOper := [oG 13 (.mv (tG 7)), oG 14 (.mv (tG 0)), oG 15 (.bin .lss (tG 13) (tG 14))]
noncomputable def f53_r6 : List EOper := [oG 18 (.mv (tG 6)), oG 19 (.mv (tG 7)), oG 20 (.bin .neq (tG 18) (tG 19)), oG 21 (.mv (tG 20)), gG 22 21 true (.mv (tG 1)), gG 23 21 true (.mv (tG 6)), gG 24 21 true (.mv (tG 7)), gG 25 21 true (.call (fG 52) [(tG 22), (tG 23), (tG 24)]), oG 26 (.pick (tG 21) (tG 25) (.c (.b false)))]
noncomputable def f53_r7 : List EOper := [oG 27 (.mv (tG 5)), oG 28 (.mv (tG 6)), oG 29 (.mv (tG 7)), oG 30 (.build [(.i .i64 (.ofNat 0)), (.i .i64 (.ofNat 0))] [(0, 1, (tG 28)), (1, 1, (tG 29))]), oG 31 (.bslice 1 2 [(.i .i64 (.ofNat 0)), (.i .i64 (.ofNat 0))] [(0, 2, (tG 30))]), oG 32 (.app 2 (tG 27) (tG 31)), oG 5 (.as (tG 32))]
noncomputable def f53_r8 : List EOper := [oG 16 (.mv (tG 7)), oG 17 (.bin .add (tG 16) (cG 1)), oG 7 (.as (tG 17))]
noncomputable def f53_l0 : EC := (.seq (.seq (.reg f53_r5) (.cond (tG 15) .skip (.exit 2))) (.seq (.block 3 (.seq (.reg f53_r6) (.cond (tG 26) (.reg f53_r7) .skip))) (.reg f53_r8)))
noncomputable def f53_r9 : List EOper := [oG 11 (.mv (tG 6)), oG 12 (.bin .add (tG 11) (cG 1)), oG 6 (.as (tG 12))]
noncomputable def f53_l1 : EC := (.seq (.seq (.reg f53_r3) (.cond (tG 10) .skip (.exit 0))) (.seq (.block 1 (.seq (.reg f53_r4) (.block 2 (.loop f53_l0)))) (.reg f53_r9)))
noncomputable def f53_r10 : List EOper := [oG 33 (.mv (tG 5)), oG 4 (.as (tG 33))]
noncomputable def f53_c : EC := (.seq (.reg f53_r0) (.seq (.reg f53_r1) (.seq (.seq (.reg f53_r2) (.block 0 (.loop f53_l1))) (.seq (.reg f53_r10) .ret))))
noncomputable def f53 : EF := ⟨34, [.tmp (.ofNat 4)], f53_c, none⟩
theorem f53_rs : f53.rs = [.tmp (.ofNat 4)] := of_eq_true (eq_self _)
section
variable {fs : T EF} {h h' : H}
theorem jn_sy {n : Nat} {g : Nat → Nat → Bool} (hg : Gph n g) {a b : Nat} : decide ((min (a : Int) (b : Int), max (a : Int) (b : Int)) ∈ arI g) = rat (gR (arI g)) a b := by
  rw [Bool.eq_iff_iff, decide_eq_true_eq, gR_arI hg]
  unfold sy
  rw [Bool.or_eq_true]
  have h7 := hg.n7
  by_cases h : a ≤ b
  · rw [show min (a : Int) (b : Int) = (a : Int) by omega, show max (a : Int) (b : Int) = (b : Int) by omega, mem_arI']
    exact ⟨fun h => .inl h.2.2, fun h1 => h1.elim (fun h1 => by have := hg.up _ _ h1; exact ⟨by omega, by omega, h1⟩) (fun h1 => by have := hg.up _ _ h1; omega)⟩
  · rw [show min (a : Int) (b : Int) = (b : Int) by omega, show max (a : Int) (b : Int) = (a : Int) by omega, mem_arI']
    exact ⟨fun h => .inr h.2.2, fun h1 => h1.elim (fun h1 => by have := hg.up _ _ h1; omega) (fun h1 => by have := hg.up _ _ h1; exact ⟨by omega, by omega, h1⟩)⟩
theorem inI_mm {a b : Nat} (ha : a < 7) (hb : b < 7) : inI (min (a : Int) (b : Int), max (a : Int) (b : Int)) := by
  by_cases h : a ≤ b
  · rw [show min (a : Int) (b : Int) = (a : Int) by omega, show max (a : Int) (b : Int) = (b : Int) by omega]; exact inI_nat ha hb
  · rw [show min (a : Int) (b : Int) = (b : Int) by omega, show max (a : Int) (b : Int) = (a : Int) by omega]; exact inI_nat hb ha
def frcB (G : List Bool) (x y : Nat × Nat) : Bool := decide (x = y) || (if x.1 = y.1 then !rat G x.2 y.2 else (decide (x.2 = y.2) && !rat G x.1 y.1))
structure CallsJn (fs : T EF) : Prop where
  c40 : fs.get (K.ofNat 40) = some f40
  c52 : fs.get (K.ofNat 52) = some f52
theorem f20_ret {n : Nat} {v : V} {g : Nat → Nat → Bool} {x y : Nat × Nat} (k : CallsJn fs) (hg : Gph n g) (hv : Srp h v (arI g)) (hx : in7 x) (hy : in7 y) (hc : HC h) : Ret fs f20 [v, aV x, aV y] h fun r h' => r = .b (frcB (gR (arI g)) x y) ∧ Grow h.nx.nat h h' := by
  have hlb := arI_len (g := g)
  apply ret_of rfl
  show W fs none f20_c _ _ _
  unfold f20_c
  have cx : cellsN 2 (aV x) = some [.i .i64 (x.1 : Int), .i .i64 (x.2 : Int)] := rfl
  have cy : cellsN 2 (aV y) = some [.i .i64 (y.1 : Int), .i .i64 (y.2 : Int)] := rfl
  have n1 := nx_new h (.cells 2 [.i .i64 (x.1 : Int), .i .i64 (x.2 : Int)])
  have g1 : Grow h.nx.nat h (h.new (.cells 2 [.i .i64 (x.1 : Int), .i .i64 (x.2 : Int)])) := Grow.new (Nat.le_refl _) _
  have e1 : (h.new (.cells 2 [.i .i64 (x.1 : Int), .i .i64 (x.2 : Int)])).get h.nx = .cells 2 [.i .i64 (x.1 : Int), .i .i64 (x.2 : Int)] := get_new_same
  simp (disch := omega) only [f20_r0, Nat.reduceEqDiff, ↓reduceIte, cx, cy, bz]
  generalize h.new (.cells 2 [.i .i64 (x.1 : Int), .i .i64 (x.2 : Int)]) = h1 at *
  have n2 := nx_new h1 (.cells 2 [.i .i64 (y.1 : Int), .i .i64 (y.2 : Int)])
  have g2 : Grow h1.nx.nat h1 (h1.new (.cells 2 [.i .i64 (y.1 : Int), .i .i64 (y.2 : Int)])) := Grow.new (Nat.le_refl _) _
  have e2 : (h1.new (.cells 2 [.i .i64 (y.1 : Int), .i .i64 (y.2 : Int)])).get h1.nx = .cells 2 [.i .i64 (y.1 : Int), .i .i64 (y.2 : Int)] := get_new_same
  generalize h1.new (.cells 2 [.i .i64 (y.1 : Int), .i .i64 (y.2 : Int)]) = h2 at *
  have a1 := (g2.old h.nx (by omega)).trans e1
  have l1 := ldn2 a1
  have l2 := ldn2 e2
  have l10 := ld20 a1
  have l11 := ld21 a1
  have l20 := ld20 e2
  have l21 := ld21 e2
  have hax : V.agg [.i .i64 (x.1 : Int), .i .i64 (x.2 : Int)] = aV x := rfl
  have hay : V.agg [.i .i64 (y.1 : Int), .i .i64 (y.2 : Int)] = aV y := rfl
  have hq := keyEq_aV hx hy
  have gA : Grow h.nx.nat h h2 := g1.trans (g2.low (by omega))
  have hc2 := gA.hc hc
  have hv2 := hv.grow hc gA
  by_cases e : x = y
  · rw [decide_eq_true e] at hq
    simp (disch := omega) only [f20_r1, f20_r2, f20_rs, Option.some.injEq, exists_eq_left', Nat.reduceEqDiff, ↓reduceIte, Bool.not_true, l1, l2, hax, hay, hq, bz]
    exact ⟨by unfold frcB; rw [decide_eq_true e]; rfl, gA⟩
  · rw [decide_eq_false e] at hq
    by_cases e0 : x.1 = y.1
    · have d0 : decide ((x.1 : Int) = (y.1 : Int)) = true := decide_eq_true (by omega)
      simp (disch := omega) only [f20_r1, f20_r3, f20_r4, Nat.reduceEqDiff, ↓reduceIte, Bool.false_eq_true, l1, l2, hax, hay, hq, cond_false, l10, l20, l11, l21, d0, bz]
      refine (callP_0 (ef := f52) k.c52 rfl (f52_ret k.c40 hv2 inI_arI (inI_mm hx.2 hy.2) (by omega) hc2)).mono ?_
      rintro r h3 ⟨rfl, g3⟩
      rw [jn_sy hg]
      simp (disch := omega) only [f20_rs, Option.some.injEq, exists_eq_left', ↓reduceIte, bz]
      exact ⟨by unfold frcB; rw [decide_eq_false e, if_pos e0]; rfl, gA.trans (g3.low gA.nx)⟩
    · have d0 : decide ((x.1 : Int) = (y.1 : Int)) = false := decide_eq_false (by omega)
      by_cases e1_ : x.2 = y.2
      · have d1 : decide ((x.2 : Int) = (y.2 : Int)) = true := decide_eq_true (by omega)
        simp (disch := omega) only [f20_r1, f20_r3, f20_r5, Nat.reduceEqDiff, ↓reduceIte, Bool.false_eq_true, l1, l2, hax, hay, hq, cond_false, l10, l20, l11, l21, d0, d1, bz]
        refine (callP_0 (ef := f52) k.c52 rfl (f52_ret k.c40 hv2 inI_arI (inI_mm hx.1 hy.1) (by omega) hc2)).mono ?_
        rintro r h3 ⟨rfl, g3⟩
        rw [jn_sy hg]
        simp (disch := omega) only [f20_rs, Option.some.injEq, exists_eq_left', Nat.reduceEqDiff, ↓reduceIte, bz]
        exact ⟨by unfold frcB; rw [decide_eq_false e, if_neg e0, decide_eq_true e1_]; rfl, gA.trans (g3.low gA.nx)⟩
      · have d1 : decide ((x.2 : Int) = (y.2 : Int)) = false := decide_eq_false (by omega)
        simp (disch := omega) only [f20_r1, f20_r3, f20_r5, f20_rs, Option.some.injEq, exists_eq_left', Nat.reduceEqDiff, ↓reduceIte, Bool.false_eq_true, l1, l2, hax, hay, hq, cond_false, l10, l20, l11, l21, d0, d1, bz]
        exact ⟨by unfold frcB; rw [decide_eq_false e, if_neg e0, decide_eq_false e1_]; rfl, gA⟩
def f53_A (h0 : H) (n : Nat) (v : V) (G : Nat → Nat → Bool) (a : Nat) (fr : Fr) (h1 : H) : Prop := a ≤ n ∧ ∃ u, Sk 2 qE h1 u (arP G (7 * a)) ∧ Own h0.nx.nat u ∧ Grow h0.nx.nat h0 h1 ∧ fr.get (K.ofNat 0) = some (.i .i64 (n : Int)) ∧ fr.get (K.ofNat 1) = some (v) ∧ fr.get (K.ofNat 5) = some (u) ∧ fr.get (K.ofNat 6) = some (.i .i64 (a : Int))
def f53_B (h0 : H) (n : Nat) (v : V) (G : Nat → Nat → Bool) (a : Nat) (b : Nat) (fr : Fr) (h1 : H) : Prop := b ≤ n ∧ ∃ u, Sk 2 qE h1 u (arP G (7 * a + b)) ∧ Own h0.nx.nat u ∧ Grow h0.nx.nat h0 h1 ∧ fr.get (K.ofNat 0) = some (.i .i64 (n : Int)) ∧ fr.get (K.ofNat 1) = some (v) ∧ fr.get (K.ofNat 5) = some (u) ∧ fr.get (K.ofNat 6) = some (.i .i64 (a : Int)) ∧ fr.get (K.ofNat 7) = some (.i .i64 (b : Int))
theorem f53_ret {n : Nat} {v : V} {g : Nat → Nat → Bool} (k : CallsJn fs) (hg : Gph n g) (hv : Srp h v (arI g)) (hc : HC h) : Ret fs f53 [.i .i64 (n : Int), v] h fun r h' => Sk 2 qE h' r (arI (rat (gR (arI g)))) ∧ Own h.nx.nat r ∧ Grow h.nx.nat h h' := by
  have hlb := arI_len (g := g)
  have hn7 := hg.n7
  apply ret_of rfl
  show W fs none f53_c _ _ _
  unfold f53_c
  simp (disch := omega) only [f53_r0, f53_r1, f53_r2, bz]
  refine W_loop (f53_A h n v (rat (gR (arI g)))) (fun a => n - a) ?_ 0 ⟨by omega, .sn, Sk.nil, Own.sn, Grow.refl _ _, by simp (disch := omega) only [getK_set, Nat.reduceEqDiff, ↓reduceIte, and_self, Int.natCast_zero]⟩
  rintro a fr h1 ⟨ha, u, hs, ho, hG, g0, g1, g5, g6⟩
  unfold f53_l1
  by_cases hlt : a < n
  · have d0 : decide ((a : Int) < (n : Int)) = true := decide_eq_true (by omega)
    simp (disch := omega) only [f53_r3, f53_r4, Nat.reduceEqDiff, ↓reduceIte, g0, g6, d0, bz]
    refine W_loop (f53_B h n v (rat (gR (arI g))) a) (fun b => n - b) ?_ 0 ⟨by omega, u, hs, ho, hG, by simp (disch := omega) only [getK_set, Nat.reduceEqDiff, ↓reduceIte, g0, g1, g5, g6, and_self, Int.natCast_zero]⟩
    clear hs ho hG g0 g1 g5 g6 fr
    rintro b fr h2 ⟨hb, u, hs, ho, hG, g0, g1, g5, g6, g7⟩
    have hc2 := hG.hc hc
    have hv2 := hv.grow hc hG
    unfold f53_l0
    by_cases hlt2 : b < n
    · have d1 : decide ((b : Int) < (n : Int)) = true := decide_eq_true (by omega)
      have hsu := arP_succ (g := rat (gR (arI g))) (a := a) (b := b) (by omega)
      by_cases e : a = b
      · have d2 : decide ((a : Int) ≠ (b : Int)) = false := decide_eq_false (by omega)
        have hno : ¬ rat (gR (arI g)) a b = true := fun h => (Er_lt hg h).2.2 e
        rw [if_neg hno, List.append_nil] at hsu
        simp (disch := omega) only [f53_r5, f53_r6, f53_r8, Nat.reduceEqDiff, ↓reduceIte, Bool.false_eq_true, g0, g6, g7, d1, d2, bz]
        exact ⟨b + 1, by omega, by omega, u, by rw [hsu]; exact hs, ho, hG, by simp (disch := omega) only [getK_set, Nat.reduceEqDiff, ↓reduceIte, g0, g1, g5, g6, and_self, Int.natCast_add, Int.natCast_one]⟩
      · have d2 : decide ((a : Int) ≠ (b : Int)) = true := decide_eq_true (by omega)
        simp (disch := omega) only [f53_r5, f53_r6, Nat.reduceEqDiff, ↓reduceIte, g0, g1, g6, g7, d1, d2, bz]
        refine (callP_0 (ef := f52) k.c52 rfl (f52_ret k.c40 hv2 inI_arI (inI_mm (by omega) (by omega)) (by omega) hc2)).mono ?_
        rintro r h3 ⟨rfl, g3⟩
        rw [jn_sy hg]
        have hc3 := g3.hc hc2
        have hs3 := hs.grow hc2 g3
        have gB := hG.trans (g3.low hG.nx)
        cases hr : rat (gR (arI g)) a b with
        | false =>
          rw [if_neg (by rw [hr]; simp), List.append_nil] at hsu
          simp (disch := omega) only [f53_r8, Nat.reduceEqDiff, ↓reduceIte, Bool.false_eq_true, g7, bz]
          exact ⟨b + 1, by omega, by omega, u, by rw [hsu]; exact hs3, ho, gB, by simp (disch := omega) only [getK_set, Nat.reduceEqDiff, ↓reduceIte, g0, g1, g5, g6, and_self, Int.natCast_add, Int.natCast_one]⟩
        | true =>
          rw [if_pos hr] at hsu
          have hl := arP_len (g := rat (gR (arI g))) (i := 7 * a + b)
          obtain ⟨u', h4, a1, s1, o1, gr1, _⟩ := Sk.push qE_len (by omega) (x := ((a : Int), (b : Int))) hs3 ho gB.nx hc3 (by omega)
          have a1' : appV 2 (h3.new (.cells (1 * 2) [.i .i64 (a : Int), .i .i64 (b : Int)])) u (.sl h3.nx 0 1 2) = .ok u' h4 := a1
          have cp : cellsN 2 (.agg [.i .i64 (a : Int), .i .i64 (b : Int)]) = some [.i .i64 (a : Int), .i .i64 (b : Int)] := rfl
          have sp : setMany [V.i .i64 0, V.i .i64 0] 0 [V.i .i64 (a : Int), V.i .i64 (b : Int)] = [V.i .i64 (a : Int), V.i .i64 (b : Int)] := rfl
          simp (disch := omega) only [f53_r7, f53_r8, Nat.reduceEqDiff, ↓reduceIte, g5, g6, g7, fill_c, cp, sp, a1', bz]
          exact ⟨b + 1, by omega, by omega, u', by rw [hsu]; exact s1, o1, gB.trans gr1, by simp (disch := omega) only [getK_set, Nat.reduceEqDiff, ↓reduceIte, g0, g1, g6, and_self, Int.natCast_add, Int.natCast_one]⟩
    · have d1 : decide ((b : Int) < (n : Int)) = false := decide_eq_false (by omega)
      have eb : b = n := by omega
      have e1 : arP (rat (gR (arI g))) (7 * (a + 1)) = arP (rat (gR (arI g))) (7 * a + b) := arP_row (by omega) (fun d hd _ => by
        cases e : rat (gR (arI g)) a d with
        | false => rfl
        | true => have := (Er_lt hg e).2.1; omega)
      simp (disch := omega) only [f53_r5, f53_r9, Nat.reduceEqDiff, ↓reduceIte, Bool.false_eq_true, g0, g6, g7, d1, bz]
      exact ⟨a + 1, by omega, by omega, u, by rw [e1]; exact hs, ho, hG, by simp (disch := omega) only [getK_set, Nat.reduceEqDiff, ↓reduceIte, g0, g1, g5, and_self, Int.natCast_add, Int.natCast_one]⟩
  · have d0 : decide ((a : Int) < (n : Int)) = false := decide_eq_false (by omega)
    have ea : a = n := by omega
    have e1 : arP (rat (gR (arI g))) (7 * a) = arI (rat (gR (arI g))) := arP_end (by omega) (fun x d hx _ hd => by
      cases e : rat (gR (arI g)) x d with
      | false => rfl
      | true => have := (Er_lt hg e).1; omega)
    rw [e1] at hs
    simp (disch := omega) only [f53_r3, f53_r10, f53_rs, Option.some.injEq, exists_eq_left', Nat.reduceEqDiff, ↓reduceIte, Bool.false_eq_true, g0, g5, g6, d0, bz]
    exact ⟨hs, ho, hG⟩
end
end Go.Ev
namespace Go.Ev
open Go Go.RowKit
section
variable {fs : T EF} {h h' : H} {b : Nat}
theorem rep_len2 : ∀ n : Nat, (rep [V.i .i64 0, V.i .i64 0] n).length = n * 2
  | 0 => rfl
  | n + 1 => by
    have : rep [V.i .i64 0, V.i .i64 0] (n + 1) = cat [V.i .i64 0, V.i .i64 0] (rep [V.i .i64 0, V.i .i64 0] n) := rfl
    rw [this, cat_eq, List.length_append, rep_len2 n]
    simp; omega
theorem Sk.clr {v : V} {L : List (Int × Int)} (hs : Sk 2 qE h v L) {i : Nat} (hi : i ≤ L.length) (ho : Own b v) (hc : HC h) :
    ∃ t r h', (∀ h1, sliceB 2 v (some (.i .i64 (i : Int))) none none h1 = .ok t h1) ∧ clrV 2 [.i .i64 0, .i .i64 0] h t = .ok undefV h' ∧ (∀ h1, sliceB 2 v none (some (.i .i64 (i : Int))) none h1 = .ok r h1) ∧ Sk 2 qE h' r (L.take i) ∧ Own b r ∧ Grow b h h' := by
  obtain ⟨r, r1, r2, r3, _⟩ := Sk.cut (kk := .i64) qE_len hs hi
  have hs0 := hs
  rcases hs with ⟨rfl, rfl⟩ | ⟨id, off, m, cs, rfl, hb, hll, hm, hx⟩
  · have hi0 : i = 0 := by simpa using hi
    subst hi0
    exact ⟨.sn, r, h, fun h1 => rfl, rfl, r1, r2, r3 _ ho, Grow.refl _ _⟩
  · have ht : ∀ h1, sliceB 2 (.sl id off L.length 2) (some (.i .i64 (i : Int))) none none h1 = .ok (.sl id (off + i * 2) (L.length - i) 2) h1 := fun h1 => by
      unfold sliceB
      show (bif Nat.beq 2 2 then cutV id off L.length 2 h1 i L.length none else RV.no) = _
      show cutV id off L.length 2 h1 i L.length none = _
      unfold cutV
      rw [Nat.ble_eq_true_of_le hi, Nat.ble_eq_true_of_le (Nat.le_refl _)]; rfl
    by_cases e : L.length - i = 0
    · refine ⟨_, r, h, ht, ?_, r1, r2, r3 _ ho, Grow.refl _ _⟩
      show (bif Nat.beq (L.length - i) 0 then RV.ok undefV h else _) = _
      rw [e]; rfl
    · have hid := hc.cells hb
      refine ⟨_, r, h.put id (.cells m (setMany cs (off + i * 2) (rep [V.i .i64 0, V.i .i64 0] (L.length - i)))), ht, ?_, r1, ?_, r3 _ ho, Grow.put (ho _ _ _ _ rfl) hid _⟩
      · show (bif Nat.beq (L.length - i) 0 then RV.ok undefV h else (h.get id).onW .no fun m cs => bif Nat.beq 2 2 && Nat.ble (off + i * 2 + (L.length - i) * 2) m then RV.ok undefV (h.put id (.cells m (setMany cs (off + i * 2) (rep [V.i .i64 0, V.i .i64 0] (L.length - i))))) else .no) = _
        rw [show Nat.beq (L.length - i) 0 = false by
          cases e2 : Nat.beq (L.length - i) 0 with
          | false => rfl
          | true => exact absurd (Nat.eq_of_beq_eq_true e2) e, hb]
        show (bif Nat.beq 2 2 && Nat.ble (off + i * 2 + (L.length - i) * 2) m then RV.ok undefV (h.put id (.cells m (setMany cs (off + i * 2) (rep [V.i .i64 0, V.i .i64 0] (L.length - i))))) else .no) = _
        rw [Nat.ble_eq_true_of_le (by omega)]; rfl
      · have er : r = .sl id off i 2 := by
          have h0 := r1 h
          have h3 : sliceB 2 (.sl id off L.length 2) none (some (.i .i64 (i : Int))) none h = .ok (.sl id (off + 0 * 2) (i - 0) 2) h := by
            unfold sliceB
            show (bif Nat.beq 2 2 then cutV id off L.length 2 h 0 i none else RV.no) = _
            show cutV id off L.length 2 h 0 i none = _
            unfold cutV
            rw [Nat.ble_eq_true_of_le (Nat.zero_le _), Nat.ble_eq_true_of_le hi]; rfl
          rw [h3] at h0
          injection h0 with h0
          rw [← h0]; simp
        subst er
        have hlen : (rep [V.i .i64 0, V.i .i64 0] (L.length - i)).length = (L.length - i) * 2 := rep_len2 _
        refine .inr ⟨id, off, m, _, by rw [List.length_take, Nat.min_eq_left hi], get_put_same, ?_, by rw [List.length_take, Nat.min_eq_left hi]; omega, ?_⟩
        · rw [setMany_eq _ _ _ (by rw [hlen]; omega)]; simp [hlen]; omega
        · rw [List.length_take, Nat.min_eq_left hi, setMany_eq _ _ _ (by rw [hlen]; omega), ← flat_take qE_len L i hi, ← hx, List.take_take, Nat.min_eq_left (by omega)]
          apply List.ext_getElem?
          intro t
          rw [List.getElem?_take, List.getElem?_take]
          by_cases h1 : t < i * 2
          · rw [if_pos h1, if_pos h1, List.getElem?_drop, List.getElem?_drop, List.append_assoc, List.getElem?_append_left (by rw [List.length_take]; omega), List.getElem?_take, if_pos (by omega)]
          · rw [if_neg h1, if_neg h1]
theorem f83_ret {x : Int × Int} (hc : HC h) : Ret fs f83 [pV x] h fun r h' => r = .b (decide (x.1 > x.2)) ∧ Grow h.nx.nat h h' := by
  have _ := hc
  apply ret_of rfl
  show W fs none f83_c _ _ _
  unfold f83_c
  have cx : cellsN 2 (pV x) = some [.i .i64 x.1, .i .i64 x.2] := rfl
  have g1 : Grow h.nx.nat h (h.new (.cells 2 [.i .i64 x.1, .i .i64 x.2])) := Grow.new (Nat.le_refl _) _
  have e1 : (h.new (.cells 2 [.i .i64 x.1, .i .i64 x.2])).get h.nx = .cells 2 [.i .i64 x.1, .i .i64 x.2] := get_new_same
  have l0 := ld20 e1
  have l1 := ld21 e1
  simp (disch := omega) only [f83_r0, f83_r1, f83_rs, Option.some.injEq, exists_eq_left', Nat.reduceEqDiff, ↓reduceIte, cx, l0, l1, bz]
  exact g1
def kpB (x : Int × Int) : Bool := !decide (x.1 > x.2)
def f100_I (h0 : H) (v : V) (n : Nat) (L : List (Int × Int)) (i : Nat) (fr : Fr) (h1 : H) : Prop := i ≤ n ∧ (∀ j (hj : j < L.length), j < i → kpB L[j] = true) ∧ Grow h0.nx.nat h0 h1 ∧ fr.get (K.ofNat 0) = some (v) ∧ fr.get (K.ofNat 1) = some (.fn (K.ofNat 83) []) ∧ fr.get (K.ofNat 7) = some (.i .i64 (n : Int)) ∧ fr.get (K.ofNat 8) = some (.i .i64 (i : Int))
theorem f100_ret {v : V} {L : List (Int × Int)} (h83 : fs.get (.ofNat 83) = some f83) (hs : Sk 2 qE h v L) (hl : L.length ≤ 1000) (hc : HC h) : Ret fs f100 [v, .fn (.ofNat 83) []] h fun r h' => Grow h.nx.nat h h' ∧ ((r = .i .i64 (-1) ∧ ∀ x ∈ L, kpB x = true) ∨ ∃ i, ∃ hi : i < L.length, r = .i .i64 (i : Int) ∧ kpB L[i] = false ∧ ∀ j (hj : j < L.length), j < i → kpB L[j] = true) := by
  apply ret_of rfl
  show W fs none f100_c _ _ _
  unfold f100_c
  have hlen := hs.len
  simp (disch := omega) only [f100_r0, f100_r1, Nat.reduceEqDiff, ↓reduceIte, hlen, bz]
  refine W_loop (f100_I h v L.length L) (fun i => L.length - i) ?_ 0 ⟨by omega, fun j hj h0 => by omega, Grow.refl _ _, by simp (disch := omega) only [getK_set, Nat.reduceEqDiff, ↓reduceIte, and_self, Int.natCast_zero]⟩
  rintro i fr h1 ⟨hi, hk, hG, g0, g1, g7, g8⟩
  have hc1 := hG.hc hc
  unfold f100_l0
  by_cases hlt : i < L.length
  · have d0 : decide ((i : Int) < (L.length : Int)) = true := decide_eq_true (by omega)
    obtain ⟨p, pa, pb⟩ := (hs.grow hc hG).at2 hlt
    have hav : V.agg [.i .i64 L[i].1, .i .i64 L[i].2] = pV L[i] := rfl
    simp (disch := omega) only [f100_r2, f100_r3, f100_r4, Nat.reduceEqDiff, ↓reduceIte, g0, g1, g7, g8, d0, pa, pb, hav, bz]
    refine (callP_0 (ef := f83) h83 rfl (f83_ret (x := L[i]) hc1)).mono ?_
    rintro r h2 ⟨rfl, g2⟩
    have hG2 := hG.trans (g2.low hG.nx)
    cases hd : decide (L[i].1 > L[i].2) with
    | true =>
      simp (disch := omega) only [f100_r5, f100_rs, Option.some.injEq, exists_eq_left', Nat.reduceEqDiff, ↓reduceIte, bz]
      exact ⟨hG2, .inr ⟨i, hlt, rfl, by unfold kpB; rw [hd]; rfl, hk⟩⟩
    | false =>
      simp (disch := omega) only [f100_r6, Nat.reduceEqDiff, ↓reduceIte, Bool.false_eq_true, g8, bz]
      refine ⟨i + 1, by omega, by omega, fun j hj hji => ?_, hG2, by simp (disch := omega) only [getK_set, Nat.reduceEqDiff, ↓reduceIte, g0, g1, g7, and_self, Int.natCast_add, Int.natCast_one]⟩
      by_cases e : j = i
      · subst e; unfold kpB; rw [hd]; rfl
      · exact hk j hj (by omega)
  · have d0 : decide ((i : Int) < (L.length : Int)) = false := decide_eq_false (by omega)
    simp (disch := omega) only [f100_r2, f100_r7, f100_rs, Option.some.injEq, exists_eq_left', ↓reduceIte, Bool.false_eq_true, g7, g8, d0, bz]
    refine ⟨hG, .inl ⟨rfl, fun x hx => ?_⟩⟩
    obtain ⟨j, hj, rfl⟩ := List.getElem_of_mem hx
    exact hk j hj (by omega)
end
end Go.Ev
namespace Go.Ev
open Go Go.RowKit
noncomputable def f15_r0 : List EOper := [oG 4 (.as (.c .sn))]
noncomputable def f15_r1 : List EOper := [oG 5 (.as (.c .sn))]
noncomputable def f15_r2 : List EOper := [oG 6 (.as (cG 0))]
noncomputable def f15_r3 : List EOper := [oG 8 (.mv (tG 6)), oG 9 (.mv (tG 0)), oG 10 (.bin .lss (tG 8) (tG 9))]
noncomputable def f15_r4 : List EOper := [oG 13 (.mv (tG 6)), oG 14 (.bin .add (tG 13) (cG 1)), oG 7 (.as (tG 14))]
noncomputable def f15_r5 : List EOper := [oG 15 (.mv (tG 7)), oG 16 (.mv (tG 0)), oG 17 (.bin .lss (tG 15) (tG 16))]
noncomputable def f15_r6 : List EOper := [oG 20 (.mv (tG 1)), oG 21 (.mv (tG 6)), oG 22 (.mv (tG 7)), oG 23 (.call (fG 52) [(tG 20), (tG 21), (tG 22)]), oG 24 (.not (tG 23))]
noncomputable def f15_r7 : List EOper := [oG 25 (.mv (tG 5)), oG 26 (.mv (tG 6)), oG 27 (.mv (tG 7)), oG 28 (.build [(.i .i64 (.ofNat 0)), (.i .i64 (.ofNat 0))] [(0, 1, (tG 26)), (1, 1, (tG 27))]), oG 29 (.bslice 1 2 [(.i .i64 (.ofNat 0)), (.i .i64 (.ofNat 0))] [(0, 2, (tG 28))]), oG 30 (.app 2 (tG 25) (tG 29)), oG 5 (.as (tG 30))]
noncomputable def f15_r8 : List EOper := [oG 18 (.mv (tG 7)), oG 19 (.bin .add (tG 18) (cG 1)), oG 7 (.as (tG 19))]
noncomputable def f15_l0 : EC := (.seq (.seq (.reg f15_r5) (.cond (tG 17) .skip (.exit 2))) (.seq (.block 3 (.seq (.reg f15_r6) (.cond (tG 24) (.reg f15_r7) .skip))) (.reg f15_r8)))
noncomputable def f15_r9 : List EOper := [oG 11 (.mv (tG 6)), oG 12 (.bin .add (tG 11) (cG 1)), oG 6 (.as (tG 12))]
noncomputable def f15_l1 : EC := (.seq (.seq (.reg f15_r3) (.cond (tG 10) .skip (.exit 0))) (.seq (.block 1 (.seq (.reg f15_r4) (.block 2 (.loop f15_l0)))) (.reg f15_r9)))
noncomputable def f15_r10 : List EOper := [oG 31 (.mv (tG 5)), oG 4 (.as (tG 31))]
noncomputable def f15_c : EC := (.seq (.reg f15_r0) (.seq (.reg f15_r1) (.seq (.seq (.reg f15_r2) (.block 0 (.loop f15_l1))) (.seq (.reg f15_r10) .ret))))
noncomputable def f15 : EF := ⟨32, [.tmp (.ofNat 4)], f15_c, none⟩
theorem f15_rs : f15.rs = [.tmp (.ofNat 4)] := of_eq_true (eq_self _)
noncomputable def f14_r0 : List EOper := [oG 4 (.as (.c (.b false)))]
noncomputable def f14_r1 : List EOper := [oG 6 (.mv (tG 0)), oG 7 (.len (tG 6)), oG 8 (.mv (tG 1)), oG 9 (.len (tG 8)), oG 10 (.bin .neq (tG 7) (tG 9))]
noncomputable def f14_r2 : List EOper := [oG 4 (.as (.c (.b false)))]
noncomputable def f14_r3 : List EOper := [oG 5 (.as (cG 0))]
noncomputable def f14_r4 : List EOper := [oG 11 (.mv (tG 5)), oG 12 (.mv (tG 0)), oG 13 (.len (tG 12)), oG 14 (.bin .lss (tG 11) (tG 13))]
noncomputable def f14_r5 : List Stage := [⟨[oG 17 (.mv (tG 0)), oG 18 (.mv (tG 5)), oG 19 (.iads 2 (tG 17) (tG 18)), oG 20 (.ldn 2 (tG 19)), oG 21 (.mv (tG 1)), oG 22 (.mv (tG 5)), oG 23 (.iads 2 (tG 21) (tG 22)), oG 24 (.ldn 2 (tG 23)), oG 25 (.eqk (.many [(some .i64), (some .i64)]) true (tG 20) (tG 24))], [], none, []⟩]
noncomputable def f14_r6 : List EOper := [oG 4 (.as (.c (.b false)))]
noncomputable def f14_r7 : List EOper := [oG 15 (.mv (tG 5)), oG 16 (.bin .add (tG 15) (cG 1)), oG 5 (.as (tG 16))]
noncomputable def f14_l0 : EC := (.seq (.seq (.reg f14_r4) (.cond (tG 14) .skip (.exit 0))) (.seq (.block 1 (.seq (.draw f14_r5) (.cond (tG 25) (.seq (.reg f14_r6) .ret) .skip))) (.reg f14_r7)))
noncomputable def f14_r8 : List EOper := [oG 4 (.as (.c (.b true)))]
noncomputable def f14_c : EC := (.seq (.reg f14_r0) (.seq (.seq (.reg f14_r1) (.cond (tG 10) (.seq (.reg f14_r2) .ret) .skip)) (.seq (.seq (.reg f14_r3) (.block 0 (.loop f14_l0))) (.seq (.reg f14_r8) .ret))))
noncomputable def f14 : EF := ⟨26, [.tmp (.ofNat 4)], f14_c, none⟩
theorem f14_rs : f14.rs = [.tmp (.ofNat 4)] := of_eq_true (eq_self _)
section
variable {fs : T EF} {h h' : H} {b : Nat}
def f82_I (h0 : H) (b : Nat) (v : V) (L : List (Int × Int)) (j : Nat) (fr : Fr) (h1 : H) : Prop := j ≤ L.length ∧ ∃ M i, i ≤ j ∧ M.length = L.length ∧ M.take i = (L.take j).filter kpB ∧ M.drop j = L.drop j ∧ Sk 2 qE h1 v M ∧ Grow b h0 h1 ∧ fr.get (K.ofNat 0) = some (v) ∧ fr.get (K.ofNat 1) = some (.fn (K.ofNat 83) []) ∧ fr.get (K.ofNat 5) = some (.i .i64 (i : Int)) ∧ fr.get (K.ofNat 6) = some (.i .i64 (j : Int))
theorem f82_ret {v : V} {L : List (Int × Int)} (h83 : fs.get (.ofNat 83) = some f83) (h100 : fs.get (.ofNat 100) = some f100) (hs : Sk 2 qE h v L) (ho : Own b v) (hb : b ≤ h.nx.nat) (hl : L.length ≤ 1000) (hc : HC h) : Ret fs f82 [v, .fn (.ofNat 83) []] h fun r h' => Sk 2 qE h' r (L.filter kpB) ∧ Own b r ∧ Grow b h h' := by
  apply ret_of rfl
  show W fs none f82_c _ _ _
  unfold f82_c
  have hlen := hs.len
  simp (disch := omega) only [f82_r0, f82_r1, Nat.reduceEqDiff, ↓reduceIte, bz]
  refine (callP_0 (ef := f100) h100 rfl (f100_ret h83 hs hl hc)).mono ?_
  rintro r h1 ⟨g1, hr⟩
  have hc1 := g1.hc hc
  have g1b : Grow b h h1 := g1.low hb
  have hs1 := hs.grow hc g1
  have em1 : (V.i .i64 (.negSucc 0)) = V.i .i64 (-1) := rfl
  rcases hr with ⟨rfl, hall⟩ | ⟨i, hi, rfl, hno, hbe⟩
  · have d0 : decide ((-1 : Int) = -1) = true := rfl
    simp (disch := omega) only [f82_r2, f82_r3, f82_rs, Option.some.injEq, exists_eq_left', Nat.reduceEqDiff, ↓reduceIte, decide_eq_true_eq, em1, bz]
    exact ⟨by rw [List.filter_eq_self.2 hall]; exact hs1, ho, g1b⟩
  · have d0 : decide ((i : Int) = -1) = false := decide_eq_false (by omega)
    simp (disch := omega) only [f82_r2, f82_r4, Nat.reduceEqDiff, ↓reduceIte, Bool.false_eq_true, em1, d0, bz]
    have ht0 : L.take i = (L.take (i + 1)).filter kpB := by
      rw [List.take_succ_eq_append_getElem hi, List.filter_append, List.filter_eq_self.2 (fun x hx => ?_)]
      · simp [hno]
      · obtain ⟨j, hj, rfl⟩ := List.getElem_of_mem hx
        rw [List.length_take] at hj
        rw [List.getElem_take]
        exact hbe j (by omega) (by omega)
    refine W_loop (f82_I h b v L) (fun j => L.length - j) ?_ (i + 1) ⟨by omega, L, i, by omega, rfl, ht0, rfl, hs1, g1b, by simp (disch := omega) only [getK_set, Nat.reduceEqDiff, ↓reduceIte, and_self, Int.natCast_add, Int.natCast_one]⟩
    clear hno hbe ht0 hs1 g1b d0 g1 hc1 hi
    clear i h1
    rintro j fr h1 ⟨hj, M, i, hij, hM, htk, hdr, hsM, hG, g0, g1, g5, g6⟩
    have hc1 := hG.hc hc
    have hnx := hG.nx
    unfold f82_l0
    by_cases hlt : j < L.length
    · have d0 : decide ((j : Int) < (L.length : Int)) = true := decide_eq_true (by omega)
      have hjM : j < M.length := by omega
      have eM : M[j] = L[j] := by
        have h1 : (M.drop j)[0]'(by rw [List.length_drop]; omega) = (L.drop j)[0]'(by rw [List.length_drop]; omega) := by simp only [hdr]
        simpa using h1
      obtain ⟨p, pa, pb⟩ := hsM.at2 hjM
      rw [eM] at pb
      obtain ⟨x, hx⟩ : ∃ x, L[j] = x := ⟨_, rfl⟩
      rw [hx] at pb eM
      have pb : loadV h1 p (many? 2) = .ok (pV x) h1 := pb
      have n2 := nx_new h1 (.cells 2 [.i .i64 0, .i .i64 0])
      have s2 : storeV (h1.new (.cells 2 [.i .i64 0, .i .i64 0])) 2 (.p h1.nx 0) (pV x) = .ok undefV ((h1.new (.cells 2 [.i .i64 0, .i .i64 0])).put h1.nx (.cells 2 [.i .i64 x.1, .i .i64 x.2])) := st2 get_new_same
      have g2 : Grow h1.nx.nat h1 ((h1.new (.cells 2 [.i .i64 0, .i .i64 0])).put h1.nx (.cells 2 [.i .i64 x.1, .i .i64 x.2])) := (Grow.new (Nat.le_refl _) _).trans (Grow.put (Nat.le_refl _) (by omega) _)
      have e2 : ((h1.new (.cells 2 [.i .i64 0, .i .i64 0])).put h1.nx (.cells 2 [.i .i64 x.1, .i .i64 x.2])).get h1.nx = .cells 2 [.i .i64 x.1, .i .i64 x.2] := get_put_same
      have n2' : ((h1.new (.cells 2 [.i .i64 0, .i .i64 0])).put h1.nx (.cells 2 [.i .i64 x.1, .i .i64 x.2])).nx.nat = h1.nx.nat + 1 := n2
      have hav : V.agg [.i .i64 x.1, .i .i64 x.2] = pV x := rfl
      have l2 := ldn2 e2
      simp (disch := omega) only [f82_r5, f82_r6, f82_r7, Nat.reduceEqDiff, ↓reduceIte, g0, g1, g6, hlen, d0, pa, pb, s2, l2, hav, bz]
      generalize (h1.new (.cells 2 [.i .i64 0, .i .i64 0])).put h1.nx (.cells 2 [.i .i64 x.1, .i .i64 x.2]) = h2 at *
      have hc2 := g2.hc hc1
      refine (callP_0 (ef := f83) h83 rfl (f83_ret (x := x) hc2)).mono ?_
      rintro r h3 ⟨rfl, g3⟩
      have hc3 := g3.hc hc2
      have g13 : Grow h1.nx.nat h1 h3 := g2.trans (g3.low (by omega))
      have hs3 := hsM.grow hc1 g13
      have hG3 := hG.trans (g13.low (by omega))
      have hfs : (L.take (j + 1)).filter kpB = (L.take j).filter kpB ++ (if kpB x = true then [x] else []) := by
        rw [List.take_succ_eq_append_getElem hlt, List.filter_append, hx]
        by_cases h : kpB x = true
        · rw [if_pos h]; simp [h]
        · rw [if_neg h]; simp [h]
      have hdr1 : M.drop (j + 1) = L.drop (j + 1) := by
        have := congrArg (List.drop 1) hdr
        rwa [List.drop_drop, List.drop_drop] at this
      cases hd : decide (x.1 > x.2) with
      | true =>
        have hk : ¬ kpB x = true := by unfold kpB; rw [hd]; simp
        rw [if_neg hk, List.append_nil] at hfs
        simp (disch := omega) only [f82_r10, Nat.reduceEqDiff, ↓reduceIte, Bool.false_eq_true, Bool.not_true, g6, bz]
        exact ⟨j + 1, by omega, by omega, M, i, by omega, hM, by rw [hfs]; exact htk, hdr1, hs3, hG3, by simp (disch := omega) only [getK_set, Nat.reduceEqDiff, ↓reduceIte, g0, g1, g5, and_self, Int.natCast_add, Int.natCast_one]⟩
      | false =>
        have hk : kpB x = true := by unfold kpB; rw [hd]; rfl
        rw [if_pos hk] at hfs
        have hiM : i < M.length := by omega
        obtain ⟨p4, id4, m4, cs4, a4, b4, c4, ⟨of4_, n4, z4, e4⟩, l4⟩ := hs3.st2 hiM (x := x) hc3
        have l3 := ldn2 ((g3.old h1.nx (by omega)).trans e2)
        have b4 : storeV h3 2 p4 (pV x) = .ok undefV (h3.put id4 (.cells m4 cs4)) := b4
        have g4 : Grow b h3 (h3.put id4 (.cells m4 cs4)) := Grow.put (ho _ _ _ _ e4) l4 _
        simp (disch := omega) only [f82_r8, f82_r9, f82_r10, Nat.reduceEqDiff, ↓reduceIte, Bool.not_false, g0, g5, g6, l3, hav, a4, b4, bz]
        refine ⟨j + 1, by omega, by omega, M.set i x, i + 1, by omega, by rw [List.length_set]; exact hM, ?_, ?_, c4, hG3.trans g4, by simp (disch := omega) only [getK_set, Nat.reduceEqDiff, ↓reduceIte, g0, g1, and_self, Int.natCast_add, Int.natCast_one]⟩
        · rw [hfs, ← htk, List.take_succ_eq_append_getElem (by rw [List.length_set]; exact hiM), List.getElem_set_self, List.take_set_of_le (Nat.le_refl _)]
        · rw [List.drop_set_of_lt (by omega)]; exact hdr1
    · have d0 : decide ((j : Int) < (L.length : Int)) = false := decide_eq_false (by omega)
      have ej : j = L.length := by omega
      subst ej
      rw [List.take_length] at htk
      obtain ⟨t, r, h2, q1, q2, q3, q4, q5, q6⟩ := hsM.clr (i := i) (by omega) ho hc1
      simp (disch := omega) only [f82_r5, f82_r11, f82_r12, f82_rs, x_slice, sliceV_eq, Option.map_none, Option.map_some, Option.some.injEq, exists_eq_left', Nat.reduceEqDiff, ↓reduceIte, Bool.false_eq_true, x_clr, g0, g5, g6, hlen, d0, q1, q2, q3, bz]
      exact ⟨by rw [← htk]; exact q4, q5, hG.trans q6⟩
theorem arI_filter {f : Nat → Nat → Bool} : (arI f).filter kpB = arI fun a b => f a b && decide (a ≤ b) := by
  unfold arI
  rw [List.filter_map, show (kpB ∘ toI) = fun p : Nat × Nat => decide (p.1 ≤ p.2) from ?_]
  · have : ∀ (p : Nat × Nat → Bool), (arw f).filter p = arw fun a b => f a b && p (a, b) := fun p => by
      unfold arw
      rw [List.filter_map, List.filter_filter]
      congr 1
      refine List.filter_congr fun i _ => ?_
      rw [Bool.and_comm]; rfl
    rw [this]
  · funext p
    show (!decide ((p.1 : Int) > (p.2 : Int))) = _
    rw [Bool.eq_iff_iff, Bool.not_eq_true', decide_eq_false_iff_not, decide_eq_true_eq]
    omega
structure CallsEd (fs : T EF) : Prop extends CallsOr fs where
  c50 : fs.get (K.ofNat 50) = some f50
  c82 : fs.get (K.ofNat 82) = some f82
  c83 : fs.get (K.ofNat 83) = some f83
  c100 : fs.get (K.ofNat 100) = some f100
theorem f50_ret {L : List Bool} (k : CallsEd fs) (hL : L.length = 49) (hc : HC h) : Ret fs f50 [rV L] h fun r h' => Sk 2 qE h' r (arI fun a b => rat L a b && decide (a ≤ b)) ∧ Own h.nx.nat r ∧ Grow h.nx.nat h h' := by
  apply ret_of rfl
  show W fs none f50_c _ _ _
  unfold f50_c
  have c1 := rC_cells hL
  have n1 := nx_new h (.cells 49 (L.map V.b))
  have g1 : Grow h.nx.nat h (h.new (.cells 49 (L.map V.b))) := Grow.new (Nat.le_refl _) _
  have e1 : (h.new (.cells 49 (L.map V.b))).get h.nx = rC L := get_new_same
  have l1 := rC_ldn hL e1
  simp (disch := omega) only [f50_r0, f50_r1, Nat.reduceEqDiff, ↓reduceIte, c1, l1, bz]
  generalize h.new (.cells 49 (L.map V.b)) = h1 at *
  have hc1 := g1.hc hc
  refine (callP_0 (ef := f58) k.c58 rfl (f58_ret k.toNat4 hL hc1)).mono ?_
  rintro u h2 ⟨hs, ho, g2⟩
  have hc2 := g2.hc hc1
  have hlb := arI_len (g := rat L)
  have gA : Grow h.nx.nat h h2 := g1.trans (g2.low (by omega))
  simp (disch := omega) only [↓reduceIte, bz]
  refine (callP_0 (ef := f82) k.c82 rfl (f82_ret (b := h.nx.nat) k.c83 k.c100 hs (ho.low (by omega)) gA.nx (by omega) hc2)).mono ?_
  rintro r h3 ⟨hs3, ho3, g3⟩
  rw [arI_filter] at hs3
  simp (disch := omega) only [f50_rs, Option.some.injEq, exists_eq_left', ↓reduceIte, bz]
  exact ⟨hs3, ho3, gA.trans g3⟩
def oth (n : Nat) (g : Nat → Nat → Bool) (a b : Nat) : Bool := decide (a < b ∧ b < n) && !g a b
theorem oth_gph {n : Nat} {g : Nat → Nat → Bool} (hg : Gph n g) : Gph n (oth n g) := ⟨hg.n1, hg.n7, fun a b h => by
  unfold oth at h
  rw [Bool.and_eq_true, decide_eq_true_eq] at h
  exact h.1⟩
end
end Go.Ev
namespace Go.Ev
open Go Go.RowKit
section
variable {fs : T EF} {h h' : H} {b : Nat}
def f15_A (h0 : H) (n : Nat) (v : V) (G : Nat → Nat → Bool) (a : Nat) (fr : Fr) (h1 : H) : Prop := a ≤ n ∧ ∃ u, Sk 2 qE h1 u (arP G (7 * a)) ∧ Own h0.nx.nat u ∧ Grow h0.nx.nat h0 h1 ∧ fr.get (K.ofNat 0) = some (.i .i64 (n : Int)) ∧ fr.get (K.ofNat 1) = some (v) ∧ fr.get (K.ofNat 5) = some (u) ∧ fr.get (K.ofNat 6) = some (.i .i64 (a : Int))
def f15_B (h0 : H) (n : Nat) (v : V) (G : Nat → Nat → Bool) (a : Nat) (b : Nat) (fr : Fr) (h1 : H) : Prop := a + 1 ≤ b ∧ b ≤ n ∧ ∃ u, Sk 2 qE h1 u (arP G (7 * a + b)) ∧ Own h0.nx.nat u ∧ Grow h0.nx.nat h0 h1 ∧ fr.get (K.ofNat 0) = some (.i .i64 (n : Int)) ∧ fr.get (K.ofNat 1) = some (v) ∧ fr.get (K.ofNat 5) = some (u) ∧ fr.get (K.ofNat 6) = some (.i .i64 (a : Int)) ∧ fr.get (K.ofNat 7) = some (.i .i64 (b : Int))
theorem f15_ret {n : Nat} {v : V} {g : Nat → Nat → Bool} (k : CallsJn fs) (hg : Gph n g) (hv : Srp h v (arI g)) (hc : HC h) : Ret fs f15 [.i .i64 (n : Int), v] h fun r h' => Sk 2 qE h' r (arI (oth n g)) ∧ Own h.nx.nat r ∧ Grow h.nx.nat h h' := by
  have hlb := arI_len (g := g)
  have hn7 := hg.n7
  have og := oth_gph hg
  apply ret_of rfl
  show W fs none f15_c _ _ _
  unfold f15_c
  simp (disch := omega) only [f15_r0, f15_r1, f15_r2, bz]
  refine W_loop (f15_A h n v (oth n g)) (fun a => n - a) ?_ 0 ⟨by omega, .sn, Sk.nil, Own.sn, Grow.refl _ _, by simp (disch := omega) only [getK_set, Nat.reduceEqDiff, ↓reduceIte, and_self, Int.natCast_zero]⟩
  rintro a fr h1 ⟨ha, u, hs, ho, hG, g0, g1, g5, g6⟩
  unfold f15_l1
  by_cases hlt : a < n
  · have d0 : decide ((a : Int) < (n : Int)) = true := decide_eq_true (by omega)
    have e0 : arP (oth n g) (7 * a + (a + 1)) = arP (oth n g) (7 * a) := by
      have := arP_skip (g := oth n g) (a := a) (b := 0) (c := a + 1) (by omega) (by omega) (fun d _ hd => by
        cases e : oth n g a d with
        | false => rfl
        | true => have := (og.up _ _ e).1; omega)
      rw [this, Nat.add_zero]
    simp (disch := omega) only [f15_r3, f15_r4, Nat.reduceEqDiff, ↓reduceIte, g0, g6, d0, bz]
    refine W_loop (f15_B h n v (oth n g) a) (fun b => n + 1 - b) ?_ (a + 1) ⟨by omega, by omega, u, by rw [e0]; exact hs, ho, hG, by simp (disch := omega) only [getK_set, Nat.reduceEqDiff, ↓reduceIte, g0, g1, g5, g6, and_self, Int.natCast_add, Int.natCast_one]⟩
    clear hs ho hG g0 g1 g5 g6 fr
    rintro b fr h2 ⟨hab, hb, u, hs, ho, hG, g0, g1, g5, g6, g7⟩
    have hc2 := hG.hc hc
    have hv2 := hv.grow hc hG
    unfold f15_l0
    by_cases hlt2 : b < n
    · have d1 : decide ((b : Int) < (n : Int)) = true := decide_eq_true (by omega)
      have hsu := arP_succ (g := oth n g) (a := a) (b := b) (by omega)
      simp (disch := omega) only [f15_r5, f15_r6, Nat.reduceEqDiff, ↓reduceIte, g0, g1, g6, g7, d1, bz]
      refine (callP_0 (ef := f52) k.c52 rfl (f52_ret k.c40 hv2 inI_arI (inI_mm (by omega) (by omega)) (by omega) hc2)).mono ?_
      rintro r h3 ⟨rfl, g3⟩
      rw [jn_sy hg]
      have hc3 := g3.hc hc2
      have hs3 := hs.grow hc2 g3
      have gB := hG.trans (g3.low hG.nx)
      have hgr : rat (gR (arI g)) a b = g a b := by
        rw [Bool.eq_iff_iff, gR_arI hg]
        unfold sy
        rw [Bool.or_eq_true]
        exact ⟨fun h => h.elim id fun h => by have := hg.up _ _ h; omega, .inl⟩
      rw [hgr]
      cases hr : g a b with
      | true =>
        rw [if_neg (by unfold oth; rw [hr]; simp), List.append_nil] at hsu
        simp (disch := omega) only [f15_r8, Nat.reduceEqDiff, ↓reduceIte, Bool.false_eq_true, Bool.not_true, g7, bz]
        exact ⟨b + 1, by omega, by omega, by omega, u, by rw [hsu]; exact hs3, ho, gB, by simp (disch := omega) only [getK_set, Nat.reduceEqDiff, ↓reduceIte, g0, g1, g5, g6, and_self, Int.natCast_add, Int.natCast_one]⟩
      | false =>
        rw [if_pos (by unfold oth; rw [hr, decide_eq_true (show a < b ∧ b < n by omega)]; rfl)] at hsu
        have hl := arP_len (g := oth n g) (i := 7 * a + b)
        obtain ⟨u', h4, a1, s1, o1, gr1, _⟩ := Sk.push qE_len (by omega) (x := ((a : Int), (b : Int))) hs3 ho gB.nx hc3 (by omega)
        have a1' : appV 2 (h3.new (.cells (1 * 2) [.i .i64 (a : Int), .i .i64 (b : Int)])) u (.sl h3.nx 0 1 2) = .ok u' h4 := a1
        have cp : cellsN 2 (.agg [.i .i64 (a : Int), .i .i64 (b : Int)]) = some [.i .i64 (a : Int), .i .i64 (b : Int)] := rfl
        have sp : setMany [V.i .i64 0, V.i .i64 0] 0 [V.i .i64 (a : Int), V.i .i64 (b : Int)] = [V.i .i64 (a : Int), V.i .i64 (b : Int)] := rfl
        simp (disch := omega) only [f15_r7, f15_r8, Nat.reduceEqDiff, ↓reduceIte, Bool.not_false, g5, g6, g7, fill_c, cp, sp, a1', bz]
        exact ⟨b + 1, by omega, by omega, by omega, u', by rw [hsu]; exact s1, o1, gB.trans gr1, by simp (disch := omega) only [getK_set, Nat.reduceEqDiff, ↓reduceIte, g0, g1, g6, and_self, Int.natCast_add, Int.natCast_one]⟩
    · have d1 : decide ((b : Int) < (n : Int)) = false := decide_eq_false (by omega)
      have eb : b = n := by omega
      have e1 : arP (oth n g) (7 * (a + 1)) = arP (oth n g) (7 * a + b) := arP_row (by omega) (fun d hd _ => by
        cases e : oth n g a d with
        | false => rfl
        | true => have := (og.up _ _ e).2; omega)
      simp (disch := omega) only [f15_r5, f15_r9, Nat.reduceEqDiff, ↓reduceIte, Bool.false_eq_true, g0, g6, g7, d1, bz]
      exact ⟨a + 1, by omega, by omega, u, by rw [e1]; exact hs, ho, hG, by simp (disch := omega) only [getK_set, Nat.reduceEqDiff, ↓reduceIte, g0, g1, g5, and_self, Int.natCast_add, Int.natCast_one]⟩
  · have d0 : decide ((a : Int) < (n : Int)) = false := decide_eq_false (by omega)
    have ea : a = n := by omega
    have e1 : arP (oth n g) (7 * a) = arI (oth n g) := arP_end (by omega) (fun x d hx _ hd => by
      cases e : oth n g x d with
      | false => rfl
      | true => have := og.up _ _ e; omega)
    rw [e1] at hs
    simp (disch := omega) only [f15_r3, f15_r10, f15_rs, Option.some.injEq, exists_eq_left', Nat.reduceEqDiff, ↓reduceIte, Bool.false_eq_true, g0, g5, g6, d0, bz]
    exact ⟨hs, ho, hG⟩
def f14_I (h0 : H) (v w : V) (A : List (Int × Int)) (i : Nat) (fr : Fr) (h1 : H) : Prop := i ≤ A.length ∧ h1 = h0 ∧ fr.get (K.ofNat 0) = some (v) ∧ fr.get (K.ofNat 1) = some (w) ∧ fr.get (K.ofNat 5) = some (.i .i64 (i : Int))
theorem f14_ret {v w : V} {A : List (Int × Int)} (hv : Srp h v A) (hw : Srp h w A) (hA : ∀ x ∈ A, inI x) (hl : A.length ≤ 1000000) : Ret fs f14 [v, w] h fun r h' => r = .b true ∧ h' = h := by
  apply ret_of rfl
  show W fs none f14_c _ _ _
  unfold f14_c
  have hlv := hv.len
  have hlw := hw.len
  have nel : decide ((A.length : Int) ≠ (A.length : Int)) = false := by simp
  simp (disch := omega) only [f14_r0, f14_r1, f14_r3, Nat.reduceEqDiff, ↓reduceIte, Bool.false_eq_true, hlv, hlw, nel, bz]
  refine W_loop (f14_I h v w A) (fun i => A.length - i) ?_ 0 ⟨by omega, rfl, by simp (disch := omega) only [getK_set, Nat.reduceEqDiff, ↓reduceIte, and_self, Int.natCast_zero]⟩
  rintro i fr h1 ⟨hi, rfl, g0, g1, g5⟩
  unfold f14_l0
  by_cases hlt : i < A.length
  · have d0 : decide ((i : Int) < (A.length : Int)) = true := decide_eq_true (by omega)
    obtain ⟨id, q, p1, p2, _⟩ := hv.at2 hlt
    obtain ⟨id2, q2, w1, w2, _⟩ := hw.at2 hlt
    have hav : V.agg [.i .i64 A[i].1, .i .i64 A[i].2] = pV A[i] := rfl
    have hq := keyEq_pVO (hA _ (List.getElem_mem hlt)) (hA _ (List.getElem_mem hlt))
    have dt : decide (A[i] = A[i]) = true := by simp
    rw [dt] at hq
    have hvb := hv.beq
    have hwb := hw.beq
    simp (disch := omega) only [f14_r4, f14_r5, f14_r7, Nat.reduceEqDiff, ↓reduceIte, Bool.false_eq_true, Bool.not_true, g0, g1, g5, hlv, d0, p1, p2, w1, w2, hav, hq, cond_true, bz]
    exact ⟨i + 1, by omega, hlt, rfl, by simp (disch := omega) only [getK_set, Nat.reduceEqDiff, ↓reduceIte, g0, g1, and_self, Int.natCast_add, Int.natCast_one]⟩
  · have d0 : decide ((i : Int) < (A.length : Int)) = false := decide_eq_false (by omega)
    simp (disch := omega) only [f14_r4, f14_r8, f14_rs, Option.some.injEq, exists_eq_left', Nat.reduceEqDiff, ↓reduceIte, Bool.false_eq_true, g0, g5, hlv, d0, and_self, bz]
end
end Go.Ev
