/-
  Orders: the list of a relation's arrows; an order of a graph (oriented).
  Orders (plain): lists of arrows are graphs, and orders.
  Orders: Has, joined of the reference; Orient; CheckOrder.
  Orders (plain): layers of an order.
  Orders: layers, and a chain.
  Orders: the greatest; a longest chain; Chain, Layers.
  Orders (plain): colours.
  Orders: Colours; OrdersMirsky.
  Orders: functions of plain values as natives.
  Orders (plain): a map from arrows to arrows; a search, the nearest first.
  Orders: slices.Reverse; the way back (wayTo).
  Orders: what look of findClash does: a search, the nearest first.
  Orders: the reference's Forces and arrows.
  Orders: the reference's search of a class (Class).
  Orders (plain): the number of orders.
-/
import Derived.Test.YtdmnejhjlmeodaaPf
namespace Go.Ev
open Go Go.RowKit
noncomputable def f60_r0 : List EOper := [⟨(some (K.ofNat 1)), none, .box 49 (.t (K.ofNat 0))⟩, ⟨(some (K.ofNat 2)), none, .alloc 49 (List.replicate 49 (.b false))⟩, ⟨(some (K.ofNat 3)), none, .as (.c (.b false))⟩]
noncomputable def f60_r1 : List EOper := [⟨(some (K.ofNat 4)), none, .as (.c .sn)⟩]
noncomputable def f60_r2 : List EOper := [⟨(some (K.ofNat 10)), none, .ldn 49 (.t (K.ofNat 1))⟩, ⟨(some (K.ofNat 11)), none, .call (.c (.fn (K.ofNat 87) [])) [(.t (K.ofNat 10))]⟩, ⟨(some (K.ofNat 9)), none, .mv (.t (K.ofNat 11))⟩, ⟨(some (K.ofNat 12)), none, .ext (.t (K.ofNat 9)) 0⟩, ⟨(some (K.ofNat 13)), none, .ext (.t (K.ofNat 9)) 1⟩, ⟨(some (K.ofNat 5)), none, .alloc 2 [(.i .i64 (.ofNat 0)), (.i .i64 (.ofNat 0))]⟩, ⟨none, none, .st 2 (.t (K.ofNat 5)) (.t (K.ofNat 12))⟩, ⟨(some (K.ofNat 6)), none, .as (.t (K.ofNat 13))⟩]
noncomputable def f60_r3 : List EOper := [⟨(some (K.ofNat 14)), none, .mv (.t (K.ofNat 6))⟩]
noncomputable def f60_r4 : List EOper := [⟨(some (K.ofNat 20)), none, .ldn 49 (.t (K.ofNat 1))⟩, ⟨(some (K.ofNat 21)), none, .ldn 2 (.t (K.ofNat 5))⟩, ⟨(some (K.ofNat 22)), none, .call (.c (.fn (K.ofNat 57) [])) [(.t (K.ofNat 20)), (.t (K.ofNat 21))]⟩, ⟨(some (K.ofNat 7)), none, .alloc 49 (List.replicate 49 (.b false))⟩, ⟨none, none, .st 49 (.t (K.ofNat 7)) (.t (K.ofNat 22))⟩]
noncomputable def f60_r5 : List EOper := [⟨(some (K.ofNat 23)), none, .ldn 49 (.t (K.ofNat 7))⟩, ⟨(some (K.ofNat 24)), none, .call (.c (.fn (K.ofNat 70) [])) [(.t (K.ofNat 23))]⟩, ⟨(some (K.ofNat 8)), none, .alloc 49 (List.replicate 49 (.b false))⟩, ⟨none, none, .st 49 (.t (K.ofNat 8)) (.t (K.ofNat 24))⟩]
noncomputable def f60_r6 : List EOper := [⟨(some (K.ofNat 25)), none, .ldn 49 (.t (K.ofNat 7))⟩, ⟨(some (K.ofNat 26)), none, .ldn 49 (.t (K.ofNat 8))⟩, ⟨(some (K.ofNat 27)), none, .eqk (.many (List.replicate 49 none)) false (.t (K.ofNat 25)) (.t (K.ofNat 26))⟩]
noncomputable def f60_r7 : List EOper := [⟨(some (K.ofNat 28)), none, .build (List.replicate 49 (.b false)) []⟩, ⟨none, none, .st 49 (.t (K.ofNat 2)) (.t (K.ofNat 28))⟩, ⟨(some (K.ofNat 3)), none, .as (.c (.b false))⟩]
noncomputable def f60_r8 : List EOper := [⟨(some (K.ofNat 29)), none, .mv (.t (K.ofNat 4))⟩, ⟨(some (K.ofNat 30)), none, .ldn 49 (.t (K.ofNat 7))⟩, ⟨(some (K.ofNat 31)), none, .bslice 1 49 (List.replicate 49 (.b false)) [(0, 49, (.t (K.ofNat 30)))]⟩, ⟨(some (K.ofNat 32)), none, .app 49 (.t (K.ofNat 29)) (.t (K.ofNat 31))⟩, ⟨(some (K.ofNat 4)), none, .as (.t (K.ofNat 32))⟩]
noncomputable def f60_r9 : List Stage := [⟨[⟨(some (K.ofNat 33)), none, .ldn 49 (.t (K.ofNat 1))⟩, ⟨(some (K.ofNat 34)), none, .ldn 49 (.t (K.ofNat 7))⟩, ⟨(some (K.ofNat 35)), none, .ldn 49 (.t (K.ofNat 8))⟩, ⟨(some (K.ofNat 36)), none, .bslice 2 49 (List.replicate 98 (.b false)) [(0, 49, (.t (K.ofNat 34))), (49, 49, (.t (K.ofNat 35)))]⟩], [], (some ⟨(some (K.ofNat 37)), none, .call (.c (.fn (K.ofNat 69) [])) [(.t (K.ofNat 36))]⟩), [(K.ofNat 36)]⟩, ⟨[], [⟨(some (K.ofNat 33)), none, .ldn 49 (.t (K.ofNat 1))⟩], (some ⟨(some (K.ofNat 38)), none, .call (.c (.fn (K.ofNat 81) [])) [(.t (K.ofNat 33)), (.t (K.ofNat 37))]⟩), []⟩, ⟨[], [], (some ⟨none, none, .st 49 (.t (K.ofNat 1)) (.t (K.ofNat 38))⟩), []⟩, ⟨[], [], none, []⟩]
noncomputable def f60_r10 : List EOper := [⟨(some (K.ofNat 39)), none, .ldn 2 (.t (K.ofNat 5))⟩]
noncomputable def f60_r11 : List EOper := [⟨(some (K.ofNat 5)), none, .alloc 2 [(.i .i64 (.ofNat 0)), (.i .i64 (.ofNat 0))]⟩, ⟨none, none, .st 2 (.t (K.ofNat 5)) (.t (K.ofNat 39))⟩]
noncomputable def f60_r12 : List EOper := [⟨(some (K.ofNat 16)), none, .ldn 49 (.t (K.ofNat 1))⟩, ⟨(some (K.ofNat 17)), none, .call (.c (.fn (K.ofNat 87) [])) [(.t (K.ofNat 16))]⟩, ⟨(some (K.ofNat 15)), none, .mv (.t (K.ofNat 17))⟩, ⟨(some (K.ofNat 18)), none, .ext (.t (K.ofNat 15)) 0⟩, ⟨(some (K.ofNat 19)), none, .ext (.t (K.ofNat 15)) 1⟩, ⟨none, none, .st 2 (.t (K.ofNat 5)) (.t (K.ofNat 18))⟩, ⟨(some (K.ofNat 6)), none, .as (.t (K.ofNat 19))⟩]
noncomputable def f60_l0 : EC := (.seq (.seq (.reg f60_r3) (.cond (.t (K.ofNat 14)) .skip (.exit 0))) (.seq (.block 1 (.seq (.reg f60_r4) (.seq (.reg f60_r5) (.seq (.seq (.reg f60_r6) (.cond (.t (K.ofNat 27)) (.seq (.reg f60_r7) .ret) .skip)) (.seq (.reg f60_r8) (.draw f60_r9)))))) (.seq (.seq (.reg f60_r10) (.reg f60_r11)) (.reg f60_r12))))
noncomputable def f60_r13 : List EOper := [⟨(some (K.ofNat 40)), none, .mv (.t (K.ofNat 4))⟩, ⟨(some (K.ofNat 41)), none, .call (.c (.fn (K.ofNat 69) [])) [(.t (K.ofNat 40))]⟩, ⟨none, none, .st 49 (.t (K.ofNat 2)) (.t (K.ofNat 41))⟩, ⟨(some (K.ofNat 3)), none, .as (.c (.b true))⟩]
noncomputable def f60_c : EC := (.seq (.reg f60_r0) (.seq (.reg f60_r1) (.seq (.seq (.reg f60_r2) (.block 0 (.loop f60_l0))) (.seq (.reg f60_r13) .ret))))
noncomputable def f60 : EF := ⟨42, [.celln (K.ofNat 2) 49, .tmp (K.ofNat 3)], f60_c, none⟩
theorem f60_rs : f60.rs = [.celln (K.ofNat 2) 49, .tmp (K.ofNat 3)] := of_eq_true (eq_self _)
section
variable {fs : T EF} {h h' : H}
/-! ### Slices of relations that are gathered -/
noncomputable def eR (L : List Bool) : List V := (rl (rat L)).map V.b
theorem eR_len : ∀ x, (eR x).length = 49 := fun x => by simp [eR, rl_len]
theorem eR_eq {L : List Bool} (hL : L.length = 49) : eR L = L.map V.b := by unfold eR; rw [rl_rat hL]
theorem Rs.ofSk {v : V} {Ls : List (List Bool)} (s : Sk 49 eR h v Ls) (hl : ∀ L ∈ Ls, L.length = 49) : Rs h v Ls := by
  refine ⟨s.len, fun i hi => ?_⟩
  rcases s with ⟨_, rfl⟩ | ⟨id, off, m, cs, rfl, h1, h2, h3, h4⟩
  · simp at hi
  · have hh := flat_drop eR_len Ls i hi
    rw [← h4, List.drop_take, List.take_take, List.drop_drop, Nat.min_eq_left (by omega)] at hh
    refine ⟨id, off + i * 49, m, cs, fun h1 => by rw [iads_sl, idx_n hi], h1, ?_, ?_⟩
    · have : (i + 1) * 49 ≤ Ls.length * 49 := Nat.mul_le_mul_right _ hi
      omega
    · rw [takeN_eq, dropN_eq, hh, eR_eq (hl _ (List.getElem_mem hi))]
def f60_I (h0 : H) (id1 id2 : K) (L0 : List Bool) (s : List Bool × List (List Bool)) (fr : Fr) (h1 : H) : Prop := SymR s.1 ∧ (∀ C ∈ s.2, C.length = 49) ∧ cntT s.1 + s.2.length ≤ 49 ∧ (∀ r, OrS s.1 r → OrS L0 (r.map (s.2 ++ ·))) ∧ Kp id1 h0 h1 ∧ h1.get id1 = rC s.1 ∧
  ∃ u id5 x, Sk 49 eR h1 u s.2 ∧ Own (h0.nx.nat) u ∧ h0.nx.nat ≤ id5.nat ∧ id5.nat < h1.nx.nat ∧ NotIn id5 u ∧ h1.get id5 = .cells 2 [.i .i64 ((x : Nat × Nat).1 : Int), .i .i64 (x.2 : Int)] ∧ (∀ y, frO s.1 = some y → x = y) ∧ fr.get (K.ofNat 1) = some (.p id1 0) ∧ fr.get (K.ofNat 2) = some (.p id2 0) ∧ fr.get (K.ofNat 4) = some (u) ∧ fr.get (K.ofNat 5) = some (.p id5 0) ∧ fr.get (K.ofNat 6) = some (.b (frO s.1).isSome)
def frX (L : List Bool) : Nat × Nat := (frO L).getD (0, 0)
theorem frV_eq {L : List Bool} : frV L = .tup [aV (frX L), .b (frO L).isSome] := by
  unfold frV frX
  cases frO L <;> rfl
theorem zero49 : (V.agg (List.replicate 49 (.b false))) = rV (rl fun _ _ => false) := rfl
theorem set49a {L : List Bool} (hL : L.length = 49) : setMany (List.replicate 49 (.b false)) 0 (L.map V.b) = L.map V.b := by
  rw [setMany_eq _ _ _ (by simp [hL])]; simp [hL]
theorem f60_ret {L0 : List Bool} (k : Nat4 fs) (sy : SymR L0) (hc : HC h) : Ret fs f60 [rV L0] h fun r _ => r = orV L0 := by
  have hL := sy.len
  apply ret_of rfl
  show W fs none f60_c _ _ _
  unfold f60_c
  have c1 := rC_cells hL
  have n1 := nx_new h (.cells 49 (L0.map V.b))
  have gr1 : Grow h.nx.nat h (h.new (.cells 49 (L0.map V.b))) := Grow.new (Nat.le_refl _) _
  have e1 : (h.new (.cells 49 (L0.map V.b))).get h.nx = rC L0 := get_new_same
  simp (disch := omega) only [f60_r0, w_reg, w_seq, seqK_n, x_nil, x_as, x_alloc, x_box, kx, rvP_ok, ev_t, ev_c, getV_some, putD_some, oGet_s, frame_1, getK_set, ↓reduceIte, c1]
  generalize h.new (.cells 49 (L0.map V.b)) = h1 at *
  have n2 := nx_new h1 (.cells 49 (List.replicate 49 (.b false)))
  have gr2 : Grow h1.nx.nat h1 (h1.new (.cells 49 (List.replicate 49 (.b false)))) := Grow.new (Nat.le_refl _) _
  have e2 : (h1.new (.cells 49 (List.replicate 49 (.b false)))).get h1.nx = rC (rl fun _ _ => false) := by rw [rl_false]; exact get_new_same
  generalize h1.new (.cells 49 (List.replicate 49 (.b false))) = h2 at *
  have hc2 := gr2.hc (gr1.hc hc)
  have e1' := (gr2.old h.nx (by omega)).trans e1
  have e2' := e2
  have l2 := rC_ldn hL e1'
  obtain ⟨hst, gB, c7, n5⟩ := arr_var (h := h2) (x := (frX L0).1) (y := (frX L0).2)
  replace hst : storeV (h2.new (.cells 2 [.i .i64 0, .i .i64 0])) 2 (.p h2.nx 0) (aV (frX L0)) = _ := hst
  simp (disch := omega) only [f60_r1, f60_r2, w_reg, w_seq, w_block, seqK_n, x_nil, x_mv, x_as, x_alloc, x_ldn, x_st, x_ext, x_call, kx, rvP_ok, okv_some, ev_t, ev_c, evs_nil, evs_cons, getV_some, putD_some, putD_none, onTup_t, nth0, nth1, of0, getK_set, Nat.reduceEqDiff, ↓reduceIte, l2, k.n87 _ _ _ hL, frV_eq, hst]
  generalize (h2.new (.cells 2 [.i .i64 0, .i .i64 0])).put h2.nx (.cells 2 [.i .i64 ((frX L0).1 : Int), .i .i64 ((frX L0).2 : Int)]) = h3 at *
  have k3 : Kp h.nx h2 h3 := Kp.of hc2 gB (Nat.le_refl _)
  refine W_loop (f60_I h2 h.nx h1.nx L0) (fun s => cntT s.1) ?_ (L0, []) ⟨sy, fun C hC => (by cases hC), by have := cntT_le hL; simpa using this, fun r hr => by cases r <;> exact hr, k3, (gB.old h.nx (by omega)).trans e1', .sn, h2.nx, frX L0, Sk.nil, Own.sn, Nat.le_refl _, by omega, NotIn.sn, c7, fun y hy => by unfold frX; rw [hy]; rfl, by simp (disch := omega) only [getK_set, Nat.reduceEqDiff, ↓reduceIte, and_self]⟩
  clear c7 hst n5 gB k3 h3
  rintro ⟨L, P⟩ fr h3 ⟨sL, hP, hcn, hO, hk, hB, u, id5, x, hu, hou, h5a, h5b, h5n, e5, hx, g1, g2, g4, g5, g6⟩
  simp only at sL hP hcn hO hB hu hx g6
  have hkn := hk.nx
  have hLl := sL.len
  unfold f60_l0
  cases hf : frO L with
  | none =>
    rw [hf] at g6
    have g6 : fr.get (K.ofNat 6) = some (.b false) := g6
    have hor : orO L0 = some P := by
      have := orO_eq (hO _ (.done hf))
      simpa using this
    simp (disch := omega) only [f60_r3, f60_r13, w_reg, w_seq, w_cond, w_exit, seqK_n, seqK_e, atK_e, loopK_e, ckB_b, cbB_b, true_and, x_nil, x_mv, x_call, ev_t, ev_c, evs_nil, evs_cons, getV_some, putD_some, getK_set, Nat.reduceEqDiff, ↓reduceIte, Bool.false_eq_true, g4, g6]
    have hRs : Rs h3 u P := Rs.ofSk hu hP
    refine (callP_0 (ef := f69) k.c69 rfl (f69_ret k.c84 k.c101 hRs hP (by omega) hk.hc)).mono ?_
    rintro r h4 ⟨rfl, gr4⟩
    have hJ : (jnR P).length = 49 := rl_len
    have s4 := rC_stn hJ rl_len (M := rl fun _ _ => false) ((gr4.old h1.nx (by omega)).trans ((hk.old h1.nx (by omega) (kNe (by omega)).symm).trans e2'))
    have hr4 : readP (h4.put h1.nx (rC (jnR P))) (.p h1.nx 0) (many? 49) = some (rV (jnR P)) := rC_read hJ get_put_same
    simp (disch := omega) only [f60_rs, w_ret, seqK_n, retK_r, x_nil, x_as, x_st, kx, rvP_ok, ev_t, ev_c, getV_some, putD_some, putD_none, oGet_s, readRs_nil, readRs_t, readRs_n, retV_2, Option.some.injEq, exists_eq_left', getK_set, Nat.reduceEqDiff, ↓reduceIte, g2, s4, hr4]
    unfold orV
    rw [hor]
  | some y =>
    have hxy := hx y hf
    subst hxy
    rw [hf] at g6
    have g6 : fr.get (K.ofNat 6) = some (.b true) := g6
    obtain ⟨hx1, hx2, hxr⟩ := frO_some hf
    have l3 := rC_ldn hLl hB
    have l5 := ldn2 e5
    have hav : V.agg [.i .i64 (x.1 : Int), .i .i64 (x.2 : Int)] = aV x := rfl
    have hC : (clsR L x).length = 49 := clsR_len
    have hT : (turnR (clsR L x)).length = 49 := rl_len
    have hnx : nxR L x = woR L (jnR [clsR L x, turnR (clsR L x)]) := rfl
    have hct := nxR_cnt sL hf
    have hstep := fun r hne => OrS.step (r := r) hf hne
    have hclash := OrS.clash hf
    have sN := sL.next (x := x) ⟨hx1, hx2⟩
    have hcls := k.n57 L x
    generalize clsR L x = C at *
    have n4 := nx_new h3 (.cells 49 (List.replicate 49 (.b false)))
    have s4 := rC_stn hC rl_len (M := rl fun _ _ => false) (h := h3.new (.cells 49 (List.replicate 49 (.b false)))) (id := h3.nx) (by rw [rl_false]; exact get_new_same)
    have gr4 : Grow h3.nx.nat h3 ((h3.new (.cells 49 (List.replicate 49 (.b false)))).put h3.nx (rC C)) := (Grow.new (Nat.le_refl _) _).trans (Grow.put (Nat.le_refl _) (by omega) _)
    have n4' : ((h3.new (.cells 49 (List.replicate 49 (.b false)))).put h3.nx (rC C)).nx.nat = h3.nx.nat + 1 := n4
    have e4 : ((h3.new (.cells 49 (List.replicate 49 (.b false)))).put h3.nx (rC C)).get h3.nx = rC C := get_put_same
    simp (disch := omega) only [f60_r3, f60_r4, w_skip, w_reg, w_seq, w_cond, w_block, seqK_n, ckB_b, cbB_b, true_and, x_nil, x_mv, x_alloc, x_ldn, x_st, x_call, kx, rvP_ok, ev_t, ev_c, evs_nil, evs_cons, getV_some, putD_some, putD_none, getK_set, Nat.reduceEqDiff, ↓reduceIte, g1, g5, g6, l3, l5, hav, hcls _ _ hLl ⟨hx1, hx2⟩, s4]
    generalize (h3.new (.cells 49 (List.replicate 49 (.b false)))).put h3.nx (rC C) = h4 at *
    have l4 := rC_ldn hC e4
    have n6 := nx_new h4 (.cells 49 (List.replicate 49 (.b false)))
    have s6 := rC_stn hT rl_len (M := rl fun _ _ => false) (h := h4.new (.cells 49 (List.replicate 49 (.b false)))) (id := h4.nx) (by rw [rl_false]; exact get_new_same)
    have gr6 : Grow h4.nx.nat h4 ((h4.new (.cells 49 (List.replicate 49 (.b false)))).put h4.nx (rC (turnR C))) := (Grow.new (Nat.le_refl _) _).trans (Grow.put (Nat.le_refl _) (by omega) _)
    have n6' : ((h4.new (.cells 49 (List.replicate 49 (.b false)))).put h4.nx (rC (turnR C))).nx.nat = h4.nx.nat + 1 := n6
    have e6 : ((h4.new (.cells 49 (List.replicate 49 (.b false)))).put h4.nx (rC (turnR C))).get h4.nx = rC (turnR C) := get_put_same
    simp (disch := omega) only [f60_r5, w_reg, w_seq, seqK_n, x_nil, x_alloc, x_ldn, x_st, x_call, kx, rvP_ok, ev_t, ev_c, evs_nil, evs_cons, getV_some, putD_some, putD_none, getK_set, Nat.reduceEqDiff, ↓reduceIte, l4, k.n70 _ _ _ hC, s6]
    generalize (h4.new (.cells 49 (List.replicate 49 (.b false)))).put h4.nx (rC (turnR C)) = h5 at *
    have gA : Grow h3.nx.nat h3 h5 := gr4.trans (gr6.low (by omega))
    have hc5 := gA.hc hk.hc
    have lC := rC_ldn hC ((gr6.old h3.nx (by omega)).trans e4)
    have lT := rC_ldn hT e6
    have hq := keyEq_rel2 hC hT
    by_cases e : C = turnR C
    · have d0 : decide (C = turnR C) = true := decide_eq_true e
      have hor : orO L0 = none := by
        have := orO_eq (hO _ (hclash e))
        simpa using this
      rw [d0] at hq
      have s7 := rC_stn (L := rl fun _ _ => false) rl_len rl_len (M := rl fun _ _ => false) ((gA.old h1.nx (by omega)).trans ((hk.old h1.nx (by omega) (kNe (by omega)).symm).trans e2'))
      have hr7 : readP (h5.put h1.nx (rC (rl fun _ _ => false))) (.p h1.nx 0) (many? 49) = some (rV (rl fun _ _ => false)) := rC_read rl_len get_put_same
      simp (disch := omega) only [f60_r6, f60_r7, f60_rs, w_reg, w_seq, w_cond, w_ret, seqK_n, seqK_r, atK_r, loopK_r, ckB_b, cbB_b, true_and, retK_r, x_nil, x_as, x_build, x_ldn, x_st, x_eqk, kx, rvP_ok, okv_some, ev_t, ev_c, getV_some, putD_some, putD_none, oGet_s, readRs_nil, readRs_t, readRs_n, retV_2, Option.some.injEq, exists_eq_left', getK_set, Nat.reduceEqDiff, ↓reduceIte, fill_0, g2, lC, lT, hq, cond_false, zero49, s7, hr7]
      unfold orV
      rw [hor]
    · have d0 : decide (C = turnR C) = false := decide_eq_false e
      rw [d0] at hq
      have cC := rC_cells hC
      have cT := rC_cells hT
      have hu5 := hu.grow hk.hc gA
      obtain ⟨u', h7, a1, s1, o1, gr7, k7⟩ := Sk.push (b := h2.nx.nat) eR_len (by omega) (x := C) hu5 hou (by omega) hc5 (by omega)
      rw [eR_eq hC] at a1
      have hc7 := gr7.hc hc5
      have g7n := gr7.nx
      -- what is older than these parts
      have old7 : ∀ id : K, id.nat < h5.nx.nat → NotIn id u → h7.get id = h5.get id := fun id hi hn => (k7 id hi hn).1
      have nlt : ∀ id : K, id.nat < h2.nx.nat → NotIn id u := fun id hi => hou.notIn hi
      have nge : ∀ id : K, h3.nx.nat ≤ id.nat → NotIn id u := fun id hi off n sz ee => by have := hu.lt hk.hc _ _ _ _ ee; omega
      have e1_7 : h7.get h.nx = rC L := (old7 h.nx (by omega) (nlt _ (by omega))).trans ((gA.old h.nx (by omega)).trans hB)
      have eC_7 : h7.get h3.nx = rC C := (old7 h3.nx (by omega) (nge _ (Nat.le_refl _))).trans ((gr6.old h3.nx (by omega)).trans e4)
      have eT_7 : h7.get h4.nx = rC (turnR C) := (old7 h4.nx (by omega) (nge _ (by omega))).trans e6
      have e5_7 : h7.get id5 = .cells 2 [.i .i64 (x.1 : Int), .i .i64 (x.2 : Int)] := (old7 id5 (by omega) h5n).trans ((gA.old id5 (by omega)).trans e5)
      have gL : Grow h7.nx.nat h7 (h7.new (.cells (2 * 49) (C.map V.b ++ (turnR C).map V.b))) := Grow.new (Nat.le_refl _) _
      have lL7 := rC_ldn hLl e1_7
      have lC7 := rC_ldn hC eC_7
      have lT7 := rC_ldn hT eT_7
      simp (disch := omega) only [f60_r6, f60_r8, w_skip, w_reg, w_draw, w_seq, w_cond, seqK_n, ckB_b, cbB_b, true_and, x_nil, x_mv, x_as, x_bslice, x_ldn, x_eqk, x_app, kx, rvP_ok, okv_some, ev_t, getV_some, putD_some, oGet_s, getK_set, Nat.reduceEqDiff, ↓reduceIte, Bool.false_eq_true, fill_0, g4, lC, lT, hq, cond_false, fill_c, cC, set49a hC, a1]
      simp (disch := omega) only [f60_r9, true_and, x_call, kg, xg_nil, xg_ldn, xg_bslice, xd_cons, stK_s, stay_nil, rvP_ok, ev_t, ev_c, evs_nil, evs_cons, getV_some, putD_some, oGet_s, Option.some.injEq, exists_eq_left', getK_set, Nat.reduceEqDiff, ↓reduceIte, fill_0, g1, lL7, lC7, lT7, fill_c, cC, cT, set98a hC, set98b hC hT, hc7.dead]
      refine ⟨fresh_one (n := 2) (sz := 49) (by simp (disch := omega) only [getK_set, ↓reduceIte]), ?_⟩
      have hr8 := Rs.two (h := h7) hC hT
      have n8 := nx_new h7 (.cells (2 * 49) (C.map V.b ++ (turnR C).map V.b))
      have hc8 := gL.hc hc7
      generalize h7.new (.cells (2 * 49) (C.map V.b ++ (turnR C).map V.b)) = h8 at *
      have hall : ∀ z ∈ [C, turnR C], z.length = 49 := fun z hz => by
        simp only [List.mem_cons, List.not_mem_nil, or_false] at hz
        rcases hz with rfl | rfl
        · exact hC
        · exact hT
      refine (callP_0 (ef := f69) k.c69 rfl (f69_ret k.c84 k.c101 hr8 hall (by simp) hc8)).mono ?_
      rintro r h9 ⟨rfl, gr9⟩
      have gD : Grow h7.nx.nat h7 h9 := gL.trans (gr9.low (by omega))
      have hc9 := gr9.hc hc8
      have g9n := gr9.nx
      have hJ : (jnR [C, turnR C]).length = 49 := rl_len
      have hN : (woR L (jnR [C, turnR C])).length = 49 := rl_len
      have e1_9 := (gD.old h.nx (by omega)).trans e1_7
      have lL9 := rC_ldn hLl e1_9
      have s9 := rC_stn hN hLl e1_9
      have kk : Kp h.nx h2 h9 := ((hk.grow gA hkn).grow gr7 (Nat.le_refl _)).grow gD (by omega)
      have kP := kk.put (by have := hkn; omega) (rC (woR L (jnR [C, turnR C])))
      have e5_9 := (gD.old id5 (by omega)).trans e5_7
      have nid5 : id5 ≠ h.nx := fun e => by have := congrArg K.nat e; omega
      have e5_10 : (h9.put h.nx (rC (woR L (jnR [C, turnR C])))).get id5 = .cells 2 [.i .i64 (x.1 : Int), .i .i64 (x.2 : Int)] := by rw [get_put_other nid5]; exact e5_9
      have e1_10 : (h9.put h.nx (rC (woR L (jnR [C, turnR C])))).get h.nx = rC (woR L (jnR [C, turnR C])) := get_put_same
      have u_10 : Sk 49 eR (h9.put h.nx (rC (woR L (jnR [C, turnR C])))) u' (P ++ [C]) := (s1.grow hc7 gD).put (o1.notIn (by omega)) _
      have n10 : (h9.put h.nx (rC (woR L (jnR [C, turnR C])))).nx.nat = h9.nx.nat := rfl
      have hn81 := k.n81 L (jnR [C, turnR C])
      simp (disch := omega) only [w_reg, w_seq, seqK_n, atK_n, true_and, x_nil, x_st, x_call, kx, xg_nil, xd_cons, fresh_nil, stK_n, stK_s, stay_nil, stay_cons, again_ok, rvP_ok, ev_t, ev_c, evs_nil, evs_cons, getV_some, putD_some, putD_none, getK_set, Nat.reduceEqDiff, ↓reduceIte, stay_ldn, g1, lL9, beq_rV, hn81 _ _ hLl hJ, s9]
      generalize h9.put h.nx (rC (woR L (jnR [C, turnR C]))) = h10 at *
      have l10 := ldn2 e5_10
      obtain ⟨hst, gB, c7, n11⟩ := arr_var (h := h10) (x := x.1) (y := x.2)
      replace hst : storeV (h10.new (.cells 2 [.i .i64 0, .i .i64 0])) 2 (.p h10.nx 0) (aV x) = _ := hst
      simp (disch := omega) only [f60_r10, f60_r11, w_reg, seqK_n, x_nil, x_alloc, x_ldn, x_st, kx, rvP_ok, ev_t, getV_some, putD_some, putD_none, of0, getK_set, Nat.reduceEqDiff, ↓reduceIte, g5, l10, hav, hst]
      generalize (h10.new (.cells 2 [.i .i64 0, .i .i64 0])).put h10.nx (.cells 2 [.i .i64 (x.1 : Int), .i .i64 (x.2 : Int)]) = h11 at *
      have l11 := rC_ldn hN ((gB.old h.nx (by omega)).trans e1_10)
      have s11 : storeV h11 2 (.p h10.nx 0) (aV (frX (woR L (jnR [C, turnR C])))) = .ok undefV (h11.put h10.nx (.cells 2 [.i .i64 ((frX (woR L (jnR [C, turnR C]))).1 : Int), .i .i64 ((frX (woR L (jnR [C, turnR C]))).2 : Int)])) := st2 c7
      simp (disch := omega) only [f60_r12, loopK_n, x_nil, x_mv, x_as, x_ldn, x_st, x_ext, x_call, kx, rvP_ok, okv_some, ev_t, ev_c, evs_nil, evs_cons, getV_some, putD_some, putD_none, onTup_t, nth0, nth1, getK_set, Nat.reduceEqDiff, ↓reduceIte, g1, l11, k.n87 _ _ _ hN, frV_eq, s11]
      have gE : Grow h10.nx.nat h10 (h11.put h10.nx (.cells 2 [.i .i64 ((frX (woR L (jnR [C, turnR C]))).1 : Int), .i .i64 ((frX (woR L (jnR [C, turnR C]))).2 : Int)])) := gB.trans (Grow.put (Nat.le_refl _) (by omega) _)
      rw [hnx] at hct hstep sN
      refine ⟨(woR L (jnR [C, turnR C]), P ++ [C]), hct, sN, fun z hz => ?_, ?_, fun r hr => ?_, kP.grow gE (by omega), (gE.old h.nx (by omega)).trans e1_10, u', h10.nx, frX (woR L (jnR [C, turnR C])), u_10.grow kP.hc gE, o1, by omega, by rw [nx_put]; omega, fun off n sz ee => by have := u_10.lt kP.hc _ _ _ _ ee; omega, get_put_same, fun y hy => by unfold frX; rw [hy]; rfl, by simp (disch := omega) only [getK_set, Nat.reduceEqDiff, ↓reduceIte, g1, g2, and_self]⟩
      · rcases List.mem_append.1 hz with hz | hz
        · exact hP z hz
        · rw [List.mem_singleton.1 hz]; exact hC
      · simp only at hct hcn ⊢
        rw [List.length_append]
        show cntT (woR L (jnR [C, turnR C])) + (P.length + 1) ≤ 49
        omega
      · have := hO _ (hstep r e hr)
        cases r with
        | none => exact this
        | some qs =>
          simp only [Option.map_some] at this ⊢
          rw [List.append_assoc]; exact this
end
end Go.Ev
namespace Go.Ev
open Go Go.RowKit
theorem nd_arI {f : Nat → Nat → Bool} : Nd (arI f) := fun x hx => by
  obtain ⟨a, b, h1, h2, _, rfl⟩ := mem_arI.1 hx
  show ((0 : Int) ≤ (a : Int) ∧ (a : Int) < 7) ∧ ((0 : Int) ≤ (b : Int) ∧ (b : Int) < 7)
  omega
theorem relR_iff {L : List (Int × Int)} {a b : Nat} (hn : Nd L) : rat (relR L) a b = true ↔ ((a : Int), (b : Int)) ∈ L := by
  unfold relR
  rw [rat_rl]
  simp only [Bool.and_eq_true, decide_eq_true_eq]
  exact ⟨fun h => h.2, fun h => ⟨by have := hn _ h; simp only at this; omega, h⟩⟩
theorem gR_iff {L : List (Int × Int)} {a b : Nat} (hn : Nd L) : rat (gR L) a b = true ↔ ((a : Int), (b : Int)) ∈ L ∨ ((b : Int), (a : Int)) ∈ L := by
  unfold gR
  rw [show jnR [relR L, turnR (relR L)] = jn2 (relR L) (turnR (relR L)) from rfl, jn2_iff, turnR_iff, relR_iff hn, relR_iff hn]
theorem gR_arI {n : Nat} {g : Nat → Nat → Bool} (hg : Gph n g) {a b : Nat} : rat (gR (arI g)) a b = true ↔ sy g a b = true := by
  rw [gR_iff nd_arI, mem_arI', mem_arI']
  unfold sy
  rw [Bool.or_eq_true]
  have h7 := hg.n7
  exact or_congr ⟨fun h => h.2.2, fun h => by have := hg.up _ _ h; exact ⟨by omega, by omega, h⟩⟩ ⟨fun h => h.2.2, fun h => by have := hg.up _ _ h; exact ⟨by omega, by omega, h⟩⟩
theorem symR_g {n : Nat} {g : Nat → Nat → Bool} (hg : Gph n g) : SymR (gR (arI g)) := by
  refine ⟨gR_len, ⟨fun a b h => ?_, fun a h => ?_⟩⟩
  · have h := (gR_arI hg).1 h
    exact (gR_arI hg).2 (by unfold sy at h ⊢; rw [Bool.or_comm]; exact h)
  · have h := (gR_arI hg).1 h
    unfold sy at h
    rw [Bool.or_self] at h
    have := hg.up _ _ h
    omega
theorem Er_lt {n : Nat} {g : Nat → Nat → Bool} (hg : Gph n g) {a b : Nat} (h : Er (gR (arI g)) a b) : a < n ∧ b < n ∧ a ≠ b := by
  have h := (gR_arI hg).1 h
  unfold sy at h
  rcases Bool.or_eq_true _ _ ▸ h with h | h
  · have := hg.up _ _ h; omega
  · have := hg.up _ _ h; omega
/-- Pairs of a relation are rising. -/
theorem ris_arI {f : Nat → Nat → Bool} {n : Nat} (hf : ∀ a b, a < 7 → b < 7 → f a b = true → a < n ∧ b < n ∧ a ≠ b) : risB (n : Int) (arI f) = true := by
  unfold risB
  refine @decide_eq_true _ (Classical.propDecidable _) fun j hj => ?_
  have hl : (arI f).length = (arw f).length := by unfold arI; rw [List.length_map]
  have e : ∀ i (hi : i < (arw f).length), (arI f).getD i (0, 0) = toI (arw f)[i] := fun i hi => by
    rw [List.getD_eq_getElem?_getD]
    unfold arI
    rw [List.getElem?_map, List.getElem?_eq_getElem hi]; rfl
  refine ⟨?_, fun h0 => ?_⟩
  · rw [e j (by omega)]
    obtain ⟨h1, h2, h3⟩ := arw_lt (List.getElem_mem (show j < (arw f).length by omega))
    obtain ⟨q1, q2, q3⟩ := hf _ _ h1 h2 h3
    unfold okE nodeB toI
    rw [decide_eq_true (show (0 : Int) ≤ ((arw f)[j].1 : Int) ∧ ((arw f)[j].1 : Int) < (n : Int) by omega), decide_eq_true (show (0 : Int) ≤ ((arw f)[j].2 : Int) ∧ ((arw f)[j].2 : Int) < (n : Int) by omega), decide_eq_true (show ((arw f)[j].1 : Int) ≠ ((arw f)[j].2 : Int) by omega)]
    try rfl
  · rw [e j (by omega), e (j - 1) (by omega)]
    have hs := arw_sorted (g := f) (i := j - 1) (by omega)
    have ej : j - 1 + 1 = j := by omega
    simp only [ej] at hs
    obtain ⟨_, h2, _⟩ := arw_lt (List.getElem_mem (show j < (arw f).length by omega))
    obtain ⟨_, k2, _⟩ := arw_lt (List.getElem_mem (show j - 1 < (arw f).length by omega))
    unfold bfB toI
    by_cases e1 : (arw f)[j - 1].1 < (arw f)[j].1
    · rw [decide_eq_true (show ((arw f)[j - 1].1 : Int) < ((arw f)[j].1 : Int) by omega)]; rfl
    · rw [decide_eq_true (show ((arw f)[j - 1].1 : Int) = ((arw f)[j].1 : Int) by omega), decide_eq_true (show ((arw f)[j - 1].2 : Int) < ((arw f)[j].2 : Int) by omega)]
      simp
theorem chkG_g {n : Nat} {g : Nat → Nat → Bool} (hg : Gph n g) : chkG (n : Int) (arI g) = 0 := by
  have h1 := hg.n1; have h7 := hg.n7
  have hu : UpT (arI g) (arI g).length := fun j hj => by
    have hl : (arI g).length = (arw g).length := by unfold arI; rw [List.length_map]
    rw [List.getD_eq_getElem?_getD]
    unfold arI
    rw [List.getElem?_map, List.getElem?_eq_getElem (show j < (arw g).length by omega)]
    obtain ⟨_, _, h3⟩ := arw_lt (List.getElem_mem (show j < (arw g).length by omega))
    have := hg.up _ _ h3
    show ((arw g)[j].1 : Int) ≤ ((arw g)[j].2 : Int)
    omega
  unfold chkG
  rw [if_neg (by omega), if_pos ⟨ris_arI fun a b _ _ h => by have := hg.up _ _ h; omega, hu⟩]

end Go.Ev
namespace Go.Ev
open Go Go.RowKit
noncomputable def f40_r0 : List EOper := [⟨(some (K.ofNat 3)), none, .box 2 (.t (K.ofNat 1))⟩, ⟨(some (K.ofNat 4)), none, .as (.c (.b false))⟩]
noncomputable def f40_r1 : List EOper := [⟨(some (K.ofNat 5)), none, .as (.c (.i .i64 (.ofNat 0)))⟩]
noncomputable def f40_r2 : List EOper := [⟨(some (K.ofNat 6)), none, .mv (.t (K.ofNat 5))⟩, ⟨(some (K.ofNat 7)), none, .mv (.t (K.ofNat 0))⟩, ⟨(some (K.ofNat 8)), none, .len (.t (K.ofNat 7))⟩, ⟨(some (K.ofNat 9)), none, .bin .lss (.t (K.ofNat 6)) (.t (K.ofNat 8))⟩]
noncomputable def f40_r3 : List Stage := [⟨[⟨(some (K.ofNat 12)), none, .mv (.t (K.ofNat 0))⟩, ⟨(some (K.ofNat 13)), none, .mv (.t (K.ofNat 5))⟩, ⟨(some (K.ofNat 14)), none, .iads 2 (.t (K.ofNat 12)) (.t (K.ofNat 13))⟩, ⟨(some (K.ofNat 15)), none, .ldn 2 (.t (K.ofNat 14))⟩, ⟨(some (K.ofNat 16)), none, .ldn 2 (.t (K.ofNat 3))⟩, ⟨(some (K.ofNat 17)), none, .eqk (.many [(some .i64), (some .i64)]) false (.t (K.ofNat 15)) (.t (K.ofNat 16))⟩], [], none, []⟩]
noncomputable def f40_r4 : List EOper := [⟨(some (K.ofNat 4)), none, .as (.c (.b true))⟩]
noncomputable def f40_r5 : List EOper := [⟨(some (K.ofNat 10)), none, .mv (.t (K.ofNat 5))⟩, ⟨(some (K.ofNat 11)), none, .bin .add (.t (K.ofNat 10)) (.c (.i .i64 (.ofNat 1)))⟩, ⟨(some (K.ofNat 5)), none, .as (.t (K.ofNat 11))⟩]
noncomputable def f40_l0 : EC := (.seq (.seq (.reg f40_r2) (.cond (.t (K.ofNat 9)) .skip (.exit 0))) (.seq (.block 1 (.seq (.draw f40_r3) (.cond (.t (K.ofNat 17)) (.seq (.reg f40_r4) .ret) .skip))) (.reg f40_r5)))
noncomputable def f40_r6 : List EOper := [⟨(some (K.ofNat 4)), none, .as (.c (.b false))⟩]
noncomputable def f40_c : EC := (.seq (.reg f40_r0) (.seq (.seq (.reg f40_r1) (.block 0 (.loop f40_l0))) (.seq (.reg f40_r6) .ret)))
noncomputable def f40 : EF := ⟨18, [.tmp (K.ofNat 4)], f40_c, none⟩
theorem f40_rs : f40.rs = [.tmp (K.ofNat 4)] := of_eq_true (eq_self _)
noncomputable def f52_r0 : List EOper := [⟨(some (K.ofNat 6)), none, .as (.c (.b false))⟩]
noncomputable def f52_r1 : List EOper := [⟨(some (K.ofNat 7)), none, .mv (.t (K.ofNat 0))⟩, ⟨(some (K.ofNat 8)), none, .mv (.t (K.ofNat 1))⟩, ⟨(some (K.ofNat 9)), none, .mv (.t (K.ofNat 2))⟩, ⟨(some (K.ofNat 10)), none, .min (.t (K.ofNat 8)) (.t (K.ofNat 9))⟩, ⟨(some (K.ofNat 11)), none, .mv (.t (K.ofNat 1))⟩, ⟨(some (K.ofNat 12)), none, .mv (.t (K.ofNat 2))⟩, ⟨(some (K.ofNat 13)), none, .max (.t (K.ofNat 11)) (.t (K.ofNat 12))⟩, ⟨(some (K.ofNat 14)), none, .build [(.i .i64 (.ofNat 0)), (.i .i64 (.ofNat 0))] [(0, 1, (.t (K.ofNat 10))), (1, 1, (.t (K.ofNat 13)))]⟩, ⟨(some (K.ofNat 15)), none, .call (.c (.fn (K.ofNat 40) [])) [(.t (K.ofNat 7)), (.t (K.ofNat 14))]⟩, ⟨(some (K.ofNat 6)), none, .as (.t (K.ofNat 15))⟩]
noncomputable def f52_c : EC := (.seq (.reg f52_r0) (.seq (.reg f52_r1) .ret))
noncomputable def f52 : EF := ⟨16, [.tmp (K.ofNat 6)], f52_c, none⟩
theorem f52_rs : f52.rs = [.tmp (K.ofNat 6)] := of_eq_true (eq_self _)
section
variable {fs : T EF} {h h' : H}
def inI (x : Int × Int) : Prop := inR .i64 x.1 = true ∧ inR .i64 x.2 = true
theorem inI_nat {a b : Nat} (ha : a < 7) (hb : b < 7) : inI ((a : Int), (b : Int)) := by
  have r : ∀ n : Nat, n < 7 → inR .i64 (n : Int) = true := fun n hn => by
    show Nat.ble n (kmax .i64) = true
    exact Nat.ble_eq_true_of_le (by show n ≤ 9223372036854775807; omega)
  exact ⟨r _ ha, r _ hb⟩
theorem inI_arI {f : Nat → Nat → Bool} : ∀ x ∈ arI f, inI x := fun x hx => by
  obtain ⟨a, b, h1, h2, _, rfl⟩ := mem_arI.1 hx
  exact inI_nat h1 h2
theorem keyEq_pVO {x y : Int × Int} (hx : inI x) (hy : inI y) : keyEq (.many [some .i64, some .i64]) (pV x) (pV y) = some (decide (x = y)) := by
  have := keyEq_2 hx.1 hx.2 hy.1 hy.2
  rw [show keyEq (.many [some .i64, some .i64]) (pV x) (pV y) = _ from this]
  congr 1
  rw [← Bool.decide_and]
  exact decide_eq_decide.2 ⟨fun h => Prod.ext h.1 h.2, fun h => by rw [h]; exact ⟨rfl, rfl⟩⟩
def f40_I (h0 : H) (id3 : K) (v : V) (L : List (Int × Int)) (x : Int × Int) (i : Nat) (fr : Fr) (h1 : H) : Prop := i ≤ L.length ∧ h1 = h0 ∧ x ∉ L.take i ∧ fr.get (K.ofNat 0) = some (v) ∧ fr.get (K.ofNat 3) = some (.p id3 0) ∧ fr.get (K.ofNat 5) = some (.i .i64 (i : Int))
theorem f40_ret {v : V} {L : List (Int × Int)} {x : Int × Int} (hv : Srp h v L) (hL : ∀ y ∈ L, inI y) (hx : inI x) (hb : L.length ≤ 1000000) (hc : HC h) : Ret fs f40 [v, pV x] h fun r h' => r = .b (decide (x ∈ L)) ∧ Grow h.nx.nat h h' := by
  apply ret_of rfl
  show W fs none f40_c _ _ _
  unfold f40_c
  have c1 : cellsN 2 (pV x) = some [.i .i64 x.1, .i .i64 x.2] := rfl
  have gr1 : Grow h.nx.nat h (h.new (.cells 2 [.i .i64 x.1, .i .i64 x.2])) := Grow.new (Nat.le_refl _) _
  have e1 : (h.new (.cells 2 [.i .i64 x.1, .i .i64 x.2])).get h.nx = .cells 2 [.i .i64 x.1, .i .i64 x.2] := get_new_same
  simp (disch := omega) only [f40_r0, f40_r1, w_reg, w_seq, w_block, seqK_n, x_nil, x_as, x_box, kx, rvP_ok, ev_t, ev_c, getV_some, putD_some, oGet_s, frame_2, of0, getK_set, ↓reduceIte, c1]
  generalize h.new (.cells 2 [.i .i64 x.1, .i .i64 x.2]) = h1 at *
  have hv1 := hv.grow hc gr1
  have hlen := hv1.len
  have l1 := ldn2 e1
  have hvb := hv.beq
  refine W_loop (f40_I h1 h.nx v L x) (fun i => L.length - i) ?_ 0 ⟨by omega, rfl, by simp, by simp (disch := omega) only [getK_set, Nat.reduceEqDiff, ↓reduceIte, and_self, Int.natCast_zero]⟩
  rintro i fr h2 ⟨hi, rfl, hn, g0, g3, g5⟩
  unfold f40_l0
  by_cases hlt : i < L.length
  · have d0 : decide ((i : Int) < (L.length : Int)) = true := decide_eq_true (by omega)
    obtain ⟨id, q, p1, p2, _⟩ := hv1.at2 hlt
    have hq := keyEq_pVO (hL _ (List.getElem_mem hlt)) hx
    have hav1 : V.agg [.i .i64 L[i].1, .i .i64 L[i].2] = pV L[i] := rfl
    have hav2 : V.agg [.i .i64 x.1, .i .i64 x.2] = pV x := rfl
    by_cases e : L[i] = x
    · have d1 : decide (L[i] = x) = true := decide_eq_true e
      rw [d1] at hq
      simp (disch := omega) only [f40_r2, f40_r3, f40_r4, f40_rs, w_skip, w_reg, w_draw, w_seq, w_cond, w_block, w_ret, seqK_n, seqK_r, atK_r, loopK_r, ckB_b, cbB_b, true_and, retK_r, x_nil, x_mv, x_as, x_bin, x_len, kx, kg, xg_nil, xg_mv, xg_ldn, xg_eqk, xg_iads, xd_cons, fresh_nil, stK_n, stay_nil, rvP_ok, okv_some, ev_t, ev_c, getV_some, putD_some, bin_lss, oGet_s, readRs_nil, readRs_t, retV_1, Option.some.injEq, exists_eq_left', getK_set, Nat.reduceEqDiff, ↓reduceIte, g0, g3, g5, hlen, d0, p1, p2, l1, hav1, hav2, hq, cond_false]
      exact ⟨by rw [decide_eq_true (show x ∈ L by rw [← e]; exact List.getElem_mem hlt)], gr1⟩
    · have d1 : decide (L[i] = x) = false := decide_eq_false e
      rw [d1] at hq
      simp (disch := omega) only [f40_r2, f40_r3, f40_r5, w_skip, w_reg, w_draw, w_seq, w_cond, w_block, seqK_n, atK_n, loopK_n, ckB_b, cbB_b, true_and, x_nil, x_mv, x_as, x_bin, x_len, kx, kg, xg_nil, xg_mv, xg_ldn, xg_eqk, xg_iads, xd_cons, fresh_nil, stK_n, stay_nil, rvP_ok, okv_some, ev_t, ev_c, getV_some, putD_some, bin_add, bin_lss, oGet_s, of1, getK_set, Nat.reduceEqDiff, ↓reduceIte, Bool.false_eq_true, g0, g3, g5, hlen, d0, p1, p2, l1, hav1, hav2, hq, cond_false, fw64]
      refine ⟨i + 1, by omega, hlt, rfl, ?_, by simp (disch := omega) only [getK_set, Nat.reduceEqDiff, ↓reduceIte, g0, g3, and_self, Int.natCast_add, Int.natCast_one]⟩
      rw [List.take_succ_eq_append_getElem hlt, List.mem_append, List.mem_singleton]
      exact fun h => h.elim hn (fun h => e h.symm)
  · have d0 : decide ((i : Int) < (L.length : Int)) = false := decide_eq_false (by omega)
    have ei : i = L.length := by omega
    subst ei
    rw [List.take_length] at hn
    simp (disch := omega) only [f40_r2, f40_r6, f40_rs, w_reg, w_seq, w_cond, w_exit, w_ret, seqK_n, seqK_e, atK_e, loopK_e, ckB_b, cbB_b, true_and, retK_r, x_nil, x_mv, x_as, x_bin, x_len, kx, rvP_ok, okv_some, ev_t, ev_c, getV_some, putD_some, bin_lss, oGet_s, readRs_nil, readRs_t, retV_1, Option.some.injEq, exists_eq_left', getK_set, Nat.reduceEqDiff, ↓reduceIte, Bool.false_eq_true, g0, g5, hlen, d0]
    exact ⟨by rw [decide_eq_false hn], gr1⟩
theorem f52_ret {v : V} {L : List (Int × Int)} {a b : Int} (h40 : fs.get (K.ofNat 40) = some f40) (hv : Srp h v L) (hL : ∀ y ∈ L, inI y) (hx : inI (min a b, max a b)) (hb : L.length ≤ 1000000) (hc : HC h) : Ret fs f52 [v, .i .i64 a, .i .i64 b] h fun r h' => r = .b (decide ((min a b, max a b) ∈ L)) ∧ Grow h.nx.nat h h' := by
  apply ret_of rfl
  show W fs none f52_c _ _ _
  unfold f52_c
  have hav : V.agg [.i .i64 (min a b), .i .i64 (max a b)] = pV (min a b, max a b) := rfl
  simp (disch := omega) only [f52_r0, f52_r1, w_reg, w_seq, seqK_n, x_nil, x_mv, x_as, x_build, x_call, x_min, x_max, kx, rvP_ok, ev_t, ev_c, evs_nil, evs_cons, getV_some, putD_some, oGet_s, min_ii, max_ii, frame_3, cells1_i, of0, getK_set, Nat.reduceEqDiff, ↓reduceIte, fill_2, set_2, fill_2, set_2, hav]
  refine (callP_0 (ef := f40) h40 rfl (f40_ret hv hL hx hb hc)).mono ?_
  rintro r h1 ⟨rfl, hG⟩
  simp (disch := omega) only [f52_rs, w_ret, seqK_n, true_and, retK_r, x_nil, x_as, kx, ev_t, getV_some, putD_some, oGet_s, readRs_nil, readRs_t, retV_1, Option.some.injEq, exists_eq_left', getK_set, ↓reduceIte, true_and]
  exact hG
/-! ### Orient -/
structure CallsOr (fs : T EF) : Prop extends CallsCk fs where
  c47 : fs.get (K.ofNat 47) = some f47
  c48 : fs.get (K.ofNat 48) = some f48
  c58 : fs.get (K.ofNat 58) = some f58
  n60 : ∀ L h P, SymR L → CallP fs (.fn (K.ofNat 60) []) [rV L] h P = P (orV L) h
end
end Go.Ev
namespace Go.Ev
open Go Go.RowKit
theorem nodup_leO {α : Type} [DecidableEq α] : ∀ {l m : List α}, l.Nodup → (∀ x ∈ l, x ∈ m) → l.length ≤ m.length
  | [], _, _, _ => Nat.zero_le _
  | x :: l, m, hn, hs => by
    rw [List.nodup_cons] at hn
    have hx : x ∈ m := hs x (by simp)
    have := nodup_leO (l := l) (m := m.erase x) hn.2 fun y hy => (List.mem_erase_of_ne (fun e : y = x => hn.1 (e ▸ hy))).2 (hs y (by simp [hy]))
    rw [List.length_erase_of_mem hx] at this
    have : 0 < m.length := List.length_pos_of_mem hx
    rw [List.length_cons]; omega
section
variable {L : List Bool} {n : Nat}
end
end Go.Ev
namespace Go.Ev
open Go Go.RowKit
section
variable {fs : T EF} {h h' : H}
end
end Go.Ev
namespace Go.Ev
open Go Go.RowKit
section
variable {fs : T EF} {h h' : H}
end
end Go.Ev
namespace Go.Ev
open Go Go.RowKit
section
variable {g : Nat → Nat → Bool} {k n : Nat}
end
end Go.Ev
namespace Go.Ev
open Go Go.RowKit
section
variable {fs : T EF} {h h' : H}
end
end Go.Ev
namespace Go.Ev
open Go Go.RowKit
theorem HC.empty : HC ⟨.e, .nil⟩ := fun _ _ => by show getB (T.get _ .nil) = _; rw [T.get_nil]; rfl
theorem pV_inj {x y : Int × Int} (h : pV x = pV y) : x = y := by
  unfold pV at h
  injection h with h
  injection h with h1 h
  injection h with h2 _
  injection h1 with _ h1
  injection h2 with _ h2
  exact Prod.ext h1 h2
theorem aV_inj {x y : Nat × Nat} (h : aV x = aV y) : x = y := by
  rw [aV_pV, aV_pV] at h
  have := pV_inj h
  injection this with h1 h2
  exact Prod.ext (by omega) (by omega)
theorem iV_inj {k : IntKind} {a b : Int} (h : V.i k a = V.i k b) : a = b := by injection h
section
variable {Y : Rig} {fs : T EF}
theorem frV_plain {L : List Bool} : (frV L).plainT = true := by unfold frV; split <;> rfl
theorem orV_plain {L : List Bool} : (orV L).plainT = true := by
  unfold orV
  split
  · show ([rV _, V.b true].all V.plain) = true
    simp only [List.all_cons, List.all_nil, rV_plain, Bool.true_and]; rfl
  · show ([rV _, V.b false].all V.plain) = true
    simp only [List.all_cons, List.all_nil, rV_plain, Bool.true_and]; rfl
theorem rV_plainT {L : List Bool} : (rV L).plainT = true := rV_plain (L := L)
def D96 : Type := {_x : Int × Int // True}
noncomputable def A96 : D96 → List V := fun ⟨x, _⟩ => [V.i .i64 x.1, V.i .i64 x.2]
noncomputable def F96 : D96 → V := fun ⟨x, _⟩ => V.b (nodeB x.1 x.2)
theorem I96 : ∀ x y, A96 x = A96 y → F96 x = F96 y := by
  rintro ⟨x, p⟩ ⟨y, q⟩ h
  have h : [V.i .i64 x.1, V.i .i64 x.2] = [V.i .i64 y.1, V.i .i64 y.2] := h
  injection h with h0 h
  have e0 := iV_inj h0
  injection h with h1 h
  have e1 := iV_inj h1
  have e : x = y := by
    exact Prod.ext e0 e1
  subst e
  rfl
theorem P96 : ∀ x, (A96 x).all V.plain = true := by
  rintro ⟨x, p⟩
  show ([V.i .i64 x.1, V.i .i64 x.2].all V.plain) = true
  first | rfl | (simp only [List.all_cons, List.all_nil, rV_plain, Bool.true_and, Bool.and_true]; done) | (simp only [List.all_cons, List.all_nil, rV_plain, Bool.true_and, Bool.and_true]; rfl)
theorem Q96 : ∀ x, (F96 x).plainT = true := fun ⟨_, _⟩ => rfl
theorem G96 (hfs : Fns Y fs) (hf : f96.nv = none ∧ ∃ fn c, FnOk Y (K.ofNat 96) f96 fn c) : ∀ args v, dataG A96 F96 args = some v → Gives Y (K.ofNat 96) args v := dataG_gives hfs hf P96 Q96 fun ⟨_, p⟩ => by have _ := p; exact f96_ret
theorem E96 {ef : EF} (hf : fs.get (K.ofNat 96) = some ef) (hn : ef.nv = some (flatG (dataG A96 F96))) (x : Int × Int) (p : True) (h : H) (P : V → H → Prop) : CallP fs (.fn (K.ofNat 96) []) (A96 ⟨x, p⟩) h P = P (F96 ⟨x, p⟩) h := callP_data hf hn I96 _ h P
def D77 : Type := {_x : Int × Int // True}
noncomputable def A77 : D77 → List V := fun ⟨x, _⟩ => [pV x]
noncomputable def F77 : D77 → V := fun ⟨x, _⟩ => pV (x.2, x.1)
theorem I77 : ∀ x y, A77 x = A77 y → F77 x = F77 y := by
  rintro ⟨x, p⟩ ⟨y, q⟩ h
  have h : [pV x] = [pV y] := h
  injection h with h0 h
  have e0 := pV_inj h0
  have e : x = y := by
    exact e0
  subst e
  rfl
theorem P77 : ∀ x, (A77 x).all V.plain = true := by
  rintro ⟨x, p⟩
  show ([pV x].all V.plain) = true
  first | rfl | (simp only [List.all_cons, List.all_nil, rV_plain, Bool.true_and, Bool.and_true]; done) | (simp only [List.all_cons, List.all_nil, rV_plain, Bool.true_and, Bool.and_true]; rfl)
theorem Q77 : ∀ x, (F77 x).plainT = true := fun ⟨_, _⟩ => rfl
theorem G77 (hfs : Fns Y fs) (hf : f77.nv = none ∧ ∃ fn c, FnOk Y (K.ofNat 77) f77 fn c) : ∀ args v, dataG A77 F77 args = some v → Gives Y (K.ofNat 77) args v := dataG_gives hfs hf P77 Q77 fun ⟨_, p⟩ => by have _ := p; exact f77_ret
theorem E77 {ef : EF} (hf : fs.get (K.ofNat 77) = some ef) (hn : ef.nv = some (flatG (dataG A77 F77))) (x : Int × Int) (p : True) (h : H) (P : V → H → Prop) : CallP fs (.fn (K.ofNat 77) []) (A77 ⟨x, p⟩) h P = P (F77 ⟨x, p⟩) h := callP_data hf hn I77 _ h P
def D78 : Type := {_x : Int × Int // True}
noncomputable def A78 : D78 → List V := fun ⟨x, _⟩ => [pV x]
noncomputable def F78 : D78 → V := fun ⟨x, _⟩ => pV x
theorem I78 : ∀ x y, A78 x = A78 y → F78 x = F78 y := by
  rintro ⟨x, p⟩ ⟨y, q⟩ h
  have h : [pV x] = [pV y] := h
  injection h with h0 h
theorem P78 : ∀ x, (A78 x).all V.plain = true := by
  rintro ⟨x, p⟩
  show ([pV x].all V.plain) = true
  first | rfl | (simp only [List.all_cons, List.all_nil, rV_plain, Bool.true_and, Bool.and_true]; done) | (simp only [List.all_cons, List.all_nil, rV_plain, Bool.true_and, Bool.and_true]; rfl)
theorem Q78 : ∀ x, (F78 x).plainT = true := fun ⟨_, _⟩ => rfl
theorem G78 (hfs : Fns Y fs) (hf : f78.nv = none ∧ ∃ fn c, FnOk Y (K.ofNat 78) f78 fn c) : ∀ args v, dataG A78 F78 args = some v → Gives Y (K.ofNat 78) args v := dataG_gives hfs hf P78 Q78 fun ⟨_, p⟩ => by have _ := p; exact f78_ret
theorem E78 {ef : EF} (hf : fs.get (K.ofNat 78) = some ef) (hn : ef.nv = some (flatG (dataG A78 F78))) (x : Int × Int) (p : True) (h : H) (P : V → H → Prop) : CallP fs (.fn (K.ofNat 78) []) (A78 ⟨x, p⟩) h P = P (F78 ⟨x, p⟩) h := callP_data hf hn I78 _ h P
def D56 : Type := {_x : Int × Int // True}
noncomputable def A56 : D56 → List V := fun ⟨x, _⟩ => [pV x]
noncomputable def F56 : D56 → V := fun ⟨x, _⟩ => pV x
theorem I56 : ∀ x y, A56 x = A56 y → F56 x = F56 y := by
  rintro ⟨x, p⟩ ⟨y, q⟩ h
  have h : [pV x] = [pV y] := h
  injection h with h0 h
theorem P56 : ∀ x, (A56 x).all V.plain = true := by
  rintro ⟨x, p⟩
  show ([pV x].all V.plain) = true
  first | rfl | (simp only [List.all_cons, List.all_nil, rV_plain, Bool.true_and, Bool.and_true]; done) | (simp only [List.all_cons, List.all_nil, rV_plain, Bool.true_and, Bool.and_true]; rfl)
theorem Q56 : ∀ x, (F56 x).plainT = true := fun ⟨_, _⟩ => rfl
theorem G56 (hfs : Fns Y fs) (hf : f56.nv = none ∧ ∃ fn c, FnOk Y (K.ofNat 56) f56 fn c) : ∀ args v, dataG A56 F56 args = some v → Gives Y (K.ofNat 56) args v := dataG_gives hfs hf P56 Q56 fun ⟨_, p⟩ => by have _ := p; exact f56_ret
theorem E56 {ef : EF} (hf : fs.get (K.ofNat 56) = some ef) (hn : ef.nv = some (flatG (dataG A56 F56))) (x : Int × Int) (p : True) (h : H) (P : V → H → Prop) : CallP fs (.fn (K.ofNat 56) []) (A56 ⟨x, p⟩) h P = P (F56 ⟨x, p⟩) h := callP_data hf hn I56 _ h P
def D70 : Type := {x : List Bool // x.length = 49}
noncomputable def A70 : D70 → List V := fun ⟨x, _⟩ => [rV x]
noncomputable def F70 : D70 → V := fun ⟨x, _⟩ => rV (turnR x)
theorem I70 : ∀ x y, A70 x = A70 y → F70 x = F70 y := by
  rintro ⟨x, p⟩ ⟨y, q⟩ h
  have h : [rV x] = [rV y] := h
  injection h with h0 h
  have e0 := rV_inj h0
  have e : x = y := by
    exact e0
  subst e
  rfl
theorem P70 : ∀ x, (A70 x).all V.plain = true := by
  rintro ⟨x, p⟩
  show ([rV x].all V.plain) = true
  first | rfl | (simp only [List.all_cons, List.all_nil, rV_plain, Bool.and_true]; done) | (simp only [List.all_cons, List.all_nil, rV_plain, Bool.true_and, Bool.and_true]; rfl)
theorem Q70 : ∀ x, (F70 x).plainT = true := fun ⟨_, _⟩ => rV_plainT
theorem G70 (h84 : fs.get (K.ofNat 84) = some f84) (h101 : fs.get (K.ofNat 101) = some f101) (hfs : Fns Y fs) (hf : f70.nv = none ∧ ∃ fn c, FnOk Y (K.ofNat 70) f70 fn c) : ∀ args v, dataG A70 F70 args = some v → Gives Y (K.ofNat 70) args v := dataG_gives hfs hf P70 Q70 fun ⟨_, p⟩ => by have _ := p; exact (f70_ret p h84 h101 HC.empty).mono fun _ _ h => h.1
theorem E70 {ef : EF} (hf : fs.get (K.ofNat 70) = some ef) (hn : ef.nv = some (flatG (dataG A70 F70))) (x : List Bool) (p : x.length = 49) (h : H) (P : V → H → Prop) : CallP fs (.fn (K.ofNat 70) []) (A70 ⟨x, p⟩) h P = P (F70 ⟨x, p⟩) h := callP_data hf hn I70 _ h P
def D81 : Type := {x : List Bool × List Bool // x.1.length = 49 ∧ x.2.length = 49}
noncomputable def A81 : D81 → List V := fun ⟨x, _⟩ => [rV x.1, rV x.2]
noncomputable def F81 : D81 → V := fun ⟨x, _⟩ => rV (woR x.1 x.2)
theorem I81 : ∀ x y, A81 x = A81 y → F81 x = F81 y := by
  rintro ⟨x, p⟩ ⟨y, q⟩ h
  have h : [rV x.1, rV x.2] = [rV y.1, rV y.2] := h
  injection h with h0 h
  have e0 := rV_inj h0
  injection h with h1 h
  have e1 := rV_inj h1
  have e : x = y := by
    exact Prod.ext e0 e1
  subst e
  rfl
theorem P81 : ∀ x, (A81 x).all V.plain = true := by
  rintro ⟨x, p⟩
  show ([rV x.1, rV x.2].all V.plain) = true
  first | rfl | (simp only [List.all_cons, List.all_nil, rV_plain, Bool.and_true]; done) | (simp only [List.all_cons, List.all_nil, rV_plain, Bool.true_and, Bool.and_true]; rfl)
theorem Q81 : ∀ x, (F81 x).plainT = true := fun ⟨_, _⟩ => rV_plainT
theorem G81 (h84 : fs.get (K.ofNat 84) = some f84) (h101 : fs.get (K.ofNat 101) = some f101) (hfs : Fns Y fs) (hf : f81.nv = none ∧ ∃ fn c, FnOk Y (K.ofNat 81) f81 fn c) : ∀ args v, dataG A81 F81 args = some v → Gives Y (K.ofNat 81) args v := dataG_gives hfs hf P81 Q81 fun ⟨_, p⟩ => by have _ := p; exact f81_ret p.1 p.2 h84 h101 HC.empty
theorem E81 {ef : EF} (hf : fs.get (K.ofNat 81) = some ef) (hn : ef.nv = some (flatG (dataG A81 F81))) (x : List Bool × List Bool) (p : x.1.length = 49 ∧ x.2.length = 49) (h : H) (P : V → H → Prop) : CallP fs (.fn (K.ofNat 81) []) (A81 ⟨x, p⟩) h P = P (F81 ⟨x, p⟩) h := callP_data hf hn I81 _ h P
def D85 : Type := {x : List Bool × (Int × Int) // x.1.length = 49}
noncomputable def A85 : D85 → List V := fun ⟨x, _⟩ => [rV x.1, pV x.2]
noncomputable def F85 : D85 → V := fun ⟨x, _⟩ => V.b (hasR x.1 x.2)
theorem I85 : ∀ x y, A85 x = A85 y → F85 x = F85 y := by
  rintro ⟨x, p⟩ ⟨y, q⟩ h
  have h : [rV x.1, pV x.2] = [rV y.1, pV y.2] := h
  injection h with h0 h
  have e0 := rV_inj h0
  injection h with h1 h
  have e1 := pV_inj h1
  have e : x = y := by
    exact Prod.ext e0 e1
  subst e
  rfl
theorem P85 : ∀ x, (A85 x).all V.plain = true := by
  rintro ⟨x, p⟩
  show ([rV x.1, pV x.2].all V.plain) = true
  first | rfl | (simp only [List.all_cons, List.all_nil, rV_plain, Bool.true_and, Bool.and_true]; done) | (simp only [List.all_cons, List.all_nil, rV_plain, Bool.true_and, Bool.and_true]; rfl)
theorem Q85 : ∀ x, (F85 x).plainT = true := fun ⟨_, _⟩ => rfl
theorem G85 (k : Nat1 fs) (hfs : Fns Y fs) (hf : f85.nv = none ∧ ∃ fn c, FnOk Y (K.ofNat 85) f85 fn c) : ∀ args v, dataG A85 F85 args = some v → Gives Y (K.ofNat 85) args v := dataG_gives hfs hf P85 Q85 fun ⟨_, p⟩ => by have _ := p; exact f85_ret k p
theorem E85 {ef : EF} (hf : fs.get (K.ofNat 85) = some ef) (hn : ef.nv = some (flatG (dataG A85 F85))) (x : List Bool × (Int × Int)) (p : x.1.length = 49) (h : H) (P : V → H → Prop) : CallP fs (.fn (K.ofNat 85) []) (A85 ⟨x, p⟩) h P = P (F85 ⟨x, p⟩) h := callP_data hf hn I85 _ h P
def D87 : Type := {x : List Bool // x.length = 49}
noncomputable def A87 : D87 → List V := fun ⟨x, _⟩ => [rV x]
noncomputable def F87 : D87 → V := fun ⟨x, _⟩ => frV x
theorem I87 : ∀ x y, A87 x = A87 y → F87 x = F87 y := by
  rintro ⟨x, p⟩ ⟨y, q⟩ h
  have h : [rV x] = [rV y] := h
  injection h with h0 h
  have e0 := rV_inj h0
  have e : x = y := by
    exact e0
  subst e
  rfl
theorem P87 : ∀ x, (A87 x).all V.plain = true := by
  rintro ⟨x, p⟩
  show ([rV x].all V.plain) = true
  first | rfl | (simp only [List.all_cons, List.all_nil, rV_plain, Bool.and_true]; done) | (simp only [List.all_cons, List.all_nil, rV_plain, Bool.true_and, Bool.and_true]; rfl)
theorem Q87 : ∀ x, (F87 x).plainT = true := fun ⟨_, _⟩ => frV_plain
theorem G87 (k : Nat2 fs) (hfs : Fns Y fs) (hf : f87.nv = none ∧ ∃ fn c, FnOk Y (K.ofNat 87) f87 fn c) : ∀ args v, dataG A87 F87 args = some v → Gives Y (K.ofNat 87) args v := dataG_gives hfs hf P87 Q87 fun ⟨_, p⟩ => by have _ := p; exact f87_ret k p HC.empty
theorem E87 {ef : EF} (hf : fs.get (K.ofNat 87) = some ef) (hn : ef.nv = some (flatG (dataG A87 F87))) (x : List Bool) (p : x.length = 49) (h : H) (P : V → H → Prop) : CallP fs (.fn (K.ofNat 87) []) (A87 ⟨x, p⟩) h P = P (F87 ⟨x, p⟩) h := callP_data hf hn I87 _ h P
def D92 : Type := {x : List Bool // x.length = 49}
noncomputable def A92 : D92 → List V := fun ⟨x, _⟩ => [rV x]
noncomputable def F92 : D92 → V := fun ⟨x, _⟩ => rV (spR x)
theorem I92 : ∀ x y, A92 x = A92 y → F92 x = F92 y := by
  rintro ⟨x, p⟩ ⟨y, q⟩ h
  have h : [rV x] = [rV y] := h
  injection h with h0 h
  have e0 := rV_inj h0
  have e : x = y := by
    exact e0
  subst e
  rfl
theorem P92 : ∀ x, (A92 x).all V.plain = true := by
  rintro ⟨x, p⟩
  show ([rV x].all V.plain) = true
  first | rfl | (simp only [List.all_cons, List.all_nil, rV_plain, Bool.and_true]; done) | (simp only [List.all_cons, List.all_nil, rV_plain, Bool.true_and, Bool.and_true]; rfl)
theorem Q92 : ∀ x, (F92 x).plainT = true := fun ⟨_, _⟩ => rV_plainT
theorem G92 (k : Nat2 fs) (hfs : Fns Y fs) (hf : f92.nv = none ∧ ∃ fn c, FnOk Y (K.ofNat 92) f92 fn c) : ∀ args v, dataG A92 F92 args = some v → Gives Y (K.ofNat 92) args v := dataG_gives hfs hf P92 Q92 fun ⟨_, p⟩ => by have _ := p; exact f92_ret k p HC.empty
theorem E92 {ef : EF} (hf : fs.get (K.ofNat 92) = some ef) (hn : ef.nv = some (flatG (dataG A92 F92))) (x : List Bool) (p : x.length = 49) (h : H) (P : V → H → Prop) : CallP fs (.fn (K.ofNat 92) []) (A92 ⟨x, p⟩) h P = P (F92 ⟨x, p⟩) h := callP_data hf hn I92 _ h P
def D91 : Type := {x : List Bool × List Bool // x.1.length = 49 ∧ x.2.length = 49}
noncomputable def A91 : D91 → List V := fun ⟨x, _⟩ => [rV x.1, rV x.2]
noncomputable def F91 : D91 → V := fun ⟨x, _⟩ => V.b (cvB x.1 x.2)
theorem I91 : ∀ x y, A91 x = A91 y → F91 x = F91 y := by
  rintro ⟨x, p⟩ ⟨y, q⟩ h
  have h : [rV x.1, rV x.2] = [rV y.1, rV y.2] := h
  injection h with h0 h
  have e0 := rV_inj h0
  injection h with h1 h
  have e1 := rV_inj h1
  have e : x = y := by
    exact Prod.ext e0 e1
  subst e
  rfl
theorem P91 : ∀ x, (A91 x).all V.plain = true := by
  rintro ⟨x, p⟩
  show ([rV x.1, rV x.2].all V.plain) = true
  first | rfl | (simp only [List.all_cons, List.all_nil, rV_plain, Bool.and_true]; done) | (simp only [List.all_cons, List.all_nil, rV_plain, Bool.true_and, Bool.and_true]; rfl)
theorem Q91 : ∀ x, (F91 x).plainT = true := fun ⟨_, _⟩ => rfl
theorem G91 (k : Nat2 fs) (hfs : Fns Y fs) (hf : f91.nv = none ∧ ∃ fn c, FnOk Y (K.ofNat 91) f91 fn c) : ∀ args v, dataG A91 F91 args = some v → Gives Y (K.ofNat 91) args v := dataG_gives hfs hf P91 Q91 fun ⟨_, p⟩ => by have _ := p; exact f91_ret k p.1 p.2 HC.empty
theorem E91 {ef : EF} (hf : fs.get (K.ofNat 91) = some ef) (hn : ef.nv = some (flatG (dataG A91 F91))) (x : List Bool × List Bool) (p : x.1.length = 49 ∧ x.2.length = 49) (h : H) (P : V → H → Prop) : CallP fs (.fn (K.ofNat 91) []) (A91 ⟨x, p⟩) h P = P (F91 ⟨x, p⟩) h := callP_data hf hn I91 _ h P
def D49 : Type := {x : List Bool × Nat // x.1.length = 49 ∧ x.2 ≤ 7}
noncomputable def A49 : D49 → List V := fun ⟨x, _⟩ => [rV x.1, V.i .i64 (x.2 : Int)]
noncomputable def F49 : D49 → V := fun ⟨x, _⟩ => rV (otR x.2 x.1)
theorem I49 : ∀ x y, A49 x = A49 y → F49 x = F49 y := by
  rintro ⟨x, p⟩ ⟨y, q⟩ h
  have h : [rV x.1, V.i .i64 (x.2 : Int)] = [rV y.1, V.i .i64 (y.2 : Int)] := h
  injection h with h0 h
  have e0 := rV_inj h0
  injection h with h1 h
  have e1 := iV_inj h1
  have e : x = y := by
    exact Prod.ext e0 (by omega)
  subst e
  rfl
theorem P49 : ∀ x, (A49 x).all V.plain = true := by
  rintro ⟨x, p⟩
  show ([rV x.1, V.i .i64 (x.2 : Int)].all V.plain) = true
  first | rfl | (simp only [List.all_cons, List.all_nil, rV_plain, Bool.true_and, Bool.and_true]; done) | (simp only [List.all_cons, List.all_nil, rV_plain, Bool.true_and, Bool.and_true]; rfl)
theorem Q49 : ∀ x, (F49 x).plainT = true := fun ⟨_, _⟩ => rV_plainT
theorem G49 (k : Nat2 fs) (hfs : Fns Y fs) (hf : f49.nv = none ∧ ∃ fn c, FnOk Y (K.ofNat 49) f49 fn c) : ∀ args v, dataG A49 F49 args = some v → Gives Y (K.ofNat 49) args v := dataG_gives hfs hf P49 Q49 fun ⟨_, p⟩ => by have _ := p; exact f49_ret k p.1 p.2 HC.empty
theorem E49 {ef : EF} (hf : fs.get (K.ofNat 49) = some ef) (hn : ef.nv = some (flatG (dataG A49 F49))) (x : List Bool × Nat) (p : x.1.length = 49 ∧ x.2 ≤ 7) (h : H) (P : V → H → Prop) : CallP fs (.fn (K.ofNat 49) []) (A49 ⟨x, p⟩) h P = P (F49 ⟨x, p⟩) h := callP_data hf hn I49 _ h P
def D57 : Type := {x : List Bool × (Nat × Nat) // x.1.length = 49 ∧ (x.2.1 < 7 ∧ x.2.2 < 7)}
noncomputable def A57 : D57 → List V := fun ⟨x, _⟩ => [rV x.1, aV x.2]
noncomputable def F57 : D57 → V := fun ⟨x, _⟩ => rV (clsR x.1 x.2)
theorem I57 : ∀ x y, A57 x = A57 y → F57 x = F57 y := by
  rintro ⟨x, p⟩ ⟨y, q⟩ h
  have h : [rV x.1, aV x.2] = [rV y.1, aV y.2] := h
  injection h with h0 h
  have e0 := rV_inj h0
  injection h with h1 h
  have e1 := aV_inj h1
  have e : x = y := by
    exact Prod.ext e0 e1
  subst e
  rfl
theorem P57 : ∀ x, (A57 x).all V.plain = true := by
  rintro ⟨x, p⟩
  show ([rV x.1, aV x.2].all V.plain) = true
  first | rfl | (simp only [List.all_cons, List.all_nil, rV_plain, Bool.true_and, Bool.and_true]; done) | (simp only [List.all_cons, List.all_nil, rV_plain, Bool.true_and, Bool.and_true]; rfl)
theorem Q57 : ∀ x, (F57 x).plainT = true := fun ⟨_, _⟩ => rV_plainT
theorem G57 (k : Nat3 fs) (h86 : fs.get (K.ofNat 86) = some f86) (h102 : fs.get (K.ofNat 102) = some f102) (hfs : Fns Y fs) (hf : f57.nv = none ∧ ∃ fn c, FnOk Y (K.ofNat 57) f57 fn c) : ∀ args v, dataG A57 F57 args = some v → Gives Y (K.ofNat 57) args v := dataG_gives hfs hf P57 Q57 fun ⟨_, p⟩ => by have _ := p; exact f57_ret k h86 h102 p.1 p.2 HC.empty
theorem E57 {ef : EF} (hf : fs.get (K.ofNat 57) = some ef) (hn : ef.nv = some (flatG (dataG A57 F57))) (x : List Bool × (Nat × Nat)) (p : x.1.length = 49 ∧ (x.2.1 < 7 ∧ x.2.2 < 7)) (h : H) (P : V → H → Prop) : CallP fs (.fn (K.ofNat 57) []) (A57 ⟨x, p⟩) h P = P (F57 ⟨x, p⟩) h := callP_data hf hn I57 _ h P
def D55 : Type := {x : List Bool × ((Nat × Nat) × (Nat × Nat)) // x.1.length = 49 ∧ ((x.2.1.1 < 7 ∧ x.2.1.2 < 7) ∧ (x.2.2.1 < 7 ∧ x.2.2.2 < 7))}
noncomputable def A55 : D55 → List V := fun ⟨x, _⟩ => [rV x.1, aV x.2.1, aV x.2.2]
noncomputable def F55 : D55 → V := fun ⟨x, _⟩ => V.b (decide (x.2.2 ∈ fcY x.1 x.2.1.1 x.2.1.2))
theorem I55 : ∀ x y, A55 x = A55 y → F55 x = F55 y := by
  rintro ⟨x, p⟩ ⟨y, q⟩ h
  have h : [rV x.1, aV x.2.1, aV x.2.2] = [rV y.1, aV y.2.1, aV y.2.2] := h
  injection h with h0 h
  have e0 := rV_inj h0
  injection h with h1 h
  have e1 := aV_inj h1
  injection h with h2 h
  have e2 := aV_inj h2
  have e : x = y := by
    exact Prod.ext e0 (Prod.ext e1 e2)
  subst e
  rfl
theorem P55 : ∀ x, (A55 x).all V.plain = true := by
  rintro ⟨x, p⟩
  show ([rV x.1, aV x.2.1, aV x.2.2].all V.plain) = true
  first | rfl | (simp only [List.all_cons, List.all_nil, rV_plain, Bool.true_and, Bool.and_true]; done) | (simp only [List.all_cons, List.all_nil, rV_plain, Bool.true_and, Bool.and_true]; rfl)
theorem Q55 : ∀ x, (F55 x).plainT = true := fun ⟨_, _⟩ => rfl
theorem G55 (h86 : fs.get (K.ofNat 86) = some f86) (h102 : fs.get (K.ofNat 102) = some f102) (hfs : Fns Y fs) (hf : f55.nv = none ∧ ∃ fn c, FnOk Y (K.ofNat 55) f55 fn c) : ∀ args v, dataG A55 F55 args = some v → Gives Y (K.ofNat 55) args v := dataG_gives hfs hf P55 Q55 fun ⟨_, p⟩ => by have _ := p; exact f55_ret h86 h102 p.1 p.2.1 p.2.2 HC.empty
theorem E55 {ef : EF} (hf : fs.get (K.ofNat 55) = some ef) (hn : ef.nv = some (flatG (dataG A55 F55))) (x : List Bool × ((Nat × Nat) × (Nat × Nat))) (p : x.1.length = 49 ∧ ((x.2.1.1 < 7 ∧ x.2.1.2 < 7) ∧ (x.2.2.1 < 7 ∧ x.2.2.2 < 7))) (h : H) (P : V → H → Prop) : CallP fs (.fn (K.ofNat 55) []) (A55 ⟨x, p⟩) h P = P (F55 ⟨x, p⟩) h := callP_data hf hn I55 _ h P
def D76 : Type := {x : List Bool // x.length = 49}
noncomputable def A76 : D76 → List V := fun ⟨x, _⟩ => [rV x]
noncomputable def F76 : D76 → V := fun ⟨x, _⟩ => V.b (trB x)
theorem I76 : ∀ x y, A76 x = A76 y → F76 x = F76 y := by
  rintro ⟨x, p⟩ ⟨y, q⟩ h
  have h : [rV x] = [rV y] := h
  injection h with h0 h
  have e0 := rV_inj h0
  have e : x = y := by
    exact e0
  subst e
  rfl
theorem P76 : ∀ x, (A76 x).all V.plain = true := by
  rintro ⟨x, p⟩
  show ([rV x].all V.plain) = true
  first | rfl | (simp only [List.all_cons, List.all_nil, rV_plain, Bool.and_true]; done) | (simp only [List.all_cons, List.all_nil, rV_plain, Bool.true_and, Bool.and_true]; rfl)
theorem Q76 : ∀ x, (F76 x).plainT = true := fun ⟨_, _⟩ => rfl
theorem G76 (k : Nat3 fs) (hfs : Fns Y fs) (hf : f76.nv = none ∧ ∃ fn c, FnOk Y (K.ofNat 76) f76 fn c) : ∀ args v, dataG A76 F76 args = some v → Gives Y (K.ofNat 76) args v := dataG_gives hfs hf P76 Q76 fun ⟨_, p⟩ => by have _ := p; exact f76_ret k p
theorem E76 {ef : EF} (hf : fs.get (K.ofNat 76) = some ef) (hn : ef.nv = some (flatG (dataG A76 F76))) (x : List Bool) (p : x.length = 49) (h : H) (P : V → H → Prop) : CallP fs (.fn (K.ofNat 76) []) (A76 ⟨x, p⟩) h P = P (F76 ⟨x, p⟩) h := callP_data hf hn I76 _ h P
def D80 : Type := {_x : (Int × Int) × (Int × Int) // True}
noncomputable def A80 : D80 → List V := fun ⟨x, _⟩ => [pV x.1, pV x.2]
noncomputable def F80 : D80 → V := fun ⟨x, _⟩ => V.b (bfB x.1 x.2)
theorem I80 : ∀ x y, A80 x = A80 y → F80 x = F80 y := by
  rintro ⟨x, p⟩ ⟨y, q⟩ h
  have h : [pV x.1, pV x.2] = [pV y.1, pV y.2] := h
  injection h with h0 h
  have e0 := pV_inj h0
  injection h with h1 h
  have e1 := pV_inj h1
  have e : x = y := by
    exact Prod.ext e0 e1
  subst e
  rfl
theorem P80 : ∀ x, (A80 x).all V.plain = true := by
  rintro ⟨x, p⟩
  show ([pV x.1, pV x.2].all V.plain) = true
  first | rfl | (simp only [List.all_cons, List.all_nil, rV_plain, Bool.true_and, Bool.and_true]; done) | (simp only [List.all_cons, List.all_nil, rV_plain, Bool.true_and, Bool.and_true]; rfl)
theorem Q80 : ∀ x, (F80 x).plainT = true := fun ⟨_, _⟩ => rfl
theorem G80 (h99 : fs.get (K.ofNat 99) = some f99) (h108 : fs.get (K.ofNat 108) = some f108) (h121 : fs.get (K.ofNat 121) = some f121) (hfs : Fns Y fs) (hf : f80.nv = none ∧ ∃ fn c, FnOk Y (K.ofNat 80) f80 fn c) : ∀ args v, dataG A80 F80 args = some v → Gives Y (K.ofNat 80) args v := dataG_gives hfs hf P80 Q80 fun ⟨_, p⟩ => by have _ := p; exact f80_ret h99 h108 h121
theorem E80 {ef : EF} (hf : fs.get (K.ofNat 80) = some ef) (hn : ef.nv = some (flatG (dataG A80 F80))) (x : (Int × Int) × (Int × Int)) (p : True) (h : H) (P : V → H → Prop) : CallP fs (.fn (K.ofNat 80) []) (A80 ⟨x, p⟩) h P = P (F80 ⟨x, p⟩) h := callP_data hf hn I80 _ h P
def D60 : Type := {x : List Bool // SymR x}
noncomputable def A60 : D60 → List V := fun ⟨x, _⟩ => [rV x]
noncomputable def F60 : D60 → V := fun ⟨x, _⟩ => orV x
theorem I60 : ∀ x y, A60 x = A60 y → F60 x = F60 y := by
  rintro ⟨x, p⟩ ⟨y, q⟩ h
  have h : [rV x] = [rV y] := h
  injection h with h0 h
  have e0 := rV_inj h0
  have e : x = y := by
    exact e0
  subst e
  rfl
theorem P60 : ∀ x, (A60 x).all V.plain = true := by
  rintro ⟨x, p⟩
  show ([rV x].all V.plain) = true
  first | rfl | (simp only [List.all_cons, List.all_nil, rV_plain, Bool.and_true]; done) | (simp only [List.all_cons, List.all_nil, rV_plain, Bool.true_and, Bool.and_true]; rfl)
theorem Q60 : ∀ x, (F60 x).plainT = true := fun ⟨_, _⟩ => orV_plain
theorem G60 (k : Nat4 fs) (hfs : Fns Y fs) (hf : f60.nv = none ∧ ∃ fn c, FnOk Y (K.ofNat 60) f60 fn c) : ∀ args v, dataG A60 F60 args = some v → Gives Y (K.ofNat 60) args v := dataG_gives hfs hf P60 Q60 fun ⟨_, p⟩ => by have _ := p; exact f60_ret k p HC.empty
theorem E60 {ef : EF} (hf : fs.get (K.ofNat 60) = some ef) (hn : ef.nv = some (flatG (dataG A60 F60))) (x : List Bool) (p : SymR x) (h : H) (P : V → H → Prop) : CallP fs (.fn (K.ofNat 60) []) (A60 ⟨x, p⟩) h P = P (F60 ⟨x, p⟩) h := callP_data hf hn I60 _ h P
end
end Go.Ev
namespace Go.Ev
open Go Go.RowKit
def in7 (x : Nat × Nat) : Prop := x.1 < 7 ∧ x.2 < 7
end Go.Ev
namespace Go.Ev
open Go Go.RowKit
section
variable {fs : T EF} {h h' : H}
end
end Go.Ev
namespace Go.Ev
open Go Go.RowKit
section
variable {fs : T EF} {h h' : H}
def swN (x : Nat × Nat) : Nat × Nat := (x.2, x.1)
end
end Go.Ev
namespace Go.Ev
open Go Go.RowKit
noncomputable def f20_r0 : List EOper := [⟨(some (K.ofNat 4)), none, .box 2 (.t (K.ofNat 1))⟩, ⟨(some (K.ofNat 5)), none, .box 2 (.t (K.ofNat 2))⟩, ⟨(some (K.ofNat 6)), none, .as (.c (.b false))⟩]
noncomputable def f20_r1 : List EOper := [⟨(some (K.ofNat 7)), none, .ldn 2 (.t (K.ofNat 4))⟩, ⟨(some (K.ofNat 8)), none, .ldn 2 (.t (K.ofNat 5))⟩, ⟨(some (K.ofNat 9)), none, .eqk (.many [(some .i64), (some .i64)]) false (.t (K.ofNat 7)) (.t (K.ofNat 8))⟩]
noncomputable def f20_r2 : List EOper := [⟨(some (K.ofNat 6)), none, .as (.c (.b true))⟩]
noncomputable def f20_r3 : List EOper := [⟨(some (K.ofNat 10)), none, .iadr 2 1 (.t (K.ofNat 4)) (.c (.i .i64 (.ofNat 0)))⟩, ⟨(some (K.ofNat 11)), none, .ld (.t (K.ofNat 10))⟩, ⟨(some (K.ofNat 12)), none, .iadr 2 1 (.t (K.ofNat 5)) (.c (.i .i64 (.ofNat 0)))⟩, ⟨(some (K.ofNat 13)), none, .ld (.t (K.ofNat 12))⟩, ⟨(some (K.ofNat 14)), none, .bin .eql (.t (K.ofNat 11)) (.t (K.ofNat 13))⟩]
noncomputable def f20_r4 : List EOper := [⟨(some (K.ofNat 15)), none, .mv (.t (K.ofNat 0))⟩, ⟨(some (K.ofNat 16)), none, .iadr 2 1 (.t (K.ofNat 4)) (.c (.i .i64 (.ofNat 1)))⟩, ⟨(some (K.ofNat 17)), none, .ld (.t (K.ofNat 16))⟩, ⟨(some (K.ofNat 18)), none, .iadr 2 1 (.t (K.ofNat 5)) (.c (.i .i64 (.ofNat 1)))⟩, ⟨(some (K.ofNat 19)), none, .ld (.t (K.ofNat 18))⟩, ⟨(some (K.ofNat 20)), none, .call (.c (.fn (K.ofNat 52) [])) [(.t (K.ofNat 15)), (.t (K.ofNat 17)), (.t (K.ofNat 19))]⟩, ⟨(some (K.ofNat 21)), none, .not (.t (K.ofNat 20))⟩, ⟨(some (K.ofNat 6)), none, .as (.t (K.ofNat 21))⟩]
noncomputable def f20_r5 : List EOper := [⟨(some (K.ofNat 22)), none, .iadr 2 1 (.t (K.ofNat 4)) (.c (.i .i64 (.ofNat 1)))⟩, ⟨(some (K.ofNat 23)), none, .ld (.t (K.ofNat 22))⟩, ⟨(some (K.ofNat 24)), none, .iadr 2 1 (.t (K.ofNat 5)) (.c (.i .i64 (.ofNat 1)))⟩, ⟨(some (K.ofNat 25)), none, .ld (.t (K.ofNat 24))⟩, ⟨(some (K.ofNat 26)), none, .bin .eql (.t (K.ofNat 23)) (.t (K.ofNat 25))⟩, ⟨(some (K.ofNat 27)), none, .mv (.t (K.ofNat 26))⟩, ⟨(some (K.ofNat 28)), (some ((K.ofNat 27), true)), .mv (.t (K.ofNat 0))⟩, ⟨(some (K.ofNat 29)), (some ((K.ofNat 27), true)), .iadr 2 1 (.t (K.ofNat 4)) (.c (.i .i64 (.ofNat 0)))⟩, ⟨(some (K.ofNat 30)), (some ((K.ofNat 27), true)), .ld (.t (K.ofNat 29))⟩, ⟨(some (K.ofNat 31)), (some ((K.ofNat 27), true)), .iadr 2 1 (.t (K.ofNat 5)) (.c (.i .i64 (.ofNat 0)))⟩, ⟨(some (K.ofNat 32)), (some ((K.ofNat 27), true)), .ld (.t (K.ofNat 31))⟩, ⟨(some (K.ofNat 33)), (some ((K.ofNat 27), true)), .call (.c (.fn (K.ofNat 52) [])) [(.t (K.ofNat 28)), (.t (K.ofNat 30)), (.t (K.ofNat 32))]⟩, ⟨(some (K.ofNat 34)), (some ((K.ofNat 27), true)), .not (.t (K.ofNat 33))⟩, ⟨(some (K.ofNat 35)), none, .pick (.t (K.ofNat 27)) (.t (K.ofNat 34)) (.c (.b false))⟩, ⟨(some (K.ofNat 6)), none, .as (.t (K.ofNat 35))⟩]
noncomputable def f20_c : EC := (.seq (.reg f20_r0) (.seq (.seq (.reg f20_r1) (.cond (.t (K.ofNat 9)) (.seq (.reg f20_r2) .ret) .skip)) (.seq (.seq (.reg f20_r3) (.cond (.t (K.ofNat 14)) (.seq (.reg f20_r4) .ret) .skip)) (.seq (.reg f20_r5) .ret))))
noncomputable def f20 : EF := ⟨36, [.tmp (K.ofNat 6)], f20_c, none⟩
theorem f20_rs : f20.rs = [.tmp (K.ofNat 6)] := of_eq_true (eq_self _)
noncomputable def f53_r0 : List EOper := [⟨(some (K.ofNat 4)), none, .as (.c .sn)⟩]
noncomputable def f53_r1 : List EOper := [⟨(some (K.ofNat 5)), none, .as (.c .sn)⟩]
noncomputable def f53_r2 : List EOper := [⟨(some (K.ofNat 6)), none, .as (.c (.i .i64 (.ofNat 0)))⟩]
noncomputable def f53_r3 : List EOper := [⟨(some (K.ofNat 8)), none, .mv (.t (K.ofNat 6))⟩, ⟨(some (K.ofNat 9)), none, .mv (.t (K.ofNat 0))⟩, ⟨(some (K.ofNat 10)), none, .bin .lss (.t (K.ofNat 8)) (.t (K.ofNat 9))⟩]
noncomputable def f53_r4 : List EOper := [⟨(some (K.ofNat 7)), none, .as (.c (.i .i64 (.ofNat 0)))⟩]
noncomputable def f53_r5 : List EOper := [⟨(some (K.ofNat 13)), none, .mv (.t (K.ofNat 7))⟩, ⟨(some (K.ofNat 14)), none, .mv (.t (K.ofNat 0))⟩, ⟨(some (K.ofNat 15)), none, .bin .lss (.t (K.ofNat 13)) (.t (K.ofNat 14))⟩]
noncomputable def f53_r6 : List EOper := [⟨(some (K.ofNat 18)), none, .mv (.t (K.ofNat 6))⟩, ⟨(some (K.ofNat 19)), none, .mv (.t (K.ofNat 7))⟩, ⟨(some (K.ofNat 20)), none, .bin .neq (.t (K.ofNat 18)) (.t (K.ofNat 19))⟩, ⟨(some (K.ofNat 21)), none, .mv (.t (K.ofNat 20))⟩, ⟨(some (K.ofNat 22)), (some ((K.ofNat 21), true)), .mv (.t (K.ofNat 1))⟩, ⟨(some (K.ofNat 23)), (some ((K.ofNat 21), true)), .mv (.t (K.ofNat 6))⟩, ⟨(some (K.ofNat 24)), (some ((K.ofNat 21), true)), .mv (.t (K.ofNat 7))⟩, ⟨(some (K.ofNat 25)), (some ((K.ofNat 21), true)), .call (.c (.fn (K.ofNat 52) [])) [(.t (K.ofNat 22)), (.t (K.ofNat 23)), (.t (K.ofNat 24))]⟩, ⟨(some (K.ofNat 26)), none, .pick (.t (K.ofNat 21)) (.t (K.ofNat 25)) (.c (.b false))⟩]
noncomputable def f53_r7 : List EOper := [⟨(some (K.ofNat 27)), none, .mv (.t (K.ofNat 5))⟩, ⟨(some (K.ofNat 28)), none, .mv (.t (K.ofNat 6))⟩, ⟨(some (K.ofNat 29)), none, .mv (.t (K.ofNat 7))⟩, ⟨(some (K.ofNat 30)), none, .build [(.i .i64 (.ofNat 0)), (.i .i64 (.ofNat 0))] [(0, 1, (.t (K.ofNat 28))), (1, 1, (.t (K.ofNat 29)))]⟩, ⟨(some (K.ofNat 31)), none, .bslice 1 2 [(.i .i64 (.ofNat 0)), (.i .i64 (.ofNat 0))] [(0, 2, (.t (K.ofNat 30)))]⟩, ⟨(some (K.ofNat 32)), none, .app 2 (.t (K.ofNat 27)) (.t (K.ofNat 31))⟩, ⟨(some (K.ofNat 5)), none, .as (.t (K.ofNat 32))⟩]
noncomputable def f53_r8 : List EOper := [⟨(some (K.ofNat 16)), none, .mv (.t (K.ofNat 7))⟩, ⟨(some (K.ofNat 17)), none, .bin .add (.t (K.ofNat 16)) (.c (.i .i64 (.ofNat 1)))⟩, ⟨(some (K.ofNat 7)), none, .as (.t (K.ofNat 17))⟩]
noncomputable def f53_l0 : EC := (.seq (.seq (.reg f53_r5) (.cond (.t (K.ofNat 15)) .skip (.exit 2))) (.seq (.block 3 (.seq (.reg f53_r6) (.cond (.t (K.ofNat 26)) (.reg f53_r7) .skip))) (.reg f53_r8)))
noncomputable def f53_r9 : List EOper := [⟨(some (K.ofNat 11)), none, .mv (.t (K.ofNat 6))⟩, ⟨(some (K.ofNat 12)), none, .bin .add (.t (K.ofNat 11)) (.c (.i .i64 (.ofNat 1)))⟩, ⟨(some (K.ofNat 6)), none, .as (.t (K.ofNat 12))⟩]
noncomputable def f53_l1 : EC := (.seq (.seq (.reg f53_r3) (.cond (.t (K.ofNat 10)) .skip (.exit 0))) (.seq (.block 1 (.seq (.reg f53_r4) (.block 2 (.loop f53_l0)))) (.reg f53_r9)))
noncomputable def f53_r10 : List EOper := [⟨(some (K.ofNat 33)), none, .mv (.t (K.ofNat 5))⟩, ⟨(some (K.ofNat 4)), none, .as (.t (K.ofNat 33))⟩]
noncomputable def f53_c : EC := (.seq (.reg f53_r0) (.seq (.reg f53_r1) (.seq (.seq (.reg f53_r2) (.block 0 (.loop f53_l1))) (.seq (.reg f53_r10) .ret))))
noncomputable def f53 : EF := ⟨34, [.tmp (K.ofNat 4)], f53_c, none⟩
theorem f53_rs : f53.rs = [.tmp (K.ofNat 4)] := of_eq_true (eq_self _)
section
variable {fs : T EF} {h h' : H}
theorem jn_sy {n : Nat} {g : Nat → Nat → Bool} (hg : Gph n g) {a b : Nat} : decide ((min (a : Int) (b : Int), max (a : Int) (b : Int)) ∈ arI g) = rat (gR (arI g)) a b := by
  rw [Bool.eq_iff_iff, decide_eq_true_eq, gR_arI hg]
  unfold sy
  rw [Bool.or_eq_true]
  have h7 := hg.n7
  by_cases h : a ≤ b
  · rw [show min (a : Int) (b : Int) = (a : Int) by omega, show max (a : Int) (b : Int) = (b : Int) by omega, mem_arI']
    exact ⟨fun h => .inl h.2.2, fun h1 => h1.elim (fun h1 => by have := hg.up _ _ h1; exact ⟨by omega, by omega, h1⟩) (fun h1 => by have := hg.up _ _ h1; omega)⟩
  · rw [show min (a : Int) (b : Int) = (b : Int) by omega, show max (a : Int) (b : Int) = (a : Int) by omega, mem_arI']
    exact ⟨fun h => .inr h.2.2, fun h1 => h1.elim (fun h1 => by have := hg.up _ _ h1; omega) (fun h1 => by have := hg.up _ _ h1; exact ⟨by omega, by omega, h1⟩)⟩
theorem inI_mm {a b : Nat} (ha : a < 7) (hb : b < 7) : inI (min (a : Int) (b : Int), max (a : Int) (b : Int)) := by
  by_cases h : a ≤ b
  · rw [show min (a : Int) (b : Int) = (a : Int) by omega, show max (a : Int) (b : Int) = (b : Int) by omega]; exact inI_nat ha hb
  · rw [show min (a : Int) (b : Int) = (b : Int) by omega, show max (a : Int) (b : Int) = (a : Int) by omega]; exact inI_nat hb ha
/-- R.Forces. -/
def frcB (G : List Bool) (x y : Nat × Nat) : Bool := decide (x = y) || (if x.1 = y.1 then !rat G x.2 y.2 else (decide (x.2 = y.2) && !rat G x.1 y.1))
structure CallsJn (fs : T EF) : Prop where
  c40 : fs.get (K.ofNat 40) = some f40
  c52 : fs.get (K.ofNat 52) = some f52
theorem f20_ret {n : Nat} {v : V} {g : Nat → Nat → Bool} {x y : Nat × Nat} (k : CallsJn fs) (hg : Gph n g) (hv : Srp h v (arI g)) (hx : in7 x) (hy : in7 y) (hc : HC h) : Ret fs f20 [v, aV x, aV y] h fun r h' => r = .b (frcB (gR (arI g)) x y) ∧ Grow h.nx.nat h h' := by
  have hlb := arI_len (g := g)
  apply ret_of rfl
  show W fs none f20_c _ _ _
  unfold f20_c
  have cx : cellsN 2 (aV x) = some [.i .i64 (x.1 : Int), .i .i64 (x.2 : Int)] := rfl
  have cy : cellsN 2 (aV y) = some [.i .i64 (y.1 : Int), .i .i64 (y.2 : Int)] := rfl
  have n1 := nx_new h (.cells 2 [.i .i64 (x.1 : Int), .i .i64 (x.2 : Int)])
  have g1 : Grow h.nx.nat h (h.new (.cells 2 [.i .i64 (x.1 : Int), .i .i64 (x.2 : Int)])) := Grow.new (Nat.le_refl _) _
  have e1 : (h.new (.cells 2 [.i .i64 (x.1 : Int), .i .i64 (x.2 : Int)])).get h.nx = .cells 2 [.i .i64 (x.1 : Int), .i .i64 (x.2 : Int)] := get_new_same
  simp (disch := omega) only [f20_r0, w_reg, w_seq, seqK_n, x_nil, x_as, x_box, kx, rvP_ok, ev_t, ev_c, getV_some, putD_some, oGet_s, frame_3, getK_set, Nat.reduceEqDiff, ↓reduceIte, cx, cy]
  generalize h.new (.cells 2 [.i .i64 (x.1 : Int), .i .i64 (x.2 : Int)]) = h1 at *
  have n2 := nx_new h1 (.cells 2 [.i .i64 (y.1 : Int), .i .i64 (y.2 : Int)])
  have g2 : Grow h1.nx.nat h1 (h1.new (.cells 2 [.i .i64 (y.1 : Int), .i .i64 (y.2 : Int)])) := Grow.new (Nat.le_refl _) _
  have e2 : (h1.new (.cells 2 [.i .i64 (y.1 : Int), .i .i64 (y.2 : Int)])).get h1.nx = .cells 2 [.i .i64 (y.1 : Int), .i .i64 (y.2 : Int)] := get_new_same
  generalize h1.new (.cells 2 [.i .i64 (y.1 : Int), .i .i64 (y.2 : Int)]) = h2 at *
  have a1 := (g2.old h.nx (by omega)).trans e1
  have l1 := ldn2 a1
  have l2 := ldn2 e2
  have l10 := ld20 a1
  have l11 := ld21 a1
  have l20 := ld20 e2
  have l21 := ld21 e2
  have hax : V.agg [.i .i64 (x.1 : Int), .i .i64 (x.2 : Int)] = aV x := rfl
  have hay : V.agg [.i .i64 (y.1 : Int), .i .i64 (y.2 : Int)] = aV y := rfl
  have hq := keyEq_aV hx hy
  have gA : Grow h.nx.nat h h2 := g1.trans (g2.low (by omega))
  have hc2 := gA.hc hc
  have hv2 := hv.grow hc gA
  by_cases e : x = y
  · rw [decide_eq_true e] at hq
    simp (disch := omega) only [f20_r1, f20_r2, f20_rs, w_skip, w_reg, w_seq, w_cond, w_ret, seqK_n, seqK_r, ckB_b, cbB_b, true_and, retK_r, x_nil, x_as, x_ldn, x_eqk, kx, rvP_ok, okv_some, ev_t, ev_c, getV_some, putD_some, oGet_s, readRs_nil, readRs_t, retV_1, Option.some.injEq, exists_eq_left', getK_set, Nat.reduceEqDiff, ↓reduceIte, Bool.not_true, l1, l2, hax, hay, hq]
    exact ⟨by unfold frcB; rw [decide_eq_true e]; rfl, gA⟩
  · rw [decide_eq_false e] at hq
    by_cases e0 : x.1 = y.1
    · have d0 : decide ((x.1 : Int) = (y.1 : Int)) = true := decide_eq_true (by omega)
      simp (disch := omega) only [f20_r1, f20_r3, f20_r4, w_skip, w_reg, w_seq, w_cond, seqK_n, ckB_b, cbB_b, true_and, x_nil, x_mv, x_ld, x_ldn, x_bin, x_eqk, x_iadr, x_call, kx, rvP_ok, okv_some, ev_t, ev_c, evs_nil, evs_cons, getV_some, putD_some, bin_eql, onP_p, oGet_s, of0, of1, getK_set, Nat.reduceEqDiff, ↓reduceIte, Bool.false_eq_true, ix2_0, ix2_1, l1, l2, hax, hay, hq, cond_false, l10, l20, l11, l21, d0]
      refine (callP_0 (ef := f52) k.c52 rfl (f52_ret k.c40 hv2 inI_arI (inI_mm hx.2 hy.2) (by omega) hc2)).mono ?_
      rintro r h3 ⟨rfl, g3⟩
      rw [jn_sy hg]
      simp (disch := omega) only [f20_rs, w_ret, seqK_n, seqK_r, retK_r, x_nil, x_as, x_not, kx, rvP_ok, ev_t, getV_some, putD_some, onB_b, oGet_s, readRs_nil, readRs_t, retV_1, Option.some.injEq, exists_eq_left', getK_set, ↓reduceIte]
      exact ⟨by unfold frcB; rw [decide_eq_false e, if_pos e0]; rfl, gA.trans (g3.low gA.nx)⟩
    · have d0 : decide ((x.1 : Int) = (y.1 : Int)) = false := decide_eq_false (by omega)
      by_cases e1_ : x.2 = y.2
      · have d1 : decide ((x.2 : Int) = (y.2 : Int)) = true := decide_eq_true (by omega)
        simp (disch := omega) only [f20_r1, f20_r3, f20_r5, w_skip, w_reg, w_seq, w_cond, seqK_n, ckB_b, cbB_b, okG_b, asG_t, true_and, x_nil, x_g, x_mv, x_ld, x_ldn, x_bin, x_eqk, x_iadr, x_call, kx, rvP_ok, okv_some, ev_t, ev_c, evs_nil, evs_cons, getV_some, putD_some, bin_eql, onP_p, oGet_s, of0, of1, getK_set, Nat.reduceEqDiff, ↓reduceIte, Bool.false_eq_true, ix2_0, ix2_1, l1, l2, hax, hay, hq, cond_false, l10, l20, l11, l21, d0, d1]
        refine (callP_0 (ef := f52) k.c52 rfl (f52_ret k.c40 hv2 inI_arI (inI_mm hx.1 hy.1) (by omega) hc2)).mono ?_
        rintro r h3 ⟨rfl, g3⟩
        rw [jn_sy hg]
        simp (disch := omega) only [f20_rs, w_ret, seqK_n, okG_b, asG_t, true_and, retK_r, x_nil, x_g, x_as, x_pick, x_not, kx, rvP_ok, ev_t, ev_c, getV_some, putD_some, pick_b, onB_b, oGet_s, readRs_nil, readRs_t, retV_1, Option.some.injEq, exists_eq_left', getK_set, Nat.reduceEqDiff, ↓reduceIte]
        exact ⟨by unfold frcB; rw [decide_eq_false e, if_neg e0, decide_eq_true e1_]; rfl, gA.trans (g3.low gA.nx)⟩
      · have d1 : decide ((x.2 : Int) = (y.2 : Int)) = false := decide_eq_false (by omega)
        simp (disch := omega) only [f20_r1, f20_r3, f20_r5, f20_rs, w_skip, w_reg, w_seq, w_cond, w_ret, seqK_n, ckB_b, cbB_b, okG_b, asG_t, true_and, retK_r, x_nil, x_g, x_mv, x_as, x_pick, x_ld, x_ldn, x_bin, x_eqk, x_iadr, kx, rvP_ok, okv_some, ev_t, ev_c, getV_some, putD_some, bin_eql, pick_b, onP_p, oGet_s, readRs_nil, readRs_t, retV_1, of0, of1, Option.some.injEq, exists_eq_left', getK_set, Nat.reduceEqDiff, ↓reduceIte, Bool.false_eq_true, ix2_0, ix2_1, l1, l2, hax, hay, hq, cond_false, l10, l20, l11, l21, d0, d1]
        exact ⟨by unfold frcB; rw [decide_eq_false e, if_neg e0, decide_eq_false e1_]; rfl, gA⟩
def f53_A (h0 : H) (n : Nat) (v : V) (G : Nat → Nat → Bool) (a : Nat) (fr : Fr) (h1 : H) : Prop := a ≤ n ∧ ∃ u, Sk 2 qE h1 u (arP G (7 * a)) ∧ Own h0.nx.nat u ∧ Grow h0.nx.nat h0 h1 ∧ fr.get (K.ofNat 0) = some (.i .i64 (n : Int)) ∧ fr.get (K.ofNat 1) = some (v) ∧ fr.get (K.ofNat 5) = some (u) ∧ fr.get (K.ofNat 6) = some (.i .i64 (a : Int))
def f53_B (h0 : H) (n : Nat) (v : V) (G : Nat → Nat → Bool) (a : Nat) (b : Nat) (fr : Fr) (h1 : H) : Prop := b ≤ n ∧ ∃ u, Sk 2 qE h1 u (arP G (7 * a + b)) ∧ Own h0.nx.nat u ∧ Grow h0.nx.nat h0 h1 ∧ fr.get (K.ofNat 0) = some (.i .i64 (n : Int)) ∧ fr.get (K.ofNat 1) = some (v) ∧ fr.get (K.ofNat 5) = some (u) ∧ fr.get (K.ofNat 6) = some (.i .i64 (a : Int)) ∧ fr.get (K.ofNat 7) = some (.i .i64 (b : Int))
theorem f53_ret {n : Nat} {v : V} {g : Nat → Nat → Bool} (k : CallsJn fs) (hg : Gph n g) (hv : Srp h v (arI g)) (hc : HC h) : Ret fs f53 [.i .i64 (n : Int), v] h fun r h' => Sk 2 qE h' r (arI (rat (gR (arI g)))) ∧ Own h.nx.nat r ∧ Grow h.nx.nat h h' := by
  have hlb := arI_len (g := g)
  have hn7 := hg.n7
  apply ret_of rfl
  show W fs none f53_c _ _ _
  unfold f53_c
  simp (disch := omega) only [f53_r0, f53_r1, f53_r2, w_reg, w_seq, w_block, seqK_n, x_nil, x_as, ev_c, putD_some, frame_2, of0]
  refine W_loop (f53_A h n v (rat (gR (arI g)))) (fun a => n - a) ?_ 0 ⟨by omega, .sn, Sk.nil, Own.sn, Grow.refl _ _, by simp (disch := omega) only [getK_set, Nat.reduceEqDiff, ↓reduceIte, and_self, Int.natCast_zero]⟩
  rintro a fr h1 ⟨ha, u, hs, ho, hG, g0, g1, g5, g6⟩
  unfold f53_l1
  by_cases hlt : a < n
  · have d0 : decide ((a : Int) < (n : Int)) = true := decide_eq_true (by omega)
    simp (disch := omega) only [f53_r3, f53_r4, w_skip, w_reg, w_seq, w_cond, w_block, seqK_n, ckB_b, cbB_b, true_and, x_nil, x_mv, x_as, x_bin, kx, rvP_ok, okv_some, ev_t, ev_c, getV_some, putD_some, bin_lss, of0, getK_set, Nat.reduceEqDiff, ↓reduceIte, g0, g6, d0]
    refine W_loop (f53_B h n v (rat (gR (arI g))) a) (fun b => n - b) ?_ 0 ⟨by omega, u, hs, ho, hG, by simp (disch := omega) only [getK_set, Nat.reduceEqDiff, ↓reduceIte, g0, g1, g5, g6, and_self, Int.natCast_zero]⟩
    clear hs ho hG g0 g1 g5 g6 fr
    rintro b fr h2 ⟨hb, u, hs, ho, hG, g0, g1, g5, g6, g7⟩
    have hc2 := hG.hc hc
    have hv2 := hv.grow hc hG
    unfold f53_l0
    by_cases hlt2 : b < n
    · have d1 : decide ((b : Int) < (n : Int)) = true := decide_eq_true (by omega)
      have hsu := arP_succ (g := rat (gR (arI g))) (a := a) (b := b) (by omega)
      by_cases e : a = b
      · have d2 : decide ((a : Int) ≠ (b : Int)) = false := decide_eq_false (by omega)
        have hno : ¬ rat (gR (arI g)) a b = true := fun h => (Er_lt hg h).2.2 e
        rw [if_neg hno, List.append_nil] at hsu
        simp (disch := omega) only [f53_r5, f53_r6, f53_r8, w_skip, w_reg, w_seq, w_cond, w_block, seqK_n, atK_n, loopK_n, ckB_b, cbB_b, okG_b, asG_t, true_and, x_nil, x_g, x_mv, x_as, x_pick, x_bin, kx, rvP_ok, okv_some, ev_t, ev_c, getV_some, putD_some, bin_add, bin_neq, bin_lss, pick_b, of1, getK_set, Nat.reduceEqDiff, ↓reduceIte, Bool.false_eq_true, g0, g6, g7, d1, d2, fw64]
        exact ⟨b + 1, by omega, by omega, u, by rw [hsu]; exact hs, ho, hG, by simp (disch := omega) only [getK_set, Nat.reduceEqDiff, ↓reduceIte, g0, g1, g5, g6, and_self, Int.natCast_add, Int.natCast_one]⟩
      · have d2 : decide ((a : Int) ≠ (b : Int)) = true := decide_eq_true (by omega)
        simp (disch := omega) only [f53_r5, f53_r6, w_skip, w_reg, w_seq, w_cond, w_block, seqK_n, ckB_b, cbB_b, okG_b, asG_t, true_and, x_nil, x_g, x_mv, x_bin, x_call, kx, rvP_ok, okv_some, ev_t, ev_c, evs_nil, evs_cons, getV_some, putD_some, bin_neq, bin_lss, getK_set, Nat.reduceEqDiff, ↓reduceIte, g0, g1, g6, g7, d1, d2]
        refine (callP_0 (ef := f52) k.c52 rfl (f52_ret k.c40 hv2 inI_arI (inI_mm (by omega) (by omega)) (by omega) hc2)).mono ?_
        rintro r h3 ⟨rfl, g3⟩
        rw [jn_sy hg]
        have hc3 := g3.hc hc2
        have hs3 := hs.grow hc2 g3
        have gB := hG.trans (g3.low hG.nx)
        cases hr : rat (gR (arI g)) a b with
        | false =>
          rw [if_neg (by rw [hr]; simp), List.append_nil] at hsu
          simp (disch := omega) only [f53_r8, w_skip, w_reg, w_cond, seqK_n, atK_n, loopK_n, ckB_b, cbB_b, true_and, x_nil, x_mv, x_as, x_pick, x_bin, kx, rvP_ok, okv_some, ev_t, ev_c, getV_some, putD_some, bin_add, pick_b, of1, getK_set, Nat.reduceEqDiff, ↓reduceIte, Bool.false_eq_true, g7, fw64]
          exact ⟨b + 1, by omega, by omega, u, by rw [hsu]; exact hs3, ho, gB, by simp (disch := omega) only [getK_set, Nat.reduceEqDiff, ↓reduceIte, g0, g1, g5, g6, and_self, Int.natCast_add, Int.natCast_one]⟩
        | true =>
          rw [if_pos hr] at hsu
          have hl := arP_len (g := rat (gR (arI g))) (i := 7 * a + b)
          obtain ⟨u', h4, a1, s1, o1, gr1, _⟩ := Sk.push qE_len (by omega) (x := ((a : Int), (b : Int))) hs3 ho gB.nx hc3 (by omega)
          have a1' : appV 2 (h3.new (.cells (1 * 2) [.i .i64 (a : Int), .i .i64 (b : Int)])) u (.sl h3.nx 0 1 2) = .ok u' h4 := a1
          have cp : cellsN 2 (.agg [.i .i64 (a : Int), .i .i64 (b : Int)]) = some [.i .i64 (a : Int), .i .i64 (b : Int)] := rfl
          have sp : setMany [V.i .i64 0, V.i .i64 0] 0 [V.i .i64 (a : Int), V.i .i64 (b : Int)] = [V.i .i64 (a : Int), V.i .i64 (b : Int)] := rfl
          simp (disch := omega) only [f53_r7, f53_r8, w_reg, w_cond, seqK_n, atK_n, loopK_n, ckB_b, cbB_b, true_and, x_nil, x_mv, x_as, x_pick, x_build, x_bslice, x_bin, x_app, kx, rvP_ok, okv_some, ev_t, ev_c, getV_some, putD_some, bin_add, pick_b, oGet_s, cells1_i, of0, of1, getK_set, Nat.reduceEqDiff, ↓reduceIte, set_2, fill_0, g5, g6, g7, set_2, fill_c, cp, sp, a1', fw64]
          exact ⟨b + 1, by omega, by omega, u', by rw [hsu]; exact s1, o1, gB.trans gr1, by simp (disch := omega) only [getK_set, Nat.reduceEqDiff, ↓reduceIte, g0, g1, g6, and_self, Int.natCast_add, Int.natCast_one]⟩
    · have d1 : decide ((b : Int) < (n : Int)) = false := decide_eq_false (by omega)
      have eb : b = n := by omega
      have e1 : arP (rat (gR (arI g))) (7 * (a + 1)) = arP (rat (gR (arI g))) (7 * a + b) := arP_row (by omega) (fun d hd _ => by
        cases e : rat (gR (arI g)) a d with
        | false => rfl
        | true => have := (Er_lt hg e).2.1; omega)
      simp (disch := omega) only [f53_r5, f53_r9, w_reg, w_seq, w_cond, w_exit, seqK_n, seqK_e, atK_n, atK_e, loopK_n, loopK_e, ckB_b, cbB_b, true_and, x_nil, x_mv, x_as, x_bin, kx, rvP_ok, okv_some, ev_t, ev_c, getV_some, putD_some, bin_add, bin_lss, of1, getK_set, Nat.reduceEqDiff, ↓reduceIte, Bool.false_eq_true, g0, g6, g7, d1, fw64]
      exact ⟨a + 1, by omega, by omega, u, by rw [e1]; exact hs, ho, hG, by simp (disch := omega) only [getK_set, Nat.reduceEqDiff, ↓reduceIte, g0, g1, g5, and_self, Int.natCast_add, Int.natCast_one]⟩
  · have d0 : decide ((a : Int) < (n : Int)) = false := decide_eq_false (by omega)
    have ea : a = n := by omega
    have e1 : arP (rat (gR (arI g))) (7 * a) = arI (rat (gR (arI g))) := arP_end (by omega) (fun x d hx _ hd => by
      cases e : rat (gR (arI g)) x d with
      | false => rfl
      | true => have := (Er_lt hg e).1; omega)
    rw [e1] at hs
    simp (disch := omega) only [f53_r3, f53_r10, f53_rs, w_reg, w_seq, w_cond, w_exit, w_ret, seqK_n, seqK_e, atK_e, loopK_e, ckB_b, cbB_b, true_and, retK_r, x_nil, x_mv, x_as, x_bin, kx, rvP_ok, okv_some, ev_t, getV_some, putD_some, bin_lss, oGet_s, readRs_nil, readRs_t, retV_1, Option.some.injEq, exists_eq_left', getK_set, Nat.reduceEqDiff, ↓reduceIte, Bool.false_eq_true, g0, g5, g6, d0]
    exact ⟨hs, ho, hG⟩
end
end Go.Ev
namespace Go.Ev
open Go Go.RowKit
noncomputable def f21_r0 : List EOper := [⟨(some (K.ofNat 5)), none, .box 2 (.t (K.ofNat 2))⟩, ⟨(some (K.ofNat 6)), none, .as (.c .sn)⟩, ⟨(some (K.ofNat 7)), none, .as (.c .sn)⟩]
noncomputable def f21_r1 : List EOper := [⟨(some (K.ofNat 20)), none, .mv (.t (K.ofNat 0))⟩, ⟨(some (K.ofNat 21)), none, .mv (.t (K.ofNat 1))⟩, ⟨(some (K.ofNat 22)), none, .call (.c (.fn (K.ofNat 53) [])) [(.t (K.ofNat 20)), (.t (K.ofNat 21))]⟩, ⟨(some (K.ofNat 8)), none, .as (.t (K.ofNat 22))⟩]
noncomputable def f21_r2 : List EOper := [⟨(some (K.ofNat 23)), none, .mkmap 23⟩, ⟨(some (K.ofNat 24)), none, .ldn 2 (.t (K.ofNat 5))⟩, ⟨none, none, .mupd 23 (.many [(some .i64), (some .i64)]) (.t (K.ofNat 23)) (.t (K.ofNat 24)) (.c (.i .i64 (.ofNat 0)))⟩, ⟨(some (K.ofNat 25)), none, .mv (.t (K.ofNat 23))⟩, ⟨(some (K.ofNat 9)), none, .as (.t (K.ofNat 25))⟩]
noncomputable def f21_r3 : List EOper := [⟨(some (K.ofNat 26)), none, .ldn 2 (.t (K.ofNat 5))⟩, ⟨(some (K.ofNat 27)), none, .bslice 1 2 [(.i .i64 (.ofNat 0)), (.i .i64 (.ofNat 0))] [(0, 2, (.t (K.ofNat 26)))]⟩, ⟨(some (K.ofNat 10)), none, .as (.t (K.ofNat 27))⟩]
noncomputable def f21_r4 : List EOper := [⟨(some (K.ofNat 11)), none, .as (.c (.i .i64 (.ofNat 0)))⟩]
noncomputable def f21_r5 : List EOper := [⟨(some (K.ofNat 28)), none, .mv (.t (K.ofNat 11))⟩, ⟨(some (K.ofNat 29)), none, .mv (.t (K.ofNat 10))⟩, ⟨(some (K.ofNat 30)), none, .len (.t (K.ofNat 29))⟩, ⟨(some (K.ofNat 31)), none, .bin .lss (.t (K.ofNat 28)) (.t (K.ofNat 30))⟩]
noncomputable def f21_r6 : List EOper := [⟨(some (K.ofNat 12)), none, .as (.c (.i .i64 (.ofNat 0)))⟩]
noncomputable def f21_r7 : List EOper := [⟨(some (K.ofNat 34)), none, .mv (.t (K.ofNat 12))⟩, ⟨(some (K.ofNat 35)), none, .mv (.t (K.ofNat 8))⟩, ⟨(some (K.ofNat 36)), none, .len (.t (K.ofNat 35))⟩, ⟨(some (K.ofNat 37)), none, .bin .lss (.t (K.ofNat 34)) (.t (K.ofNat 36))⟩]
noncomputable def f21_r8 : List EOper := [⟨(some (K.ofNat 41)), none, .mv (.t (K.ofNat 9))⟩, ⟨(some (K.ofNat 42)), none, .mv (.t (K.ofNat 8))⟩, ⟨(some (K.ofNat 43)), none, .mv (.t (K.ofNat 12))⟩, ⟨(some (K.ofNat 44)), none, .iads 2 (.t (K.ofNat 42)) (.t (K.ofNat 43))⟩, ⟨(some (K.ofNat 45)), none, .ldn 2 (.t (K.ofNat 44))⟩, ⟨(some (K.ofNat 46)), none, .look 23 (.many [(some .i64), (some .i64)]) (.i .i64 (.ofNat 0)) (.t (K.ofNat 41)) (.t (K.ofNat 45)) true⟩, ⟨(some (K.ofNat 40)), none, .mv (.t (K.ofNat 46))⟩, ⟨(some (K.ofNat 47)), none, .ext (.t (K.ofNat 40)) 0⟩, ⟨(some (K.ofNat 48)), none, .ext (.t (K.ofNat 40)) 1⟩, ⟨(some (K.ofNat 13)), none, .as (.t (K.ofNat 47))⟩, ⟨(some (K.ofNat 14)), none, .as (.t (K.ofNat 48))⟩]
noncomputable def f21_r9 : List Stage := [⟨[⟨(some (K.ofNat 49)), none, .mv (.t (K.ofNat 14))⟩, ⟨(some (K.ofNat 50)), none, .not (.t (K.ofNat 49))⟩, ⟨(some (K.ofNat 51)), none, .mv (.t (K.ofNat 50))⟩, ⟨(some (K.ofNat 52)), (some ((K.ofNat 51), true)), .mv (.t (K.ofNat 1))⟩, ⟨(some (K.ofNat 53)), (some ((K.ofNat 51), true)), .mv (.t (K.ofNat 10))⟩, ⟨(some (K.ofNat 54)), (some ((K.ofNat 51), true)), .mv (.t (K.ofNat 11))⟩, ⟨(some (K.ofNat 55)), (some ((K.ofNat 51), true)), .iads 2 (.t (K.ofNat 53)) (.t (K.ofNat 54))⟩, ⟨(some (K.ofNat 56)), (some ((K.ofNat 51), true)), .ldn 2 (.t (K.ofNat 55))⟩, ⟨(some (K.ofNat 57)), (some ((K.ofNat 51), true)), .mv (.t (K.ofNat 8))⟩, ⟨(some (K.ofNat 58)), (some ((K.ofNat 51), true)), .mv (.t (K.ofNat 12))⟩, ⟨(some (K.ofNat 59)), (some ((K.ofNat 51), true)), .iads 2 (.t (K.ofNat 57)) (.t (K.ofNat 58))⟩, ⟨(some (K.ofNat 60)), (some ((K.ofNat 51), true)), .ldn 2 (.t (K.ofNat 59))⟩], [], (some ⟨(some (K.ofNat 61)), (some ((K.ofNat 51), true)), .call (.c (.fn (K.ofNat 20) [])) [(.t (K.ofNat 52)), (.t (K.ofNat 56)), (.t (K.ofNat 60))]⟩), []⟩, ⟨[⟨(some (K.ofNat 62)), none, .pick (.t (K.ofNat 51)) (.t (K.ofNat 61)) (.c (.b false))⟩], [], none, []⟩]
noncomputable def f21_r10 : List Stage := [⟨[⟨(some (K.ofNat 63)), none, .mv (.t (K.ofNat 9))⟩, ⟨(some (K.ofNat 64)), none, .mv (.t (K.ofNat 8))⟩, ⟨(some (K.ofNat 65)), none, .mv (.t (K.ofNat 12))⟩, ⟨(some (K.ofNat 66)), none, .iads 2 (.t (K.ofNat 64)) (.t (K.ofNat 65))⟩, ⟨(some (K.ofNat 67)), none, .ldn 2 (.t (K.ofNat 66))⟩, ⟨(some (K.ofNat 68)), none, .mv (.t (K.ofNat 9))⟩, ⟨(some (K.ofNat 69)), none, .mv (.t (K.ofNat 10))⟩, ⟨(some (K.ofNat 70)), none, .mv (.t (K.ofNat 11))⟩, ⟨(some (K.ofNat 71)), none, .iads 2 (.t (K.ofNat 69)) (.t (K.ofNat 70))⟩, ⟨(some (K.ofNat 72)), none, .ldn 2 (.t (K.ofNat 71))⟩, ⟨(some (K.ofNat 73)), none, .look 23 (.many [(some .i64), (some .i64)]) (.i .i64 (.ofNat 0)) (.t (K.ofNat 68)) (.t (K.ofNat 72)) false⟩, ⟨(some (K.ofNat 74)), none, .bin .add (.t (K.ofNat 73)) (.c (.i .i64 (.ofNat 1)))⟩], [], (some ⟨none, none, .mupd 23 (.many [(some .i64), (some .i64)]) (.t (K.ofNat 63)) (.t (K.ofNat 67)) (.t (K.ofNat 74))⟩), []⟩, ⟨[], [], none, []⟩]
noncomputable def f21_r11 : List EOper := [⟨(some (K.ofNat 75)), none, .mv (.t (K.ofNat 10))⟩, ⟨(some (K.ofNat 76)), none, .mv (.t (K.ofNat 8))⟩, ⟨(some (K.ofNat 77)), none, .mv (.t (K.ofNat 12))⟩, ⟨(some (K.ofNat 78)), none, .iads 2 (.t (K.ofNat 76)) (.t (K.ofNat 77))⟩, ⟨(some (K.ofNat 79)), none, .ldn 2 (.t (K.ofNat 78))⟩, ⟨(some (K.ofNat 80)), none, .bslice 1 2 [(.i .i64 (.ofNat 0)), (.i .i64 (.ofNat 0))] [(0, 2, (.t (K.ofNat 79)))]⟩, ⟨(some (K.ofNat 81)), none, .app 2 (.t (K.ofNat 75)) (.t (K.ofNat 80))⟩, ⟨(some (K.ofNat 10)), none, .as (.t (K.ofNat 81))⟩]
noncomputable def f21_r12 : List EOper := [⟨(some (K.ofNat 38)), none, .mv (.t (K.ofNat 12))⟩, ⟨(some (K.ofNat 39)), none, .bin .add (.t (K.ofNat 38)) (.c (.i .i64 (.ofNat 1)))⟩, ⟨(some (K.ofNat 12)), none, .as (.t (K.ofNat 39))⟩]
noncomputable def f21_l0 : EC := (.seq (.seq (.reg f21_r7) (.cond (.t (K.ofNat 37)) .skip (.exit 2))) (.seq (.block 3 (.seq (.reg f21_r8) (.seq (.draw f21_r9) (.cond (.t (K.ofNat 62)) (.seq (.draw f21_r10) (.reg f21_r11)) .skip)))) (.reg f21_r12)))
noncomputable def f21_r13 : List EOper := [⟨(some (K.ofNat 32)), none, .mv (.t (K.ofNat 11))⟩, ⟨(some (K.ofNat 33)), none, .bin .add (.t (K.ofNat 32)) (.c (.i .i64 (.ofNat 1)))⟩, ⟨(some (K.ofNat 11)), none, .as (.t (K.ofNat 33))⟩]
noncomputable def f21_l1 : EC := (.seq (.seq (.reg f21_r5) (.cond (.t (K.ofNat 31)) .skip (.exit 0))) (.seq (.block 1 (.seq (.reg f21_r6) (.block 2 (.loop f21_l0)))) (.reg f21_r13)))
noncomputable def f21_r14 : List EOper := [⟨(some (K.ofNat 15)), none, .as (.c .sn)⟩]
noncomputable def f21_r15 : List EOper := [⟨(some (K.ofNat 16)), none, .as (.c .sn)⟩]
noncomputable def f21_r16 : List EOper := [⟨(some (K.ofNat 17)), none, .as (.c (.i .i64 (.ofNat 0)))⟩]
noncomputable def f21_r17 : List EOper := [⟨(some (K.ofNat 82)), none, .mv (.t (K.ofNat 17))⟩, ⟨(some (K.ofNat 83)), none, .mv (.t (K.ofNat 8))⟩, ⟨(some (K.ofNat 84)), none, .len (.t (K.ofNat 83))⟩, ⟨(some (K.ofNat 85)), none, .bin .lss (.t (K.ofNat 82)) (.t (K.ofNat 84))⟩]
noncomputable def f21_r18 : List EOper := [⟨(some (K.ofNat 89)), none, .mv (.t (K.ofNat 9))⟩, ⟨(some (K.ofNat 90)), none, .mv (.t (K.ofNat 8))⟩, ⟨(some (K.ofNat 91)), none, .mv (.t (K.ofNat 17))⟩, ⟨(some (K.ofNat 92)), none, .iads 2 (.t (K.ofNat 90)) (.t (K.ofNat 91))⟩, ⟨(some (K.ofNat 93)), none, .ldn 2 (.t (K.ofNat 92))⟩, ⟨(some (K.ofNat 94)), none, .look 23 (.many [(some .i64), (some .i64)]) (.i .i64 (.ofNat 0)) (.t (K.ofNat 89)) (.t (K.ofNat 93)) true⟩, ⟨(some (K.ofNat 88)), none, .mv (.t (K.ofNat 94))⟩, ⟨(some (K.ofNat 95)), none, .ext (.t (K.ofNat 88)) 0⟩, ⟨(some (K.ofNat 96)), none, .ext (.t (K.ofNat 88)) 1⟩, ⟨(some (K.ofNat 18)), none, .as (.t (K.ofNat 95))⟩, ⟨(some (K.ofNat 19)), none, .as (.t (K.ofNat 96))⟩]
noncomputable def f21_r19 : List EOper := [⟨(some (K.ofNat 97)), none, .mv (.t (K.ofNat 19))⟩]
noncomputable def f21_r20 : List EOper := [⟨(some (K.ofNat 98)), none, .mv (.t (K.ofNat 15))⟩, ⟨(some (K.ofNat 99)), none, .mv (.t (K.ofNat 8))⟩, ⟨(some (K.ofNat 100)), none, .mv (.t (K.ofNat 17))⟩, ⟨(some (K.ofNat 101)), none, .iads 2 (.t (K.ofNat 99)) (.t (K.ofNat 100))⟩, ⟨(some (K.ofNat 102)), none, .ldn 2 (.t (K.ofNat 101))⟩, ⟨(some (K.ofNat 103)), none, .bslice 1 2 [(.i .i64 (.ofNat 0)), (.i .i64 (.ofNat 0))] [(0, 2, (.t (K.ofNat 102)))]⟩, ⟨(some (K.ofNat 104)), none, .app 2 (.t (K.ofNat 98)) (.t (K.ofNat 103))⟩, ⟨(some (K.ofNat 15)), none, .as (.t (K.ofNat 104))⟩]
noncomputable def f21_r21 : List EOper := [⟨(some (K.ofNat 105)), none, .mv (.t (K.ofNat 16))⟩, ⟨(some (K.ofNat 106)), none, .mv (.t (K.ofNat 18))⟩, ⟨(some (K.ofNat 107)), none, .bslice 1 1 [(.i .i64 (.ofNat 0))] [(0, 1, (.t (K.ofNat 106)))]⟩, ⟨(some (K.ofNat 108)), none, .app 1 (.t (K.ofNat 105)) (.t (K.ofNat 107))⟩, ⟨(some (K.ofNat 16)), none, .as (.t (K.ofNat 108))⟩]
noncomputable def f21_r22 : List EOper := [⟨(some (K.ofNat 86)), none, .mv (.t (K.ofNat 17))⟩, ⟨(some (K.ofNat 87)), none, .bin .add (.t (K.ofNat 86)) (.c (.i .i64 (.ofNat 1)))⟩, ⟨(some (K.ofNat 17)), none, .as (.t (K.ofNat 87))⟩]
noncomputable def f21_l2 : EC := (.seq (.seq (.reg f21_r17) (.cond (.t (K.ofNat 85)) .skip (.exit 4))) (.seq (.block 5 (.seq (.reg f21_r18) (.seq (.reg f21_r19) (.cond (.t (K.ofNat 97)) (.seq (.reg f21_r20) (.reg f21_r21)) .skip)))) (.reg f21_r22)))
noncomputable def f21_r23 : List EOper := [⟨(some (K.ofNat 109)), none, .mv (.t (K.ofNat 15))⟩, ⟨(some (K.ofNat 110)), none, .mv (.t (K.ofNat 16))⟩, ⟨(some (K.ofNat 6)), none, .as (.t (K.ofNat 109))⟩, ⟨(some (K.ofNat 7)), none, .as (.t (K.ofNat 110))⟩]
noncomputable def f21_c : EC := (.seq (.reg f21_r0) (.seq (.reg f21_r1) (.seq (.reg f21_r2) (.seq (.reg f21_r3) (.seq (.seq (.reg f21_r4) (.block 0 (.loop f21_l1))) (.seq (.reg f21_r14) (.seq (.reg f21_r15) (.seq (.seq (.reg f21_r16) (.block 4 (.loop f21_l2))) (.seq (.reg f21_r23) .ret)))))))))
noncomputable def f21 : EF := ⟨111, [.tmp (K.ofNat 6), .tmp (K.ofNat 7)], f21_c, none⟩
theorem f21_rs : f21.rs = [.tmp (K.ofNat 6), .tmp (K.ofNat 7)] := of_eq_true (eq_self _)
/-! ### Plain -/
abbrev DM := List ((Nat × Nat) × Nat)
def kyD (M : DM) : List (Nat × Nat) := M.map Prod.fst
def lkD : DM → Nat × Nat → Option Nat
  | [], _ => none
  | e :: M, x => if x = e.1 then some e.2 else lkD M x
/-- The states of the search: the place in the list, the arrow that is looked at, what is known. -/
inductive BfsR (G : List Bool) (s : Nat × Nat) : Nat → Nat → DM → Prop where
  | start : BfsR G s 0 0 [(s, 0)]
  | skip {i k : Nat} {M : DM} {x p : Nat × Nat} {d : Nat} : BfsR G s i k M → M[i]? = some (x, d) → (arw (rat G))[k]? = some p → (p ∈ kyD M ∨ frcB G x p = false) → BfsR G s i (k + 1) M
  | add {i k : Nat} {M : DM} {x p : Nat × Nat} {d : Nat} : BfsR G s i k M → M[i]? = some (x, d) → (arw (rat G))[k]? = some p → p ∉ kyD M → frcB G x p = true → BfsR G s i (k + 1) (M ++ [(p, d + 1)])
  | next {i : Nat} {M : DM} : BfsR G s i (arw (rat G)).length M → i < M.length → BfsR G s (i + 1) 0 M
structure BfsI (G : List Bool) (s : Nat × Nat) (i k : Nat) (M : DM) : Prop where
  nd : (kyD M).Nodup
  arr : ∀ p ∈ kyD M, rat G p.1 p.2 = true ∧ Rch (Er G) s.1 s.2 p.1 p.2
  beg : M[0]? = some (s, 0)
  dl : ∀ e ∈ M, e.2 + 1 ≤ M.length
  clo : ∀ (j : Nat) (x : Nat × Nat) (d : Nat), j < i → M[j]? = some (x, d) → ∀ p, rat G p.1 p.2 = true → frcB G x p = true → p ∈ kyD M
  cur : ∀ (j : Nat) (x p : Nat × Nat) (d : Nat), j < k → M[i]? = some (x, d) → (arw (rat G))[j]? = some p → frcB G x p = true → p ∈ kyD M
theorem frcB_rch {G : List Bool} (sy : SymR G) {x p : Nat × Nat} (hp : rat G p.1 p.2 = true) (h : frcB G x p = true) {a b : Nat} (k : Rch (Er G) a b x.1 x.2) : Rch (Er G) a b p.1 p.2 := by
  unfold frcB at h
  rcases Bool.or_eq_true _ _ ▸ h with h | h
  · rw [← of_decide_eq_true h]; exact k
  · by_cases e : x.1 = p.1
    · rw [if_pos e] at h
      rw [← e] at hp ⊢
      exact k.out hp (fun h2 => by have h2 : rat G x.2 p.2 = true := h2; rw [h2] at h; cases h)
    · rw [if_neg e] at h
      simp only [Bool.and_eq_true, decide_eq_true_eq] at h
      rw [← h.1] at hp ⊢
      exact k.inn hp (fun h2 => by
        have h2 : rat G x.1 p.1 = true := sy.gr.sym _ _ h2
        rw [h2] at h; exact absurd h.2 (by simp))
theorem at_app {α : Type} {M : List α} {x y : α} {j : Nat} (h : (M ++ [y])[j]? = some x) (hj : j < M.length) : M[j]? = some x := by
  rw [List.getElem?_append_left hj] at h; exact h
theorem get_lt {α : Type} {M : List α} {x : α} {j : Nat} (h : M[j]? = some x) : j < M.length := by
  by_cases e : j < M.length
  · exact e
  · rw [List.getElem?_eq_none (by omega)] at h; cases h
theorem BfsR.inv {G : List Bool} (sy : SymR G) {s : Nat × Nat} (hs : rat G s.1 s.2 = true) {i k : Nat} {M : DM} (r : BfsR G s i k M) : BfsI G s i k M := by
  induction r with
  | start =>
    exact ⟨by simp [kyD], fun p hp => by simp [kyD] at hp; rw [hp]; exact ⟨hs, .refl⟩, rfl, fun e he => by simp at he; rw [he]; simp, fun j x d hj => by omega, fun j x p d hj => by omega⟩
  | @skip i k M x p d _ h1 h2 h3 ih =>
    refine ⟨ih.nd, ih.arr, ih.beg, ih.dl, ih.clo, fun j x' p' d' hj h1' h2' h3' => ?_⟩
    by_cases e : j = k
    · subst e
      rw [h1] at h1'; cases h1'
      rw [h2] at h2'; cases h2'
      rcases h3 with h3 | h3
      · exact h3
      · rw [h3] at h3'; cases h3'
    · exact ih.cur j x' p' d' (by omega) h1' h2' h3'
  | @add i k M x p d _ h1 h2 h3 h4 ih =>
    have hil := get_lt h1
    have hpG : rat G p.1 p.2 = true := (arw_lt (List.mem_of_getElem? h2)).2.2
    have hk : kyD (M ++ [(p, d + 1)]) = kyD M ++ [p] := by unfold kyD; simp
    have hxm : x ∈ kyD M := List.mem_map.2 ⟨(x, d), List.mem_of_getElem? h1, rfl⟩
    have up : ∀ {q}, q ∈ kyD M → q ∈ kyD (M ++ [(p, d + 1)]) := fun h => by rw [hk]; exact List.mem_append_left _ h
    refine ⟨?_, fun q hq => ?_, ?_, fun e he => ?_, fun j y e hj hy q hq hf => up (ih.clo j y e hj (at_app hy (by omega)) q hq hf), fun j y q e hj hy hq hf => ?_⟩
    · rw [hk, List.nodup_append]
      refine ⟨ih.nd, by simp, fun a ha b hb e => h3 ?_⟩
      rw [List.mem_singleton] at hb
      rw [← hb, ← e]; exact ha
    · rw [hk, List.mem_append, List.mem_singleton] at hq
      rcases hq with hq | rfl
      · exact ih.arr q hq
      · exact ⟨hpG, frcB_rch sy hpG h4 (ih.arr x hxm).2⟩
    · rw [List.getElem?_append_left (get_lt ih.beg)]; exact ih.beg
    · rw [List.length_append, List.length_singleton]
      rcases List.mem_append.1 he with he | he
      · have := ih.dl e he; omega
      · rw [List.mem_singleton.1 he]
        have := ih.dl _ (List.mem_of_getElem? h1)
        show d + 1 + 1 ≤ M.length + 1
        have : d + 1 ≤ M.length := this
        omega
    · by_cases e2 : j = k
      · subst e2
        rw [h2] at hq; cases hq
        rw [hk]; simp
      · exact up (ih.cur j y q e (by omega) (at_app hy hil) hq hf)
  | @next i M _ hi ih =>
    refine ⟨ih.nd, ih.arr, ih.beg, ih.dl, fun j x d hj hx p hp hf => ?_, fun j x p d hj => by omega⟩
    by_cases e : j = i
    · subst e
      obtain ⟨k, hk, ek⟩ := List.getElem_of_mem (mem_arw.2 ⟨(rat_lt hp).1, (rat_lt hp).2, hp⟩ : (p.1, p.2) ∈ arw (rat G))
      exact ih.cur k x p d hk hx (by rw [List.getElem?_eq_getElem hk, ek]) hf
    · exact ih.clo j x d (by omega) hx p hp hf
theorem BfsI.len {G : List Bool} {s : Nat × Nat} {i k : Nat} {M : DM} (b : BfsI G s i k M) : M.length ≤ 49 := by
  have h := nodup_leO (m := arw (rat G)) b.nd fun x hx => mem_arw.2 ⟨(rat_lt (b.arr x hx).1).1, (rat_lt (b.arr x hx).1).2, (b.arr x hx).1⟩
  have := arI_len (g := rat G)
  unfold arI at this
  unfold kyD at h
  rw [List.length_map] at h this
  omega
/-- When nothing is left, what is known is the class. -/
theorem BfsI.cls {G : List Bool} (sy : SymR G) {s : Nat × Nat} (hs : rat G s.1 s.2 = true) {M : DM} (b : BfsI G s M.length 0 M) (p : Nat × Nat) : p ∈ kyD M ↔ rat (clsR G s) p.1 p.2 = true := by
  rw [clsR_iff (rat_lt hs)]
  refine ⟨fun h => (b.arr p h).2, fun h => ?_⟩
  have cl : ∀ {x q : Nat × Nat}, x ∈ kyD M → rat G q.1 q.2 = true → frcB G x q = true → q ∈ kyD M := fun {x q} hx hq hf => by
    obtain ⟨⟨y, d⟩, he, rfl⟩ := List.mem_map.1 hx
    obtain ⟨j, hj, ej⟩ := List.getElem_of_mem he
    exact b.clo j y d hj (by rw [List.getElem?_eq_getElem hj, ej]) q hq hf
  have all : ∀ {c d : Nat}, Rch (Er G) s.1 s.2 c d → (c, d) ∈ kyD M := fun {c d} h => by
    induction h with
    | refl => exact List.mem_map.2 ⟨(s, 0), List.mem_of_getElem? b.beg, rfl⟩
    | @out c d e _ h1 h2 ih =>
      have h2 : ¬ rat G d e = true := h2
      exact cl (q := (c, e)) ih h1 (by unfold frcB; simp only [if_true, Bool.or_eq_true]; exact .inr (by simpa using h2))
    | @inn c d e _ h1 h2 ih =>
      have h2 : ¬ rat G e c = true := h2
      have h3 : ¬ rat G c e = true := fun h => h2 (sy.gr.sym _ _ h)
      by_cases ee : c = e
      · rw [← ee]; exact ih
      · exact cl (q := (e, d)) ih h1 (by unfold frcB; simp only [if_neg ee, decide_true, Bool.true_and, Bool.or_eq_true]; exact .inr (by simpa using h3))
  exact all h
theorem lkD_none {M : DM} {x : Nat × Nat} : lkD M x = none ↔ x ∉ kyD M := by
  induction M with
  | nil => simp [lkD, kyD]
  | cons e M ih =>
    show (if x = e.1 then some e.2 else lkD M x) = none ↔ x ∉ e.1 :: kyD M
    rw [List.mem_cons, not_or]
    by_cases h : x = e.1
    · rw [if_pos h]; simp [h]
    · rw [if_neg h, ih]; simp [h]
theorem lkD_app {M : DM} {x y : Nat × Nat} {v : Nat} (hx : x ∉ kyD M) : lkD (M ++ [(x, v)]) y = if y = x then some v else lkD M y := by
  induction M with
  | nil => rfl
  | cons e M ih =>
    have hx' : x ≠ e.1 ∧ x ∉ kyD M := by
      have : x ∉ e.1 :: kyD M := hx
      rw [List.mem_cons, not_or] at this
      exact this
    show (if y = e.1 then some e.2 else lkD (M ++ [(x, v)]) y) = if y = x then some v else if y = e.1 then some e.2 else lkD M y
    rw [ih hx'.2]
    by_cases h : y = e.1
    · rw [if_pos h, if_neg (fun e2 => hx'.1 (e2.symm.trans h)), if_pos h]
    · rw [if_neg h, if_neg h]
theorem lkD_at {M : DM} {i : Nat} {x : Nat × Nat} {d : Nat} (hn : (kyD M).Nodup) (h : M[i]? = some (x, d)) : lkD M x = some d := by
  induction M generalizing i with
  | nil => simp at h
  | cons e M ih =>
    have hn : (e.1 :: kyD M).Nodup := hn
    rw [List.nodup_cons] at hn
    show (if x = e.1 then some e.2 else lkD M x) = some d
    cases i with
    | zero => simp at h; subst h; rw [if_pos rfl]
    | succ i =>
      have h : M[i]? = some (x, d) := by simpa using h
      have hx : x ∈ kyD M := List.mem_map.2 ⟨(x, d), List.mem_of_getElem? h, rfl⟩
      rw [if_neg (fun e2 => hn.1 (by rw [← e2]; exact hx))]
      exact ih hn.2 h
/-- The map as a function. -/
def dF (M : DM) (z : Int × Int) : Option Int := if 0 ≤ z.1 ∧ 0 ≤ z.2 then (lkD M (z.1.toNat, z.2.toNat)).map Int.ofNat else none
theorem dF_toI {M : DM} {x : Nat × Nat} : dF M (toI x) = (lkD M x).map Int.ofNat := by
  unfold dF toI
  rw [if_pos (by simp only; omega)]
  rfl
theorem dF_app {M : DM} {x : Nat × Nat} {v : Nat} (hx : x ∉ kyD M) : dF (M ++ [(x, v)]) = fun y => if y = toI x then some (v : Int) else dF M y := by
  funext y
  by_cases h : 0 ≤ y.1 ∧ 0 ≤ y.2
  · have e : y = toI (y.1.toNat, y.2.toNat) := Prod.ext (show y.1 = (y.1.toNat : Int) by omega) (show y.2 = (y.2.toNat : Int) by omega)
    rw [e, dF_toI, dF_toI, lkD_app hx]
    by_cases h2 : (y.1.toNat, y.2.toNat) = x
    · rw [if_pos h2, if_pos (by rw [h2])]; rfl
    · rw [if_neg h2, if_neg (fun h3 => h2 ?_)]
      unfold toI at h3
      injection h3 with h3 h4
      exact Prod.ext (by simp only at h3 ⊢; omega) (by simp only at h4 ⊢; omega)
  · have h2 : ¬ y = toI x := fun e => h (by rw [e]; unfold toI; simp only; omega)
    rw [if_neg h2]
    unfold dF
    rw [if_neg h, if_neg h]
theorem dF_one {s : Nat × Nat} : dF [(s, 0)] = fun y => if y = toI s then some 0 else none := by
  rw [show [(s, 0)] = ([] : DM) ++ [(s, 0)] from rfl, dF_app (by simp [kyD])]
  funext y
  by_cases h : y = toI s
  · rw [if_pos h, if_pos h]; rfl
  · rw [if_neg h, if_neg h]; unfold dF; split <;> rfl
theorem MapF.look0 {h : H} {id : K} {kt : Nat} {f : Int × Int → Option Int} {x : Int × Int} {v : Int} {z : V} (hm : MapF h id kt f) (hx : in2 x) (hv : f x = some v) : lookV kt (.many [some .i64, some .i64]) z h (.m id) (pZ x) false = .ok (.i .i64 v) h := by
  obtain ⟨M, e1, e2, e3⟩ := hm
  show ((h.get id).onM kt fun es => oGet (findE (.many [some .i64, some .i64]) (pZ x) es) RV.no fun r => bif false then RV.ok (oGet r (.tup [z, .b false]) fun v => .tup [v, .b true]) h else RV.ok (oGet r z fun v => v) h) = _
  rw [e1]
  show (bif Nat.beq kt kt then (oGet (findE (.many [some .i64, some .i64]) (pZ x) (entZ M)) RV.no fun r => RV.ok (oGet r z fun v => v) h) else _) = _
  rw [Nat.beq_same, find_z hx M e2, e3, hv]; rfl
theorem MapF.lt_nx {h : H} {id : K} {kt : Nat} {f : Int × Int → Option Int} (hm : MapF h id kt f) (hc : HC h) : id.nat < h.nx.nat := by
  obtain ⟨M, e1, _⟩ := hm
  by_cases e : id.nat < h.nx.nat
  · exact e
  · have := hc id (by omega)
    rw [e1] at this; cases this
theorem arw_filter {f : Nat → Nat → Bool} {p : Nat × Nat → Bool} : (arw f).filter p = arw fun a b => f a b && p (a, b) := by
  unfold arw
  rw [List.filter_map, List.filter_filter]
  congr 1
  refine List.filter_congr fun i _ => ?_
  rw [Bool.and_comm]; rfl
section
variable {fs : T EF} {h h' : H}
def kyI (M : DM) : List (Int × Int) := (kyD M).map toI
theorem kyI_len {M : DM} : (kyI M).length = M.length := by unfold kyI kyD; rw [List.length_map, List.length_map]
theorem kyI_at {M : DM} {i : Nat} {x : Nat × Nat} {d : Nat} (h : M[i]? = some (x, d)) (hi : i < (kyI M).length) : (kyI M)[i] = toI x := by
  have : (kyI M)[i]? = some (toI x) := by
    unfold kyI kyD
    rw [List.getElem?_map, List.getElem?_map, h]; rfl
  rw [List.getElem?_eq_getElem hi] at this
  exact Option.some.inj this
theorem arI_at {G : Nat → Nat → Bool} {k : Nat} {p : Nat × Nat} (h : (arw G)[k]? = some p) (hk : k < (arI G).length) : (arI G)[k] = toI p := by
  have : (arI G)[k]? = some (toI p) := by
    unfold arI
    rw [List.getElem?_map, h]; rfl
  rw [List.getElem?_eq_getElem hk] at this
  exact Option.some.inj this
structure CallsCs (fs : T EF) : Prop extends CallsJn fs where
  c20 : fs.get (K.ofNat 20) = some f20
  c53 : fs.get (K.ofNat 53) = some f53
structure Mq (h3 : H) (M : DM) (q : V) (h1 : H) : Prop where
  gr : Grow h3.nx.nat h3 h1
  hc : HC h1
  mp : MapF h1 h3.nx 23 (dF M)
  sk : Sk 2 qE h1 q (kyI M)
  own : Own (h3.nx.nat + 1) q
def f21_A (h3 : H) (v al : V) (G : List Bool) (s : Nat × Nat) (z : Nat × DM) (fr : Fr) (h1 : H) : Prop := z.1 ≤ z.2.length ∧ BfsR G s z.1 0 z.2 ∧ ∃ q, Mq h3 z.2 q h1 ∧ fr.get (K.ofNat 1) = some (v) ∧ fr.get (K.ofNat 8) = some (al) ∧ fr.get (K.ofNat 9) = some (.m h3.nx) ∧ fr.get (K.ofNat 10) = some (q) ∧ fr.get (K.ofNat 11) = some (.i .i64 (z.1 : Int))
def f21_B (h3 : H) (v al : V) (G : List Bool) (s : Nat × Nat) (i : Nat) (z : Nat × DM) (fr : Fr) (h1 : H) : Prop := z.1 ≤ (arw (rat G)).length ∧ i < z.2.length ∧ BfsR G s i z.1 z.2 ∧ ∃ q, Mq h3 z.2 q h1 ∧ fr.get (K.ofNat 1) = some (v) ∧ fr.get (K.ofNat 8) = some (al) ∧ fr.get (K.ofNat 9) = some (.m h3.nx) ∧ fr.get (K.ofNat 10) = some (q) ∧ fr.get (K.ofNat 11) = some (.i .i64 (i : Int)) ∧ fr.get (K.ofNat 12) = some (.i .i64 (z.1 : Int))
/-- The arrows of the class, and how far they are. -/
def kn (M : DM) (p : Nat × Nat) : Bool := (lkD M p).isSome
def outT (G : List Bool) (M : DM) (k : Nat) : List (Nat × Nat) := ((arw (rat G)).take k).filter (kn M)
def farT (G : List Bool) (M : DM) (k : Nat) : List Int := (outT G M k).map fun p => (((lkD M p).getD 0 : Nat) : Int)
def f21_C (h4 : H) (al : V) (G : List Bool) (M : DM) (idm : K) (k : Nat) (fr : Fr) (h1 : H) : Prop := k ≤ (arw (rat G)).length ∧ ∃ u w, Grow h4.nx.nat h4 h1 ∧ HC h1 ∧ Sk 2 qE h1 u ((outT G M k).map toI) ∧ Own h4.nx.nat u ∧ Sl iE h1 w (farT G M k) ∧ Own h4.nx.nat w ∧ (∀ id off n sz, u = .sl id off n sz → NotIn id w) ∧ fr.get (K.ofNat 8) = some (al) ∧ fr.get (K.ofNat 9) = some (.m idm) ∧ fr.get (K.ofNat 15) = some (u) ∧ fr.get (K.ofNat 16) = some (w) ∧ fr.get (K.ofNat 17) = some (.i .i64 (k : Int))
theorem f21_ret {n : Nat} {v : V} {g : Nat → Nat → Bool} {s : Nat × Nat} (k : CallsCs fs) (hg : Gph n g) (hv : Srp h v (arI g)) (hs : rat (gR (arI g)) s.1 s.2 = true) (hc : HC h) : Ret fs f21 [.i .i64 (n : Int), v, aV s] h fun r h' => ∃ u w M, r = .tup [u, w] ∧ BfsR (gR (arI g)) s M.length 0 M ∧ Sk 2 qE h' u (arI (rat (clsR (gR (arI g)) s))) ∧ Own h.nx.nat u ∧ Sl iE h' w ((arw (rat (clsR (gR (arI g)) s))).map fun p => (((lkD M p).getD 0 : Nat) : Int)) ∧ Own h.nx.nat w ∧ Grow h.nx.nat h h' := by
  have hlb := arI_len (g := g)
  have sy := symR_g hg
  have hs7 := rat_lt hs
  apply ret_of rfl
  show W fs none f21_c _ _ _
  unfold f21_c
  have cs : cellsN 2 (aV s) = some [.i .i64 (s.1 : Int), .i .i64 (s.2 : Int)] := rfl
  have n1 := nx_new h (.cells 2 [.i .i64 (s.1 : Int), .i .i64 (s.2 : Int)])
  have g1 : Grow h.nx.nat h (h.new (.cells 2 [.i .i64 (s.1 : Int), .i .i64 (s.2 : Int)])) := Grow.new (Nat.le_refl _) _
  have e1 : (h.new (.cells 2 [.i .i64 (s.1 : Int), .i .i64 (s.2 : Int)])).get h.nx = .cells 2 [.i .i64 (s.1 : Int), .i .i64 (s.2 : Int)] := get_new_same
  simp (disch := omega) only [f21_r0, f21_r1, w_reg, w_seq, seqK_n, x_nil, x_mv, x_as, x_box, x_call, kx, rvP_ok, ev_t, ev_c, evs_nil, evs_cons, getV_some, putD_some, oGet_s, frame_3, getK_set, Nat.reduceEqDiff, ↓reduceIte, cs]
  generalize h.new (.cells 2 [.i .i64 (s.1 : Int), .i .i64 (s.2 : Int)]) = h1 at *
  have hc1 := g1.hc hc
  refine (callP_0 (ef := f53) k.c53 rfl (f53_ret k.toCallsJn hg (hv.grow hc g1) hc1)).mono ?_
  rintro al h2 ⟨hal, hoal, g2⟩
  have hc2 := g2.hc hc1
  have gA := g1.trans (g2.low g1.nx)
  have hv2 := hv.grow hc gA
  have e2 := (g2.old h.nx (by omega)).trans e1
  have hav : V.agg [.i .i64 (s.1 : Int), .i .i64 (s.2 : Int)] = aV s := rfl
  have i2 : in2 (toI s) := inI_nat hs7.1 hs7.2
  have n3 := nx_new h2 (.map 23 [])
  have g3 : Grow h2.nx.nat h2 (h2.new (.map 23 [])) := Grow.new (Nat.le_refl _) _
  have l3 := ldn2 ((g3.old h.nx (by have := g2.nx; omega)).trans e2)
  obtain ⟨es, m1, m2⟩ := (MapF.nil (h := h2) (kt := 23)).put (v := 0) i2
  have m1 : mupdV 23 (.many [some .i64, some .i64]) (h2.new (.map 23 [])) (.m h2.nx) (aV s) (.i .i64 0) = .ok undefV ((h2.new (.map 23 [])).put h2.nx (.map 23 es)) := m1
  rw [← dF_one] at m2
  have g4 : Grow h2.nx.nat h2 ((h2.new (.map 23 [])).put h2.nx (.map 23 es)) := g3.trans (Grow.put (Nat.le_refl _) (by omega) _)
  have n4 : ((h2.new (.map 23 [])).put h2.nx (.map 23 es)).nx.nat = h2.nx.nat + 1 := n3
  simp (disch := omega) only [f21_r2, w_reg, w_seq, seqK_n, x_nil, x_mv, x_as, x_ldn, x_mkmap, x_mupd, kx, rvP_ok, ev_t, ev_c, getV_some, putD_some, putD_none, of0, getK_set, Nat.reduceEqDiff, ↓reduceIte, l3, hav, m1]
  generalize (h2.new (.map 23 [])).put h2.nx (.map 23 es) = h3 at *
  have hc3 := g4.hc hc2
  have l4 := ldn2 ((g4.old h.nx (by have := g2.nx; omega)).trans e2)
  have sp : setMany [V.i .i64 0, V.i .i64 0] 0 [V.i .i64 (s.1 : Int), V.i .i64 (s.2 : Int)] = [V.i .i64 (s.1 : Int), V.i .i64 (s.2 : Int)] := rfl
  have n5 := nx_new h3 (.cells (1 * 2) [.i .i64 (s.1 : Int), .i .i64 (s.2 : Int)])
  have g5 : Grow h3.nx.nat h3 (h3.new (.cells (1 * 2) [.i .i64 (s.1 : Int), .i .i64 (s.2 : Int)])) := Grow.new (Nat.le_refl _) _
  have k5 : Sk 2 qE (h3.new (.cells (1 * 2) [.i .i64 (s.1 : Int), .i .i64 (s.2 : Int)])) (.sl h3.nx 0 1 2) [toI s] := Sk.lit2o
  simp (disch := omega) only [f21_r3, f21_r4, w_reg, w_seq, w_block, seqK_n, x_nil, x_as, x_bslice, x_ldn, kx, rvP_ok, ev_t, ev_c, getV_some, putD_some, oGet_s, of0, getK_set, Nat.reduceEqDiff, ↓reduceIte, fill_0, l4, hav, fill_c, cs, sp]
  generalize h3.new (.cells (1 * 2) [.i .i64 (s.1 : Int), .i .i64 (s.2 : Int)]) = h5 at *
  have hc5 := g5.hc hc3
  have mq0 : Mq h2 [(s, 0)] (.sl h3.nx 0 1 2) h5 := ⟨g4.trans (g5.low (by omega)), hc5, m2.same (g5.old _ (by omega)), k5, fun id off n sz e => by cases e; omega⟩
  have hA49 : (arw (rat (gR (arI g)))).length ≤ 49 := by
    have := arI_len (g := rat (gR (arI g)))
    unfold arI at this
    rw [List.length_map] at this; exact this
  refine loop_monoO (Q := fun e fr hh => e = .exit 0 ∧ ∃ M q, BfsR (gR (arI g)) s M.length 0 M ∧ Mq h2 M q hh ∧ fr.get (K.ofNat 8) = some (al) ∧ fr.get (K.ofNat 9) = some (.m h2.nx)) ?_ (W_loop (f21_A h2 v al (gR (arI g)) s) (fun z => 50 - z.1) ?_ (0, [(s, 0)]) ⟨by simp, .start, _, mq0, by simp (disch := omega) only [getK_set, Nat.reduceEqDiff, ↓reduceIte, and_self, Int.natCast_zero]⟩)
  · rintro e fr h6 ⟨rfl, M, q, hr, mq, g8, g9⟩
    have bi := hr.inv sy hs
    have hal6 := hal.grow hc2 mq.gr
    have hall : ∀ h1, lenV al h1 = .ok (.i .i64 ((arw (rat (gR (arI g)))).length : Int)) h1 := fun h1 => by rw [hal.len]; unfold arI; rw [List.length_map]
    simp (disch := omega) only [f21_r14, f21_r15, f21_r16, w_reg, w_seq, w_block, seqK_n, atK_e, x_nil, x_as, ev_c, putD_some, of0, ↓reduceIte]
    refine W_loop (f21_C h6 al (gR (arI g)) M h2.nx) (fun k => (arw (rat (gR (arI g)))).length - k) ?_ 0 ⟨by omega, .sn, .sn, Grow.refl _ _, mq.hc, Sk.nil, Own.sn, Sl.nil, Own.sn, (fun _ _ _ _ _ => NotIn.sn), by simp (disch := omega) only [getK_set, Nat.reduceEqDiff, ↓reduceIte, g8, g9, and_self, Int.natCast_zero]⟩
    clear g8 g9 fr
    rintro kk fr h7 ⟨hkk, u, w, hG, hc7, su, ou, sw, ow, hnw, g8, g9, g15, g16, g17⟩
    have m7 : MapF h7 h2.nx 23 (dF M) := mq.mp.same (hG.old _ (mq.mp.lt_nx mq.hc))
    unfold f21_l2
    by_cases hlt : kk < (arw (rat (gR (arI g)))).length
    · have d0 : decide ((kk : Int) < ((arw (rat (gR (arI g)))).length : Int)) = true := decide_eq_true (by omega)
      obtain ⟨p, hp⟩ : ∃ p, (arw (rat (gR (arI g))))[kk]? = some p := ⟨_, List.getElem?_eq_getElem hlt⟩
      obtain ⟨pl1, pl2, _⟩ := arw_lt (List.mem_of_getElem? hp)
      have hkl : kk < (arI (rat (gR (arI g)))).length := by unfold arI; rw [List.length_map]; exact hlt
      obtain ⟨pq, pa, pb⟩ := (hal6.grow mq.hc hG).at2 hkl
      have pb : loadV h7 pq (many? 2) = .ok (aV p) h7 := by rw [arI_at hp hkl] at pb; exact pb
      have hlook : lookV 23 (.many [some .i64, some .i64]) (.i .i64 0) h7 (.m h2.nx) (aV p) true = .ok (okZ (.i .i64 0) (dF M (toI p))) h7 := m7.look (inI_nat pl1 pl2)
      rw [dF_toI] at hlook
      have hsu : outT (gR (arI g)) M (kk + 1) = outT (gR (arI g)) M kk ++ (if kn M p = true then [p] else []) := by
        unfold outT
        rw [List.take_add_one, hp, List.filter_append]
        simp only [Option.toList_some]
        by_cases h : kn M p = true
        · rw [if_pos h]; simp [h]
        · rw [if_neg h]; simp [h]
      have hl1 : (outT (gR (arI g)) M kk).length ≤ 49 := by
        unfold outT
        have := List.length_filter_le (kn M) ((arw (rat (gR (arI g)))).take kk)
        rw [List.length_take] at this
        omega
      cases hlk : lkD M p with
      | none =>
        rw [hlk] at hlook
        have hok : okZ (.i .i64 0) none = .tup [.i .i64 0, .b false] := rfl
        rw [if_neg (show ¬ kn M p = true by unfold kn; rw [hlk]; simp), List.append_nil] at hsu
        simp (disch := omega) only [f21_r17, f21_r18, f21_r19, f21_r22, w_skip, w_reg, w_seq, w_cond, w_block, seqK_n, atK_n, loopK_n, ckB_b, cbB_b, true_and, x_nil, x_mv, x_as, x_ldn, x_bin, x_look, Option.map_none, x_iads, x_ext, x_len, kx, rvP_ok, okv_some, ev_t, ev_c, getV_some, putD_some, bin_add, bin_lss, onTup_t, nth0, nth1, of0, of1, getK_set, Nat.reduceEqDiff, ↓reduceIte, Bool.false_eq_true, g8, g9, g17, hall, d0, pa, pb, hlook, hok, fw64]
        exact ⟨kk + 1, by omega, by omega, u, w, hG, hc7, by rw [hsu]; exact su, ou, by unfold farT; rw [hsu]; exact sw, ow, hnw, by simp (disch := omega) only [getK_set, Nat.reduceEqDiff, ↓reduceIte, g8, g9, g15, g16, and_self, Int.natCast_add, Int.natCast_one]⟩
      | some d =>
        rw [hlk] at hlook
        have hok : okZ (.i .i64 0) (some (Int.ofNat d)) = .tup [.i .i64 (d : Int), .b true] := rfl
        rw [if_pos (show kn M p = true by unfold kn; rw [hlk]; rfl)] at hsu
        have cp : cellsN 2 (aV p) = some [.i .i64 (p.1 : Int), .i .i64 (p.2 : Int)] := rfl
        have sp : setMany [V.i .i64 0, V.i .i64 0] 0 [V.i .i64 (p.1 : Int), V.i .i64 (p.2 : Int)] = [V.i .i64 (p.1 : Int), V.i .i64 (p.2 : Int)] := rfl
        obtain ⟨u', h8, a1, s1, o1, gr8, k8⟩ := Sk.push (b := h6.nx.nat) qE_len (by omega) (x := toI p) su ou hG.nx hc7 (by rw [List.length_map]; omega)
        have a1' : appV 2 (h7.new (.cells (1 * 2) [.i .i64 (p.1 : Int), .i .i64 (p.2 : Int)])) u (.sl h7.nx 0 1 2) = .ok u' h8 := a1
        have hc8 := gr8.hc hc7
        have wlt := sw.lt hc7
        have gr8n := gr8.nx
        have hGn := hG.nx
        have notu : ∀ id off n sz, w = .sl id off n sz → NotIn id u := fun id off n sz e off' n' sz' e' => hnw _ _ _ _ e' _ _ _ e
        have sw8 : Sl iE h8 w (farT (gR (arI g)) M kk) := sw.same fun id off n sz e => (k8 id (wlt _ _ _ _ e) (notu _ _ _ _ e)).1
        obtain ⟨w', h9, a2, s2, o2, gr9, k9⟩ := Sl.push (b := h6.nx.nat) (e := iE) (x := (d : Int)) (c := .i .i64 (d : Int)) rfl sw8 ow (by omega) hc8 (by unfold farT; rw [List.length_map]; omega)
        have hc9 := gr9.hc hc8
        -- the block of the new list
        have uin : ∀ id off n sz, u' = .sl id off n sz → id.nat < h7.nx.nat → ∃ off n sz, u = .sl id off n sz := fun id off n sz e hid =>
          Classical.byContradiction fun hno => (k8 id hid fun off n sz e => hno ⟨off, n, sz, e⟩).2 off n sz e
        have hnw' : ∀ id off n sz, u' = .sl id off n sz → NotIn id w := fun id off n sz e off' n' sz' e' => by
          have hid := wlt _ _ _ _ e'
          obtain ⟨_, _, _, e2⟩ := uin id off n sz e hid
          exact hnw _ _ _ _ e2 _ _ _ e'
        have u8lt := s1.lt hc8
        simp (disch := omega) only [f21_r17, f21_r18, f21_r19, f21_r20, f21_r21, f21_r22, w_skip, w_reg, w_seq, w_cond, w_block, seqK_n, atK_n, loopK_n, ckB_b, cbB_b, true_and, x_nil, x_mv, x_as, x_bslice, x_ldn, x_bin, x_look, Option.map_some, x_iads, x_ext, x_len, x_app, kx, rvP_ok, okv_some, ev_t, ev_c, getV_some, putD_some, bin_add, bin_lss, onTup_t, oGet_s, nth0, nth1, cells1_i, set_1, of0, of1, getK_set, Nat.reduceEqDiff, ↓reduceIte, fill_0, g8, g9, g15, g16, g17, hall, d0, pa, pb, hlook, hok, fill_c, cp, sp, a1', set_1, a2, fw64]
        refine ⟨kk + 1, by omega, by omega, u', w', hG.trans (gr8.trans gr9), hc9, ?_, o1, ?_, o2, ?_, by simp (disch := omega) only [getK_set, Nat.reduceEqDiff, ↓reduceIte, g8, g9, and_self, Int.natCast_add, Int.natCast_one]⟩
        · rw [hsu, List.map_append]
          exact s1.same fun id off n sz e => (k9 id (u8lt _ _ _ _ e) (hnw' _ _ _ _ e)).1
        · have : farT (gR (arI g)) M (kk + 1) = farT (gR (arI g)) M kk ++ [(d : Int)] := by
            unfold farT; rw [hsu, List.map_append]; simp [hlk]
          rw [this]; exact s2
        · exact fun id off n sz e => (k9 id (u8lt _ _ _ _ e) (hnw' _ _ _ _ e)).2
    · have d0 : decide ((kk : Int) < ((arw (rat (gR (arI g)))).length : Int)) = false := decide_eq_false (by omega)
      have ek : kk = (arw (rat (gR (arI g)))).length := by omega
      subst ek
      have hout : outT (gR (arI g)) M (arw (rat (gR (arI g)))).length = arw (rat (clsR (gR (arI g)) s)) := by
        unfold outT
        rw [List.take_length, arw_filter]
        refine arw_congr fun a b ha hb => ?_
        rw [Bool.eq_iff_iff, Bool.and_eq_true, ← bi.cls sy hs (a, b)]
        unfold kn
        constructor
        · rintro ⟨_, h2⟩
          refine Classical.byContradiction fun hno => ?_
          rw [lkD_none.2 hno] at h2; cases h2
        · intro hm
          refine ⟨(bi.arr _ hm).1, ?_⟩
          cases hl : lkD M (a, b) with
          | none => exact absurd hm (lkD_none.1 hl)
          | some d => rfl
      rw [hout] at su
      unfold farT at sw
      rw [hout] at sw
      have gE : Grow h.nx.nat h h7 := gA.trans ((mq.gr.low gA.nx).trans (hG.low (by have := gA.nx; have := mq.gr.nx; omega)))
      have hlow : h.nx.nat ≤ h6.nx.nat := by have := gA.nx; have := mq.gr.nx; omega
      simp (disch := omega) only [f21_r17, f21_r23, f21_rs, w_reg, w_seq, w_cond, w_exit, w_ret, seqK_n, seqK_e, atK_e, loopK_e, ckB_b, cbB_b, true_and, retK_r, x_nil, x_mv, x_as, x_bin, x_len, kx, rvP_ok, okv_some, ev_t, getV_some, putD_some, bin_lss, oGet_s, readRs_nil, readRs_t, retV_2, Option.some.injEq, exists_eq_left', getK_set, Nat.reduceEqDiff, ↓reduceIte, Bool.false_eq_true, g8, g15, g16, g17, hall, d0]
      exact ⟨u, w, M, rfl, hr, su, ou.low hlow, sw, ow.low hlow, gE⟩
  · clear mq0 k5 n5 sp l4 m2 m1 l3 e2 e1
    have hall : ∀ h1, lenV al h1 = .ok (.i .i64 ((arw (rat (gR (arI g)))).length : Int)) h1 := fun h1 => by rw [hal.len]; unfold arI; rw [List.length_map]
    rintro ⟨i, M⟩ fr h6 ⟨hi, hr, q, mq, g1, g8, g9, g10, g11⟩
    have hi : i ≤ M.length := hi
    have h49 : M.length ≤ 49 := (hr.inv sy hs).len
    have ql := mq.sk.len
    rw [kyI_len] at ql
    unfold f21_l1
    by_cases hlt : i < M.length
    · have d0 : decide ((i : Int) < (M.length : Int)) = true := decide_eq_true (by omega)
      simp (disch := omega) only [f21_r5, f21_r6, w_skip, w_reg, w_seq, w_cond, w_block, seqK_n, ckB_b, cbB_b, true_and, x_nil, x_mv, x_as, x_bin, x_len, kx, rvP_ok, okv_some, ev_t, ev_c, getV_some, putD_some, bin_lss, of0, getK_set, Nat.reduceEqDiff, ↓reduceIte, g10, g11, ql, d0]
      refine W_loop (f21_B h2 v al (gR (arI g)) s i) (fun z => (arw (rat (gR (arI g)))).length - z.1) ?_ (0, M) ⟨by simp, hlt, hr, q, mq, by simp (disch := omega) only [getK_set, Nat.reduceEqDiff, ↓reduceIte, g1, g8, g9, g10, g11, and_self, Int.natCast_zero]⟩
      clear g1 g8 g9 g10 g11 ql hlt d0 hi hr mq h49
      rintro ⟨kk, M⟩ fr h7 ⟨hkk, hlt, hr, q, mq, g1, g8, g9, g10, g11, g12⟩
      have hlt : i < M.length := hlt
      have hkk : kk ≤ (arw (rat (gR (arI g)))).length := hkk
      have bi := hr.inv sy hs
      have h49 : M.length ≤ 49 := bi.len
      have hc7 := mq.hc
      unfold f21_l0
      by_cases hk : kk < (arw (rat (gR (arI g)))).length
      · have d1 : decide ((kk : Int) < ((arw (rat (gR (arI g)))).length : Int)) = true := decide_eq_true (by omega)
        obtain ⟨p, hp⟩ : ∃ p, (arw (rat (gR (arI g))))[kk]? = some p := ⟨_, List.getElem?_eq_getElem hk⟩
        obtain ⟨pl1, pl2, _⟩ := arw_lt (List.mem_of_getElem? hp)
        have hkl : kk < (arI (rat (gR (arI g)))).length := by unfold arI; rw [List.length_map]; exact hk
        have hal7 := hal.grow hc2 mq.gr
        obtain ⟨pq, pa, pb⟩ := hal7.at2 hkl
        have pb : loadV h7 pq (many? 2) = .ok (aV p) h7 := by rw [arI_at hp hkl] at pb; exact pb
        have hlook : lookV 23 (.many [some .i64, some .i64]) (.i .i64 0) h7 (.m h2.nx) (aV p) true = .ok (okZ (.i .i64 0) (dF M (toI p))) h7 := mq.mp.look (inI_nat pl1 pl2)
        rw [dF_toI] at hlook
        obtain ⟨⟨x, d⟩, hx⟩ : ∃ e, M[i]? = some e := ⟨M[i], List.getElem?_eq_getElem hlt⟩
        have hql : i < (kyI M).length := by rw [kyI_len]; exact hlt
        have hxm : x ∈ kyD M := List.mem_map.2 ⟨(x, d), List.mem_of_getElem? hx, rfl⟩
        have hx7 := rat_lt (bi.arr x hxm).1
        have hdl : d + 1 ≤ M.length := bi.dl _ (List.mem_of_getElem? hx)
        cases hlk : lkD M p with
        | some d' =>
          rw [hlk] at hlook
          have hok : okZ (.i .i64 0) (some (Int.ofNat d')) = .tup [.i .i64 (d' : Int), .b true] := rfl
          have hin : p ∈ kyD M := Classical.byContradiction fun hno => by rw [lkD_none.2 hno] at hlk; cases hlk
          simp (disch := omega) only [f21_r7, f21_r8, f21_r9, f21_r12, w_skip, w_reg, w_draw, w_seq, w_cond, w_block, seqK_n, atK_n, loopK_n, ckB_b, cbB_b, okG_b, asG_t, true_and, x_nil, x_g, x_mv, x_as, x_ldn, x_bin, x_look, Option.map_some, x_iads, x_ext, x_len, kx, kg, xg_nil, xg_g, xg_mv, xg_pick, xg_not, xd_cons, fresh_nil, stK_n, stK_s, stay_nil, rvP_ok, okv_some, ev_t, ev_c, getV_some, putD_some, bin_add, bin_lss, pick_b, onB_b, onTup_t, nth0, nth1, of0, of1, getK_set, Nat.reduceEqDiff, ↓reduceIte, Bool.false_eq_true, Bool.not_true, g8, g9, g12, hall, d1, pa, pb, hlook, hok, fw64]
          exact ⟨(kk + 1, M), by simp only; omega, by simp only; omega, hlt, hr.skip hx hp (.inl hin), q, mq, by simp (disch := omega) only [getK_set, Nat.reduceEqDiff, ↓reduceIte, g1, g8, g9, g10, g11, and_self, Int.natCast_add, Int.natCast_one]⟩
        | none =>
          rw [hlk] at hlook
          have hok : okZ (.i .i64 0) none = .tup [.i .i64 0, .b false] := rfl
          have hnin := lkD_none.1 hlk
          obtain ⟨qq, qa, qb⟩ := mq.sk.at2 hql
          have qb : loadV h7 qq (many? 2) = .ok (aV x) h7 := by rw [kyI_at hx hql] at qb; exact qb
          have hqb := mq.sk.beq
          have hab := hal.beq
          simp (disch := omega) only [f21_r7, f21_r8, f21_r9, w_skip, w_reg, w_draw, w_seq, w_cond, w_block, seqK_n, ckB_b, cbB_b, okG_b, asG_t, true_and, x_nil, x_g, x_mv, x_as, x_ldn, x_bin, x_look, Option.map_none, x_iads, x_ext, x_call, x_len, kx, kg, xg_nil, xg_g, xg_mv, xg_ldn, xg_not, xg_iads, xd_cons, fresh_nil, stK_s, stay_nil, rvP_ok, okv_some, ev_t, ev_c, evs_nil, evs_cons, getV_some, putD_some, bin_lss, onB_b, onTup_t, nth0, nth1, of0, getK_set, Nat.reduceEqDiff, ↓reduceIte, Bool.not_false, g1, g8, g9, g10, g11, g12, hall, d1, pa, pb, qa, qb, hlook, hok]
          refine (callP_0 (ef := f20) k.c20 rfl (f20_ret k.toCallsJn hg (hv2.grow hc2 mq.gr) hx7 ⟨pl1, pl2⟩ hc7)).mono ?_
          rintro r h8 ⟨rfl, g8_⟩
          have hc8 := g8_.hc hc7
          have mlt := mq.mp.lt_nx hc7
          have mq8 : Mq h2 M q h8 := ⟨mq.gr.trans (g8_.low mq.gr.nx), hc8, mq.mp.same (g8_.old _ mlt), mq.sk.grow hc7 g8_, mq.own⟩
          cases hf : frcB (gR (arI g)) x p with
          | false =>
            simp (disch := omega) only [f21_r12, w_skip, w_reg, w_cond, seqK_n, atK_n, loopK_n, ckB_b, cbB_b, true_and, x_nil, x_mv, x_as, x_bin, kx, kg, xg_nil, xg_pick, xd_cons, fresh_nil, stK_n, stay_nil, rvP_ok, okv_some, ev_t, ev_c, getV_some, putD_some, bin_add, pick_b, of1, getK_set, Nat.reduceEqDiff, ↓reduceIte, Bool.false_eq_true, g12, fw64]
            exact ⟨(kk + 1, M), by simp only; omega, by simp only; omega, hlt, hr.skip hx hp (.inr hf), q, mq8, by simp (disch := omega) only [getK_set, Nat.reduceEqDiff, ↓reduceIte, g1, g8, g9, g10, g11, and_self, Int.natCast_add, Int.natCast_one]⟩
          | true =>
            obtain ⟨pq2, pa2, pb2⟩ := (hal.grow hc2 mq8.gr).at2 hkl
            have pb2 : loadV h8 pq2 (many? 2) = .ok (aV p) h8 := by rw [arI_at hp hkl] at pb2; exact pb2
            obtain ⟨qq2, qa2, qb2⟩ := mq8.sk.at2 hql
            have qb2 : loadV h8 qq2 (many? 2) = .ok (aV x) h8 := by rw [kyI_at hx hql] at qb2; exact qb2
            have hlk2 : lookV 23 (.many [some .i64, some .i64]) (.i .i64 0) h8 (.m h2.nx) (aV x) false = .ok (.i .i64 (d : Int)) h8 := mq8.mp.look0 (x := toI x) (inI_nat hx7.1 hx7.2) (by rw [dF_toI, lkD_at bi.nd hx]; rfl)
            obtain ⟨es2, mp1, mp2⟩ := mq8.mp.put (x := toI p) (v := (d : Int) + 1) (inI_nat pl1 pl2)
            have mp1 : mupdV 23 (.many [some .i64, some .i64]) h8 (.m h2.nx) (aV p) (.i .i64 ((d : Int) + 1)) = .ok undefV (h8.put h2.nx (.map 23 es2)) := mp1
            have hdd : dF (M ++ [(p, d + 1)]) = fun y => if y = toI p then some ((d : Int) + 1) else dF M y := by rw [dF_app hnin]; funext y; simp
            rw [← hdd] at mp2
            have h8n : h2.nx.nat < h8.nx.nat := mq8.mp.lt_nx hc8
            have g9_ : Grow h2.nx.nat h8 (h8.put h2.nx (.map 23 es2)) := Grow.put (Nat.le_refl _) h8n _
            have n9_ : (h8.put h2.nx (.map 23 es2)).nx.nat = h8.nx.nat := rfl
            have bm : beqV (.m h2.nx) (.m h2.nx) = true := K.beq_refl _
            have s9 : Sk 2 qE (h8.put h2.nx (.map 23 es2)) q (kyI M) := mq8.sk.put (mq8.own.notIn (by omega)) _
            have hal9 : Sk 2 qE (h8.put h2.nx (.map 23 es2)) al (arI (rat (gR (arI g)))) := (hal.grow hc2 mq8.gr).put (fun off n sz e => by have := hal.lt hc2 _ _ _ _ e; omega) _
            simp (disch := omega) only [f21_r10, w_reg, w_draw, w_seq, w_cond, seqK_n, ckB_b, cbB_b, true_and, x_nil, x_mupd, kx, kg, xg_nil, xg_mv, xg_pick, xg_ldn, xg_bin, xg_look, xg_iads, xd_cons, fresh_nil, stK_n, stK_s, stay_nil, rvP_ok, okv_some, ev_t, ev_c, getV_some, putD_some, putD_none, bin_add, pick_b, of0, of1, getK_set, Nat.reduceEqDiff, ↓reduceIte, g8, g9, g10, g11, g12, pa2, pb2, qa2, qb2, hlk2, mp1, fw64]
            have hc9 := g9_.hc hc8
            generalize h8.put h2.nx (.map 23 es2) = h9 at *
            obtain ⟨pq3, pa3, pb3⟩ := hal9.at2 hkl
            have pb3 : loadV h9 pq3 (many? 2) = .ok (aV p) h9 := by rw [arI_at hp hkl] at pb3; exact pb3
            have cp : cellsN 2 (aV p) = some [.i .i64 (p.1 : Int), .i .i64 (p.2 : Int)] := rfl
            have sp : setMany [V.i .i64 0, V.i .i64 0] 0 [V.i .i64 (p.1 : Int), V.i .i64 (p.2 : Int)] = [V.i .i64 (p.1 : Int), V.i .i64 (p.2 : Int)] := rfl
            obtain ⟨q', h10, a1, s1, o1, gr10, _⟩ := Sk.push (b := h2.nx.nat + 1) qE_len (by omega) (x := toI p) s9 mq8.own (by omega) hc9 (by rw [kyI_len]; omega)
            have a1' : appV 2 (h9.new (.cells (1 * 2) [.i .i64 (p.1 : Int), .i .i64 (p.2 : Int)])) q (.sl h9.nx 0 1 2) = .ok q' h10 := a1
            simp (disch := omega) only [f21_r11, f21_r12, w_reg, seqK_n, atK_n, loopK_n, x_nil, x_mv, x_as, x_bslice, x_ldn, x_bin, x_iads, x_app, kx, rvP_ok, okv_some, ev_t, ev_c, getV_some, putD_some, bin_add, oGet_s, of0, of1, getK_set, Nat.reduceEqDiff, ↓reduceIte, fill_0, g8, g10, g12, pa3, pb3, fill_c, cp, sp, a1', fw64]
            have hky : kyI (M ++ [(p, d + 1)]) = kyI M ++ [toI p] := by unfold kyI kyD; simp
            exact ⟨(kk + 1, M ++ [(p, d + 1)]), by simp only; omega, by simp only; omega, by simp only [List.length_append]; omega, hr.add hx hp hnin hf, q', ⟨mq8.gr.trans (g9_.trans (gr10.low (by omega))), gr10.hc hc9, mp2.same (gr10.old _ (by omega)), by rw [hky]; exact s1, o1⟩, by simp (disch := omega) only [getK_set, Nat.reduceEqDiff, ↓reduceIte, g1, g8, g9, g11, and_self, Int.natCast_add, Int.natCast_one]⟩
      · have d1 : decide ((kk : Int) < ((arw (rat (gR (arI g)))).length : Int)) = false := decide_eq_false (by omega)
        have ek : kk = (arw (rat (gR (arI g)))).length := by omega
        subst ek
        simp (disch := omega) only [f21_r7, f21_r13, w_reg, w_seq, w_cond, w_exit, seqK_n, seqK_e, atK_n, atK_e, loopK_n, loopK_e, ckB_b, cbB_b, true_and, x_nil, x_mv, x_as, x_bin, x_len, kx, rvP_ok, okv_some, ev_t, ev_c, getV_some, putD_some, bin_add, bin_lss, of1, getK_set, Nat.reduceEqDiff, ↓reduceIte, Bool.false_eq_true, g8, g11, g12, hall, d1, fw64]
        exact ⟨(i + 1, M), by simp only; omega, by simp only; omega, hr.next hlt, q, mq, by simp (disch := omega) only [getK_set, Nat.reduceEqDiff, ↓reduceIte, g1, g8, g9, g10, and_self, Int.natCast_add, Int.natCast_one]⟩
    · have d0 : decide ((i : Int) < (M.length : Int)) = false := decide_eq_false (by omega)
      have ei : i = M.length := by omega
      subst ei
      simp (disch := omega) only [f21_r5, w_reg, w_seq, w_cond, w_exit, seqK_n, seqK_e, loopK_e, ckB_b, cbB_b, true_and, x_nil, x_mv, x_bin, x_len, kx, rvP_ok, okv_some, ev_t, getV_some, putD_some, bin_lss, getK_set, Nat.reduceEqDiff, ↓reduceIte, Bool.false_eq_true, g8, g9, g10, g11, ql, d0]
      exact ⟨M, q, hr, mq, by simp (disch := omega) only []⟩
end
end Go.Ev
namespace Go.Ev
open Go Go.RowKit
def allL : Nat → List (List Bool)
  | 0 => [[]]
  | n + 1 => (allL n).flatMap fun l => [true :: l, false :: l]
theorem mem_allL : ∀ {n : Nat} {l : List Bool}, l ∈ allL n ↔ l.length = n
  | 0, l => by simp [allL]
  | n + 1, l => by
    unfold allL
    rw [List.mem_flatMap]
    constructor
    · rintro ⟨m, hm, hl⟩
      have := mem_allL.1 hm
      simp at hl
      rcases hl with rfl | rfl <;> simp [this]
    · intro h
      match l, h with
      | b :: m, h =>
        refine ⟨m, mem_allL.2 (by simpa using h), ?_⟩
        cases b <;> simp
theorem allL_len : ∀ n, (allL n).length = 2 ^ n
  | 0 => rfl
  | n + 1 => by
    have : ∀ M : List (List Bool), (M.flatMap fun l => [true :: l, false :: l]).length = M.length * 2 := fun M => by
      induction M with
      | nil => rfl
      | cons x M ih => rw [List.flatMap_cons, List.length_append, ih, List.length_cons]; simp; omega
    show ((allL n).flatMap _).length = _
    rw [this, allL_len n]; omega
theorem allL_nd : ∀ n, (allL n).Nodup
  | 0 => by simp [allL]
  | n + 1 => by
    have : ∀ M : List (List Bool), M.Nodup → (M.flatMap fun l => [true :: l, false :: l]).Nodup := fun M => by
      induction M with
      | nil => simp
      | cons x M ih =>
        intro h
        rw [List.nodup_cons] at h
        rw [List.flatMap_cons, List.nodup_append]
        refine ⟨by simp, ih h.2, fun a ha b hb e => h.1 ?_⟩
        subst e
        rw [List.mem_flatMap] at hb
        obtain ⟨y, hy, hb⟩ := hb
        simp at ha hb
        rcases ha with rfl | rfl <;> simp at hb <;> rw [hb] <;> exact hy
    exact this _ (allL_nd n)
theorem filter_two {α : Type} {p q r : α → Bool} : ∀ {l : List α}, (∀ x ∈ l, (p x = true ↔ q x = true ∨ r x = true) ∧ ¬ (q x = true ∧ r x = true)) → (l.filter p).length = (l.filter q).length + (l.filter r).length
  | [], _ => rfl
  | x :: l, h => by
    have ih := filter_two (p := p) (q := q) (r := r) (l := l) fun y hy => h y (List.mem_cons_of_mem _ hy)
    obtain ⟨h1, h2⟩ := h x (by simp)
    cases hq : q x <;> cases hr : r x <;> cases hp : p x <;> simp_all <;> omega
open Classical in
/-- Is it an order with these arrows? -/
noncomputable def hasB (G : List Bool) (C : Nat → Nat → Prop) (F : List Bool) : Bool := decide (Ord (Er G) (Er F) ∧ ∀ a b, C a b → Er F a b)
open Classical in
theorem hasB_iff {G : List Bool} {C : Nat → Nat → Prop} {F : List Bool} : hasB G C F = true ↔ Ord (Er G) (Er F) ∧ ∀ a b, C a b → Er F a b := by unfold hasB; exact decide_eq_true_iff
/-- The number of orders of the graph that have these arrows. -/
noncomputable def nOrd (G : List Bool) (C : Nat → Nat → Prop) : Nat := ((allL 49).filter (hasB G C)).length
section
variable {G : List Bool} {C C' : Nat → Nat → Prop}
theorem nOrd_le : nOrd G C ≤ 2 ^ 49 := by
  unfold nOrd
  rw [← allL_len]
  exact List.length_filter_le _ _
theorem nOrd_congr (h : ∀ a b, C a b ↔ C' a b) : nOrd G C = nOrd G C' := by
  have : C = C' := funext fun a => funext fun b => propext (h a b)
  rw [this]
theorem nOrd_zero (h : ∀ F : List Bool, Ord (Er G) (Er F) → (∀ a b, C a b → Er F a b) → False) : nOrd G C = 0 := by
  unfold nOrd
  rw [List.length_eq_zero_iff, List.filter_eq_nil_iff]
  intro F _ hF
  obtain ⟨h1, h2⟩ := hasB_iff.1 hF
  exact h F h1 h2
theorem nOrd_one {D : List Bool} (hD : D.length = 49) (o : Ord (Er G) (Er D)) (hC : ∀ a b, C a b ↔ Er D a b) : nOrd G C = 1 := by
  unfold nOrd
  have key : ∀ F, F ∈ (allL 49).filter (hasB G C) ↔ F ∈ [D] := fun F => by
    rw [List.mem_filter, List.mem_singleton, mem_allL]
    constructor
    · rintro ⟨h1, h2⟩
      obtain ⟨h3, h4⟩ := hasB_iff.1 h2
      refine rel_ext h1 hD fun a b _ _ => ?_
      rw [Bool.eq_iff_iff]
      constructor
      · intro h
        rcases o.all _ _ (h3.sub _ _ h) with h5 | h5
        · exact h5
        · exact absurd h (h3.one _ _ (h4 _ _ ((hC _ _).2 h5)))
      · exact fun h => h4 _ _ ((hC _ _).2 h)
    · rintro rfl
      exact ⟨hD, hasB_iff.2 ⟨o, fun a b h => (hC a b).1 h⟩⟩
  have nd : ((allL 49).filter (hasB G C)).Nodup := List.Pairwise.filter _ (allL_nd 49)
  have h1 := nodup_leO nd (fun x hx => (key x).1 hx)
  have h2 := nodup_leO (l := [D]) (by simp) (fun x hx => (key x).2 hx)
  exact Nat.le_antisymm (by simpa using h1) (by simpa using h2)
theorem nOrd_split (g : Gr (Er G)) {a b : Nat} (hab : Er G a b) : nOrd G C = nOrd G (fun c d => C c d ∨ Rch (Er G) a b c d) + nOrd G (fun c d => C c d ∨ Rch (Er G) b a c d) := by
  unfold nOrd
  refine filter_two fun F _ => ?_
  simp only [hasB_iff]
  constructor
  · constructor
    · rintro ⟨o, h⟩
      rcases o.all _ _ hab with h1 | h1
      · exact .inl ⟨o, fun c d h2 => h2.elim (h c d) fun h2 => o.cls g h1 h2⟩
      · exact .inr ⟨o, fun c d h2 => h2.elim (h c d) fun h2 => o.cls g h1 h2⟩
    · rintro (⟨o, h⟩ | ⟨o, h⟩) <;> exact ⟨o, fun c d h2 => h c d (.inl h2)⟩
  · rintro ⟨⟨o, h⟩, ⟨_, h'⟩⟩
    exact o.one _ _ (h a b (.inr .refl)) (h' b a (.inr .refl))
/-- The program's recursion: what is chosen, and what is left. -/
structure CtI (G C D : List Bool) : Prop where
  lc : C.length = 49
  ld : D.length = 49
  sub : ∀ a b, Er C a b → Er G a b
  sd : ∀ a b, Er D a b → Er G a b
  all : ∀ a b, Er G a b → Er D a b ∨ Er C a b ∨ Er C b a
theorem CtI.zero {C : List Bool} (_hG : G.length = 49) (hcv : cvB (woR G (turnR C)) (spR C) = false) : nOrd G (Er C) = 0 := by
  refine nOrd_zero fun F o h => ?_
  have hn : ¬ cvB (woR G (turnR C)) (spR C) = true := by rw [hcv]; simp
  have hwl : (woR G (turnR C)).length = 49 := rl_len
  rw [cvB_iff hwl] at hn
  refine hn fun a c hac => ?_
  obtain ⟨b, h1, h2⟩ := spR_iff.1 hac
  have hF : Er F a c := o.tr _ _ _ (h _ _ h1) (h _ _ h2)
  exact woR_iff.2 ⟨o.sub _ _ hF, fun h3 => o.one _ _ hF (h _ _ (turnR_iff.1 h3))⟩
theorem CtI.one {C D : List Bool} (k : CtI G C D) (g : Gr (Er G)) (hcv : cvB (woR G (turnR C)) (spR C) = true) (hf : frO D = none) : nOrd G (Er C) = 1 := by
  have hD := frO_none hf
  have hwl : (woR G (turnR C)).length = 49 := rl_len
  rw [cvB_iff hwl] at hcv
  have st : ∀ a b c, Er C a b → Er C b c → Er G a c ∧ ¬ Er C c a := fun a b c h1 h2 => by
    have := woR_iff.1 (hcv a c (spR_iff.2 ⟨b, h1, h2⟩))
    exact ⟨this.1, fun h => this.2 (turnR_iff.2 h)⟩
  have all : ∀ a b, Er G a b → Er C a b ∨ Er C b a := fun a b h => (k.all a b h).elim (fun h => absurd h (hD a b)) id
  refine nOrd_one k.lc ⟨k.sub, all, fun a b h1 h2 => g.irr a (st a b a h1 h2).1, fun a b c h1 h2 => ?_⟩ fun _ _ => Iff.rfl
  have := st a b c h1 h2
  exact (all a c this.1).elim id fun h => absurd h this.2
theorem CtI.cls {C D : List Bool} (_k : CtI G C D) {x : Nat × Nat} (hx : Er G x.1 x.2) {a b : Nat} : Er (jn2 C (clsR G x)) a b ↔ Er C a b ∨ Rch (Er G) x.1 x.2 a b := by
  show rat _ a b = true ↔ _
  rw [jn2_iff, clsR_iff (rat_lt hx)]; exact Iff.rfl
theorem CtI.next {C D : List Bool} (k : CtI G C D) (g : SymR G) {x y : Nat × Nat} (hx : Er D x.1 x.2) (hy : y = x ∨ y = swN x) : CtI G (jn2 C (clsR G y)) (woR D (jn2 (clsR G x) (turnR (clsR G x)))) := by
  have hxG := k.sd _ _ hx
  have hyG : Er G y.1 y.2 := by rcases hy with rfl | rfl; exact hxG; exact g.gr.sym _ _ hxG
  have l1 : (jnR [C, clsR G y]).length = 49 := rl_len
  have l2 : (woR D (jn2 (clsR G x) (turnR (clsR G x)))).length = 49 := rl_len
  refine ⟨l1, l2, fun a b h => ?_, fun a b h => k.sd _ _ (woR_iff.1 h).1, fun a b h => ?_⟩
  · exact ((k.cls hyG).1 h).elim (k.sub a b) fun h => h.edge hyG
  · rcases k.all a b h with h1 | h1 | h1
    · by_cases h2 : rat (jn2 (clsR G x) (turnR (clsR G x))) a b = true
      · right
        rw [jn2_iff, turnR_iff] at h2
        have both : Rch (Er G) x.1 x.2 a b ∨ Rch (Er G) x.1 x.2 b a := h2.imp (clsR_iff (rat_lt hxG)).1 (clsR_iff (rat_lt hxG)).1
        rcases hy with rfl | rfl
        · exact both.imp (fun h => (k.cls hyG).2 (.inr h)) (fun h => (k.cls hyG).2 (.inr h))
        · exact both.symm.imp (fun h => (k.cls hyG).2 (.inr (h.inv g.gr))) (fun h => (k.cls hyG).2 (.inr (h.inv g.gr)))
      · exact .inl (woR_iff.2 ⟨h1, h2⟩)
    · exact .inr (.inl ((k.cls hyG).2 (.inl h1)))
    · exact .inr (.inr ((k.cls hyG).2 (.inl h1)))
theorem woR_cnt {L M : List Bool} (hL : L.length = 49) {x : Nat × Nat} (hx : rat L x.1 x.2 = true) (hm : rat M x.1 x.2 = true) : cntT (woR L M) < cntT L := by
  have e : ∀ (M : List Bool) (hM : M.length = 49) (i : Nat) (hi : i < M.length), M[i] = rat M (i / 7) (i % 7) := fun M hM i hi => by
    unfold rat
    rw [decide_eq_true (show i / 7 < 7 by omega), decide_eq_true (show i % 7 < 7 by omega), show 7 * (i / 7) + i % 7 = i by omega, List.getD_eq_getElem?_getD, List.getElem?_eq_getElem hi]
    rfl
  have hN : (woR L M).length = 49 := rl_len
  refine (cntT_lt (by rw [hN, hL]) fun i h1 h2 hi => ?_).2 fun eq => ?_
  · rw [e _ hN] at hi
    rw [e _ hL]
    exact (woR_iff.1 hi).1
  · have h1 : rat (woR L M) x.1 x.2 = true := by rw [eq]; exact hx
    exact (woR_iff.1 h1).2 hm
theorem CtI.split {C D : List Bool} (k : CtI G C D) (g : SymR G) {x : Nat × Nat} (hx : Er D x.1 x.2) : nOrd G (Er C) = nOrd G (Er (jn2 C (clsR G x))) + nOrd G (Er (jn2 C (clsR G (swN x)))) := by
  have hxG := k.sd _ _ hx
  rw [nOrd_split g.gr hxG, nOrd_congr (fun a b => (k.cls hxG (a := a) (b := b)).symm), nOrd_congr (C := fun c d => Er C c d ∨ Rch (Er G) x.2 x.1 c d) (fun a b => (k.cls (x := swN x) (g.gr.sym _ _ hxG) (a := a) (b := b)).symm)]
end
end Go.Ev
