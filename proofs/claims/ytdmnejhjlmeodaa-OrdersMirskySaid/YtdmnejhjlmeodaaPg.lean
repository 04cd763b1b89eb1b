/-
  Orders: the list of a relation's arrows; an order of a graph (oriented).
  Orders (plain): lists of arrows are graphs, and orders.
  Orders: Has, joined of the reference; Orient; CheckOrder.
  Orders (plain): layers of an order.
  Orders: layers, and a chain.
  Orders: the greatest; a longest chain; Chain, Layers.
  Orders (plain): colours.
-/
import Derived.Test.YtdmnejhjlmeodaaPf
namespace Go.Ev
open Go Go.RowKit
noncomputable def f60_r0 : List EOper := [⟨(some (K.ofNat 1)), none, .box 49 (.t (K.ofNat 0))⟩, ⟨(some (K.ofNat 2)), none, .alloc 49 (List.replicate 49 (.b false))⟩, ⟨(some (K.ofNat 3)), none, .as (.c (.b false))⟩]
noncomputable def f60_r1 : List EOper := [⟨(some (K.ofNat 4)), none, .as (.c .sn)⟩]
noncomputable def f60_r2 : List EOper := [⟨(some (K.ofNat 10)), none, .ldn 49 (.t (K.ofNat 1))⟩, ⟨(some (K.ofNat 11)), none, .call (.c (.fn (K.ofNat 87) [])) [(.t (K.ofNat 10))]⟩, ⟨(some (K.ofNat 9)), none, .mv (.t (K.ofNat 11))⟩, ⟨(some (K.ofNat 12)), none, .ext (.t (K.ofNat 9)) 0⟩, ⟨(some (K.ofNat 13)), none, .ext (.t (K.ofNat 9)) 1⟩, ⟨(some (K.ofNat 5)), none, .alloc 2 [(.i .i64 (.ofNat 0)), (.i .i64 (.ofNat 0))]⟩, ⟨none, none, .st 2 (.t (K.ofNat 5)) (.t (K.ofNat 12))⟩, ⟨(some (K.ofNat 6)), none, .as (.t (K.ofNat 13))⟩]
noncomputable def f60_r3 : List EOper := [⟨(some (K.ofNat 14)), none, .mv (.t (K.ofNat 6))⟩]
noncomputable def f60_r4 : List EOper := [⟨(some (K.ofNat 20)), none, .ldn 49 (.t (K.ofNat 1))⟩, ⟨(some (K.ofNat 21)), none, .ldn 2 (.t (K.ofNat 5))⟩, ⟨(some (K.ofNat 22)), none, .call (.c (.fn (K.ofNat 57) [])) [(.t (K.ofNat 20)), (.t (K.ofNat 21))]⟩, ⟨(some (K.ofNat 7)), none, .alloc 49 (List.replicate 49 (.b false))⟩, ⟨none, none, .st 49 (.t (K.ofNat 7)) (.t (K.ofNat 22))⟩]
noncomputable def f60_r5 : List EOper := [⟨(some (K.ofNat 23)), none, .ldn 49 (.t (K.ofNat 7))⟩, ⟨(some (K.ofNat 24)), none, .call (.c (.fn (K.ofNat 70) [])) [(.t (K.ofNat 23))]⟩, ⟨(some (K.ofNat 8)), none, .alloc 49 (List.replicate 49 (.b false))⟩, ⟨none, none, .st 49 (.t (K.ofNat 8)) (.t (K.ofNat 24))⟩]
noncomputable def f60_r6 : List EOper := [⟨(some (K.ofNat 25)), none, .ldn 49 (.t (K.ofNat 7))⟩, ⟨(some (K.ofNat 26)), none, .ldn 49 (.t (K.ofNat 8))⟩, ⟨(some (K.ofNat 27)), none, .eqk (.many (List.replicate 49 none)) false (.t (K.ofNat 25)) (.t (K.ofNat 26))⟩]
noncomputable def f60_r7 : List EOper := [⟨(some (K.ofNat 28)), none, .build (List.replicate 49 (.b false)) []⟩, ⟨none, none, .st 49 (.t (K.ofNat 2)) (.t (K.ofNat 28))⟩, ⟨(some (K.ofNat 3)), none, .as (.c (.b false))⟩]
noncomputable def f60_r8 : List EOper := [⟨(some (K.ofNat 29)), none, .mv (.t (K.ofNat 4))⟩, ⟨(some (K.ofNat 30)), none, .ldn 49 (.t (K.ofNat 7))⟩, ⟨(some (K.ofNat 31)), none, .bslice 1 49 (List.replicate 49 (.b false)) [(0, 49, (.t (K.ofNat 30)))]⟩, ⟨(some (K.ofNat 32)), none, .app 49 (.t (K.ofNat 29)) (.t (K.ofNat 31))⟩, ⟨(some (K.ofNat 4)), none, .as (.t (K.ofNat 32))⟩]
noncomputable def f60_r9 : List Stage := [⟨[⟨(some (K.ofNat 33)), none, .ldn 49 (.t (K.ofNat 1))⟩, ⟨(some (K.ofNat 34)), none, .ldn 49 (.t (K.ofNat 7))⟩, ⟨(some (K.ofNat 35)), none, .ldn 49 (.t (K.ofNat 8))⟩, ⟨(some (K.ofNat 36)), none, .bslice 2 49 (List.replicate 98 (.b false)) [(0, 49, (.t (K.ofNat 34))), (49, 49, (.t (K.ofNat 35)))]⟩], [], (some ⟨(some (K.ofNat 37)), none, .call (.c (.fn (K.ofNat 69) [])) [(.t (K.ofNat 36))]⟩), [(K.ofNat 36)]⟩, ⟨[], [⟨(some (K.ofNat 33)), none, .ldn 49 (.t (K.ofNat 1))⟩], (some ⟨(some (K.ofNat 38)), none, .call (.c (.fn (K.ofNat 81) [])) [(.t (K.ofNat 33)), (.t (K.ofNat 37))]⟩), []⟩, ⟨[], [], (some ⟨none, none, .st 49 (.t (K.ofNat 1)) (.t (K.ofNat 38))⟩), []⟩, ⟨[], [], none, []⟩]
noncomputable def f60_r10 : List EOper := [⟨(some (K.ofNat 39)), none, .ldn 2 (.t (K.ofNat 5))⟩]
noncomputable def f60_r11 : List EOper := [⟨(some (K.ofNat 5)), none, .alloc 2 [(.i .i64 (.ofNat 0)), (.i .i64 (.ofNat 0))]⟩, ⟨none, none, .st 2 (.t (K.ofNat 5)) (.t (K.ofNat 39))⟩]
noncomputable def f60_r12 : List EOper := [⟨(some (K.ofNat 16)), none, .ldn 49 (.t (K.ofNat 1))⟩, ⟨(some (K.ofNat 17)), none, .call (.c (.fn (K.ofNat 87) [])) [(.t (K.ofNat 16))]⟩, ⟨(some (K.ofNat 15)), none, .mv (.t (K.ofNat 17))⟩, ⟨(some (K.ofNat 18)), none, .ext (.t (K.ofNat 15)) 0⟩, ⟨(some (K.ofNat 19)), none, .ext (.t (K.ofNat 15)) 1⟩, ⟨none, none, .st 2 (.t (K.ofNat 5)) (.t (K.ofNat 18))⟩, ⟨(some (K.ofNat 6)), none, .as (.t (K.ofNat 19))⟩]
noncomputable def f60_l0 : EC := (.seq (.seq (.reg f60_r3) (.cond (.t (K.ofNat 14)) .skip (.exit 0))) (.seq (.block 1 (.seq (.reg f60_r4) (.seq (.reg f60_r5) (.seq (.seq (.reg f60_r6) (.cond (.t (K.ofNat 27)) (.seq (.reg f60_r7) .ret) .skip)) (.seq (.reg f60_r8) (.draw f60_r9)))))) (.seq (.seq (.reg f60_r10) (.reg f60_r11)) (.reg f60_r12))))
noncomputable def f60_r13 : List EOper := [⟨(some (K.ofNat 40)), none, .mv (.t (K.ofNat 4))⟩, ⟨(some (K.ofNat 41)), none, .call (.c (.fn (K.ofNat 69) [])) [(.t (K.ofNat 40))]⟩, ⟨none, none, .st 49 (.t (K.ofNat 2)) (.t (K.ofNat 41))⟩, ⟨(some (K.ofNat 3)), none, .as (.c (.b true))⟩]
noncomputable def f60_c : EC := (.seq (.reg f60_r0) (.seq (.reg f60_r1) (.seq (.seq (.reg f60_r2) (.block 0 (.loop f60_l0))) (.seq (.reg f60_r13) .ret))))
noncomputable def f60 : EF := ⟨42, [.celln (K.ofNat 2) 49, .tmp (K.ofNat 3)], f60_c, none⟩
theorem f60_rs : f60.rs = [.celln (K.ofNat 2) 49, .tmp (K.ofNat 3)] := of_eq_true (eq_self _)
section
variable {fs : T EF} {h h' : H}
theorem f58_ret {L : List Bool} (k : Nat4 fs) (hL : L.length = 49) (hc : HC h) : Ret fs f58 [rV L] h fun r h' => Sk 2 qE h' r (arI (rat L)) ∧ Own h.nx.nat r ∧ Grow h.nx.nat h h' := by
  apply ret_of rfl
  show W fs none f58_c _ _ _
  unfold f58_c
  have c1 := rC_cells hL
  have n1 := nx_new h (.cells 49 (L.map V.b))
  have gr1 : Grow h.nx.nat h (h.new (.cells 49 (L.map V.b))) := Grow.new (Nat.le_refl _) _
  have e1 : (h.new (.cells 49 (L.map V.b))).get h.nx = rC L := get_new_same
  simp (disch := omega) only [f58_r0, w_reg, w_seq, seqK_n, x_nil, x_as, x_box, kx, rvP_ok, ev_t, ev_c, getV_some, putD_some, oGet_s, frame_1, getK_set, ↓reduceIte, c1]
  generalize h.new (.cells 49 (L.map V.b)) = h1 at *
  have n2 := nx_new h1 (.cells 1 [.sn])
  have gr2 : Grow h1.nx.nat h1 (h1.new (.cells 1 [.sn])) := Grow.new (Nat.le_refl _) _
  have e2 : (h1.new (.cells 1 [.sn])).get h1.nx = .cells 1 [.sn] := get_new_same
  simp (disch := omega) only [f58_r1, w_reg, w_seq, seqK_n, x_nil, x_alloc, putD_some]
  generalize h1.new (.cells 1 [.sn]) = h2 at *
  have hc2 := gr2.hc (gr1.hc hc)
  have l2 := rC_ldn hL ((gr2.old h.nx (by omega)).trans e1)
  simp (disch := omega) only [f58_r2, x_ldn, x_call, kx, rvP_ok, ev_t, ev_c, evs_nil, evs_cons, getV_some, putD_some, getK_set, Nat.reduceEqDiff, ↓reduceIte, l2]
  refine (callP_0 (ef := f84) k.c84 rfl (f84_ret hL)).mono ?_
  rintro r h3 ⟨rfl, rfl⟩
  have n3 := nx_new h2 (rC L)
  have gr3 : Grow h2.nx.nat h2 (h2.new (rC L)) := Grow.new (Nat.le_refl _) _
  have e3 : (h2.new (rC L)).get h2.nx = rC L := get_new_same
  have hc3 := gr3.hc hc2
  have e2' := (gr3.old h1.nx (by omega)).trans e2
  simp (disch := omega) only [w_block, seqK_n, x_nil, kx, putD_some]
  generalize h2.new (rC L) = h3 at *
  generalize hfr : T.set (K.ofNat 6) _ _ = fr
  have g3 : fr.get (K.ofNat 3) = some (.p h1.nx 0) := by rw [← hfr]; simp only [getK_set, Nat.reduceEqDiff, ↓reduceIte]
  have g6 : fr.get (K.ofNat 6) = some (.fn (K.ofNat 101) [.p h2.nx 0]) := by rw [← hfr]; simp only [getK_set, ↓reduceIte]
  clear hfr
  refine W_itr (by simp (disch := omega) only [ev_t, getV_some, g6]) (all_yieldsR hL k.c101) (fun id => id = h1.nx) (fun i h5 => ∃ u, h5.get h1.nx = .cells 1 [u] ∧ Sk 2 qE h5 u (((arw (rat L)).take i).map toI) ∧ Own (h3.nx.nat + 1) u) (fun _ _ => False) hc3 rfl (by rintro id rfl; omega)
    (fun h5 ks => (ks.old _ (by omega) (fun e => by have := congrArg K.nat e; omega)).trans e3) ?_ (fun _ _ _ h _ _ _ => h.elim) ?_ ?_ ?_ (fun _ _ _ h => h.elim)
  · rintro i h5 h6 ⟨u, q1, q2, q3⟩ hc5 hn ho
    exact ⟨u, by rw [ho _ (by omega) (kNe (by omega))]; exact q1, q2.same fun id off n sz e => ho _ (q2.lt hc5 _ _ _ _ e) (fun e2 => by have := q3 _ _ _ _ e; rw [e2] at this; omega), q3⟩
  · exact fun h5 hg => ⟨.sn, (hg.old _ (by omega)).trans e2', Sk.nil, Own.sn⟩
  · rintro i ⟨x, y⟩ h5 hx hk hn ⟨u, q1, q2, q3⟩
    obtain ⟨hst, gB, c7, n5⟩ := arr_var (h := h5) (x := x) (y := y)
    have b1 := (gB.old h1.nx (by omega)).trans q1
    have b2 := q2.grow hk.hc gB
    unfold f58_a0
    simp (disch := omega) only [f58_r3, w_reg, x_nil, x_alloc, x_st, kx, rvP_ok, ev_t, getV_some, putD_some, putD_none, of0, getK_set, Nat.reduceEqDiff, ↓reduceIte, hst, itA_n]
    generalize (h5.new (.cells 2 [.i .i64 0, .i .i64 0])).put h5.nx (.cells 2 [.i .i64 (x : Int), .i .i64 (y : Int)]) = h6 at *
    refine ⟨gB, fun h7 n7 hc7 o7 _ => ?_⟩
    have n7' : h7.nx.nat = h6.nx.nat := congrArg K.nat n7
    have l1 := ldn2 ((o7 _ (kNe hn).symm).trans c7)
    have b1' := (o7 h1.nx (kNe (by omega))).trans b1
    have l0 := load_p (off := 0) b1' (show nth [u] 0 = some u from rfl)
    have b2' : Sk 2 qE h7 u (((arw (rat L)).take i).map toI) := b2.same fun id off n sz e => o7 _ (fun e2 => by have := q3 _ _ _ _ e; rw [e2] at this; omega)
    have hlen : (((arw (rat L)).take i).map toI).length < 16777216 := by
      have := arI_len (g := rat L)
      unfold arI at this
      rw [List.length_map] at this ⊢
      rw [List.length_take]; omega
    obtain ⟨u', h8, a1, s1, o1, gr8, k8⟩ := Sk.push qE_len (by omega) (x := toI (x, y)) b2' q3 (by omega) hc7 hlen
    have a1' : appV 2 (h7.new (.cells (1 * 2) [.i .i64 (x : Int), .i .i64 (y : Int)])) u (.sl h7.nx 0 1 2) = .ok u' h8 := a1
    obtain ⟨k81, k82⟩ := k8 h1.nx (by omega) (q3.notIn (by omega))
    have hav : V.agg [.i .i64 (x : Int), .i .i64 (y : Int)] = pV (toI (x, y)) := rfl
    have cp : cellsN 2 (pV (toI (x, y))) = some [.i .i64 (x : Int), .i .i64 (y : Int)] := rfl
    have sp : setMany [V.i .i64 0, V.i .i64 0] 0 [V.i .i64 (x : Int), V.i .i64 (y : Int)] = [V.i .i64 (x : Int), V.i .i64 (y : Int)] := rfl
    have s8 : storeV h8 1 (.p h1.nx 0) u' = .ok undefV (h8.put h1.nx (.cells 1 [u'])) := st1 (k81.trans b1') s1.one
    have hbq := q2.beq
    unfold f58_b0
    simp (disch := omega) only [f58_r4, w_draw, w_block, true_and, x_nil, x_call, x_app, kx, kg, xg_nil, xg_ld, xg_ldn, xg_bslice, xd_cons, fresh_nil, stK_s, stay_nil, stay_cons, stay_ld, rvP_ok, ev_t, ev_c, evs_nil, evs_cons, getV_some, putD_some, oGet_s, of0, Option.some.injEq, exists_eq_left', getK_set, Nat.reduceEqDiff, ↓reduceIte, fill_0, g3, l0, l1, hav, k.n78, fill_c, cp, sp, hc7.dead]
    refine ⟨fresh_one (n := 1) (sz := 2) (by simp (disch := omega) only [getK_set, ↓reduceIte]), ?_⟩
    have gL : Grow h7.nx.nat h7 (h7.new (.cells (1 * 2) [.i .i64 (x : Int), .i .i64 (y : Int)])) := Grow.new (Nat.le_refl _) _
    have l0' := load_p (off := 0) ((gL.old h1.nx (by omega)).trans b1') (show nth [u] 0 = some u from rfl)
    simp (disch := omega) only [atK_n, true_and, x_nil, x_st, kx, xg_nil, xd_cons, fresh_nil, stK_n, stK_s, stay_nil, again_ok, rvP_ok, ev_t, getV_some, putD_some, putD_none, getK_set, Nat.reduceEqDiff, ↓reduceIte, g3, l0', hbq, a1', s8, itC_n, and_self]
    have g8n := gr8.nx
    refine ⟨⟨u', get_put_same, ?_, o1⟩, ?_⟩
    · rw [List.take_add_one, hx]
      simp only [Option.toList_some, List.map_append, List.map_cons, List.map_nil]
      exact s1.put k82 _
    · have h0 : Kr (fun id => id = h1.nx) h3.nx h7 h8 := Kr.of hc7 gr8 (by omega)
      exact h0.put (by omega) (.inl rfl) _
  · rintro h5 ⟨u, q1, q2, q3⟩ hk hn
    rw [List.take_length] at q2
    have l5 := load_p (off := 0) q1 (show nth [u] 0 = some u from rfl)
    simp (disch := omega) only [f58_r5, f58_rs, w_reg, w_seq, w_ret, seqK_n, atK_n, retK_r, x_nil, x_as, x_ld, kx, rvP_ok, ev_t, getV_some, putD_some, oGet_s, readRs_nil, readRs_t, retV_1, Option.some.injEq, exists_eq_left', getK_set, ↓reduceIte, g3, l5]
    exact ⟨q2, q3.low (by omega), gr1.trans ((gr2.low (by omega)).trans ((gr3.low (by omega)).trans (hk.toGrow (by rintro id rfl; omega) (by omega))))⟩
/-! ### Slices of relations that are gathered -/
noncomputable def eR (L : List Bool) : List V := (rl (rat L)).map V.b
theorem eR_len : ∀ x, (eR x).length = 49 := fun x => by simp [eR, rl_len]
theorem eR_eq {L : List Bool} (hL : L.length = 49) : eR L = L.map V.b := by unfold eR; rw [rl_rat hL]
theorem Rs.ofSk {v : V} {Ls : List (List Bool)} (s : Sk 49 eR h v Ls) (hl : ∀ L ∈ Ls, L.length = 49) : Rs h v Ls := by
  refine ⟨s.len, fun i hi => ?_⟩
  rcases s with ⟨_, rfl⟩ | ⟨id, off, m, cs, rfl, h1, h2, h3, h4⟩
  · simp at hi
  · have hh := flat_drop eR_len Ls i hi
    rw [← h4, List.drop_take, List.take_take, List.drop_drop, Nat.min_eq_left (by omega)] at hh
    refine ⟨id, off + i * 49, m, cs, fun h1 => by rw [iads_sl, idx_n hi], h1, ?_, ?_⟩
    · have : (i + 1) * 49 ≤ Ls.length * 49 := Nat.mul_le_mul_right _ hi
      omega
    · rw [takeN_eq, dropN_eq, hh, eR_eq (hl _ (List.getElem_mem hi))]
def f60_I (h0 : H) (id1 id2 : K) (L0 : List Bool) (s : List Bool × List (List Bool)) (fr : Fr) (h1 : H) : Prop := SymR s.1 ∧ (∀ C ∈ s.2, C.length = 49) ∧ cntT s.1 + s.2.length ≤ 49 ∧ (∀ r, OrS s.1 r → OrS L0 (r.map (s.2 ++ ·))) ∧ Kp id1 h0 h1 ∧ h1.get id1 = rC s.1 ∧
  ∃ u id5 x, Sk 49 eR h1 u s.2 ∧ Own (h0.nx.nat) u ∧ h0.nx.nat ≤ id5.nat ∧ id5.nat < h1.nx.nat ∧ NotIn id5 u ∧ h1.get id5 = .cells 2 [.i .i64 ((x : Nat × Nat).1 : Int), .i .i64 (x.2 : Int)] ∧ (∀ y, frO s.1 = some y → x = y) ∧ fr.get (K.ofNat 1) = some (.p id1 0) ∧ fr.get (K.ofNat 2) = some (.p id2 0) ∧ fr.get (K.ofNat 4) = some (u) ∧ fr.get (K.ofNat 5) = some (.p id5 0) ∧ fr.get (K.ofNat 6) = some (.b (frO s.1).isSome)
def frX (L : List Bool) : Nat × Nat := (frO L).getD (0, 0)
theorem frV_eq {L : List Bool} : frV L = .tup [aV (frX L), .b (frO L).isSome] := by
  unfold frV frX
  cases frO L <;> rfl
theorem zero49 : (V.agg (List.replicate 49 (.b false))) = rV (rl fun _ _ => false) := rfl
theorem set49a {L : List Bool} (hL : L.length = 49) : setMany (List.replicate 49 (.b false)) 0 (L.map V.b) = L.map V.b := by
  rw [setMany_eq _ _ _ (by simp [hL])]; simp [hL]
theorem f60_ret {L0 : List Bool} (k : Nat4 fs) (sy : SymR L0) (hc : HC h) : Ret fs f60 [rV L0] h fun r _ => r = orV L0 := by
  have hL := sy.len
  apply ret_of rfl
  show W fs none f60_c _ _ _
  unfold f60_c
  have c1 := rC_cells hL
  have n1 := nx_new h (.cells 49 (L0.map V.b))
  have gr1 : Grow h.nx.nat h (h.new (.cells 49 (L0.map V.b))) := Grow.new (Nat.le_refl _) _
  have e1 : (h.new (.cells 49 (L0.map V.b))).get h.nx = rC L0 := get_new_same
  simp (disch := omega) only [f60_r0, w_reg, w_seq, seqK_n, x_nil, x_as, x_alloc, x_box, kx, rvP_ok, ev_t, ev_c, getV_some, putD_some, oGet_s, frame_1, getK_set, ↓reduceIte, c1]
  generalize h.new (.cells 49 (L0.map V.b)) = h1 at *
  have n2 := nx_new h1 (.cells 49 (List.replicate 49 (.b false)))
  have gr2 : Grow h1.nx.nat h1 (h1.new (.cells 49 (List.replicate 49 (.b false)))) := Grow.new (Nat.le_refl _) _
  have e2 : (h1.new (.cells 49 (List.replicate 49 (.b false)))).get h1.nx = rC (rl fun _ _ => false) := by rw [rl_false]; exact get_new_same
  generalize h1.new (.cells 49 (List.replicate 49 (.b false))) = h2 at *
  have hc2 := gr2.hc (gr1.hc hc)
  have e1' := (gr2.old h.nx (by omega)).trans e1
  have e2' := e2
  have l2 := rC_ldn hL e1'
  obtain ⟨hst, gB, c7, n5⟩ := arr_var (h := h2) (x := (frX L0).1) (y := (frX L0).2)
  replace hst : storeV (h2.new (.cells 2 [.i .i64 0, .i .i64 0])) 2 (.p h2.nx 0) (aV (frX L0)) = _ := hst
  simp (disch := omega) only [f60_r1, f60_r2, w_reg, w_seq, w_block, seqK_n, x_nil, x_mv, x_as, x_alloc, x_ldn, x_st, x_ext, x_call, kx, rvP_ok, okv_some, ev_t, ev_c, evs_nil, evs_cons, getV_some, putD_some, putD_none, onTup_t, nth0, nth1, of0, getK_set, Nat.reduceEqDiff, ↓reduceIte, l2, k.n87 _ _ _ hL, frV_eq, hst]
  generalize (h2.new (.cells 2 [.i .i64 0, .i .i64 0])).put h2.nx (.cells 2 [.i .i64 ((frX L0).1 : Int), .i .i64 ((frX L0).2 : Int)]) = h3 at *
  have k3 : Kp h.nx h2 h3 := Kp.of hc2 gB (Nat.le_refl _)
  refine W_loop (f60_I h2 h.nx h1.nx L0) (fun s => cntT s.1) ?_ (L0, []) ⟨sy, fun C hC => (by cases hC), by have := cntT_le hL; simpa using this, fun r hr => by cases r <;> exact hr, k3, (gB.old h.nx (by omega)).trans e1', .sn, h2.nx, frX L0, Sk.nil, Own.sn, Nat.le_refl _, by omega, NotIn.sn, c7, fun y hy => by unfold frX; rw [hy]; rfl, by simp (disch := omega) only [getK_set, Nat.reduceEqDiff, ↓reduceIte, and_self]⟩
  clear c7 hst n5 gB k3 h3
  rintro ⟨L, P⟩ fr h3 ⟨sL, hP, hcn, hO, hk, hB, u, id5, x, hu, hou, h5a, h5b, h5n, e5, hx, g1, g2, g4, g5, g6⟩
  simp only at sL hP hcn hO hB hu hx g6
  have hkn := hk.nx
  have hLl := sL.len
  unfold f60_l0
  cases hf : frO L with
  | none =>
    rw [hf] at g6
    have g6 : fr.get (K.ofNat 6) = some (.b false) := g6
    have hor : orO L0 = some P := by
      have := orO_eq (hO _ (.done hf))
      simpa using this
    simp (disch := omega) only [f60_r3, f60_r13, w_reg, w_seq, w_cond, w_exit, seqK_n, seqK_e, atK_e, loopK_e, ckB_b, cbB_b, true_and, x_nil, x_mv, x_call, ev_t, ev_c, evs_nil, evs_cons, getV_some, putD_some, getK_set, Nat.reduceEqDiff, ↓reduceIte, Bool.false_eq_true, g4, g6]
    have hRs : Rs h3 u P := Rs.ofSk hu hP
    refine (callP_0 (ef := f69) k.c69 rfl (f69_ret k.c84 k.c101 hRs hP (by omega) hk.hc)).mono ?_
    rintro r h4 ⟨rfl, gr4⟩
    have hJ : (jnR P).length = 49 := rl_len
    have s4 := rC_stn hJ rl_len (M := rl fun _ _ => false) ((gr4.old h1.nx (by omega)).trans ((hk.old h1.nx (by omega) (kNe (by omega)).symm).trans e2'))
    have hr4 : readP (h4.put h1.nx (rC (jnR P))) (.p h1.nx 0) (many? 49) = some (rV (jnR P)) := rC_read hJ get_put_same
    simp (disch := omega) only [f60_rs, w_ret, seqK_n, retK_r, x_nil, x_as, x_st, kx, rvP_ok, ev_t, ev_c, getV_some, putD_some, putD_none, oGet_s, readRs_nil, readRs_t, readRs_n, retV_2, Option.some.injEq, exists_eq_left', getK_set, Nat.reduceEqDiff, ↓reduceIte, g2, s4, hr4]
    unfold orV
    rw [hor]
  | some y =>
    have hxy := hx y hf
    subst hxy
    rw [hf] at g6
    have g6 : fr.get (K.ofNat 6) = some (.b true) := g6
    obtain ⟨hx1, hx2, hxr⟩ := frO_some hf
    have l3 := rC_ldn hLl hB
    have l5 := ldn2 e5
    have hav : V.agg [.i .i64 (x.1 : Int), .i .i64 (x.2 : Int)] = aV x := rfl
    have hC : (clsR L x).length = 49 := clsR_len
    have hT : (turnR (clsR L x)).length = 49 := rl_len
    have hnx : nxR L x = woR L (jnR [clsR L x, turnR (clsR L x)]) := rfl
    have hct := nxR_cnt sL hf
    have hstep := fun r hne => OrS.step (r := r) hf hne
    have hclash := OrS.clash hf
    have sN := sL.next (x := x) ⟨hx1, hx2⟩
    have hcls := k.n57 L x
    generalize clsR L x = C at *
    have n4 := nx_new h3 (.cells 49 (List.replicate 49 (.b false)))
    have s4 := rC_stn hC rl_len (M := rl fun _ _ => false) (h := h3.new (.cells 49 (List.replicate 49 (.b false)))) (id := h3.nx) (by rw [rl_false]; exact get_new_same)
    have gr4 : Grow h3.nx.nat h3 ((h3.new (.cells 49 (List.replicate 49 (.b false)))).put h3.nx (rC C)) := (Grow.new (Nat.le_refl _) _).trans (Grow.put (Nat.le_refl _) (by omega) _)
    have n4' : ((h3.new (.cells 49 (List.replicate 49 (.b false)))).put h3.nx (rC C)).nx.nat = h3.nx.nat + 1 := n4
    have e4 : ((h3.new (.cells 49 (List.replicate 49 (.b false)))).put h3.nx (rC C)).get h3.nx = rC C := get_put_same
    simp (disch := omega) only [f60_r3, f60_r4, w_skip, w_reg, w_seq, w_cond, w_block, seqK_n, ckB_b, cbB_b, true_and, x_nil, x_mv, x_alloc, x_ldn, x_st, x_call, kx, rvP_ok, ev_t, ev_c, evs_nil, evs_cons, getV_some, putD_some, putD_none, getK_set, Nat.reduceEqDiff, ↓reduceIte, g1, g5, g6, l3, l5, hav, hcls _ _ hLl ⟨hx1, hx2⟩, s4]
    generalize (h3.new (.cells 49 (List.replicate 49 (.b false)))).put h3.nx (rC C) = h4 at *
    have l4 := rC_ldn hC e4
    have n6 := nx_new h4 (.cells 49 (List.replicate 49 (.b false)))
    have s6 := rC_stn hT rl_len (M := rl fun _ _ => false) (h := h4.new (.cells 49 (List.replicate 49 (.b false)))) (id := h4.nx) (by rw [rl_false]; exact get_new_same)
    have gr6 : Grow h4.nx.nat h4 ((h4.new (.cells 49 (List.replicate 49 (.b false)))).put h4.nx (rC (turnR C))) := (Grow.new (Nat.le_refl _) _).trans (Grow.put (Nat.le_refl _) (by omega) _)
    have n6' : ((h4.new (.cells 49 (List.replicate 49 (.b false)))).put h4.nx (rC (turnR C))).nx.nat = h4.nx.nat + 1 := n6
    have e6 : ((h4.new (.cells 49 (List.replicate 49 (.b false)))).put h4.nx (rC (turnR C))).get h4.nx = rC (turnR C) := get_put_same
    simp (disch := omega) only [f60_r5, w_reg, w_seq, seqK_n, x_nil, x_alloc, x_ldn, x_st, x_call, kx, rvP_ok, ev_t, ev_c, evs_nil, evs_cons, getV_some, putD_some, putD_none, getK_set, Nat.reduceEqDiff, ↓reduceIte, l4, k.n70 _ _ _ hC, s6]
    generalize (h4.new (.cells 49 (List.replicate 49 (.b false)))).put h4.nx (rC (turnR C)) = h5 at *
    have gA : Grow h3.nx.nat h3 h5 := gr4.trans (gr6.low (by omega))
    have hc5 := gA.hc hk.hc
    have lC := rC_ldn hC ((gr6.old h3.nx (by omega)).trans e4)
    have lT := rC_ldn hT e6
    have hq := keyEq_rel2 hC hT
    by_cases e : C = turnR C
    · have d0 : decide (C = turnR C) = true := decide_eq_true e
      have hor : orO L0 = none := by
        have := orO_eq (hO _ (hclash e))
        simpa using this
      rw [d0] at hq
      have s7 := rC_stn (L := rl fun _ _ => false) rl_len rl_len (M := rl fun _ _ => false) ((gA.old h1.nx (by omega)).trans ((hk.old h1.nx (by omega) (kNe (by omega)).symm).trans e2'))
      have hr7 : readP (h5.put h1.nx (rC (rl fun _ _ => false))) (.p h1.nx 0) (many? 49) = some (rV (rl fun _ _ => false)) := rC_read rl_len get_put_same
      simp (disch := omega) only [f60_r6, f60_r7, f60_rs, w_reg, w_seq, w_cond, w_ret, seqK_n, seqK_r, atK_r, loopK_r, ckB_b, cbB_b, true_and, retK_r, x_nil, x_as, x_build, x_ldn, x_st, x_eqk, kx, rvP_ok, okv_some, ev_t, ev_c, getV_some, putD_some, putD_none, oGet_s, readRs_nil, readRs_t, readRs_n, retV_2, Option.some.injEq, exists_eq_left', getK_set, Nat.reduceEqDiff, ↓reduceIte, fill_0, g2, lC, lT, hq, cond_false, zero49, s7, hr7]
      unfold orV
      rw [hor]
    · have d0 : decide (C = turnR C) = false := decide_eq_false e
      rw [d0] at hq
      have cC := rC_cells hC
      have cT := rC_cells hT
      have hu5 := hu.grow hk.hc gA
      obtain ⟨u', h7, a1, s1, o1, gr7, k7⟩ := Sk.push (b := h2.nx.nat) eR_len (by omega) (x := C) hu5 hou (by omega) hc5 (by omega)
      rw [eR_eq hC] at a1
      have hc7 := gr7.hc hc5
      have g7n := gr7.nx
      -- what is older than these parts
      have old7 : ∀ id : K, id.nat < h5.nx.nat → NotIn id u → h7.get id = h5.get id := fun id hi hn => (k7 id hi hn).1
      have nlt : ∀ id : K, id.nat < h2.nx.nat → NotIn id u := fun id hi => hou.notIn hi
      have nge : ∀ id : K, h3.nx.nat ≤ id.nat → NotIn id u := fun id hi off n sz ee => by have := hu.lt hk.hc _ _ _ _ ee; omega
      have e1_7 : h7.get h.nx = rC L := (old7 h.nx (by omega) (nlt _ (by omega))).trans ((gA.old h.nx (by omega)).trans hB)
      have eC_7 : h7.get h3.nx = rC C := (old7 h3.nx (by omega) (nge _ (Nat.le_refl _))).trans ((gr6.old h3.nx (by omega)).trans e4)
      have eT_7 : h7.get h4.nx = rC (turnR C) := (old7 h4.nx (by omega) (nge _ (by omega))).trans e6
      have e5_7 : h7.get id5 = .cells 2 [.i .i64 (x.1 : Int), .i .i64 (x.2 : Int)] := (old7 id5 (by omega) h5n).trans ((gA.old id5 (by omega)).trans e5)
      have gL : Grow h7.nx.nat h7 (h7.new (.cells (2 * 49) (C.map V.b ++ (turnR C).map V.b))) := Grow.new (Nat.le_refl _) _
      have lL7 := rC_ldn hLl e1_7
      have lC7 := rC_ldn hC eC_7
      have lT7 := rC_ldn hT eT_7
      simp (disch := omega) only [f60_r6, f60_r8, w_skip, w_reg, w_draw, w_seq, w_cond, seqK_n, ckB_b, cbB_b, true_and, x_nil, x_mv, x_as, x_bslice, x_ldn, x_eqk, x_app, kx, rvP_ok, okv_some, ev_t, getV_some, putD_some, oGet_s, getK_set, Nat.reduceEqDiff, ↓reduceIte, Bool.false_eq_true, fill_0, g4, lC, lT, hq, cond_false, fill_c, cC, set49a hC, a1]
      simp (disch := omega) only [f60_r9, true_and, x_call, kg, xg_nil, xg_ldn, xg_bslice, xd_cons, stK_s, stay_nil, rvP_ok, ev_t, ev_c, evs_nil, evs_cons, getV_some, putD_some, oGet_s, Option.some.injEq, exists_eq_left', getK_set, Nat.reduceEqDiff, ↓reduceIte, fill_0, g1, lL7, lC7, lT7, fill_c, cC, cT, set98a hC, set98b hC hT, hc7.dead]
      refine ⟨fresh_one (n := 2) (sz := 49) (by simp (disch := omega) only [getK_set, ↓reduceIte]), ?_⟩
      have hr8 := Rs.two (h := h7) hC hT
      have n8 := nx_new h7 (.cells (2 * 49) (C.map V.b ++ (turnR C).map V.b))
      have hc8 := gL.hc hc7
      generalize h7.new (.cells (2 * 49) (C.map V.b ++ (turnR C).map V.b)) = h8 at *
      have hall : ∀ z ∈ [C, turnR C], z.length = 49 := fun z hz => by
        simp only [List.mem_cons, List.not_mem_nil, or_false] at hz
        rcases hz with rfl | rfl
        · exact hC
        · exact hT
      refine (callP_0 (ef := f69) k.c69 rfl (f69_ret k.c84 k.c101 hr8 hall (by simp) hc8)).mono ?_
      rintro r h9 ⟨rfl, gr9⟩
      have gD : Grow h7.nx.nat h7 h9 := gL.trans (gr9.low (by omega))
      have hc9 := gr9.hc hc8
      have g9n := gr9.nx
      have hJ : (jnR [C, turnR C]).length = 49 := rl_len
      have hN : (woR L (jnR [C, turnR C])).length = 49 := rl_len
      have e1_9 := (gD.old h.nx (by omega)).trans e1_7
      have lL9 := rC_ldn hLl e1_9
      have s9 := rC_stn hN hLl e1_9
      have kk : Kp h.nx h2 h9 := ((hk.grow gA hkn).grow gr7 (Nat.le_refl _)).grow gD (by omega)
      have kP := kk.put (by have := hkn; omega) (rC (woR L (jnR [C, turnR C])))
      have e5_9 := (gD.old id5 (by omega)).trans e5_7
      have nid5 : id5 ≠ h.nx := fun e => by have := congrArg K.nat e; omega
      have e5_10 : (h9.put h.nx (rC (woR L (jnR [C, turnR C])))).get id5 = .cells 2 [.i .i64 (x.1 : Int), .i .i64 (x.2 : Int)] := by rw [get_put_other nid5]; exact e5_9
      have e1_10 : (h9.put h.nx (rC (woR L (jnR [C, turnR C])))).get h.nx = rC (woR L (jnR [C, turnR C])) := get_put_same
      have u_10 : Sk 49 eR (h9.put h.nx (rC (woR L (jnR [C, turnR C])))) u' (P ++ [C]) := (s1.grow hc7 gD).put (o1.notIn (by omega)) _
      have n10 : (h9.put h.nx (rC (woR L (jnR [C, turnR C])))).nx.nat = h9.nx.nat := rfl
      have hn81 := k.n81 L (jnR [C, turnR C])
      simp (disch := omega) only [w_reg, w_seq, seqK_n, atK_n, true_and, x_nil, x_st, x_call, kx, xg_nil, xd_cons, fresh_nil, stK_n, stK_s, stay_nil, stay_cons, again_ok, rvP_ok, ev_t, ev_c, evs_nil, evs_cons, getV_some, putD_some, putD_none, getK_set, Nat.reduceEqDiff, ↓reduceIte, stay_ldn, g1, lL9, beq_rV, hn81 _ _ hLl hJ, s9]
      generalize h9.put h.nx (rC (woR L (jnR [C, turnR C]))) = h10 at *
      have l10 := ldn2 e5_10
      obtain ⟨hst, gB, c7, n11⟩ := arr_var (h := h10) (x := x.1) (y := x.2)
      replace hst : storeV (h10.new (.cells 2 [.i .i64 0, .i .i64 0])) 2 (.p h10.nx 0) (aV x) = _ := hst
      simp (disch := omega) only [f60_r10, f60_r11, w_reg, seqK_n, x_nil, x_alloc, x_ldn, x_st, kx, rvP_ok, ev_t, getV_some, putD_some, putD_none, of0, getK_set, Nat.reduceEqDiff, ↓reduceIte, g5, l10, hav, hst]
      generalize (h10.new (.cells 2 [.i .i64 0, .i .i64 0])).put h10.nx (.cells 2 [.i .i64 (x.1 : Int), .i .i64 (x.2 : Int)]) = h11 at *
      have l11 := rC_ldn hN ((gB.old h.nx (by omega)).trans e1_10)
      have s11 : storeV h11 2 (.p h10.nx 0) (aV (frX (woR L (jnR [C, turnR C])))) = .ok undefV (h11.put h10.nx (.cells 2 [.i .i64 ((frX (woR L (jnR [C, turnR C]))).1 : Int), .i .i64 ((frX (woR L (jnR [C, turnR C]))).2 : Int)])) := st2 c7
      simp (disch := omega) only [f60_r12, loopK_n, x_nil, x_mv, x_as, x_ldn, x_st, x_ext, x_call, kx, rvP_ok, okv_some, ev_t, ev_c, evs_nil, evs_cons, getV_some, putD_some, putD_none, onTup_t, nth0, nth1, getK_set, Nat.reduceEqDiff, ↓reduceIte, g1, l11, k.n87 _ _ _ hN, frV_eq, s11]
      have gE : Grow h10.nx.nat h10 (h11.put h10.nx (.cells 2 [.i .i64 ((frX (woR L (jnR [C, turnR C]))).1 : Int), .i .i64 ((frX (woR L (jnR [C, turnR C]))).2 : Int)])) := gB.trans (Grow.put (Nat.le_refl _) (by omega) _)
      rw [hnx] at hct hstep sN
      refine ⟨(woR L (jnR [C, turnR C]), P ++ [C]), hct, sN, fun z hz => ?_, ?_, fun r hr => ?_, kP.grow gE (by omega), (gE.old h.nx (by omega)).trans e1_10, u', h10.nx, frX (woR L (jnR [C, turnR C])), u_10.grow kP.hc gE, o1, by omega, by rw [nx_put]; omega, fun off n sz ee => by have := u_10.lt kP.hc _ _ _ _ ee; omega, get_put_same, fun y hy => by unfold frX; rw [hy]; rfl, by simp (disch := omega) only [getK_set, Nat.reduceEqDiff, ↓reduceIte, g1, g2, and_self]⟩
      · rcases List.mem_append.1 hz with hz | hz
        · exact hP z hz
        · rw [List.mem_singleton.1 hz]; exact hC
      · simp only at hct hcn ⊢
        rw [List.length_append]
        show cntT (woR L (jnR [C, turnR C])) + (P.length + 1) ≤ 49
        omega
      · have := hO _ (hstep r e hr)
        cases r with
        | none => exact this
        | some qs =>
          simp only [Option.map_some] at this ⊢
          rw [List.append_assoc]; exact this
end
end Go.Ev
namespace Go.Ev
open Go Go.RowKit
theorem nd_arI {f : Nat → Nat → Bool} : Nd (arI f) := fun x hx => by
  obtain ⟨a, b, h1, h2, _, rfl⟩ := mem_arI.1 hx
  show ((0 : Int) ≤ (a : Int) ∧ (a : Int) < 7) ∧ ((0 : Int) ≤ (b : Int) ∧ (b : Int) < 7)
  omega
theorem relR_arI {L : List Bool} (hL : L.length = 49) : relR (arI (rat L)) = L := by
  refine rel_ext rl_len hL fun a b ha hb => ?_
  unfold relR
  rw [rat_rl, decide_eq_true ha, decide_eq_true hb, Bool.true_and, Bool.true_and, Bool.eq_iff_iff, decide_eq_true_eq, mem_arI']
  exact ⟨fun h => h.2.2, fun h => ⟨ha, hb, h⟩⟩
theorem relR_iff {L : List (Int × Int)} {a b : Nat} (hn : Nd L) : rat (relR L) a b = true ↔ ((a : Int), (b : Int)) ∈ L := by
  unfold relR
  rw [rat_rl]
  simp only [Bool.and_eq_true, decide_eq_true_eq]
  exact ⟨fun h => h.2, fun h => ⟨by have := hn _ h; simp only at this; omega, h⟩⟩
theorem gR_iff {L : List (Int × Int)} {a b : Nat} (hn : Nd L) : rat (gR L) a b = true ↔ ((a : Int), (b : Int)) ∈ L ∨ ((b : Int), (a : Int)) ∈ L := by
  unfold gR
  rw [show jnR [relR L, turnR (relR L)] = jn2 (relR L) (turnR (relR L)) from rfl, jn2_iff, turnR_iff, relR_iff hn, relR_iff hn]
theorem gR_arI {n : Nat} {g : Nat → Nat → Bool} (hg : Gph n g) {a b : Nat} : rat (gR (arI g)) a b = true ↔ sy g a b = true := by
  rw [gR_iff nd_arI, mem_arI', mem_arI']
  unfold sy
  rw [Bool.or_eq_true]
  have h7 := hg.n7
  exact or_congr ⟨fun h => h.2.2, fun h => by have := hg.up _ _ h; exact ⟨by omega, by omega, h⟩⟩ ⟨fun h => h.2.2, fun h => by have := hg.up _ _ h; exact ⟨by omega, by omega, h⟩⟩
theorem symR_g {n : Nat} {g : Nat → Nat → Bool} (hg : Gph n g) : SymR (gR (arI g)) := by
  refine ⟨gR_len, ⟨fun a b h => ?_, fun a h => ?_⟩⟩
  · have h := (gR_arI hg).1 h
    exact (gR_arI hg).2 (by unfold sy at h ⊢; rw [Bool.or_comm]; exact h)
  · have h := (gR_arI hg).1 h
    unfold sy at h
    rw [Bool.or_self] at h
    have := hg.up _ _ h
    omega
theorem Er_lt {n : Nat} {g : Nat → Nat → Bool} (hg : Gph n g) {a b : Nat} (h : Er (gR (arI g)) a b) : a < n ∧ b < n ∧ a ≠ b := by
  have h := (gR_arI hg).1 h
  unfold sy at h
  rcases Bool.or_eq_true _ _ ▸ h with h | h
  · have := hg.up _ _ h; omega
  · have := hg.up _ _ h; omega
/-- Pairs of a relation are rising. -/
theorem ris_arI {f : Nat → Nat → Bool} {n : Nat} (hf : ∀ a b, a < 7 → b < 7 → f a b = true → a < n ∧ b < n ∧ a ≠ b) : risB (n : Int) (arI f) = true := by
  unfold risB
  refine @decide_eq_true _ (Classical.propDecidable _) fun j hj => ?_
  have hl : (arI f).length = (arw f).length := by unfold arI; rw [List.length_map]
  have e : ∀ i (hi : i < (arw f).length), (arI f).getD i (0, 0) = toI (arw f)[i] := fun i hi => by
    rw [List.getD_eq_getElem?_getD]
    unfold arI
    rw [List.getElem?_map, List.getElem?_eq_getElem hi]; rfl
  refine ⟨?_, fun h0 => ?_⟩
  · rw [e j (by omega)]
    obtain ⟨h1, h2, h3⟩ := arw_lt (List.getElem_mem (show j < (arw f).length by omega))
    obtain ⟨q1, q2, q3⟩ := hf _ _ h1 h2 h3
    unfold okE nodeB toI
    rw [decide_eq_true (show (0 : Int) ≤ ((arw f)[j].1 : Int) ∧ ((arw f)[j].1 : Int) < (n : Int) by omega), decide_eq_true (show (0 : Int) ≤ ((arw f)[j].2 : Int) ∧ ((arw f)[j].2 : Int) < (n : Int) by omega), decide_eq_true (show ((arw f)[j].1 : Int) ≠ ((arw f)[j].2 : Int) by omega)]
    try rfl
  · rw [e j (by omega), e (j - 1) (by omega)]
    have hs := arw_sorted (g := f) (i := j - 1) (by omega)
    have ej : j - 1 + 1 = j := by omega
    simp only [ej] at hs
    obtain ⟨_, h2, _⟩ := arw_lt (List.getElem_mem (show j < (arw f).length by omega))
    obtain ⟨_, k2, _⟩ := arw_lt (List.getElem_mem (show j - 1 < (arw f).length by omega))
    unfold bfB toI
    by_cases e1 : (arw f)[j - 1].1 < (arw f)[j].1
    · rw [decide_eq_true (show ((arw f)[j - 1].1 : Int) < ((arw f)[j].1 : Int) by omega)]; rfl
    · rw [decide_eq_true (show ((arw f)[j - 1].1 : Int) = ((arw f)[j].1 : Int) by omega), decide_eq_true (show ((arw f)[j - 1].2 : Int) < ((arw f)[j].2 : Int) by omega)]
      simp
theorem chkG_g {n : Nat} {g : Nat → Nat → Bool} (hg : Gph n g) : chkG (n : Int) (arI g) = 0 := by
  have h1 := hg.n1; have h7 := hg.n7
  have hu : UpT (arI g) (arI g).length := fun j hj => by
    have hl : (arI g).length = (arw g).length := by unfold arI; rw [List.length_map]
    rw [List.getD_eq_getElem?_getD]
    unfold arI
    rw [List.getElem?_map, List.getElem?_eq_getElem (show j < (arw g).length by omega)]
    obtain ⟨_, _, h3⟩ := arw_lt (List.getElem_mem (show j < (arw g).length by omega))
    have := hg.up _ _ h3
    show ((arw g)[j].1 : Int) ≤ ((arw g)[j].2 : Int)
    omega
  unfold chkG
  rw [if_neg (by omega), if_pos ⟨ris_arI fun a b _ _ h => by have := hg.up _ _ h; omega, hu⟩]
open Classical in
noncomputable def ckO (n : Int) (L : List (Int × Int)) : Int := if n < 1 ∨ 7 < n then 1 else if risB n L = true ∧ trB (relR L) = true then 0 else 30
theorem trB_iff {L : List Bool} (hL : L.length = 49) : trB L = true ↔ ∀ a b c, rat L a b = true → rat L b c = true → rat L a c = true := by
  unfold trB
  rw [cvB_iff hL]
  exact ⟨fun h a b c h1 h2 => h a c (spR_iff.2 ⟨b, h1, h2⟩), fun h a c h1 => by obtain ⟨b, h2, h3⟩ := spR_iff.1 h1; exact h a b c h2 h3⟩
/-- An order of n nodes. -/
structure OrdN (n : Nat) (L : List Bool) : Prop where
  len : L.length = 49
  lt : ∀ a b, rat L a b = true → a < n ∧ b < n
  irr : ∀ a, ¬ rat L a a = true
  tr : ∀ a b c, rat L a b = true → rat L b c = true → rat L a c = true
theorem ckO_o {n : Nat} {L : List Bool} (h1 : 1 ≤ n) (h7 : n ≤ 7) (o : OrdN n L) : ckO (n : Int) (arI (rat L)) = 0 := by
  unfold ckO
  rw [if_neg (by omega), if_pos ⟨ris_arI fun a b _ _ h => by have := o.lt _ _ h; exact ⟨this.1, this.2, fun e => o.irr a (by rw [← e] at h; exact h)⟩, by rw [relR_arI o.len, trB_iff o.len]; exact o.tr⟩]
theorem ris_nd {n : Int} {L : List (Int × Int)} (hn : n ≤ 7) (h : risB n L = true) : Nd L := fun x hx => by
  unfold risB at h
  have h := @of_decide_eq_true _ (Classical.propDecidable _) h
  obtain ⟨i, hi, rfl⟩ := List.getElem_of_mem hx
  have := (h i hi).1
  rw [List.getD_eq_getElem?_getD, List.getElem?_eq_getElem hi] at this
  have this : okE n L[i] = true := this
  unfold okE nodeB at this
  simp only [Bool.and_eq_true, decide_eq_true_eq] at this
  omega
/-- What the search for an order finds is one. -/
theorem ord_n {n : Nat} {g : Nat → Nat → Bool} (hg : Gph n g) {L : List Bool} (hL : L.length = 49) (o : Ord (Er (gR (arI g))) (Er L)) : OrdN n L :=
  ⟨hL, fun _ _ h => ⟨(Er_lt hg (o.sub _ _ h)).1, (Er_lt hg (o.sub _ _ h)).2.1⟩, fun a h => (symR_g hg).gr.irr a (o.sub _ _ h), o.tr⟩
/-- The search gives an order, or none is there. -/
theorem OrS.total : ∀ (m : Nat) {L : List Bool}, SymR L → cntT L ≤ m → ∃ r, OrS L r := by
  intro m
  induction m with
  | zero =>
    intro L s hm
    cases hf : frO L with
    | none => exact ⟨_, .done hf⟩
    | some x => have := nxR_cnt s hf; omega
  | succ m ih =>
    intro L s hm
    cases hf : frO L with
    | none => exact ⟨_, .done hf⟩
    | some x =>
      by_cases e : clsR L x = turnR (clsR L x)
      · exact ⟨_, .clash hf e⟩
      · obtain ⟨h1, h2, _⟩ := frO_some hf
        obtain ⟨r, hr⟩ := ih (s.next ⟨h1, h2⟩) (by have := nxR_cnt s hf; omega)
        exact ⟨_, .step hf e hr⟩
theorem orO_spec {L : List Bool} (s : SymR L) : (∃ ps, orO L = some ps ∧ Ord (Er L) (Er (jnR ps))) ∨ (orO L = none ∧ ¬ CF (Er L)) := by
  obtain ⟨r, hr⟩ := OrS.total _ s (Nat.le_refl _)
  have h1 := orO_eq hr
  have h2 := hr.sound s
  cases r with
  | none => exact .inr ⟨h1, h2.2 rfl⟩
  | some ps => exact .inl ⟨ps, h1, (h2.1 ps rfl).1⟩
end Go.Ev
namespace Go.Ev
open Go Go.RowKit
noncomputable def f40_r0 : List EOper := [⟨(some (K.ofNat 3)), none, .box 2 (.t (K.ofNat 1))⟩, ⟨(some (K.ofNat 4)), none, .as (.c (.b false))⟩]
noncomputable def f40_r1 : List EOper := [⟨(some (K.ofNat 5)), none, .as (.c (.i .i64 (.ofNat 0)))⟩]
noncomputable def f40_r2 : List EOper := [⟨(some (K.ofNat 6)), none, .mv (.t (K.ofNat 5))⟩, ⟨(some (K.ofNat 7)), none, .mv (.t (K.ofNat 0))⟩, ⟨(some (K.ofNat 8)), none, .len (.t (K.ofNat 7))⟩, ⟨(some (K.ofNat 9)), none, .bin .lss (.t (K.ofNat 6)) (.t (K.ofNat 8))⟩]
noncomputable def f40_r3 : List Stage := [⟨[⟨(some (K.ofNat 12)), none, .mv (.t (K.ofNat 0))⟩, ⟨(some (K.ofNat 13)), none, .mv (.t (K.ofNat 5))⟩, ⟨(some (K.ofNat 14)), none, .iads 2 (.t (K.ofNat 12)) (.t (K.ofNat 13))⟩, ⟨(some (K.ofNat 15)), none, .ldn 2 (.t (K.ofNat 14))⟩, ⟨(some (K.ofNat 16)), none, .ldn 2 (.t (K.ofNat 3))⟩, ⟨(some (K.ofNat 17)), none, .eqk (.many [(some .i64), (some .i64)]) false (.t (K.ofNat 15)) (.t (K.ofNat 16))⟩], [], none, []⟩]
noncomputable def f40_r4 : List EOper := [⟨(some (K.ofNat 4)), none, .as (.c (.b true))⟩]
noncomputable def f40_r5 : List EOper := [⟨(some (K.ofNat 10)), none, .mv (.t (K.ofNat 5))⟩, ⟨(some (K.ofNat 11)), none, .bin .add (.t (K.ofNat 10)) (.c (.i .i64 (.ofNat 1)))⟩, ⟨(some (K.ofNat 5)), none, .as (.t (K.ofNat 11))⟩]
noncomputable def f40_l0 : EC := (.seq (.seq (.reg f40_r2) (.cond (.t (K.ofNat 9)) .skip (.exit 0))) (.seq (.block 1 (.seq (.draw f40_r3) (.cond (.t (K.ofNat 17)) (.seq (.reg f40_r4) .ret) .skip))) (.reg f40_r5)))
noncomputable def f40_r6 : List EOper := [⟨(some (K.ofNat 4)), none, .as (.c (.b false))⟩]
noncomputable def f40_c : EC := (.seq (.reg f40_r0) (.seq (.seq (.reg f40_r1) (.block 0 (.loop f40_l0))) (.seq (.reg f40_r6) .ret)))
noncomputable def f40 : EF := ⟨18, [.tmp (K.ofNat 4)], f40_c, none⟩
theorem f40_rs : f40.rs = [.tmp (K.ofNat 4)] := of_eq_true (eq_self _)
noncomputable def f52_r0 : List EOper := [⟨(some (K.ofNat 6)), none, .as (.c (.b false))⟩]
noncomputable def f52_r1 : List EOper := [⟨(some (K.ofNat 7)), none, .mv (.t (K.ofNat 0))⟩, ⟨(some (K.ofNat 8)), none, .mv (.t (K.ofNat 1))⟩, ⟨(some (K.ofNat 9)), none, .mv (.t (K.ofNat 2))⟩, ⟨(some (K.ofNat 10)), none, .min (.t (K.ofNat 8)) (.t (K.ofNat 9))⟩, ⟨(some (K.ofNat 11)), none, .mv (.t (K.ofNat 1))⟩, ⟨(some (K.ofNat 12)), none, .mv (.t (K.ofNat 2))⟩, ⟨(some (K.ofNat 13)), none, .max (.t (K.ofNat 11)) (.t (K.ofNat 12))⟩, ⟨(some (K.ofNat 14)), none, .build [(.i .i64 (.ofNat 0)), (.i .i64 (.ofNat 0))] [(0, 1, (.t (K.ofNat 10))), (1, 1, (.t (K.ofNat 13)))]⟩, ⟨(some (K.ofNat 15)), none, .call (.c (.fn (K.ofNat 40) [])) [(.t (K.ofNat 7)), (.t (K.ofNat 14))]⟩, ⟨(some (K.ofNat 6)), none, .as (.t (K.ofNat 15))⟩]
noncomputable def f52_c : EC := (.seq (.reg f52_r0) (.seq (.reg f52_r1) .ret))
noncomputable def f52 : EF := ⟨16, [.tmp (K.ofNat 6)], f52_c, none⟩
theorem f52_rs : f52.rs = [.tmp (K.ofNat 6)] := of_eq_true (eq_self _)
noncomputable def f23_r0 : List EOper := [⟨(some (K.ofNat 4)), none, .as (.c .sn)⟩, ⟨(some (K.ofNat 5)), none, .as (.c (.b false))⟩, ⟨(some (K.ofNat 6)), none, .as (.c (.i .i64 (.ofNat 0)))⟩]
noncomputable def f23_r1 : List EOper := [⟨(some (K.ofNat 10)), none, .mv (.t (K.ofNat 0))⟩, ⟨(some (K.ofNat 11)), none, .mv (.t (K.ofNat 1))⟩, ⟨(some (K.ofNat 12)), none, .call (.c (.fn (K.ofNat 47) [])) [(.t (K.ofNat 10)), (.t (K.ofNat 11))]⟩, ⟨(some (K.ofNat 7)), none, .as (.t (K.ofNat 12))⟩]
noncomputable def f23_r2 : List EOper := [⟨(some (K.ofNat 13)), none, .mv (.t (K.ofNat 7))⟩, ⟨(some (K.ofNat 14)), none, .bin .neq (.t (K.ofNat 13)) (.c (.i .i64 (.ofNat 0)))⟩]
noncomputable def f23_r3 : List EOper := [⟨(some (K.ofNat 15)), none, .mv (.t (K.ofNat 7))⟩, ⟨(some (K.ofNat 4)), none, .as (.c .sn)⟩, ⟨(some (K.ofNat 5)), none, .as (.c (.b false))⟩, ⟨(some (K.ofNat 6)), none, .as (.t (K.ofNat 15))⟩]
noncomputable def f23_r4 : List EOper := [⟨(some (K.ofNat 17)), none, .mv (.t (K.ofNat 1))⟩, ⟨(some (K.ofNat 18)), none, .call (.c (.fn (K.ofNat 48) [])) [(.t (K.ofNat 17))]⟩, ⟨(some (K.ofNat 19)), none, .call (.c (.fn (K.ofNat 60) [])) [(.t (K.ofNat 18))]⟩, ⟨(some (K.ofNat 16)), none, .mv (.t (K.ofNat 19))⟩, ⟨(some (K.ofNat 20)), none, .ext (.t (K.ofNat 16)) 0⟩, ⟨(some (K.ofNat 21)), none, .ext (.t (K.ofNat 16)) 1⟩, ⟨(some (K.ofNat 8)), none, .alloc 49 (List.replicate 49 (.b false))⟩, ⟨none, none, .st 49 (.t (K.ofNat 8)) (.t (K.ofNat 20))⟩, ⟨(some (K.ofNat 9)), none, .as (.t (K.ofNat 21))⟩]
noncomputable def f23_r5 : List EOper := [⟨(some (K.ofNat 22)), none, .ldn 49 (.t (K.ofNat 8))⟩, ⟨(some (K.ofNat 23)), none, .call (.c (.fn (K.ofNat 58) [])) [(.t (K.ofNat 22))]⟩, ⟨(some (K.ofNat 24)), none, .mv (.t (K.ofNat 9))⟩, ⟨(some (K.ofNat 4)), none, .as (.t (K.ofNat 23))⟩, ⟨(some (K.ofNat 5)), none, .as (.t (K.ofNat 24))⟩, ⟨(some (K.ofNat 6)), none, .as (.c (.i .i64 (.ofNat 0)))⟩]
noncomputable def f23_c : EC := (.seq (.reg f23_r0) (.seq (.seq (.reg f23_r1) (.seq (.reg f23_r2) (.cond (.t (K.ofNat 14)) (.seq (.reg f23_r3) .ret) .skip))) (.seq (.reg f23_r4) (.seq (.reg f23_r5) .ret))))
noncomputable def f23 : EF := ⟨25, [.tmp (K.ofNat 4), .tmp (K.ofNat 5), .tmp (K.ofNat 6)], f23_c, none⟩
theorem f23_rs : f23.rs = [.tmp (K.ofNat 4), .tmp (K.ofNat 5), .tmp (K.ofNat 6)] := of_eq_true (eq_self _)
noncomputable def f45_r0 : List EOper := [⟨(some (K.ofNat 4)), none, .as (.c (.i .i64 (.ofNat 0)))⟩]
noncomputable def f45_r1 : List EOper := [⟨(some (K.ofNat 5)), none, .mv (.t (K.ofNat 0))⟩, ⟨(some (K.ofNat 6)), none, .bin .lss (.t (K.ofNat 5)) (.c (.i .i64 (.ofNat 1)))⟩, ⟨(some (K.ofNat 7)), none, .mv (.t (K.ofNat 6))⟩, ⟨(some (K.ofNat 8)), (some ((K.ofNat 7), false)), .mv (.t (K.ofNat 0))⟩, ⟨(some (K.ofNat 9)), (some ((K.ofNat 7), false)), .bin .gtr (.t (K.ofNat 8)) (.c (.i .i64 (.ofNat 7)))⟩, ⟨(some (K.ofNat 10)), none, .pick (.t (K.ofNat 7)) (.c (.b true)) (.t (K.ofNat 9))⟩]
noncomputable def f45_r2 : List EOper := [⟨(some (K.ofNat 4)), none, .as (.c (.i .i64 (.ofNat 1)))⟩]
noncomputable def f45_r3 : List EOper := [⟨(some (K.ofNat 11)), none, .mv (.t (K.ofNat 0))⟩, ⟨(some (K.ofNat 12)), none, .mv (.t (K.ofNat 1))⟩, ⟨(some (K.ofNat 13)), none, .call (.c (.fn (K.ofNat 75) [])) [(.t (K.ofNat 11)), (.t (K.ofNat 12))]⟩, ⟨(some (K.ofNat 14)), none, .not (.t (K.ofNat 13))⟩, ⟨(some (K.ofNat 15)), none, .mv (.t (K.ofNat 14))⟩, ⟨(some (K.ofNat 16)), (some ((K.ofNat 15), false)), .mv (.t (K.ofNat 1))⟩, ⟨(some (K.ofNat 17)), (some ((K.ofNat 15), false)), .call (.c (.fn (K.ofNat 71) [])) [(.t (K.ofNat 16))]⟩, ⟨(some (K.ofNat 18)), (some ((K.ofNat 15), false)), .call (.c (.fn (K.ofNat 76) [])) [(.t (K.ofNat 17))]⟩, ⟨(some (K.ofNat 19)), (some ((K.ofNat 15), false)), .not (.t (K.ofNat 18))⟩, ⟨(some (K.ofNat 20)), none, .pick (.t (K.ofNat 15)) (.c (.b true)) (.t (K.ofNat 19))⟩]
noncomputable def f45_r4 : List EOper := [⟨(some (K.ofNat 4)), none, .as (.c (.i .i64 (.ofNat 30)))⟩]
noncomputable def f45_r5 : List EOper := [⟨(some (K.ofNat 4)), none, .as (.c (.i .i64 (.ofNat 0)))⟩]
noncomputable def f45_c : EC := (.seq (.reg f45_r0) (.seq (.seq (.reg f45_r1) (.cond (.t (K.ofNat 10)) (.seq (.reg f45_r2) .ret) .skip)) (.seq (.seq (.reg f45_r3) (.cond (.t (K.ofNat 20)) (.seq (.reg f45_r4) .ret) .skip)) (.seq (.reg f45_r5) .ret))))
noncomputable def f45 : EF := ⟨21, [.tmp (K.ofNat 4)], f45_c, none⟩
theorem f45_rs : f45.rs = [.tmp (K.ofNat 4)] := of_eq_true (eq_self _)
section
variable {fs : T EF} {h h' : H}
def inI (x : Int × Int) : Prop := inR .i64 x.1 = true ∧ inR .i64 x.2 = true
theorem inI_nat {a b : Nat} (ha : a < 7) (hb : b < 7) : inI ((a : Int), (b : Int)) := by
  have r : ∀ n : Nat, n < 7 → inR .i64 (n : Int) = true := fun n hn => by
    show Nat.ble n (kmax .i64) = true
    exact Nat.ble_eq_true_of_le (by show n ≤ 9223372036854775807; omega)
  exact ⟨r _ ha, r _ hb⟩
theorem inI_arI {f : Nat → Nat → Bool} : ∀ x ∈ arI f, inI x := fun x hx => by
  obtain ⟨a, b, h1, h2, _, rfl⟩ := mem_arI.1 hx
  exact inI_nat h1 h2
theorem keyEq_pVO {x y : Int × Int} (hx : inI x) (hy : inI y) : keyEq (.many [some .i64, some .i64]) (pV x) (pV y) = some (decide (x = y)) := by
  have := keyEq_2 hx.1 hx.2 hy.1 hy.2
  rw [show keyEq (.many [some .i64, some .i64]) (pV x) (pV y) = _ from this]
  congr 1
  rw [← Bool.decide_and]
  exact decide_eq_decide.2 ⟨fun h => Prod.ext h.1 h.2, fun h => by rw [h]; exact ⟨rfl, rfl⟩⟩
def f40_I (h0 : H) (id3 : K) (v : V) (L : List (Int × Int)) (x : Int × Int) (i : Nat) (fr : Fr) (h1 : H) : Prop := i ≤ L.length ∧ h1 = h0 ∧ x ∉ L.take i ∧ fr.get (K.ofNat 0) = some (v) ∧ fr.get (K.ofNat 3) = some (.p id3 0) ∧ fr.get (K.ofNat 5) = some (.i .i64 (i : Int))
theorem f40_ret {v : V} {L : List (Int × Int)} {x : Int × Int} (hv : Srp h v L) (hL : ∀ y ∈ L, inI y) (hx : inI x) (hb : L.length ≤ 1000000) (hc : HC h) : Ret fs f40 [v, pV x] h fun r h' => r = .b (decide (x ∈ L)) ∧ Grow h.nx.nat h h' := by
  apply ret_of rfl
  show W fs none f40_c _ _ _
  unfold f40_c
  have c1 : cellsN 2 (pV x) = some [.i .i64 x.1, .i .i64 x.2] := rfl
  have gr1 : Grow h.nx.nat h (h.new (.cells 2 [.i .i64 x.1, .i .i64 x.2])) := Grow.new (Nat.le_refl _) _
  have e1 : (h.new (.cells 2 [.i .i64 x.1, .i .i64 x.2])).get h.nx = .cells 2 [.i .i64 x.1, .i .i64 x.2] := get_new_same
  simp (disch := omega) only [f40_r0, f40_r1, w_reg, w_seq, w_block, seqK_n, x_nil, x_as, x_box, kx, rvP_ok, ev_t, ev_c, getV_some, putD_some, oGet_s, frame_2, of0, getK_set, ↓reduceIte, c1]
  generalize h.new (.cells 2 [.i .i64 x.1, .i .i64 x.2]) = h1 at *
  have hv1 := hv.grow hc gr1
  have hlen := hv1.len
  have l1 := ldn2 e1
  have hvb := hv.beq
  refine W_loop (f40_I h1 h.nx v L x) (fun i => L.length - i) ?_ 0 ⟨by omega, rfl, by simp, by simp (disch := omega) only [getK_set, Nat.reduceEqDiff, ↓reduceIte, and_self, Int.natCast_zero]⟩
  rintro i fr h2 ⟨hi, rfl, hn, g0, g3, g5⟩
  unfold f40_l0
  by_cases hlt : i < L.length
  · have d0 : decide ((i : Int) < (L.length : Int)) = true := decide_eq_true (by omega)
    obtain ⟨id, q, p1, p2, _⟩ := hv1.at2 hlt
    have hq := keyEq_pVO (hL _ (List.getElem_mem hlt)) hx
    have hav1 : V.agg [.i .i64 L[i].1, .i .i64 L[i].2] = pV L[i] := rfl
    have hav2 : V.agg [.i .i64 x.1, .i .i64 x.2] = pV x := rfl
    by_cases e : L[i] = x
    · have d1 : decide (L[i] = x) = true := decide_eq_true e
      rw [d1] at hq
      simp (disch := omega) only [f40_r2, f40_r3, f40_r4, f40_rs, w_skip, w_reg, w_draw, w_seq, w_cond, w_block, w_ret, seqK_n, seqK_r, atK_r, loopK_r, ckB_b, cbB_b, true_and, retK_r, x_nil, x_mv, x_as, x_bin, x_len, kx, kg, xg_nil, xg_mv, xg_ldn, xg_eqk, xg_iads, xd_cons, fresh_nil, stK_n, stay_nil, rvP_ok, okv_some, ev_t, ev_c, getV_some, putD_some, bin_lss, oGet_s, readRs_nil, readRs_t, retV_1, Option.some.injEq, exists_eq_left', getK_set, Nat.reduceEqDiff, ↓reduceIte, g0, g3, g5, hlen, d0, p1, p2, l1, hav1, hav2, hq, cond_false]
      exact ⟨by rw [decide_eq_true (show x ∈ L by rw [← e]; exact List.getElem_mem hlt)], gr1⟩
    · have d1 : decide (L[i] = x) = false := decide_eq_false e
      rw [d1] at hq
      simp (disch := omega) only [f40_r2, f40_r3, f40_r5, w_skip, w_reg, w_draw, w_seq, w_cond, w_block, seqK_n, atK_n, loopK_n, ckB_b, cbB_b, true_and, x_nil, x_mv, x_as, x_bin, x_len, kx, kg, xg_nil, xg_mv, xg_ldn, xg_eqk, xg_iads, xd_cons, fresh_nil, stK_n, stay_nil, rvP_ok, okv_some, ev_t, ev_c, getV_some, putD_some, bin_add, bin_lss, oGet_s, of1, getK_set, Nat.reduceEqDiff, ↓reduceIte, Bool.false_eq_true, g0, g3, g5, hlen, d0, p1, p2, l1, hav1, hav2, hq, cond_false, fw64]
      refine ⟨i + 1, by omega, hlt, rfl, ?_, by simp (disch := omega) only [getK_set, Nat.reduceEqDiff, ↓reduceIte, g0, g3, and_self, Int.natCast_add, Int.natCast_one]⟩
      rw [List.take_succ_eq_append_getElem hlt, List.mem_append, List.mem_singleton]
      exact fun h => h.elim hn (fun h => e h.symm)
  · have d0 : decide ((i : Int) < (L.length : Int)) = false := decide_eq_false (by omega)
    have ei : i = L.length := by omega
    subst ei
    rw [List.take_length] at hn
    simp (disch := omega) only [f40_r2, f40_r6, f40_rs, w_reg, w_seq, w_cond, w_exit, w_ret, seqK_n, seqK_e, atK_e, loopK_e, ckB_b, cbB_b, true_and, retK_r, x_nil, x_mv, x_as, x_bin, x_len, kx, rvP_ok, okv_some, ev_t, ev_c, getV_some, putD_some, bin_lss, oGet_s, readRs_nil, readRs_t, retV_1, Option.some.injEq, exists_eq_left', getK_set, Nat.reduceEqDiff, ↓reduceIte, Bool.false_eq_true, g0, g5, hlen, d0]
    exact ⟨by rw [decide_eq_false hn], gr1⟩
theorem f52_ret {v : V} {L : List (Int × Int)} {a b : Int} (h40 : fs.get (K.ofNat 40) = some f40) (hv : Srp h v L) (hL : ∀ y ∈ L, inI y) (hx : inI (min a b, max a b)) (hb : L.length ≤ 1000000) (hc : HC h) : Ret fs f52 [v, .i .i64 a, .i .i64 b] h fun r h' => r = .b (decide ((min a b, max a b) ∈ L)) ∧ Grow h.nx.nat h h' := by
  apply ret_of rfl
  show W fs none f52_c _ _ _
  unfold f52_c
  have hav : V.agg [.i .i64 (min a b), .i .i64 (max a b)] = pV (min a b, max a b) := rfl
  simp (disch := omega) only [f52_r0, f52_r1, w_reg, w_seq, seqK_n, x_nil, x_mv, x_as, x_build, x_call, x_min, x_max, kx, rvP_ok, ev_t, ev_c, evs_nil, evs_cons, getV_some, putD_some, oGet_s, min_ii, max_ii, frame_3, cells1_i, of0, getK_set, Nat.reduceEqDiff, ↓reduceIte, fill_2, set_2, fill_2, set_2, hav]
  refine (callP_0 (ef := f40) h40 rfl (f40_ret hv hL hx hb hc)).mono ?_
  rintro r h1 ⟨rfl, hG⟩
  simp (disch := omega) only [f52_rs, w_ret, seqK_n, true_and, retK_r, x_nil, x_as, kx, ev_t, getV_some, putD_some, oGet_s, readRs_nil, readRs_t, retV_1, Option.some.injEq, exists_eq_left', getK_set, ↓reduceIte, true_and]
  exact hG
/-! ### Orient -/
structure CallsOr (fs : T EF) : Prop extends CallsCk fs where
  c47 : fs.get (K.ofNat 47) = some f47
  c48 : fs.get (K.ofNat 48) = some f48
  c58 : fs.get (K.ofNat 58) = some f58
  n60 : ∀ L h P, SymR L → CallP fs (.fn (K.ofNat 60) []) [rV L] h P = P (orV L) h
/-- What Orient gives. -/
structure OrI (g : Nat → Nat → Bool) (b : Bool) (F : List Bool) : Prop where
  len : F.length = 49
  yes : b = true → Ord (Er (gR (arI g))) (Er F)
  no : b = false → F = rl (fun _ _ => false) ∧ ¬ CF (Er (gR (arI g)))
theorem orI_of {n : Nat} {g : Nat → Nat → Bool} (hg : Gph n g) : ∃ b F, orV (gR (arI g)) = .tup [rV F, .b b] ∧ OrI g b F := by
  unfold orV
  rcases orO_spec (symR_g hg) with ⟨ps, e, o⟩ | ⟨e, o⟩
  · exact ⟨true, jnR ps, by rw [e], rl_len, fun _ => o, fun e => by cases e⟩
  · exact ⟨false, rl fun _ _ => false, by rw [e], rl_len, (fun e => by cases e), fun _ => ⟨rfl, o⟩⟩
theorem f23_ret {n : Nat} {v : V} {g : Nat → Nat → Bool} (k : CallsOr fs) (hg : Gph n g) (hv : Srp h v (arI g)) (hc : HC h) : Ret fs f23 [.i .i64 (n : Int), v] h fun r h' => ∃ b F u, r = .tup [u, .b b, .i .i64 0] ∧ OrI g b F ∧ Sk 2 qE h' u (arI (rat F)) ∧ Own h.nx.nat u ∧ Grow h.nx.nat h h' := by
  have hlb := arI_len (g := g)
  apply ret_of rfl
  show W fs none f23_c _ _ _
  unfold f23_c
  simp (disch := omega) only [f23_r0, f23_r1, w_reg, w_seq, seqK_n, x_nil, x_mv, x_as, x_call, ev_t, ev_c, evs_nil, evs_cons, getV_some, putD_some, frame_2, of0, getK_set, Nat.reduceEqDiff, ↓reduceIte]
  refine (callP_0 (ef := f47) k.c47 rfl (f47_ret k.toCallsCk hv (by omega) hc)).mono ?_
  rintro r h1 ⟨rfl, gr1⟩
  rw [chkG_g hg]
  have ne0 : decide ((0 : Int) ≠ 0) = false := rfl
  simp (disch := omega) only [f23_r2, f23_r4, w_skip, w_reg, w_seq, w_cond, seqK_n, ckB_b, cbB_b, true_and, x_nil, x_mv, x_as, x_bin, x_call, kx, rvP_ok, okv_some, ev_t, ev_c, evs_nil, evs_cons, getV_some, putD_some, bin_neq, of0, getK_set, Nat.reduceEqDiff, ↓reduceIte, Bool.false_eq_true, ne0]
  have hc1 := gr1.hc hc
  refine (callP_0 (ef := f48) k.c48 rfl (f48_ret k.toNat2 (hv.grow hc gr1) nd_arI (by omega) hc1)).mono ?_
  rintro r h2 ⟨rfl, gr2⟩
  have hc2 := gr2.hc hc1
  obtain ⟨b, F, hO, hF⟩ := orI_of hg
  have s2 := rC_stn hF.len rl_len (M := rl fun _ _ => false) (h := h2.new (.cells 49 (List.replicate 49 (.b false)))) (id := h2.nx) (by rw [rl_false]; exact get_new_same)
  have n3 := nx_new h2 (.cells 49 (List.replicate 49 (.b false)))
  have gr3 : Grow h2.nx.nat h2 ((h2.new (.cells 49 (List.replicate 49 (.b false)))).put h2.nx (rC F)) := (Grow.new (Nat.le_refl _) _).trans (Grow.put (Nat.le_refl _) (by omega) _)
  have e3 : ((h2.new (.cells 49 (List.replicate 49 (.b false)))).put h2.nx (rC F)).get h2.nx = rC F := get_put_same
  have l3 := rC_ldn hF.len e3
  simp (disch := omega) only [f23_r5, w_reg, w_seq, seqK_n, x_nil, x_mv, x_as, x_alloc, x_ldn, x_st, x_ext, x_call, kx, rvP_ok, okv_some, ev_t, ev_c, evs_nil, evs_cons, getV_some, putD_some, putD_none, onTup_t, nth0, nth1, of0, getK_set, Nat.reduceEqDiff, ↓reduceIte, k.n60 _ _ _ (symR_g hg), hO, s2, l3]
  generalize (h2.new (.cells 49 (List.replicate 49 (.b false)))).put h2.nx (rC F) = h3 at *
  have gA : Grow h.nx.nat h h3 := gr1.trans ((gr2.low gr1.nx).trans (gr3.low (by have := gr1.nx; have := gr2.nx; omega)))
  refine (callP_0 (ef := f58) k.c58 rfl (f58_ret k.toNat4 hF.len (gr3.hc hc2))).mono ?_
  rintro u h4 ⟨hs, ho, gr4⟩
  simp (disch := omega) only [f23_rs, w_ret, seqK_n, retK_r, x_nil, x_mv, x_as, kx, ev_t, ev_c, getV_some, putD_some, oGet_s, readRs_nil, readRs_t, retV_2, Option.some.injEq, exists_eq_left', getK_set, Nat.reduceEqDiff, ↓reduceIte]
  exact ⟨b, F, u, rfl, hF, hs, ho.low gA.nx, gA.trans (gr4.low gA.nx)⟩
theorem f45_ret {n : Int} {v : V} {L : List (Int × Int)} (k : CallsCk fs) (hv : Srp h v L) (hb : L.length ≤ 1000000) (hc : HC h) : Ret fs f45 [.i .i64 n, v] h fun r h' => r = .i .i64 (ckO n L) ∧ Grow h.nx.nat h h' := by
  apply ret_of rfl
  show W fs none f45_c _ _ _
  unfold f45_c
  by_cases hn : n < 1 ∨ 7 < n
  · have hg : ckO n L = 1 := by unfold ckO; rw [if_pos hn]
    by_cases h1 : n < 1
    · have d1 : decide (n < 1) = true := decide_eq_true h1
      simp (disch := omega) only [f45_r0, f45_r1, f45_r2, f45_rs, w_reg, w_seq, w_cond, w_ret, seqK_n, seqK_r, ckB_b, cbB_b, okG_b, asG_f, true_and, retK_r, x_nil, x_g, x_mv, x_as, x_pick, x_bin, kx, rvP_ok, okv_some, ev_t, ev_c, getV_some, putD_some, bin_lss, pick_b, oGet_s, readRs_nil, readRs_t, retV_1, frame_2, of0, of1, Option.some.injEq, exists_eq_left', getK_set, Nat.reduceEqDiff, ↓reduceIte, Bool.false_eq_true, Bool.not_true, of7, d1]
      exact ⟨by rw [hg], Grow.refl _ _⟩
    · have d1 : decide (n < 1) = false := decide_eq_false h1
      have d2 : decide (n > 7) = true := decide_eq_true (by omega)
      simp (disch := omega) only [f45_r0, f45_r1, f45_r2, f45_rs, w_reg, w_seq, w_cond, w_ret, seqK_n, seqK_r, ckB_b, cbB_b, okG_b, asG_f, true_and, retK_r, x_nil, x_g, x_mv, x_as, x_pick, x_bin, kx, rvP_ok, okv_some, ev_t, ev_c, getV_some, putD_some, bin_lss, bin_gtr, pick_b, oGet_s, readRs_nil, readRs_t, retV_1, frame_2, of0, of1, Option.some.injEq, exists_eq_left', getK_set, Nat.reduceEqDiff, ↓reduceIte, Bool.false_eq_true, Bool.not_false, of7, d1, d2]
      exact ⟨by rw [hg], Grow.refl _ _⟩
  · have d1 : decide (n < 1) = false := decide_eq_false (by omega)
    have d2 : decide (n > 7) = false := decide_eq_false (by omega)
    simp (disch := omega) only [f45_r0, f45_r1, f45_r3, w_skip, w_reg, w_seq, w_cond, seqK_n, ckB_b, cbB_b, okG_b, asG_f, true_and, x_nil, x_g, x_mv, x_as, x_pick, x_bin, x_call, kx, rvP_ok, okv_some, ev_t, ev_c, evs_nil, evs_cons, getV_some, putD_some, bin_lss, bin_gtr, pick_b, frame_2, of0, of1, getK_set, Nat.reduceEqDiff, ↓reduceIte, Bool.false_eq_true, Bool.not_false, of7, d1, d2]
    refine (callP_0 (ef := f75) k.c75 rfl (f75_ret k.toNat4 hv (by omega) hc)).mono ?_
    rintro r h1 ⟨rfl, hG⟩
    cases hr : risB n L with
    | false =>
      have hg : ckO n L = 30 := by unfold ckO; rw [if_neg hn, if_neg (by rw [hr]; simp)]
      simp (disch := omega) only [f45_r4, f45_rs, w_reg, w_seq, w_cond, w_ret, seqK_n, seqK_r, ckB_b, cbB_b, okG_b, asG_f, true_and, retK_r, x_nil, x_g, x_mv, x_as, x_pick, x_not, kx, rvP_ok, ev_t, ev_c, getV_some, putD_some, pick_b, onB_b, oGet_s, readRs_nil, readRs_t, retV_1, Option.some.injEq, exists_eq_left', getK_set, Nat.reduceEqDiff, ↓reduceIte, Bool.false_eq_true, Bool.not_true, Bool.not_false, of30]
      exact ⟨by rw [hg], hG⟩
    | true =>
      have hnd := ris_nd (by omega) hr
      have hR : (relR L).length = 49 := rl_len
      simp (disch := omega) only [okG_b, asG_f, true_and, x_g, x_mv, x_not, x_call, kx, rvP_ok, ev_t, ev_c, evs_nil, evs_cons, getV_some, putD_some, onB_b, getK_set, Nat.reduceEqDiff, ↓reduceIte, Bool.not_true, Bool.not_false]
      refine (callP_0 (ef := f71) k.c71 rfl (f71_ret (hv.grow hc hG) hnd hb (hG.hc hc))).mono ?_
      rintro r h2 ⟨rfl, hG2⟩
      have gA := hG.trans (hG2.low hG.nx)
      cases ht : trB (relR L) with
      | false =>
        have hg : ckO n L = 30 := by unfold ckO; rw [if_neg hn, if_neg (by rw [ht]; simp)]
        simp (disch := omega) only [f45_r4, f45_rs, w_reg, w_seq, w_cond, w_ret, seqK_n, seqK_r, ckB_b, cbB_b, okG_b, asG_f, true_and, retK_r, x_nil, x_g, x_as, x_pick, x_not, x_call, kx, rvP_ok, ev_t, ev_c, evs_nil, evs_cons, getV_some, putD_some, pick_b, onB_b, oGet_s, readRs_nil, readRs_t, retV_1, Option.some.injEq, exists_eq_left', getK_set, Nat.reduceEqDiff, ↓reduceIte, Bool.false_eq_true, Bool.not_false, of30, k.n76 _ _ _ hR, ht]
        exact ⟨by rw [hg], gA⟩
      | true =>
        have hg : ckO n L = 0 := by unfold ckO; rw [if_neg hn, if_pos ⟨hr, ht⟩]
        simp (disch := omega) only [f45_r5, f45_rs, w_skip, w_reg, w_seq, w_cond, w_ret, seqK_n, ckB_b, cbB_b, okG_b, asG_f, true_and, retK_r, x_nil, x_g, x_as, x_pick, x_not, x_call, kx, rvP_ok, ev_t, ev_c, evs_nil, evs_cons, getV_some, putD_some, pick_b, onB_b, oGet_s, readRs_nil, readRs_t, retV_1, of0, Option.some.injEq, exists_eq_left', getK_set, Nat.reduceEqDiff, ↓reduceIte, Bool.false_eq_true, Bool.not_true, Bool.not_false, k.n76 _ _ _ hR, ht]
        exact ⟨by rw [hg], gA⟩
end
end Go.Ev
namespace Go.Ev
open Go Go.RowKit
/-- One arrow: the head at least one above the tail. -/
def rlx (d : Nat → Nat) (x : Nat × Nat) (v : Nat) : Nat := if v = x.2 then max (d v) (d x.1 + 1) else d v
def rlL (d : Nat → Nat) (l : List (Nat × Nat)) : Nat → Nat := l.foldl rlx d
/-- After some rounds. -/
def lyS (L : List Bool) : Nat → Nat → Nat
  | 0 => fun _ => 0
  | k + 1 => rlL (lyS L k) (arw (rat L))
def lyR (L : List Bool) (n : Nat) : Nat → Nat := lyS L n
inductive Ch (L : List Bool) : Nat → Nat → Prop
  | zero (v : Nat) : Ch L 0 v
  | step {t u v : Nat} : Ch L t u → rat L u v = true → Ch L (t + 1) v
theorem rlL_snoc {d : Nat → Nat} {l : List (Nat × Nat)} {x : Nat × Nat} : rlL d (l ++ [x]) = rlx (rlL d l) x := by unfold rlL; rw [List.foldl_append]; rfl
theorem rlx_le {d : Nat → Nat} {x : Nat × Nat} {v : Nat} : d v ≤ rlx d x v := by unfold rlx; split <;> omega
theorem rlL_le {l : List (Nat × Nat)} : ∀ {d : Nat → Nat} {v : Nat}, d v ≤ rlL d l v := by
  induction l with
  | nil => exact fun {d v} => Nat.le_refl _
  | cons x l ih => exact fun {d v} => Nat.le_trans (rlx_le (x := x)) (ih (d := rlx d x))
theorem nodup_leO {α : Type} [DecidableEq α] : ∀ {l m : List α}, l.Nodup → (∀ x ∈ l, x ∈ m) → l.length ≤ m.length
  | [], _, _, _ => Nat.zero_le _
  | x :: l, m, hn, hs => by
    rw [List.nodup_cons] at hn
    have hx : x ∈ m := hs x (by simp)
    have := nodup_leO (l := l) (m := m.erase x) hn.2 fun y hy => (List.mem_erase_of_ne (fun e : y = x => hn.1 (e ▸ hy))).2 (hs y (by simp [hy]))
    rw [List.length_erase_of_mem hx] at this
    have : 0 < m.length := List.length_pos_of_mem hx
    rw [List.length_cons]; omega
section
variable {L : List Bool} {n : Nat}
/-- A chain's nodes differ, so it isn't long. -/
theorem Ch.bound (o : OrdN n L) {t v : Nat} (h : Ch L t v) (hv : v < n) : t + 1 ≤ n := by
  -- the nodes of the chain
  have key : ∀ {t v : Nat}, Ch L t v → ∃ l : List Nat, l.length = t ∧ l.Nodup ∧ (∀ u ∈ l, rat L u v = true) := by
    intro t v h
    induction h with
    | zero v => exact ⟨[], rfl, List.nodup_nil, fun u hu => by cases hu⟩
    | @step t u v _ hr ih =>
      obtain ⟨l, h1, h2, h3⟩ := ih
      refine ⟨u :: l, by simp [h1], List.nodup_cons.2 ⟨fun hu => o.irr u (h3 u hu), h2⟩, fun w hw => ?_⟩
      rcases List.mem_cons.1 hw with rfl | hw
      · exact hr
      · exact o.tr _ _ _ (h3 w hw) hr
  obtain ⟨l, h1, h2, h3⟩ := key h
  have hd : (v :: l).Nodup := List.nodup_cons.2 ⟨fun hu => o.irr v (h3 v hu), h2⟩
  have hsub : ∀ w ∈ v :: l, w ∈ List.range n := fun w hw => by
    rw [List.mem_range]
    rcases List.mem_cons.1 hw with rfl | hw
    · exact hv
    · exact (o.lt _ _ (h3 w hw)).1
  have := nodup_leO hd hsub
  simp at this
  omega
theorem rlL_ch {l : List (Nat × Nat)} : ∀ {d : Nat → Nat}, (∀ x ∈ l, rat L x.1 x.2 = true) → (∀ v, Ch L (d v) v) → ∀ v, Ch L (rlL d l v) v := by
  induction l with
  | nil => exact fun {d} _ h v => h v
  | cons x l ih =>
    intro d hl h v
    refine ih (d := rlx d x) (fun y hy => hl y (List.mem_cons_of_mem _ hy)) (fun w => ?_) v
    unfold rlx
    split
    · rename_i e
      rcases Nat.le_total (d x.1 + 1) (d w) with q | q
      · rw [Nat.max_eq_left q]; exact h w
      · rw [Nat.max_eq_right q]
        have := (h x.1).step (hl x List.mem_cons_self)
        rw [e]; exact this
    · exact h w
theorem rlL_at {l : List (Nat × Nat)} : ∀ {d : Nat → Nat} {x : Nat × Nat}, x ∈ l → d x.1 + 1 ≤ rlL d l x.2 := by
  induction l with
  | nil => intro d x h; cases h
  | cons y l ih =>
    intro d x hx
    rcases List.mem_cons.1 hx with rfl | hx
    · refine Nat.le_trans ?_ (rlL_le (d := rlx d x))
      unfold rlx
      rw [if_pos rfl]; exact Nat.le_max_right _ _
    · refine Nat.le_trans ?_ (ih (d := rlx d y) hx)
      have := rlx_le (d := d) (x := y) (v := x.1)
      omega
theorem ly_ch (k : Nat) : ∀ v, Ch L (lyS L k v) v := by
  induction k with
  | zero => exact fun v => .zero v
  | succ k ih => exact rlL_ch (fun x hx => (mem_arw.1 hx).2.2) ih
theorem ly_ge {k : Nat} : ∀ {t v : Nat}, Ch L t v → t ≤ k → t ≤ lyS L k v := by
  induction k with
  | zero => intro t v _ h; omega
  | succ k ih =>
    intro t v h hk
    cases h with
    | zero => exact Nat.zero_le _
    | @step t u _ h hr =>
      have h1 := ih h (by omega)
      have h2 := rlL_at (d := lyS L k) (x := (u, v)) (mem_arw.2 ⟨(rat_lt hr).1, (rat_lt hr).2, hr⟩)
      have h2 : lyS L k u + 1 ≤ lyS L (k + 1) v := h2
      omega
theorem ly_lt (o : OrdN n L) {v : Nat} (hv : v < n) : lyR L n v < n := by
  have := (ly_ch (L := L) n v).bound o hv
  unfold lyR; omega
theorem ly_max (o : OrdN n L) {t v : Nat} (hv : v < n) (h : Ch L t v) : t ≤ lyR L n v := ly_ge h (by have := h.bound o hv; omega)
theorem ly_up (o : OrdN n L) {u v : Nat} (h : rat L u v = true) : lyR L n u + 1 ≤ lyR L n v := ly_max o (o.lt _ _ h).2 ((ly_ch n u).step h)
theorem ly_down (o : OrdN n L) {t v : Nat} (h : lyR L n v = t + 1) : ∃ u, rat L u v = true ∧ lyR L n u = t := by
  have hc := ly_ch (L := L) n v
  rw [show lyS L n v = t + 1 from h] at hc
  cases hc with
  | @step _ u _ h1 hr =>
    have h2 := ly_max o (o.lt _ _ hr).1 h1
    have h3 := ly_up o hr
    exact ⟨u, hr, by omega⟩
end
end Go.Ev
namespace Go.Ev
open Go Go.RowKit
noncomputable def f73_r0 : List EOper := [⟨(some (K.ofNat 2)), none, .box 49 (.t (K.ofNat 0))⟩, ⟨(some (K.ofNat 4)), none, .as (.c .sn)⟩]
noncomputable def f73_r1 : List EOper := [⟨(some (K.ofNat 7)), none, .mv (.t (K.ofNat 1))⟩, ⟨(some (K.ofNat 8)), none, .mkslice 1 [(.i .i64 (.ofNat 0))] (.t (K.ofNat 7))⟩, ⟨(some (K.ofNat 5)), none, .alloc 1 [.sn]⟩, ⟨none, none, .st 1 (.t (K.ofNat 5)) (.t (K.ofNat 8))⟩]
noncomputable def f73_r2 : List EOper := [⟨(some (K.ofNat 9)), none, .mv (.t (K.ofNat 1))⟩, ⟨(some (K.ofNat 10)), none, .mv (.c (.i .i64 (.ofNat 0)))⟩]
noncomputable def f73_r3 : List EOper := [⟨(some (K.ofNat 11)), none, .bin .lss (.t (K.ofNat 10)) (.t (K.ofNat 9))⟩]
noncomputable def f73_r4 : List EOper := [⟨(some (K.ofNat 12)), none, .ldn 49 (.t (K.ofNat 2))⟩, ⟨(some (K.ofNat 13)), none, .call (.c (.fn (K.ofNat 84) [])) [(.t (K.ofNat 12))]⟩]
noncomputable def f73_r5 : List EOper := [⟨(some (K.ofNat 6)), none, .alloc 2 [(.i .i64 (.ofNat 0)), (.i .i64 (.ofNat 0))]⟩, ⟨none, none, .st 2 (.t (K.ofNat 6)) (.t (K.ofNat 14))⟩]
noncomputable def f73_a0 : EC := (.reg f73_r5)
noncomputable def f73_r6 : List Stage := [⟨[⟨(some (K.ofNat 15)), none, .ld (.t (K.ofNat 5))⟩, ⟨(some (K.ofNat 16)), none, .fadr 1 (.t (K.ofNat 6))⟩, ⟨(some (K.ofNat 17)), none, .ld (.t (K.ofNat 16))⟩, ⟨(some (K.ofNat 18)), none, .ld (.t (K.ofNat 5))⟩, ⟨(some (K.ofNat 19)), none, .fadr 1 (.t (K.ofNat 6))⟩, ⟨(some (K.ofNat 20)), none, .ld (.t (K.ofNat 19))⟩, ⟨(some (K.ofNat 21)), none, .iads 1 (.t (K.ofNat 18)) (.t (K.ofNat 20))⟩, ⟨(some (K.ofNat 22)), none, .ld (.t (K.ofNat 21))⟩, ⟨(some (K.ofNat 23)), none, .ld (.t (K.ofNat 5))⟩, ⟨(some (K.ofNat 24)), none, .fadr 0 (.t (K.ofNat 6))⟩, ⟨(some (K.ofNat 25)), none, .ld (.t (K.ofNat 24))⟩, ⟨(some (K.ofNat 26)), none, .iads 1 (.t (K.ofNat 23)) (.t (K.ofNat 25))⟩, ⟨(some (K.ofNat 27)), none, .ld (.t (K.ofNat 26))⟩, ⟨(some (K.ofNat 28)), none, .bin .add (.t (K.ofNat 27)) (.c (.i .i64 (.ofNat 1)))⟩, ⟨(some (K.ofNat 29)), none, .max (.t (K.ofNat 22)) (.t (K.ofNat 28))⟩, ⟨(some (K.ofNat 30)), none, .iads 1 (.t (K.ofNat 15)) (.t (K.ofNat 17))⟩], [], (some ⟨none, none, .st 1 (.t (K.ofNat 30)) (.t (K.ofNat 29))⟩), []⟩, ⟨[], [], none, []⟩]
noncomputable def f73_b0 : EC := (.block 3 (.draw f73_r6))
noncomputable def f73_r7 : List EOper := [⟨(some (K.ofNat 31)), none, .bin .add (.t (K.ofNat 10)) (.c (.i .i64 (.ofNat 1)))⟩, ⟨(some (K.ofNat 10)), none, .mv (.t (K.ofNat 31))⟩]
noncomputable def f73_l0 : EC := (.seq (.reg f73_r3) (.seq (.cond (.t (K.ofNat 11)) .skip (.exit 0)) (.seq (.block 1 (.seq (.reg f73_r4) (.block 2 (.rangeF (.t (K.ofNat 13)) [(K.ofNat 14)] f73_a0 f73_b0)))) (.reg f73_r7))))
noncomputable def f73_r8 : List EOper := [⟨(some (K.ofNat 32)), none, .ld (.t (K.ofNat 5))⟩, ⟨(some (K.ofNat 4)), none, .as (.t (K.ofNat 32))⟩]
noncomputable def f73_c : EC := (.seq (.reg f73_r0) (.seq (.reg f73_r1) (.seq (.seq (.reg f73_r2) (.block 0 (.loop f73_l0))) (.seq (.reg f73_r8) .ret))))
noncomputable def f73 : EF := ⟨33, [.tmp (K.ofNat 4)], f73_c, none⟩
theorem f73_rs : f73.rs = [.tmp (K.ofNat 4)] := of_eq_true (eq_self _)
noncomputable def f95_r0 : List EOper := [⟨(some (K.ofNat 2)), none, .as (.c (.i .i64 (.ofNat 0)))⟩]
noncomputable def f95_r1 : List EOper := [⟨(some (K.ofNat 5)), none, .mv (.t (K.ofNat 0))⟩, ⟨(some (K.ofNat 6)), none, .len (.t (K.ofNat 5))⟩, ⟨(some (K.ofNat 7)), none, .bin .lss (.t (K.ofNat 6)) (.c (.i .i64 (.ofNat 1)))⟩]
noncomputable def f95_r2 : List EOper := [⟨none, none, .no⟩, ⟨none, none, .no⟩]
noncomputable def f95_r3 : List EOper := [⟨(some (K.ofNat 9)), none, .mv (.t (K.ofNat 0))⟩, ⟨(some (K.ofNat 10)), none, .iads 1 (.t (K.ofNat 9)) (.c (.i .i64 (.ofNat 0)))⟩, ⟨(some (K.ofNat 11)), none, .ld (.t (K.ofNat 10))⟩, ⟨(some (K.ofNat 3)), none, .as (.t (K.ofNat 11))⟩]
noncomputable def f95_r4 : List EOper := [⟨(some (K.ofNat 4)), none, .as (.c (.i .i64 (.ofNat 1)))⟩]
noncomputable def f95_r5 : List EOper := [⟨(some (K.ofNat 12)), none, .mv (.t (K.ofNat 4))⟩, ⟨(some (K.ofNat 13)), none, .mv (.t (K.ofNat 0))⟩, ⟨(some (K.ofNat 14)), none, .len (.t (K.ofNat 13))⟩, ⟨(some (K.ofNat 15)), none, .bin .lss (.t (K.ofNat 12)) (.t (K.ofNat 14))⟩]
noncomputable def f95_r6 : List EOper := [⟨(some (K.ofNat 18)), none, .mv (.t (K.ofNat 3))⟩, ⟨(some (K.ofNat 19)), none, .mv (.t (K.ofNat 0))⟩, ⟨(some (K.ofNat 20)), none, .mv (.t (K.ofNat 4))⟩, ⟨(some (K.ofNat 21)), none, .iads 1 (.t (K.ofNat 19)) (.t (K.ofNat 20))⟩, ⟨(some (K.ofNat 22)), none, .ld (.t (K.ofNat 21))⟩, ⟨(some (K.ofNat 23)), none, .max (.t (K.ofNat 18)) (.t (K.ofNat 22))⟩, ⟨(some (K.ofNat 3)), none, .as (.t (K.ofNat 23))⟩]
noncomputable def f95_r7 : List EOper := [⟨(some (K.ofNat 16)), none, .mv (.t (K.ofNat 4))⟩, ⟨(some (K.ofNat 17)), none, .bin .add (.t (K.ofNat 16)) (.c (.i .i64 (.ofNat 1)))⟩, ⟨(some (K.ofNat 4)), none, .as (.t (K.ofNat 17))⟩]
noncomputable def f95_l0 : EC := (.seq (.seq (.reg f95_r5) (.cond (.t (K.ofNat 15)) .skip (.exit 0))) (.seq (.block 1 (.reg f95_r6)) (.reg f95_r7)))
noncomputable def f95_r8 : List EOper := [⟨(some (K.ofNat 24)), none, .mv (.t (K.ofNat 3))⟩, ⟨(some (K.ofNat 2)), none, .as (.t (K.ofNat 24))⟩]
noncomputable def f95_c : EC := (.seq (.reg f95_r0) (.seq (.seq (.reg f95_r1) (.cond (.t (K.ofNat 7)) (.reg f95_r2) .skip)) (.seq (.reg f95_r3) (.seq (.seq (.reg f95_r4) (.block 0 (.loop f95_l0))) (.seq (.reg f95_r8) .ret)))))
noncomputable def f95 : EF := ⟨25, [.tmp (K.ofNat 2)], f95_c, none⟩
theorem f95_rs : f95.rs = [.tmp (K.ofNat 2)] := of_eq_true (eq_self _)
noncomputable def f72_r0 : List EOper := [⟨(some (K.ofNat 2)), none, .box 49 (.t (K.ofNat 0))⟩, ⟨(some (K.ofNat 4)), none, .as (.c .sn)⟩]
noncomputable def f72_r1 : List EOper := [⟨(some (K.ofNat 10)), none, .ldn 49 (.t (K.ofNat 2))⟩, ⟨(some (K.ofNat 11)), none, .mv (.t (K.ofNat 1))⟩, ⟨(some (K.ofNat 12)), none, .call (.c (.fn (K.ofNat 73) [])) [(.t (K.ofNat 10)), (.t (K.ofNat 11))]⟩, ⟨(some (K.ofNat 5)), none, .as (.t (K.ofNat 12))⟩]
noncomputable def f72_r2 : List EOper := [⟨(some (K.ofNat 13)), none, .mv (.t (K.ofNat 5))⟩, ⟨(some (K.ofNat 14)), none, .call (.c (.fn (K.ofNat 95) [])) [(.t (K.ofNat 13))]⟩, ⟨(some (K.ofNat 6)), none, .as (.t (K.ofNat 14))⟩]
noncomputable def f72_r3 : List EOper := [⟨(some (K.ofNat 15)), none, .mv (.t (K.ofNat 6))⟩, ⟨(some (K.ofNat 16)), none, .bin .add (.t (K.ofNat 15)) (.c (.i .i64 (.ofNat 1)))⟩, ⟨(some (K.ofNat 17)), none, .mkslice 1 [(.i .i64 (.ofNat 0))] (.t (K.ofNat 16))⟩, ⟨(some (K.ofNat 7)), none, .as (.t (K.ofNat 17))⟩]
noncomputable def f72_r4 : List EOper := [⟨(some (K.ofNat 18)), none, .mv (.t (K.ofNat 6))⟩, ⟨(some (K.ofNat 8)), none, .as (.t (K.ofNat 18))⟩]
noncomputable def f72_r5 : List EOper := [⟨(some (K.ofNat 19)), none, .mv (.t (K.ofNat 8))⟩, ⟨(some (K.ofNat 20)), none, .bin .geq (.t (K.ofNat 19)) (.c (.i .i64 (.ofNat 0)))⟩]
noncomputable def f72_r6 : List EOper := [⟨(some (K.ofNat 23)), none, .mv (.t (K.ofNat 1))⟩, ⟨(some (K.ofNat 24)), none, .mv (.c (.i .i64 (.ofNat 0)))⟩]
noncomputable def f72_r7 : List EOper := [⟨(some (K.ofNat 25)), none, .bin .lss (.t (K.ofNat 24)) (.t (K.ofNat 23))⟩]
noncomputable def f72_r8 : List EOper := [⟨(some (K.ofNat 26)), none, .mv (.t (K.ofNat 24))⟩, ⟨(some (K.ofNat 9)), none, .as (.t (K.ofNat 26))⟩]
noncomputable def f72_r9 : List Stage := [⟨[⟨(some (K.ofNat 27)), none, .mv (.t (K.ofNat 5))⟩, ⟨(some (K.ofNat 28)), none, .mv (.t (K.ofNat 9))⟩, ⟨(some (K.ofNat 29)), none, .iads 1 (.t (K.ofNat 27)) (.t (K.ofNat 28))⟩, ⟨(some (K.ofNat 30)), none, .ld (.t (K.ofNat 29))⟩, ⟨(some (K.ofNat 31)), none, .mv (.t (K.ofNat 8))⟩, ⟨(some (K.ofNat 32)), none, .bin .eql (.t (K.ofNat 30)) (.t (K.ofNat 31))⟩, ⟨(some (K.ofNat 33)), none, .mv (.t (K.ofNat 32))⟩, ⟨(some (K.ofNat 34)), (some ((K.ofNat 33), true)), .mv (.t (K.ofNat 8))⟩, ⟨(some (K.ofNat 35)), (some ((K.ofNat 33), true)), .mv (.t (K.ofNat 6))⟩, ⟨(some (K.ofNat 36)), (some ((K.ofNat 33), true)), .bin .eql (.t (K.ofNat 34)) (.t (K.ofNat 35))⟩, ⟨(some (K.ofNat 37)), (some ((K.ofNat 33), true)), .mv (.t (K.ofNat 36))⟩, ⟨(some (K.ofNat 38)), (some ((K.ofNat 37), false)), .mv (.t (K.ofNat 9))⟩, ⟨(some (K.ofNat 39)), (some ((K.ofNat 37), false)), .mv (.t (K.ofNat 7))⟩, ⟨(some (K.ofNat 40)), (some ((K.ofNat 37), false)), .mv (.t (K.ofNat 8))⟩, ⟨(some (K.ofNat 41)), (some ((K.ofNat 37), false)), .bin .add (.t (K.ofNat 40)) (.c (.i .i64 (.ofNat 1)))⟩, ⟨(some (K.ofNat 42)), (some ((K.ofNat 37), false)), .iads 1 (.t (K.ofNat 39)) (.t (K.ofNat 41))⟩, ⟨(some (K.ofNat 43)), (some ((K.ofNat 37), false)), .ld (.t (K.ofNat 42))⟩, ⟨(some (K.ofNat 44)), (some ((K.ofNat 37), false)), .iadr 7 7 (.t (K.ofNat 2)) (.t (K.ofNat 38))⟩, ⟨(some (K.ofNat 45)), (some ((K.ofNat 37), false)), .iadr 7 1 (.t (K.ofNat 44)) (.t (K.ofNat 43))⟩, ⟨(some (K.ofNat 46)), (some ((K.ofNat 37), false)), .ld (.t (K.ofNat 45))⟩, ⟨(some (K.ofNat 47)), (some ((K.ofNat 33), true)), .pick (.t (K.ofNat 37)) (.c (.b true)) (.t (K.ofNat 46))⟩, ⟨(some (K.ofNat 48)), none, .pick (.t (K.ofNat 33)) (.t (K.ofNat 47)) (.c (.b false))⟩], [], none, []⟩]
noncomputable def f72_r10 : List EOper := [⟨(some (K.ofNat 49)), none, .mv (.t (K.ofNat 7))⟩, ⟨(some (K.ofNat 50)), none, .mv (.t (K.ofNat 8))⟩, ⟨(some (K.ofNat 51)), none, .mv (.t (K.ofNat 9))⟩, ⟨(some (K.ofNat 52)), none, .iads 1 (.t (K.ofNat 49)) (.t (K.ofNat 50))⟩, ⟨none, none, .st 1 (.t (K.ofNat 52)) (.t (K.ofNat 51))⟩]
noncomputable def f72_r11 : List EOper := [⟨(some (K.ofNat 53)), none, .bin .add (.t (K.ofNat 24)) (.c (.i .i64 (.ofNat 1)))⟩, ⟨(some (K.ofNat 24)), none, .mv (.t (K.ofNat 53))⟩]
noncomputable def f72_l0 : EC := (.seq (.reg f72_r7) (.seq (.cond (.t (K.ofNat 25)) .skip (.exit 2)) (.seq (.block 3 (.seq (.reg f72_r8) (.seq (.draw f72_r9) (.cond (.t (K.ofNat 48)) (.reg f72_r10) .skip)))) (.reg f72_r11))))
noncomputable def f72_r12 : List EOper := [⟨(some (K.ofNat 21)), none, .mv (.t (K.ofNat 8))⟩, ⟨(some (K.ofNat 22)), none, .bin .sub (.t (K.ofNat 21)) (.c (.i .i64 (.ofNat 1)))⟩, ⟨(some (K.ofNat 8)), none, .as (.t (K.ofNat 22))⟩]
noncomputable def f72_l1 : EC := (.seq (.seq (.reg f72_r5) (.cond (.t (K.ofNat 20)) .skip (.exit 0))) (.seq (.block 1 (.seq (.reg f72_r6) (.block 2 (.loop f72_l0)))) (.reg f72_r12)))
noncomputable def f72_r13 : List EOper := [⟨(some (K.ofNat 54)), none, .mv (.t (K.ofNat 7))⟩, ⟨(some (K.ofNat 4)), none, .as (.t (K.ofNat 54))⟩]
noncomputable def f72_c : EC := (.seq (.reg f72_r0) (.seq (.reg f72_r1) (.seq (.reg f72_r2) (.seq (.reg f72_r3) (.seq (.seq (.reg f72_r4) (.block 0 (.loop f72_l1))) (.seq (.reg f72_r13) .ret))))))
noncomputable def f72 : EF := ⟨55, [.tmp (K.ofNat 4)], f72_c, none⟩
theorem f72_rs : f72.rs = [.tmp (K.ofNat 4)] := of_eq_true (eq_self _)
noncomputable def f41_r0 : List EOper := [⟨(some (K.ofNat 4)), none, .as (.c .sn)⟩, ⟨(some (K.ofNat 5)), none, .as (.c (.i .i64 (.ofNat 0)))⟩]
noncomputable def f41_r1 : List EOper := [⟨(some (K.ofNat 7)), none, .mv (.t (K.ofNat 0))⟩, ⟨(some (K.ofNat 8)), none, .mv (.t (K.ofNat 1))⟩, ⟨(some (K.ofNat 9)), none, .call (.c (.fn (K.ofNat 45) [])) [(.t (K.ofNat 7)), (.t (K.ofNat 8))]⟩, ⟨(some (K.ofNat 6)), none, .as (.t (K.ofNat 9))⟩]
noncomputable def f41_r2 : List EOper := [⟨(some (K.ofNat 10)), none, .mv (.t (K.ofNat 6))⟩, ⟨(some (K.ofNat 11)), none, .bin .neq (.t (K.ofNat 10)) (.c (.i .i64 (.ofNat 0)))⟩]
noncomputable def f41_r3 : List EOper := [⟨(some (K.ofNat 12)), none, .mv (.t (K.ofNat 6))⟩, ⟨(some (K.ofNat 4)), none, .as (.c .sn)⟩, ⟨(some (K.ofNat 5)), none, .as (.t (K.ofNat 12))⟩]
noncomputable def f41_r4 : List EOper := [⟨(some (K.ofNat 13)), none, .mv (.t (K.ofNat 1))⟩, ⟨(some (K.ofNat 14)), none, .call (.c (.fn (K.ofNat 71) [])) [(.t (K.ofNat 13))]⟩, ⟨(some (K.ofNat 15)), none, .mv (.t (K.ofNat 0))⟩, ⟨(some (K.ofNat 16)), none, .call (.c (.fn (K.ofNat 72) [])) [(.t (K.ofNat 14)), (.t (K.ofNat 15))]⟩, ⟨(some (K.ofNat 4)), none, .as (.t (K.ofNat 16))⟩, ⟨(some (K.ofNat 5)), none, .as (.c (.i .i64 (.ofNat 0)))⟩]
noncomputable def f41_c : EC := (.seq (.reg f41_r0) (.seq (.seq (.reg f41_r1) (.seq (.reg f41_r2) (.cond (.t (K.ofNat 11)) (.seq (.reg f41_r3) .ret) .skip))) (.seq (.reg f41_r4) .ret)))
noncomputable def f41 : EF := ⟨17, [.tmp (K.ofNat 4), .tmp (K.ofNat 5)], f41_c, none⟩
theorem f41_rs : f41.rs = [.tmp (K.ofNat 4), .tmp (K.ofNat 5)] := of_eq_true (eq_self _)
noncomputable def f42_r0 : List EOper := [⟨(some (K.ofNat 4)), none, .as (.c .sn)⟩, ⟨(some (K.ofNat 5)), none, .as (.c (.i .i64 (.ofNat 0)))⟩]
noncomputable def f42_r1 : List EOper := [⟨(some (K.ofNat 7)), none, .mv (.t (K.ofNat 0))⟩, ⟨(some (K.ofNat 8)), none, .mv (.t (K.ofNat 1))⟩, ⟨(some (K.ofNat 9)), none, .call (.c (.fn (K.ofNat 45) [])) [(.t (K.ofNat 7)), (.t (K.ofNat 8))]⟩, ⟨(some (K.ofNat 6)), none, .as (.t (K.ofNat 9))⟩]
noncomputable def f42_r2 : List EOper := [⟨(some (K.ofNat 10)), none, .mv (.t (K.ofNat 6))⟩, ⟨(some (K.ofNat 11)), none, .bin .neq (.t (K.ofNat 10)) (.c (.i .i64 (.ofNat 0)))⟩]
noncomputable def f42_r3 : List EOper := [⟨(some (K.ofNat 12)), none, .mv (.t (K.ofNat 6))⟩, ⟨(some (K.ofNat 4)), none, .as (.c .sn)⟩, ⟨(some (K.ofNat 5)), none, .as (.t (K.ofNat 12))⟩]
noncomputable def f42_r4 : List EOper := [⟨(some (K.ofNat 13)), none, .mv (.t (K.ofNat 1))⟩, ⟨(some (K.ofNat 14)), none, .call (.c (.fn (K.ofNat 71) [])) [(.t (K.ofNat 13))]⟩, ⟨(some (K.ofNat 15)), none, .mv (.t (K.ofNat 0))⟩, ⟨(some (K.ofNat 16)), none, .call (.c (.fn (K.ofNat 73) [])) [(.t (K.ofNat 14)), (.t (K.ofNat 15))]⟩, ⟨(some (K.ofNat 4)), none, .as (.t (K.ofNat 16))⟩, ⟨(some (K.ofNat 5)), none, .as (.c (.i .i64 (.ofNat 0)))⟩]
noncomputable def f42_c : EC := (.seq (.reg f42_r0) (.seq (.seq (.reg f42_r1) (.seq (.reg f42_r2) (.cond (.t (K.ofNat 11)) (.seq (.reg f42_r3) .ret) .skip))) (.seq (.reg f42_r4) .ret)))
noncomputable def f42 : EF := ⟨17, [.tmp (K.ofNat 4), .tmp (K.ofNat 5)], f42_c, none⟩
theorem f42_rs : f42.rs = [.tmp (K.ofNat 4), .tmp (K.ofNat 5)] := of_eq_true (eq_self _)
section
variable {fs : T EF} {h h' : H}
def nL (n : Nat) (d : Nat → Nat) : List Int := (List.range n).map fun v => (d v : Int)
theorem nL_len {n : Nat} {d : Nat → Nat} : (nL n d).length = n := by simp [nL]
theorem nL_at {n : Nat} {d : Nat → Nat} {v : Nat} (hv : v < n) : (nL n d)[v]'(by rw [nL_len]; exact hv) = (d v : Int) := by simp [nL]
theorem nL_set {n : Nat} {d : Nat → Nat} {x : Nat × Nat} (_ : x.2 < n) : (nL n d).set x.2 (max (d x.2 : Int) ((d x.1 : Int) + 1)) = nL n (rlx d x) := by
  apply List.ext_getElem
  · rw [List.length_set, nL_len, nL_len]
  · intro i h1 h2
    rw [nL_len] at h2
    have e1 := nL_at (d := rlx d x) h2
    have e2 := nL_at (d := d) h2
    rw [List.getElem_set, e1, e2]
    unfold rlx
    by_cases e : x.2 = i
    · rw [if_pos e, if_pos e.symm, ← e]; omega
    · rw [if_neg e, if_neg (fun h => e h.symm)]
def f73_I (h0 : H) (id2 id5 : K) (n : Nat) (L : List Bool) (i : Nat) (fr : Fr) (h1 : H) : Prop := i ≤ n ∧ Grow h0.nx.nat h0 h1 ∧ ∃ w, h1.get id5 = .cells 1 [w] ∧ Sl iE h1 w (nL n (lyS L i)) ∧ Own h0.nx.nat w ∧ NotIn id5 w ∧ NotIn id2 w ∧ h1.get id2 = rC L ∧ fr.get (K.ofNat 2) = some (.p id2 0) ∧ fr.get (K.ofNat 5) = some (.p id5 0) ∧ fr.get (K.ofNat 9) = some (.i .i64 (n : Int)) ∧ fr.get (K.ofNat 10) = some (.i .i64 (i : Int))
theorem f73_ret {L : List Bool} {n : Nat} (k : Nat4 fs) (o : OrdN n L) (hn : n ≤ 7) (hc : HC h) : Ret fs f73 [rV L, .i .i64 (n : Int)] h fun r h' => Sl iE h' r (nL n (lyR L n)) ∧ Own h.nx.nat r ∧ Grow h.nx.nat h h' := by
  have hL := o.len
  apply ret_of rfl
  show W fs none f73_c _ _ _
  unfold f73_c
  have c1 := rC_cells hL
  have n1 := nx_new h (.cells 49 (L.map V.b))
  have gr1 : Grow h.nx.nat h (h.new (.cells 49 (L.map V.b))) := Grow.new (Nat.le_refl _) _
  have e1 : (h.new (.cells 49 (L.map V.b))).get h.nx = rC L := get_new_same
  simp (disch := omega) only [f73_r0, w_reg, w_seq, seqK_n, x_nil, x_as, x_box, kx, rvP_ok, ev_t, ev_c, getV_some, putD_some, oGet_s, frame_2, getK_set, Nat.reduceEqDiff, ↓reduceIte, c1]
  generalize h.new (.cells 49 (L.map V.b)) = h1 at *
  have hc1 := gr1.hc hc
  have hmk := mks_ints (h := h1) (k := .i64) (n := n) (by omega)
  have hs0 := mks_sl (h := h1) (n := n)
  have gr2 : Grow h1.nx.nat h1 (h1.new (.cells (n * 1) (rep [.i .i64 0] n))) := Grow.new (Nat.le_refl _) _
  have n2 := nx_new h1 (.cells (n * 1) (rep [.i .i64 0] n))
  have e0 : List.replicate n (0 : Int) = nL n (lyS L 0) := by
    apply List.ext_getElem
    · simp [nL_len]
    · intro i h1 h2; rw [nL_len] at h2; rw [nL_at h2]; simp [lyS]
  rw [e0] at hs0
  simp (disch := omega) only [f73_r1, x_mv, x_alloc, x_st, x_mks, kx, rvP_ok, ev_t, getV_some, putD_some, of0, getK_set, Nat.reduceEqDiff, ↓reduceIte, hmk]
  generalize h1.new (.cells (n * 1) (rep [.i .i64 0] n)) = h2 at *
  have hc2 := gr2.hc hc1
  have n3 := nx_new h2 (.cells 1 [.sn])
  have s3 : storeV (h2.new (.cells 1 [.sn])) 1 (.p h2.nx 0) (.sl h1.nx 0 n 1) = .ok undefV ((h2.new (.cells 1 [.sn])).put h2.nx (.cells 1 [.sl h1.nx 0 n 1])) := st1 (a := .sn) get_new_same rfl
  have gr3 : Grow h2.nx.nat h2 ((h2.new (.cells 1 [.sn])).put h2.nx (.cells 1 [.sl h1.nx 0 n 1])) := (Grow.new (Nat.le_refl _) _).trans (Grow.put (Nat.le_refl _) (by omega) _)
  have e3 : ((h2.new (.cells 1 [.sn])).put h2.nx (.cells 1 [.sl h1.nx 0 n 1])).get h2.nx = .cells 1 [.sl h1.nx 0 n 1] := get_put_same
  simp (disch := omega) only [f73_r2, w_reg, w_seq, w_block, seqK_n, x_nil, x_mv, kx, rvP_ok, ev_t, ev_c, getV_some, putD_some, putD_none, of0, getK_set, Nat.reduceEqDiff, ↓reduceIte, s3]
  generalize (h2.new (.cells 1 [.sn])).put h2.nx (.cells 1 [.sl h1.nx 0 n 1]) = h3 at *
  have gA : Grow h.nx.nat h h3 := gr1.trans ((gr2.low (by omega)).trans (gr3.low (by omega)))
  have gA1 : Grow h1.nx.nat h1 h3 := gr2.trans (gr3.low (by omega))
  refine W_loop (f73_I h1 h.nx h2.nx n L) (fun i => n - i) ?_ 0 ⟨by omega, gA1, .sl h1.nx 0 n 1, e3, hs0.grow hc2 gr3, (fun _ _ _ _ e => by cases e; exact Nat.le_refl _), (fun _ _ _ e => by injection e with e; have := congrArg K.nat e; omega), (fun _ _ _ e => by injection e with e; have := congrArg K.nat e; omega), (gA1.old h.nx (by omega)).trans e1, by simp (disch := omega) only [getK_set, Nat.reduceEqDiff, ↓reduceIte, and_self, Int.natCast_zero]⟩
  clear hs0 hmk s3 e3 gr3 gA gA1 h3
  rintro i fr h3 ⟨hi, hG, w, hw, hs, how, ni5, ni2, e2, g2, g5, g9, g10⟩
  have hc3 := hG.hc hc1
  have gn := hG.nx
  unfold f73_l0
  by_cases hlt : i < n
  · have d0 : decide ((i : Int) < (n : Int)) = true := decide_eq_true (by omega)
    have l3 := rC_ldn hL e2
    have l5l := hc3.cells hw
    simp (disch := omega) only [f73_r3, f73_r4, w_skip, w_reg, w_seq, w_cond, w_block, seqK_n, ckB_b, cbB_b, true_and, x_nil, x_ldn, x_bin, x_call, kx, rvP_ok, okv_some, ev_t, ev_c, evs_nil, evs_cons, getV_some, putD_some, bin_lss, getK_set, Nat.reduceEqDiff, ↓reduceIte, g2, g9, g10, d0, l3]
    refine (callP_0 (ef := f84) k.c84 rfl (f84_ret hL)).mono ?_
    rintro r h4 ⟨rfl, rfl⟩
    have n4 := nx_new h3 (rC L)
    have gr4 : Grow h3.nx.nat h3 (h3.new (rC L)) := Grow.new (Nat.le_refl _) _
    have e4 : (h3.new (rC L)).get h3.nx = rC L := get_new_same
    have hc4 := gr4.hc hc3
    have hw4 := (gr4.old h2.nx (by omega)).trans hw
    have hs4 := hs.grow hc3 gr4
    have e24 := (gr4.old h.nx (by omega)).trans e2
    have hwl := hs.lt hc3
    simp (disch := omega) only [w_block, seqK_n, x_nil, kx, putD_some]
    generalize h3.new (rC L) = h4 at *
    generalize hfr : T.set (K.ofNat 13) _ _ = fr
    have g2 : fr.get (K.ofNat 2) = some (.p h.nx 0) := by rw [← hfr]; simp only [getK_set, Nat.reduceEqDiff, ↓reduceIte, g2]
    have g5 : fr.get (K.ofNat 5) = some (.p h2.nx 0) := by rw [← hfr]; simp only [getK_set, Nat.reduceEqDiff, ↓reduceIte, g5]
    have g9 : fr.get (K.ofNat 9) = some (.i .i64 (n : Int)) := by rw [← hfr]; simp only [getK_set, Nat.reduceEqDiff, ↓reduceIte, g9]
    have g10 : fr.get (K.ofNat 10) = some (.i .i64 (i : Int)) := by rw [← hfr]; simp only [getK_set, Nat.reduceEqDiff, ↓reduceIte, g10]
    have g13 : fr.get (K.ofNat 13) = some (.fn (K.ofNat 101) [.p h3.nx 0]) := by rw [← hfr]; simp only [getK_set, ↓reduceIte]
    clear hfr
    refine W_itr (by simp (disch := omega) only [ev_t, getV_some, g13]) (all_yieldsR hL k.c101) (fun id => ∃ off nn sz, w = .sl id off nn sz) (fun j h5 => Sl iE h5 w (nL n (rlL (lyS L i) ((arw (rat L)).take j)))) (fun _ _ => False) hc4 rfl (by rintro id ⟨off, nn, sz, e⟩; have := hwl _ _ _ _ e; omega)
      (fun h5 ks => (ks.old _ (by omega) (by rintro ⟨off, nn, sz, e⟩; have := hwl _ _ _ _ e; omega)).trans e4) ?_ (fun _ _ _ h _ _ _ => h.elim) ?_ ?_ ?_ (fun _ _ _ h => h.elim)
    · intro j h5 h6 q1 hc5 hn5 ho
      exact q1.same fun id off nn sz e => ho _ (q1.lt hc5 _ _ _ _ e) (fun e2 => by have := hwl _ _ _ _ e; rw [e2] at this; omega)
    · intro h5 hg
      rw [List.take_zero]
      exact hs4.grow hc4 hg
    · rintro j ⟨x, y⟩ h5 hx hk hn5 q1
      obtain ⟨l1, l2, hr⟩ := arw_lt (List.mem_of_getElem? hx)
      have hxn := (o.lt _ _ hr).1
      have hyn := (o.lt _ _ hr).2
      have hxn : x < n := hxn
      have hyn : y < n := hyn
      obtain ⟨hst, gB, c7, n6⟩ := arr_var (h := h5) (x := x) (y := y)
      have b1 := (gB.old h2.nx (by omega)).trans ((hk.old h2.nx (by omega) (fun ⟨off, nn, sz, e⟩ => ni5 _ _ _ e)).trans hw4)
      have b2 := q1.grow hk.hc gB
      unfold f73_a0
      simp (disch := omega) only [f73_r5, w_reg, x_nil, x_alloc, x_st, kx, rvP_ok, ev_t, getV_some, putD_some, putD_none, of0, getK_set, Nat.reduceEqDiff, ↓reduceIte, hst, itA_n]
      generalize (h5.new (.cells 2 [.i .i64 0, .i .i64 0])).put h5.nx (.cells 2 [.i .i64 (x : Int), .i .i64 (y : Int)]) = h6 at *
      refine ⟨gB, fun h7 n7 hc7 o7 _ => ?_⟩
      have n7' : h7.nx.nat = h6.nx.nat := congrArg K.nat n7
      have c7' := (o7 _ (kNe hn5).symm).trans c7
      have l0 := ld20 c7'
      have l1 := ld21 c7'
      have lw := load_p (off := 0) ((o7 h2.nx (kNe (by omega))).trans b1) (show nth [w] 0 = some w from rfl)
      have b2' : Sl iE h7 w (nL n (rlL (lyS L i) ((arw (rat L)).take j))) := b2.same fun id off nn sz e => o7 _ (fun e2 => by have := hwl _ _ _ _ e; rw [e2] at this; omega)
      have hin := Nat.lt_of_lt_of_le hyn (Nat.le_of_eq (nL_len (n := n) (d := rlL (lyS L i) ((arw (rat L)).take j))).symm)
      have hin2 := Nat.lt_of_lt_of_le hxn (Nat.le_of_eq (nL_len (n := n) (d := rlL (lyS L i) ((arw (rat L)).take j))).symm)
      obtain ⟨p, p1, p2⟩ := b2'.at y hin
      obtain ⟨q, q2, q3⟩ := b2'.at x hin2
      rw [nL_at hyn] at p2
      rw [nL_at hxn] at q3
      have p2 : loadV h7 p one? = .ok (.i .i64 ((rlL (lyS L i) ((arw (rat L)).take j) y : Nat) : Int)) h7 := p2
      have q3 : loadV h7 q one? = .ok (.i .i64 ((rlL (lyS L i) ((arw (rat L)).take j) x : Nat) : Int)) h7 := q3
      have bd : ∀ v, v < n → rlL (lyS L i) ((arw (rat L)).take j) v < n := fun v hv => by
        have := (rlL_ch (L := L) (l := (arw (rat L)).take j) (d := lyS L i) (fun z hz => (mem_arw.1 (List.mem_of_mem_take hz)).2.2) (ly_ch i) v).bound o hv
        omega
      have bx := bd x hxn
      have hsu : rlL (lyS L i) ((arw (rat L)).take (j + 1)) = rlx (rlL (lyS L i) ((arw (rat L)).take j)) (x, y) := by
        rw [List.take_add_one, hx]; exact rlL_snoc
      obtain ⟨pz, id, m, cs', w1, w2, w3, ⟨off, nn, sz, w4⟩, w5⟩ := b2'.st (i := y) hin (x := max ((rlL (lyS L i) ((arw (rat L)).take j) y : Nat) : Int) (((rlL (lyS L i) ((arw (rat L)).take j) x : Nat) : Int) + 1)) (c := .i .i64 (max ((rlL (lyS L i) ((arw (rat L)).take j) y : Nat) : Int) (((rlL (lyS L i) ((arw (rat L)).take j) x : Nat) : Int) + 1))) rfl rfl hc7
      obtain rfl : p = pz := by have := (p1 .i64 h7).symm.trans (w1 .i64 h7); injection this
      have hset := nL_set (d := rlL (lyS L i) ((arw (rat L)).take j)) (x := (x, y)) hyn
      rw [show (x, y).2 = y from rfl, show (x, y).1 = x from rfl] at hset
      rw [hset, ← hsu] at w3
      unfold f73_b0
      simp (disch := omega) only [f73_r6, w_draw, w_block, atK_n, true_and, x_nil, x_st, kx, kg, xg_nil, xg_ld, xg_bin, xg_fadr, xg_iads, xg_max, xd_cons, fresh_nil, stK_n, stK_s, stay_nil, rvP_ok, okv_some, ev_t, ev_c, getV_some, putD_some, putD_none, bin_add, onP_p, max_ii, of1, getK_set, Nat.reduceEqDiff, ↓reduceIte, g5, lw, l0, l1, p1, p2, q2, q3, fw64, w2, itC_n]
      refine ⟨w3, ?_⟩
      have hk0 : Kr (fun id => ∃ off nn sz, w = .sl id off nn sz) h4.nx h7 h7 := Kr.refl hc7
      exact hk0.put w5 (.inl ⟨off, nn, sz, w4⟩) _
    · intro h5 q1 hk hn5
      rw [List.take_length] at q1
      have hG5 : Grow h1.nx.nat h1 h5 := (hG.trans (gr4.low gn)).trans (hk.toGrow (by rintro id ⟨off, nn, sz, e⟩; exact how _ _ _ _ e) (by omega))
      simp (disch := omega) only [f73_r7, w_reg, seqK_n, atK_n, loopK_n, x_nil, x_mv, x_bin, kx, rvP_ok, okv_some, ev_t, ev_c, getV_some, putD_some, bin_add, of1, getK_set, ↓reduceIte, g10, fw64]
      exact ⟨i + 1, by omega, by omega, hG5, w, (hk.old h2.nx (by omega) (fun ⟨off, nn, sz, e⟩ => ni5 _ _ _ e)).trans hw4, q1, how, ni5, ni2, (hk.old h.nx (by omega) (fun ⟨off, nn, sz, e⟩ => ni2 _ _ _ e)).trans e24, by simp (disch := omega) only [getK_set, Nat.reduceEqDiff, ↓reduceIte, g2, g5, g9, and_self, Int.natCast_add, Int.natCast_one]⟩
  · have d0 : decide ((i : Int) < (n : Int)) = false := decide_eq_false (by omega)
    have ei : i = n := by omega
    subst ei
    have lw := load_p (off := 0) hw (show nth [w] 0 = some w from rfl)
    simp (disch := omega) only [f73_r3, f73_r8, f73_rs, w_reg, w_seq, w_cond, w_exit, w_ret, seqK_n, seqK_e, atK_e, loopK_e, ckB_b, cbB_b, true_and, retK_r, x_nil, x_as, x_ld, x_bin, kx, rvP_ok, okv_some, ev_t, getV_some, putD_some, bin_lss, oGet_s, readRs_nil, readRs_t, retV_1, Option.some.injEq, exists_eq_left', getK_set, Nat.reduceEqDiff, ↓reduceIte, Bool.false_eq_true, g5, g9, g10, d0, lw]
    exact ⟨hs, how.low (by omega), gr1.trans (hG.low (by omega))⟩
end
end Go.Ev
namespace Go.Ev
open Go Go.RowKit
section
variable {fs : T EF} {h h' : H}
def mxT (d : Nat → Nat) : Nat → Nat
  | 0 => 0
  | i + 1 => max (mxT d i) (d i)
theorem mxT_ge {d : Nat → Nat} : ∀ {n v : Nat}, v < n → d v ≤ mxT d n
  | n + 1, v, hv => by
    show d v ≤ max (mxT d n) (d n)
    by_cases e : v = n
    · rw [e]; exact Nat.le_max_right _ _
    · exact Nat.le_trans (mxT_ge (show v < n by omega)) (Nat.le_max_left _ _)
theorem mxT_at {d : Nat → Nat} : ∀ {n : Nat}, 1 ≤ n → ∃ v, v < n ∧ d v = mxT d n
  | 1, _ => ⟨0, by omega, by show d 0 = max 0 (d 0); omega⟩
  | n + 2, _ => by
    obtain ⟨v, h1, h2⟩ := mxT_at (d := d) (n := n + 1) (by omega)
    rcases Nat.le_total (d (n + 1)) (mxT d (n + 1)) with q | q
    · exact ⟨v, by omega, by show d v = max (mxT d (n + 1)) (d (n + 1)); omega⟩
    · exact ⟨n + 1, by omega, by show d (n + 1) = max (mxT d (n + 1)) (d (n + 1)); omega⟩
def f95_I (h0 : H) (v : V) (n : Nat) (d : Nat → Nat) (i : Nat) (fr : Fr) (h1 : H) : Prop := 1 ≤ i ∧ i ≤ n ∧ h1 = h0 ∧ fr.get (K.ofNat 0) = some (v) ∧ fr.get (K.ofNat 3) = some (.i .i64 (mxT d i : Int)) ∧ fr.get (K.ofNat 4) = some (.i .i64 (i : Int))
theorem f95_ret {v : V} {n : Nat} {d : Nat → Nat} (hv : Sl iE h v (nL n d)) (hn : 1 ≤ n) (hn7 : n ≤ 7) : Ret fs f95 [v] h fun r h' => r = .i .i64 (mxT d n : Int) ∧ h' = h := by
  apply ret_of rfl
  show W fs none f95_c _ _ _
  unfold f95_c
  have hlen : ∀ h1, lenV v h1 = .ok (.i .i64 (n : Int)) h1 := fun h1 => by rw [hv.len, nL_len]
  have d1 : decide ((n : Int) < 1) = false := decide_eq_false (by omega)
  obtain ⟨p, p1, p2⟩ := hv.at 0 (by rw [nL_len]; omega)
  rw [nL_at (by omega)] at p2
  have p2 : loadV h p one? = .ok (.i .i64 (d 0 : Int)) h := p2
  have p1 : ∀ h1, iadsV 1 v (.i .i64 0) h1 = .ok p h1 := fun h1 => p1 .i64 h1
  simp (disch := omega) only [f95_r0, f95_r1, f95_r3, f95_r4, w_skip, w_reg, w_seq, w_cond, w_block, seqK_n, ckB_b, cbB_b, true_and, x_nil, x_mv, x_as, x_ld, x_bin, x_iads, x_len, kx, rvP_ok, okv_some, ev_t, ev_c, getV_some, putD_some, bin_lss, frame_1, of0, of1, getK_set, Nat.reduceEqDiff, ↓reduceIte, Bool.false_eq_true, hlen, d1, p1, p2]
  refine W_loop (f95_I h v n d) (fun i => n - i) ?_ 1 ⟨by omega, by omega, rfl, by have e : max 0 (d 0) = d 0 := by omega
                                                                                   simp (disch := omega) only [getK_set, Nat.reduceEqDiff, ↓reduceIte, and_self, Int.natCast_one, mxT, e]⟩
  rintro i fr h1 ⟨h1i, hi, rfl, g0, g3, g4⟩
  unfold f95_l0
  by_cases hlt : i < n
  · have d0 : decide ((i : Int) < (n : Int)) = true := decide_eq_true (by omega)
    obtain ⟨q, q1, q2⟩ := hv.at i (by rw [nL_len]; omega)
    rw [nL_at hlt] at q2
    have q2 : loadV h1 q one? = .ok (.i .i64 (d i : Int)) h1 := q2
    have em : max (mxT d i : Int) (d i : Int) = ((mxT d (i + 1) : Nat) : Int) := by show _ = ((max (mxT d i) (d i) : Nat) : Int); omega
    simp (disch := omega) only [f95_r5, f95_r6, f95_r7, w_skip, w_reg, w_seq, w_cond, w_block, seqK_n, atK_n, loopK_n, ckB_b, cbB_b, true_and, x_nil, x_mv, x_as, x_ld, x_bin, x_iads, x_len, x_max, kx, rvP_ok, okv_some, ev_t, ev_c, getV_some, putD_some, bin_add, bin_lss, max_ii, of1, getK_set, Nat.reduceEqDiff, ↓reduceIte, g0, g3, g4, hlen, d0, q1, q2, em, fw64]
    exact ⟨i + 1, by omega, by omega, by omega, rfl, by simp (disch := omega) only [getK_set, Nat.reduceEqDiff, ↓reduceIte, g0, and_self, Int.natCast_add, Int.natCast_one]⟩
  · have d0 : decide ((i : Int) < (n : Int)) = false := decide_eq_false (by omega)
    have ei : i = n := by omega
    subst ei
    simp (disch := omega) only [f95_r5, f95_r8, f95_rs, w_reg, w_seq, w_cond, w_exit, w_ret, seqK_n, seqK_e, atK_e, loopK_e, ckB_b, cbB_b, retK_r, x_nil, x_mv, x_as, x_bin, x_len, kx, rvP_ok, okv_some, ev_t, getV_some, putD_some, bin_lss, oGet_s, readRs_nil, readRs_t, retV_1, Option.some.injEq, exists_eq_left', getK_set, Nat.reduceEqDiff, ↓reduceIte, Bool.false_eq_true, g0, g3, g4, hlen, d0, and_self]
/-- What a chain, built from the top, has so far. -/
structure ChI (L : List Bool) (n top q : Nat) (c : Nat → Nat) : Prop where
  lt : ∀ l, c l < n
  ly : ∀ l, q ≤ l → l ≤ top → lyR L n (c l) = l
  ar : ∀ l, q ≤ l → l < top → rat L (c l) (c (l + 1)) = true
def mtB (L : List Bool) (n top l : Nat) (c : Nat → Nat) (j : Nat) : Prop := lyR L n j = l ∧ (l = top ∨ rat L j (c (l + 1)) = true)
def f72_I (h0 : H) (id2 : K) (n : Nat) (L : List Bool) (top : Nat) (y : V) (q : Nat) (fr : Fr) (h1 : H) : Prop := q ≤ top + 1 ∧ Grow h0.nx.nat h0 h1 ∧ ∃ w c, ChI L n top q c ∧ Sl iE h1 w (nL (top + 1) c) ∧ Own h0.nx.nat w ∧ fr.get (K.ofNat 1) = some (.i .i64 (n : Int)) ∧ fr.get (K.ofNat 2) = some (.p id2 0) ∧ fr.get (K.ofNat 5) = some (y) ∧ fr.get (K.ofNat 6) = some (.i .i64 (top : Int)) ∧ fr.get (K.ofNat 7) = some (w) ∧ fr.get (K.ofNat 8) = some (.i .i64 ((q : Int) - 1))
def f72_J (h0 : H) (id2 : K) (n : Nat) (L : List Bool) (top : Nat) (y : V) (l : Nat) (j : Nat) (fr : Fr) (h1 : H) : Prop := j ≤ n ∧ Grow h0.nx.nat h0 h1 ∧ ∃ w c, ChI L n top (l + 1) c ∧ (∀ i, i < j → mtB L n top l c i → mtB L n top l c (c l)) ∧ Sl iE h1 w (nL (top + 1) c) ∧ Own h0.nx.nat w ∧ fr.get (K.ofNat 1) = some (.i .i64 (n : Int)) ∧ fr.get (K.ofNat 2) = some (.p id2 0) ∧ fr.get (K.ofNat 5) = some (y) ∧ fr.get (K.ofNat 6) = some (.i .i64 (top : Int)) ∧ fr.get (K.ofNat 7) = some (w) ∧ fr.get (K.ofNat 8) = some (.i .i64 (l : Int)) ∧ fr.get (K.ofNat 23) = some (.i .i64 (n : Int)) ∧ fr.get (K.ofNat 24) = some (.i .i64 (j : Int))
theorem nL_set1 {n : Nat} {d : Nat → Nat} {l v : Nat} (_ : l < n) : (nL n d).set l (v : Int) = nL n (fun x => if x = l then v else d x) := by
  apply List.ext_getElem
  · rw [List.length_set, nL_len, nL_len]
  · intro i h1 h2
    rw [nL_len] at h2
    have e1 := nL_at (d := fun x => if x = l then v else d x) h2
    have e2 := nL_at (d := d) h2
    rw [List.getElem_set, e1, e2]
    by_cases e : l = i
    · rw [if_pos e, if_pos e.symm]
    · rw [if_neg e, if_neg (fun h => e h.symm)]
structure CallsCh (fs : T EF) : Prop extends CallsCk fs where
  c73 : fs.get (K.ofNat 73) = some f73
  c95 : fs.get (K.ofNat 95) = some f95
theorem f72_ret {L : List Bool} {n : Nat} (k : CallsCh fs) (o : OrdN n L) (hn1 : 1 ≤ n) (hn : n ≤ 7) (hc : HC h) : Ret fs f72 [rV L, .i .i64 (n : Int)] h fun r h' => ∃ c, ChI L n (mxT (lyR L n) n) 0 c ∧ Sl iE h' r (nL (mxT (lyR L n) n + 1) c) ∧ Own h.nx.nat r ∧ Grow h.nx.nat h h' := by
  have hL := o.len
  apply ret_of rfl
  show W fs none f72_c _ _ _
  unfold f72_c
  have c1 := rC_cells hL
  have n1 := nx_new h (.cells 49 (L.map V.b))
  have gr1 : Grow h.nx.nat h (h.new (.cells 49 (L.map V.b))) := Grow.new (Nat.le_refl _) _
  have e1 : (h.new (.cells 49 (L.map V.b))).get h.nx = rC L := get_new_same
  have l1 := rC_ldn hL e1
  simp (disch := omega) only [f72_r0, f72_r1, w_reg, w_seq, seqK_n, x_nil, x_mv, x_as, x_box, x_ldn, x_call, kx, rvP_ok, ev_t, ev_c, evs_nil, evs_cons, getV_some, putD_some, oGet_s, frame_2, getK_set, Nat.reduceEqDiff, ↓reduceIte, c1, l1]
  generalize h.new (.cells 49 (L.map V.b)) = h1 at *
  have hc1 := gr1.hc hc
  refine (callP_0 (ef := f73) k.c73 rfl (f73_ret k.toNat4 o hn hc1)).mono ?_
  rintro y h2 ⟨hy, hoy, gr2⟩
  have hc2 := gr2.hc hc1
  simp (disch := omega) only [f72_r2, w_reg, w_seq, seqK_n, x_nil, x_mv, x_as, x_call, kx, ev_t, ev_c, evs_nil, evs_cons, getV_some, putD_some, getK_set, ↓reduceIte]
  refine (callP_0 (ef := f95) k.c95 rfl (f95_ret hy hn1 hn)).mono ?_
  rintro r h3 ⟨rfl, rfl⟩
  obtain ⟨top, htop⟩ : ∃ top, top = mxT (lyR L n) n := ⟨_, rfl⟩
  obtain ⟨vt, hvt1, hvt2⟩ := mxT_at (d := lyR L n) hn1
  have htn : top < n := by rw [htop, ← hvt2]; exact ly_lt o hvt1
  have hge : ∀ v, v < n → lyR L n v ≤ top := fun v hv => by rw [htop]; exact mxT_ge hv
  rw [← htop] at hvt2
  rw [← htop]
  have et : (top : Int) + 1 = ((top + 1 : Nat) : Int) := by omega
  have hmk := mks_ints (h := h3) (k := .i64) (n := top + 1) (by omega)
  have hs0 := mks_sl (h := h3) (n := top + 1)
  have gr4 : Grow h3.nx.nat h3 (h3.new (.cells ((top + 1) * 1) (rep [.i .i64 0] (top + 1)))) := Grow.new (Nat.le_refl _) _
  have e0 : List.replicate (top + 1) (0 : Int) = nL (top + 1) (fun _ => 0) := by
    apply List.ext_getElem
    · simp [nL_len]
    · intro i h1 h2; rw [nL_len] at h2; rw [nL_at h2]; simp
  rw [e0] at hs0
  have g2n := gr2.nx
  simp (disch := omega) only [f72_r3, f72_r4, w_reg, w_seq, w_block, seqK_n, x_nil, x_mv, x_as, x_bin, x_mks, kx, rvP_ok, okv_some, ev_t, ev_c, getV_some, putD_some, bin_add, of0, of1, getK_set, Nat.reduceEqDiff, ↓reduceIte, et, fw64, hmk]
  generalize h3.new (.cells ((top + 1) * 1) (rep [.i .i64 0] (top + 1))) = h4 at *
  have hq1 : (((top + 1 : Nat) : Int)) - 1 = (top : Int) := by omega
  refine W_loop (f72_I h3 h.nx n L top y) (fun q => q) ?_ (top + 1) ⟨Nat.le_refl _, gr4, .sl h3.nx 0 (top + 1) 1, fun _ => 0, ⟨fun _ => by omega, fun l h1 h2 => by omega, fun l h1 h2 => by omega⟩, hs0, (fun _ _ _ _ e => by cases e; exact Nat.le_refl _), by simp (disch := omega) only [getK_set, Nat.reduceEqDiff, ↓reduceIte, and_self, hq1]⟩
  clear hs0 hmk gr4 h4
  rintro q fr h4 ⟨hq, hG, w, c, hci, hw, how, g1, g2, g5, g6, g7, g8⟩
  have hc4 := hG.hc hc2
  have e24 : h4.get h.nx = rC L := (hG.old _ (by omega)).trans ((gr2.old h.nx (by omega)).trans e1)
  unfold f72_l1
  by_cases hq0 : 0 < q
  · obtain ⟨l, rfl⟩ : ∃ l, q = l + 1 := ⟨q - 1, by omega⟩
    have eq1 : (((l + 1 : Nat) : Int)) - 1 = (l : Int) := by omega
    rw [eq1] at g8
    have d0 : decide ((l : Int) ≥ 0) = true := decide_eq_true (by omega)
    simp (disch := omega) only [f72_r5, f72_r6, w_skip, w_reg, w_seq, w_cond, w_block, seqK_n, ckB_b, cbB_b, true_and, x_nil, x_mv, x_bin, kx, rvP_ok, okv_some, ev_t, ev_c, getV_some, putD_some, bin_geq, of0, getK_set, Nat.reduceEqDiff, ↓reduceIte, g1, g8, d0]
    refine W_loop (f72_J h3 h.nx n L top y l) (fun j => n - j) ?_ 0 ⟨by omega, hG, w, c, hci, fun i hi => by omega, hw, how, by simp (disch := omega) only [getK_set, Nat.reduceEqDiff, ↓reduceIte, g1, g2, g5, g6, g7, g8, and_self, Int.natCast_zero]⟩
    clear hci hw how g1 g2 g5 g6 g7 g8 fr hG hc4 e24
    rintro j fr h4 ⟨hj, hG, w, c, hci, hm, hw, how, g1, g2, g5, g6, g7, g8, g23, g24⟩
    have hc4 := hG.hc hc2
    have e24 : h4.get h.nx = rC L := (hG.old _ (by omega)).trans ((gr2.old h.nx (by omega)).trans e1)
    have hy4 := hy.grow hc2 hG
    have hyb := hy.sr.beq
    have hwb := hw.sr.beq
    unfold f72_l0
    by_cases hlt : j < n
    · have d1 : decide ((j : Int) < (n : Int)) = true := decide_eq_true (by omega)
      obtain ⟨p, p1, p2⟩ := hy4.at j (by rw [nL_len]; omega)
      rw [nL_at hlt] at p2
      have p2 : loadV h4 p one? = .ok (.i .i64 (lyR L n j : Int)) h4 := p2
      have step : (mtB L n top l c j → False) → ∀ i, i < j + 1 → mtB L n top l c i → mtB L n top l c (c l) := fun hno i hi hmi => by
        by_cases e : i = j
        · rw [e] at hmi; exact (hno hmi).elim
        · exact hm i (by omega) hmi
      simp (disch := omega) only [f72_r7, f72_r8, w_skip, w_reg, w_draw, w_seq, w_cond, w_block, seqK_n, ckB_b, cbB_b, true_and, x_nil, x_mv, x_as, x_bin, kx, rvP_ok, okv_some, ev_t, getV_some, putD_some, bin_lss, getK_set, Nat.reduceEqDiff, ↓reduceIte, g23, g24, d1]
      -- the node is put into the chain
      have put : mtB L n top l c j → ∃ p id m cs', (∀ k h1, iadsV 1 w (.i k (l : Int)) h1 = .ok p h1) ∧ storeV h4 1 p (.i .i64 (j : Int)) = .ok undefV (h4.put id (.cells m cs')) ∧ Grow h3.nx.nat h3 (h4.put id (.cells m cs')) ∧ ChI L n top (l + 1) (fun x => if x = l then j else c x) ∧ (∀ i, i < j + 1 → mtB L n top l (fun x => if x = l then j else c x) i → mtB L n top l (fun x => if x = l then j else c x) ((fun x => if x = l then j else c x) l)) ∧ Sl iE (h4.put id (.cells m cs')) w (nL (top + 1) (fun x => if x = l then j else c x)) := fun hmt => by
        obtain ⟨pz, id, m, cs', w1, w2, w3, ⟨off, nn, sz, w4⟩, w5⟩ := hw.st (i := l) (by rw [nL_len]; omega) (x := (j : Int)) (c := .i .i64 (j : Int)) rfl rfl hc4
        rw [nL_set1 (by omega)] at w3
        refine ⟨pz, id, m, cs', w1, w2, hG.trans (Grow.put (how _ _ _ _ w4) w5 _), ⟨fun x => ?_, fun x h1 h2 => ?_, fun x h1 h2 => ?_⟩, fun i hi _ => ?_, w3⟩
        · by_cases e : x = l
          · simp only [if_pos e]; exact hlt
          · simp only [if_neg e]; exact hci.lt x
        · simp only [if_neg (show x ≠ l by omega)]; exact hci.ly x h1 h2
        · simp only [if_neg (show x ≠ l by omega), if_neg (show x + 1 ≠ l by omega)]; exact hci.ar x h1 h2
        · unfold mtB at hmt ⊢
          simp only [if_pos, if_neg (show l + 1 ≠ l by omega)]
          exact hmt
      by_cases h1 : lyR L n j = l
      · have d2 : decide ((lyR L n j : Int) = (l : Int)) = true := decide_eq_true (by omega)
        by_cases h2 : l = top
        · have d3 : decide ((l : Int) = (top : Int)) = true := decide_eq_true (by omega)
          obtain ⟨pz, id, m, cs', w1, w2, gw, wci, wm, w3⟩ := put ⟨h1, .inl h2⟩
          simp (disch := omega) only [f72_r9, f72_r10, f72_r11, w_reg, w_cond, seqK_n, atK_n, loopK_n, ckB_b, cbB_b, okG_b, asG_t, asG_f, true_and, x_nil, x_mv, x_st, x_bin, x_iads, kx, kg, xg_nil, xg_g, xg_mv, xg_pick, xg_ld, xg_bin, xg_iads, xd_cons, fresh_nil, stK_n, stay_nil, rvP_ok, okv_some, ev_t, ev_c, getV_some, putD_some, putD_none, bin_add, bin_eql, pick_b, of1, getK_set, Nat.reduceEqDiff, ↓reduceIte, Bool.false_eq_true, Bool.not_true, g5, g6, g7, g8, g24, p1, p2, d2, d3, w1, w2, fw64]
          exact ⟨j + 1, by omega, hlt, gw, w, _, wci, wm, w3, how, by simp (disch := omega) only [getK_set, Nat.reduceEqDiff, ↓reduceIte, g1, g2, g5, g6, g7, g8, g23, and_self, Int.natCast_add, Int.natCast_one]⟩
        · have d3 : decide ((l : Int) = (top : Int)) = false := decide_eq_false (by omega)
          have el : (l : Int) + 1 = ((l + 1 : Nat) : Int) := by omega
          obtain ⟨pc, q1, q2⟩ := hw.at (l + 1) (by rw [nL_len]; omega)
          rw [nL_at (by omega)] at q2
          have q2 : loadV h4 pc one? = .ok (.i .i64 (c (l + 1) : Int)) h4 := q2
          have hcl := hci.lt (l + 1)
          have lr := rC_ld (a := j) (b := c (l + 1)) (by omega) (by omega) hL e24
          have hlt7 : j < 7 := by omega
          have hcl7 : c (l + 1) < 7 := by omega
          cases hr : rat L j (c (l + 1)) with
          | true =>
            rw [hr] at lr
            obtain ⟨pz, id, m, cs', w1, w2, gw, wci, wm, w3⟩ := put ⟨h1, .inr hr⟩
            simp (disch := omega) only [f72_r9, f72_r10, f72_r11, w_reg, w_cond, seqK_n, atK_n, loopK_n, ckB_b, cbB_b, okG_b, asG_t, asG_f, true_and, x_nil, x_mv, x_st, x_bin, x_iads, kx, kg, xg_nil, xg_g, xg_mv, xg_pick, xg_ld, xg_bin, xg_iadr, xg_iads, xd_cons, fresh_nil, stK_n, stay_nil, rvP_ok, okv_some, ev_t, ev_c, getV_some, putD_some, putD_none, bin_add, bin_eql, pick_b, onP_p, idx_n, of1, getK_set, Nat.reduceEqDiff, ↓reduceIte, Bool.false_eq_true, Bool.not_false, g2, g5, g6, g7, g8, g24, p1, p2, d2, d3, el, q1, q2, lr, w1, w2, fw64]
            exact ⟨j + 1, by omega, hlt, gw, w, _, wci, wm, w3, how, by simp (disch := omega) only [getK_set, Nat.reduceEqDiff, ↓reduceIte, g1, g2, g5, g6, g7, g8, g23, and_self, Int.natCast_add, Int.natCast_one]⟩
          | false =>
            rw [hr] at lr
            simp (disch := omega) only [f72_r9, f72_r11, w_skip, w_reg, w_cond, seqK_n, atK_n, loopK_n, ckB_b, cbB_b, okG_b, asG_t, asG_f, true_and, x_nil, x_mv, x_bin, kx, kg, xg_nil, xg_g, xg_mv, xg_pick, xg_ld, xg_bin, xg_iadr, xg_iads, xd_cons, fresh_nil, stK_n, stay_nil, rvP_ok, okv_some, ev_t, ev_c, getV_some, putD_some, bin_add, bin_eql, pick_b, onP_p, idx_n, of1, getK_set, Nat.reduceEqDiff, ↓reduceIte, Bool.false_eq_true, Bool.not_false, g2, g5, g6, g7, g8, g24, p1, p2, d2, d3, el, q1, q2, lr, fw64]
            exact ⟨j + 1, by omega, hlt, hG, w, c, hci, step (fun hmt => by rcases hmt.2 with e | e; exact h2 e; rw [hr] at e; cases e), hw, how, by simp (disch := omega) only [getK_set, Nat.reduceEqDiff, ↓reduceIte, g1, g2, g5, g6, g7, g8, g23, and_self, Int.natCast_add, Int.natCast_one]⟩
      · have d2 : decide ((lyR L n j : Int) = (l : Int)) = false := decide_eq_false (by omega)
        simp (disch := omega) only [f72_r9, f72_r11, w_skip, w_reg, w_cond, seqK_n, atK_n, loopK_n, ckB_b, cbB_b, okG_b, okG_u, asG_t, asG_u, true_and, x_nil, x_mv, x_bin, kx, kg, xg_nil, xg_g, xg_mv, xg_pick, xg_ld, xg_bin, xg_iads, xd_cons, fresh_nil, stK_n, stay_nil, rvP_ok, okv_some, ev_t, ev_c, getV_some, putD_some, bin_add, bin_eql, pick_b, of1, getK_set, Nat.reduceEqDiff, ↓reduceIte, Bool.false_eq_true, g5, g8, g24, p1, p2, d2, fw64]
        exact ⟨j + 1, by omega, hlt, hG, w, c, hci, step (fun hmt => h1 hmt.1), hw, how, by simp (disch := omega) only [getK_set, Nat.reduceEqDiff, ↓reduceIte, g1, g2, g5, g6, g7, g8, g23, and_self, Int.natCast_add, Int.natCast_one]⟩
    · have d1 : decide ((j : Int) < (n : Int)) = false := decide_eq_false (by omega)
      have ej : j = n := by omega
      subst ej
      have hmt : mtB L j top l c (c l) := by
        by_cases h2 : l = top
        · exact hm vt hvt1 ⟨by rw [hvt2, h2], .inl h2⟩
        · obtain ⟨u, u1, u2⟩ := ly_down o (hci.ly (l + 1) (Nat.le_refl _) (by omega))
          exact hm u (o.lt _ _ u1).1 ⟨u2, .inr u1⟩
      simp (disch := omega) only [f72_r7, f72_r12, w_reg, w_seq, w_cond, w_exit, seqK_n, seqK_e, atK_n, atK_e, loopK_n, loopK_e, ckB_b, cbB_b, true_and, x_nil, x_mv, x_as, x_bin, kx, rvP_ok, okv_some, ev_t, ev_c, getV_some, putD_some, bin_sub, bin_lss, of1, getK_set, Nat.reduceEqDiff, ↓reduceIte, Bool.false_eq_true, g8, g23, g24, d1, fw64]
      refine ⟨l, by omega, by omega, hG, w, c, ⟨hci.lt, fun x h1 h2 => ?_, fun x h1 h2 => ?_⟩, hw, how, by simp (disch := omega) only [getK_set, Nat.reduceEqDiff, ↓reduceIte, g1, g2, g5, g6, g7, and_self]⟩
      · by_cases e : x = l
        · rw [e]; exact hmt.1
        · exact hci.ly x (by omega) h2
      · by_cases e : x = l
        · rw [e]; rcases hmt.2 with e2 | e2
          · omega
          · exact e2
        · exact hci.ar x (by omega) h2
  · have e0 : q = 0 := by omega
    subst e0
    have d0 : decide (((0 : Nat) : Int) - 1 ≥ 0) = false := by decide
    simp (disch := omega) only [f72_r5, f72_r13, f72_rs, w_reg, w_seq, w_cond, w_exit, w_ret, seqK_n, seqK_e, atK_e, loopK_e, ckB_b, cbB_b, true_and, retK_r, x_nil, x_mv, x_as, x_bin, kx, rvP_ok, okv_some, ev_t, ev_c, getV_some, putD_some, bin_geq, oGet_s, readRs_nil, readRs_t, retV_1, of0, Option.some.injEq, exists_eq_left', getK_set, Nat.reduceEqDiff, ↓reduceIte, Bool.false_eq_true, g7, g8, d0]
    exact ⟨c, hci, hw, how.low (by omega), gr1.trans ((gr2.low (by omega)).trans (hG.low (by omega)))⟩
theorem f41_ret {n : Nat} {v : V} {L : List Bool} (k : CallsCh fs) (h45 : fs.get (K.ofNat 45) = some f45) (h72 : fs.get (K.ofNat 72) = some f72) (o : OrdN n L) (hn1 : 1 ≤ n) (hn : n ≤ 7) (hv : Srp h v (arI (rat L))) (hc : HC h) : Ret fs f41 [.i .i64 (n : Int), v] h fun r h' => ∃ u c, r = .tup [u, .i .i64 0] ∧ ChI L n (mxT (lyR L n) n) 0 c ∧ Sl iE h' u (nL (mxT (lyR L n) n + 1) c) ∧ Own h.nx.nat u ∧ Grow h.nx.nat h h' := by
  have hlb := arI_len (g := rat L)
  apply ret_of rfl
  show W fs none f41_c _ _ _
  unfold f41_c
  simp (disch := omega) only [f41_r0, f41_r1, w_reg, w_seq, seqK_n, x_nil, x_mv, x_as, x_call, ev_t, ev_c, evs_nil, evs_cons, getV_some, putD_some, frame_2, of0, getK_set, Nat.reduceEqDiff, ↓reduceIte]
  refine (callP_0 (ef := f45) h45 rfl (f45_ret k.toCallsCk hv (by omega) hc)).mono ?_
  rintro r h1 ⟨rfl, gr1⟩
  rw [ckO_o hn1 hn o]
  have ne0 : decide ((0 : Int) ≠ 0) = false := rfl
  simp (disch := omega) only [f41_r2, f41_r4, w_skip, w_reg, w_seq, w_cond, seqK_n, ckB_b, cbB_b, true_and, x_nil, x_mv, x_as, x_bin, x_call, kx, rvP_ok, okv_some, ev_t, ev_c, evs_nil, evs_cons, getV_some, putD_some, bin_neq, of0, getK_set, Nat.reduceEqDiff, ↓reduceIte, Bool.false_eq_true, ne0]
  have hc1 := gr1.hc hc
  refine (callP_0 (ef := f71) k.c71 rfl (f71_ret (hv.grow hc gr1) nd_arI (by omega) hc1)).mono ?_
  rintro r h2 ⟨rfl, gr2⟩
  rw [relR_arI o.len]
  simp (disch := omega) only [x_mv, x_call, kx, ev_t, ev_c, evs_nil, evs_cons, getV_some, putD_some, getK_set, Nat.reduceEqDiff, ↓reduceIte]
  refine (callP_0 (ef := f72) h72 rfl (f72_ret k o hn1 hn (gr2.hc hc1))).mono ?_
  rintro u h3 ⟨c, q1, q2, q3, gr3⟩
  have g1n := gr1.nx; have g2n := gr2.nx
  simp (disch := omega) only [f41_rs, w_ret, seqK_n, retK_r, x_nil, x_as, kx, ev_t, ev_c, getV_some, putD_some, oGet_s, readRs_nil, readRs_t, retV_2, Option.some.injEq, exists_eq_left', getK_set, Nat.reduceEqDiff, ↓reduceIte]
  exact ⟨u, c, rfl, q1, q2, q3.low (by omega), gr1.trans ((gr2.low (by omega)).trans (gr3.low (by omega)))⟩
theorem f42_ret {n : Nat} {v : V} {L : List Bool} (k : CallsCh fs) (h45 : fs.get (K.ofNat 45) = some f45) (o : OrdN n L) (hn1 : 1 ≤ n) (hn : n ≤ 7) (hv : Srp h v (arI (rat L))) (hc : HC h) : Ret fs f42 [.i .i64 (n : Int), v] h fun r h' => ∃ u, r = .tup [u, .i .i64 0] ∧ Sl iE h' u (nL n (lyR L n)) ∧ Own h.nx.nat u ∧ Grow h.nx.nat h h' := by
  have hlb := arI_len (g := rat L)
  apply ret_of rfl
  show W fs none f42_c _ _ _
  unfold f42_c
  simp (disch := omega) only [f42_r0, f42_r1, w_reg, w_seq, seqK_n, x_nil, x_mv, x_as, x_call, ev_t, ev_c, evs_nil, evs_cons, getV_some, putD_some, frame_2, of0, getK_set, Nat.reduceEqDiff, ↓reduceIte]
  refine (callP_0 (ef := f45) h45 rfl (f45_ret k.toCallsCk hv (by omega) hc)).mono ?_
  rintro r h1 ⟨rfl, gr1⟩
  rw [ckO_o hn1 hn o]
  have ne0 : decide ((0 : Int) ≠ 0) = false := rfl
  simp (disch := omega) only [f42_r2, f42_r4, w_skip, w_reg, w_seq, w_cond, seqK_n, ckB_b, cbB_b, true_and, x_nil, x_mv, x_as, x_bin, x_call, kx, rvP_ok, okv_some, ev_t, ev_c, evs_nil, evs_cons, getV_some, putD_some, bin_neq, of0, getK_set, Nat.reduceEqDiff, ↓reduceIte, Bool.false_eq_true, ne0]
  have hc1 := gr1.hc hc
  refine (callP_0 (ef := f71) k.c71 rfl (f71_ret (hv.grow hc gr1) nd_arI (by omega) hc1)).mono ?_
  rintro r h2 ⟨rfl, gr2⟩
  rw [relR_arI o.len]
  simp (disch := omega) only [x_mv, x_call, kx, ev_t, ev_c, evs_nil, evs_cons, getV_some, putD_some, getK_set, Nat.reduceEqDiff, ↓reduceIte]
  refine (callP_0 (ef := f73) k.c73 rfl (f73_ret k.toNat4 o hn (gr2.hc hc1))).mono ?_
  rintro u h3 ⟨q2, q3, gr3⟩
  have g1n := gr1.nx; have g2n := gr2.nx
  simp (disch := omega) only [f42_rs, w_ret, seqK_n, retK_r, x_nil, x_as, kx, ev_t, ev_c, getV_some, putD_some, oGet_s, readRs_nil, readRs_t, retV_2, Option.some.injEq, exists_eq_left', getK_set, Nat.reduceEqDiff, ↓reduceIte]
  exact ⟨u, rfl, q2, q3.low (by omega), gr1.trans ((gr2.low (by omega)).trans (gr3.low (by omega)))⟩
end
end Go.Ev
namespace Go.Ev
open Go Go.RowKit
def okC (g : Nat → Nat → Bool) (l : List Nat) (c i : Nat) : Bool := (List.range i).all fun u => decide (l.getD u 0 ≠ c) || !g u l.length
def colF (g : Nat → Nat → Bool) (k : Nat) : Nat → List Nat → Bool
  | 0, _ => true
  | f + 1, l => (List.range k).any fun c => okC g l c l.length && colF g k f (l ++ [c])
section
variable {g : Nat → Nat → Bool} {k n : Nat}
/-- Colours that are right. -/
def Prp (g : Nat → Nat → Bool) (k : Nat) (l : List Nat) : Prop := ∀ v, v < l.length → l.getD v 0 < k ∧ ∀ u, u < v → g u v = true → l.getD u 0 ≠ l.getD v 0
theorem getD_l {l m : List Nat} {v : Nat} (hv : v < l.length) : (l ++ m).getD v 0 = l.getD v 0 := by
  rw [List.getD_eq_getElem?_getD, List.getD_eq_getElem?_getD, List.getElem?_append_left hv]
theorem getD_r {l : List Nat} {c : Nat} : (l ++ [c]).getD l.length 0 = c := by
  rw [List.getD_eq_getElem?_getD, List.getElem?_append_right (Nat.le_refl _)]; simp
theorem Prp.snoc {l : List Nat} {c : Nat} (hp : Prp g k l) (hc : c < k) (ho : okC g l c l.length = true) : Prp g k (l ++ [c]) := by
  intro v hv
  rw [List.length_append] at hv
  have hv : v < l.length + 1 := hv
  by_cases e : v = l.length
  · subst e
    rw [getD_r]
    refine ⟨hc, fun u hu hg he => ?_⟩
    rw [getD_l hu] at he
    unfold okC at ho
    have := List.all_eq_true.1 ho u (List.mem_range.2 hu)
    rw [hg, he] at this
    simp at this
  · rw [getD_l (show v < l.length by omega)]
    obtain ⟨h1, h2⟩ := hp v (by omega)
    refine ⟨h1, fun u hu => ?_⟩
    rw [getD_l (show u < l.length by omega)]
    exact h2 u hu
theorem colF_sound : ∀ {f : Nat} {l : List Nat}, Prp g k l → colF g k f l = true → ∃ m, m.length = l.length + f ∧ Prp g k m
  | 0, l, hp, _ => ⟨l, rfl, hp⟩
  | f + 1, l, hp, h => by
    have h : ((List.range k).any fun c => okC g l c l.length && colF g k f (l ++ [c])) = true := h
    rw [List.any_eq_true] at h
    obtain ⟨c, hc, h⟩ := h
    rw [Bool.and_eq_true] at h
    obtain ⟨m, h1, h2⟩ := colF_sound (hp.snoc (List.mem_range.1 hc) h.1) h.2
    exact ⟨m, by rw [h1]; simp; omega, h2⟩
theorem colF_all {col : Nat → Nat} (h1 : ∀ v, v < n → col v < k) (h2 : ∀ u v, u < v → v < n → g u v = true → col u ≠ col v) : ∀ {f : Nat}, f ≤ n → colF g k f ((List.range (n - f)).map col) = true
  | 0, _ => rfl
  | f + 1, hf => by
    show ((List.range k).any fun c => okC g ((List.range (n - (f + 1))).map col) c ((List.range (n - (f + 1))).map col).length && colF g k f ((List.range (n - (f + 1))).map col ++ [c])) = true
    rw [List.any_eq_true]
    refine ⟨col (n - (f + 1)), List.mem_range.2 (h1 _ (by omega)), ?_⟩
    rw [Bool.and_eq_true]
    constructor
    · unfold okC
      rw [List.all_eq_true]
      intro u hu
      rw [List.mem_range] at hu
      have hl : ((List.range (n - (f + 1))).map col).length = n - (f + 1) := by simp
      rw [hl] at hu
      have hgd : ((List.range (n - (f + 1))).map col).getD u 0 = col u := by
        rw [List.getD_eq_getElem?_getD, List.getElem?_map, List.getElem?_range hu]; rfl
      rw [hgd, hl]
      cases hg : g u (n - (f + 1)) with
      | false => simp
      | true => rw [decide_eq_true (h2 _ _ hu (by omega) hg)]; rfl
    · have e : (List.range (n - (f + 1))).map col ++ [col (n - (f + 1))] = (List.range (n - f)).map col := by
        rw [show n - f = n - (f + 1) + 1 by omega, List.range_succ, List.map_append]; rfl
      rw [e]
      exact colF_all h1 h2 (by omega)
end
/-- An order's layers are colours; a chain needs as many. -/
theorem mirsky {n : Nat} {g : Nat → Nat → Bool} {L : List Bool} {c : Nat → Nat} (hg : Gph n g) (o : Ord (Er (gR (arI g))) (Er L)) (on : OrdN n L) (hc : ChI L n (mxT (lyR L n) n) 0 c) :
    colF g (mxT (lyR L n) n + 1) n [] = true ∧ ∀ k, k ≤ mxT (lyR L n) n → colF g k n [] = false := by
  have hE : ∀ {u v : Nat}, rat L u v = true → sy g u v = true := fun h => (gR_arI hg).1 (o.sub _ _ h)
  constructor
  · have := colF_all (g := g) (k := mxT (lyR L n) n + 1) (n := n) (col := lyR L n) (fun v hv => Nat.lt_succ_of_le (mxT_ge hv)) (fun u v huv hv hgv e => by
      have hs : sy g u v = true := by unfold sy; rw [hgv]; rfl
      rcases o.all _ _ ((gR_arI hg).2 hs) with h | h
      · have := ly_up on h; omega
      · have := ly_up on h; omega) (f := n) (Nat.le_refl _)
    rwa [Nat.sub_self] at this
  · intro k hk
    cases hcf : colF g k n [] with
    | false => rfl
    | true =>
      exfalso
      obtain ⟨m, hm, hp⟩ := colF_sound (fun v hv => by simp at hv) hcf
      simp at hm
      -- the chain's colours differ
      have ar : ∀ {i j : Nat}, i < j → j ≤ mxT (lyR L n) n → rat L (c i) (c j) = true := by
        intro i j hij
        induction j with
        | zero => omega
        | succ j ih =>
          intro hj
          by_cases e : i = j
          · rw [e]; exact hc.ar j (Nat.zero_le _) (by omega)
          · exact on.tr _ _ _ (ih (by omega) (by omega)) (hc.ar j (Nat.zero_le _) (by omega))
      have ne : ∀ {u v : Nat}, u < n → v < n → sy g u v = true → m.getD u 0 ≠ m.getD v 0 := fun {u v} hu hv h => by
        unfold sy at h
        rcases Bool.or_eq_true _ _ ▸ h with h | h
        · exact (hp v (by omega)).2 u (hg.up _ _ h).1 h
        · exact fun e => (hp u (by omega)).2 v (hg.up _ _ h).1 h e.symm
      have hnd : ((List.range (mxT (lyR L n) n + 1)).map fun i => m.getD (c i) 0).Nodup := by
        rw [List.nodup_iff_pairwise_ne, List.pairwise_map]
        refine List.Pairwise.imp_of_mem (fun {a b} ha hb hab => ?_) List.pairwise_lt_range
        exact ne (hc.lt a) (hc.lt b) (hE (ar hab (by have := List.mem_range.1 hb; omega)))
      have hsub : ∀ x ∈ ((List.range (mxT (lyR L n) n + 1)).map fun i => m.getD (c i) 0), x ∈ List.range k := fun x hx => by
        obtain ⟨i, _, rfl⟩ := List.mem_map.1 hx
        exact List.mem_range.2 (hp (c i) (by rw [hm]; exact hc.lt i)).1
      have := nodup_leO hnd hsub
      simp at this
      omega
end Go.Ev
