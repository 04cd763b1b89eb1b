/-
  Orders: the list of a relation's arrows; an order of a graph (oriented).
  Orders (plain): lists of arrows are graphs, and orders.
  Orders: Has, joined of the reference; Orient; CheckOrder.
  Orders (plain): layers of an order.
  Orders: layers, and a chain.
  Orders: the greatest; a longest chain; Chain, Layers.
  Orders (plain): colours.
  Orders: Colours; OrdersMirsky.
  Orders: functions of plain values as natives.
  Orders (plain): a map from arrows to arrows; a search, the nearest first.
  Orders: slices.Reverse; the way back (wayTo).
-/
import Derived.Test.YtdmnejhjlmeodaaPf
namespace Go.Ev
open Go Go.RowKit
noncomputable def f60_r0 : List EOper := [⟨(some (K.ofNat 1)), none, .box 49 (.t (K.ofNat 0))⟩, ⟨(some (K.ofNat 2)), none, .alloc 49 (List.replicate 49 (.b false))⟩, ⟨(some (K.ofNat 3)), none, .as (.c (.b false))⟩]
noncomputable def f60_r1 : List EOper := [⟨(some (K.ofNat 4)), none, .as (.c .sn)⟩]
noncomputable def f60_r2 : List EOper := [⟨(some (K.ofNat 10)), none, .ldn 49 (.t (K.ofNat 1))⟩, ⟨(some (K.ofNat 11)), none, .call (.c (.fn (K.ofNat 87) [])) [(.t (K.ofNat 10))]⟩, ⟨(some (K.ofNat 9)), none, .mv (.t (K.ofNat 11))⟩, ⟨(some (K.ofNat 12)), none, .ext (.t (K.ofNat 9)) 0⟩, ⟨(some (K.ofNat 13)), none, .ext (.t (K.ofNat 9)) 1⟩, ⟨(some (K.ofNat 5)), none, .alloc 2 [(.i .i64 (.ofNat 0)), (.i .i64 (.ofNat 0))]⟩, ⟨none, none, .st 2 (.t (K.ofNat 5)) (.t (K.ofNat 12))⟩, ⟨(some (K.ofNat 6)), none, .as (.t (K.ofNat 13))⟩]
noncomputable def f60_r3 : List EOper := [⟨(some (K.ofNat 14)), none, .mv (.t (K.ofNat 6))⟩]
noncomputable def f60_r4 : List EOper := [⟨(some (K.ofNat 20)), none, .ldn 49 (.t (K.ofNat 1))⟩, ⟨(some (K.ofNat 21)), none, .ldn 2 (.t (K.ofNat 5))⟩, ⟨(some (K.ofNat 22)), none, .call (.c (.fn (K.ofNat 57) [])) [(.t (K.ofNat 20)), (.t (K.ofNat 21))]⟩, ⟨(some (K.ofNat 7)), none, .alloc 49 (List.replicate 49 (.b false))⟩, ⟨none, none, .st 49 (.t (K.ofNat 7)) (.t (K.ofNat 22))⟩]
noncomputable def f60_r5 : List EOper := [⟨(some (K.ofNat 23)), none, .ldn 49 (.t (K.ofNat 7))⟩, ⟨(some (K.ofNat 24)), none, .call (.c (.fn (K.ofNat 70) [])) [(.t (K.ofNat 23))]⟩, ⟨(some (K.ofNat 8)), none, .alloc 49 (List.replicate 49 (.b false))⟩, ⟨none, none, .st 49 (.t (K.ofNat 8)) (.t (K.ofNat 24))⟩]
noncomputable def f60_r6 : List EOper := [⟨(some (K.ofNat 25)), none, .ldn 49 (.t (K.ofNat 7))⟩, ⟨(some (K.ofNat 26)), none, .ldn 49 (.t (K.ofNat 8))⟩, ⟨(some (K.ofNat 27)), none, .eqk (.many (List.replicate 49 none)) false (.t (K.ofNat 25)) (.t (K.ofNat 26))⟩]
noncomputable def f60_r7 : List EOper := [⟨(some (K.ofNat 28)), none, .build (List.replicate 49 (.b false)) []⟩, ⟨none, none, .st 49 (.t (K.ofNat 2)) (.t (K.ofNat 28))⟩, ⟨(some (K.ofNat 3)), none, .as (.c (.b false))⟩]
noncomputable def f60_r8 : List EOper := [⟨(some (K.ofNat 29)), none, .mv (.t (K.ofNat 4))⟩, ⟨(some (K.ofNat 30)), none, .ldn 49 (.t (K.ofNat 7))⟩, ⟨(some (K.ofNat 31)), none, .bslice 1 49 (List.replicate 49 (.b false)) [(0, 49, (.t (K.ofNat 30)))]⟩, ⟨(some (K.ofNat 32)), none, .app 49 (.t (K.ofNat 29)) (.t (K.ofNat 31))⟩, ⟨(some (K.ofNat 4)), none, .as (.t (K.ofNat 32))⟩]
noncomputable def f60_r9 : List Stage := [⟨[⟨(some (K.ofNat 33)), none, .ldn 49 (.t (K.ofNat 1))⟩, ⟨(some (K.ofNat 34)), none, .ldn 49 (.t (K.ofNat 7))⟩, ⟨(some (K.ofNat 35)), none, .ldn 49 (.t (K.ofNat 8))⟩, ⟨(some (K.ofNat 36)), none, .bslice 2 49 (List.replicate 98 (.b false)) [(0, 49, (.t (K.ofNat 34))), (49, 49, (.t (K.ofNat 35)))]⟩], [], (some ⟨(some (K.ofNat 37)), none, .call (.c (.fn (K.ofNat 69) [])) [(.t (K.ofNat 36))]⟩), [(K.ofNat 36)]⟩, ⟨[], [⟨(some (K.ofNat 33)), none, .ldn 49 (.t (K.ofNat 1))⟩], (some ⟨(some (K.ofNat 38)), none, .call (.c (.fn (K.ofNat 81) [])) [(.t (K.ofNat 33)), (.t (K.ofNat 37))]⟩), []⟩, ⟨[], [], (some ⟨none, none, .st 49 (.t (K.ofNat 1)) (.t (K.ofNat 38))⟩), []⟩, ⟨[], [], none, []⟩]
noncomputable def f60_r10 : List EOper := [⟨(some (K.ofNat 39)), none, .ldn 2 (.t (K.ofNat 5))⟩]
noncomputable def f60_r11 : List EOper := [⟨(some (K.ofNat 5)), none, .alloc 2 [(.i .i64 (.ofNat 0)), (.i .i64 (.ofNat 0))]⟩, ⟨none, none, .st 2 (.t (K.ofNat 5)) (.t (K.ofNat 39))⟩]
noncomputable def f60_r12 : List EOper := [⟨(some (K.ofNat 16)), none, .ldn 49 (.t (K.ofNat 1))⟩, ⟨(some (K.ofNat 17)), none, .call (.c (.fn (K.ofNat 87) [])) [(.t (K.ofNat 16))]⟩, ⟨(some (K.ofNat 15)), none, .mv (.t (K.ofNat 17))⟩, ⟨(some (K.ofNat 18)), none, .ext (.t (K.ofNat 15)) 0⟩, ⟨(some (K.ofNat 19)), none, .ext (.t (K.ofNat 15)) 1⟩, ⟨none, none, .st 2 (.t (K.ofNat 5)) (.t (K.ofNat 18))⟩, ⟨(some (K.ofNat 6)), none, .as (.t (K.ofNat 19))⟩]
noncomputable def f60_l0 : EC := (.seq (.seq (.reg f60_r3) (.cond (.t (K.ofNat 14)) .skip (.exit 0))) (.seq (.block 1 (.seq (.reg f60_r4) (.seq (.reg f60_r5) (.seq (.seq (.reg f60_r6) (.cond (.t (K.ofNat 27)) (.seq (.reg f60_r7) .ret) .skip)) (.seq (.reg f60_r8) (.draw f60_r9)))))) (.seq (.seq (.reg f60_r10) (.reg f60_r11)) (.reg f60_r12))))
noncomputable def f60_r13 : List EOper := [⟨(some (K.ofNat 40)), none, .mv (.t (K.ofNat 4))⟩, ⟨(some (K.ofNat 41)), none, .call (.c (.fn (K.ofNat 69) [])) [(.t (K.ofNat 40))]⟩, ⟨none, none, .st 49 (.t (K.ofNat 2)) (.t (K.ofNat 41))⟩, ⟨(some (K.ofNat 3)), none, .as (.c (.b true))⟩]
noncomputable def f60_c : EC := (.seq (.reg f60_r0) (.seq (.reg f60_r1) (.seq (.seq (.reg f60_r2) (.block 0 (.loop f60_l0))) (.seq (.reg f60_r13) .ret))))
noncomputable def f60 : EF := ⟨42, [.celln (K.ofNat 2) 49, .tmp (K.ofNat 3)], f60_c, none⟩
theorem f60_rs : f60.rs = [.celln (K.ofNat 2) 49, .tmp (K.ofNat 3)] := of_eq_true (eq_self _)
section
variable {fs : T EF} {h h' : H}
theorem f58_ret {L : List Bool} (k : Nat4 fs) (hL : L.length = 49) (hc : HC h) : Ret fs f58 [rV L] h fun r h' => Sk 2 qE h' r (arI (rat L)) ∧ Own h.nx.nat r ∧ Grow h.nx.nat h h' := by
  apply ret_of rfl
  show W fs none f58_c _ _ _
  unfold f58_c
  have c1 := rC_cells hL
  have n1 := nx_new h (.cells 49 (L.map V.b))
  have gr1 : Grow h.nx.nat h (h.new (.cells 49 (L.map V.b))) := Grow.new (Nat.le_refl _) _
  have e1 : (h.new (.cells 49 (L.map V.b))).get h.nx = rC L := get_new_same
  simp (disch := omega) only [f58_r0, w_reg, w_seq, seqK_n, x_nil, x_as, x_box, kx, rvP_ok, ev_t, ev_c, getV_some, putD_some, oGet_s, frame_1, getK_set, ↓reduceIte, c1]
  generalize h.new (.cells 49 (L.map V.b)) = h1 at *
  have n2 := nx_new h1 (.cells 1 [.sn])
  have gr2 : Grow h1.nx.nat h1 (h1.new (.cells 1 [.sn])) := Grow.new (Nat.le_refl _) _
  have e2 : (h1.new (.cells 1 [.sn])).get h1.nx = .cells 1 [.sn] := get_new_same
  simp (disch := omega) only [f58_r1, w_reg, w_seq, seqK_n, x_nil, x_alloc, putD_some]
  generalize h1.new (.cells 1 [.sn]) = h2 at *
  have hc2 := gr2.hc (gr1.hc hc)
  have l2 := rC_ldn hL ((gr2.old h.nx (by omega)).trans e1)
  simp (disch := omega) only [f58_r2, x_ldn, x_call, kx, rvP_ok, ev_t, ev_c, evs_nil, evs_cons, getV_some, putD_some, getK_set, Nat.reduceEqDiff, ↓reduceIte, l2]
  refine (callP_0 (ef := f84) k.c84 rfl (f84_ret hL)).mono ?_
  rintro r h3 ⟨rfl, rfl⟩
  have n3 := nx_new h2 (rC L)
  have gr3 : Grow h2.nx.nat h2 (h2.new (rC L)) := Grow.new (Nat.le_refl _) _
  have e3 : (h2.new (rC L)).get h2.nx = rC L := get_new_same
  have hc3 := gr3.hc hc2
  have e2' := (gr3.old h1.nx (by omega)).trans e2
  simp (disch := omega) only [w_block, seqK_n, x_nil, kx, putD_some]
  generalize h2.new (rC L) = h3 at *
  generalize hfr : T.set (K.ofNat 6) _ _ = fr
  have g3 : fr.get (K.ofNat 3) = some (.p h1.nx 0) := by rw [← hfr]; simp only [getK_set, Nat.reduceEqDiff, ↓reduceIte]
  have g6 : fr.get (K.ofNat 6) = some (.fn (K.ofNat 101) [.p h2.nx 0]) := by rw [← hfr]; simp only [getK_set, ↓reduceIte]
  clear hfr
  refine W_itr (by simp (disch := omega) only [ev_t, getV_some, g6]) (all_yieldsR hL k.c101) (fun id => id = h1.nx) (fun i h5 => ∃ u, h5.get h1.nx = .cells 1 [u] ∧ Sk 2 qE h5 u (((arw (rat L)).take i).map toI) ∧ Own (h3.nx.nat + 1) u) (fun _ _ => False) hc3 rfl (by rintro id rfl; omega)
    (fun h5 ks => (ks.old _ (by omega) (fun e => by have := congrArg K.nat e; omega)).trans e3) ?_ (fun _ _ _ h _ _ _ => h.elim) ?_ ?_ ?_ (fun _ _ _ h => h.elim)
  · rintro i h5 h6 ⟨u, q1, q2, q3⟩ hc5 hn ho
    exact ⟨u, by rw [ho _ (by omega) (kNe (by omega))]; exact q1, q2.same fun id off n sz e => ho _ (q2.lt hc5 _ _ _ _ e) (fun e2 => by have := q3 _ _ _ _ e; rw [e2] at this; omega), q3⟩
  · exact fun h5 hg => ⟨.sn, (hg.old _ (by omega)).trans e2', Sk.nil, Own.sn⟩
  · rintro i ⟨x, y⟩ h5 hx hk hn ⟨u, q1, q2, q3⟩
    obtain ⟨hst, gB, c7, n5⟩ := arr_var (h := h5) (x := x) (y := y)
    have b1 := (gB.old h1.nx (by omega)).trans q1
    have b2 := q2.grow hk.hc gB
    unfold f58_a0
    simp (disch := omega) only [f58_r3, w_reg, x_nil, x_alloc, x_st, kx, rvP_ok, ev_t, getV_some, putD_some, putD_none, of0, getK_set, Nat.reduceEqDiff, ↓reduceIte, hst, itA_n]
    generalize (h5.new (.cells 2 [.i .i64 0, .i .i64 0])).put h5.nx (.cells 2 [.i .i64 (x : Int), .i .i64 (y : Int)]) = h6 at *
    refine ⟨gB, fun h7 n7 hc7 o7 _ => ?_⟩
    have n7' : h7.nx.nat = h6.nx.nat := congrArg K.nat n7
    have l1 := ldn2 ((o7 _ (kNe hn).symm).trans c7)
    have b1' := (o7 h1.nx (kNe (by omega))).trans b1
    have l0 := load_p (off := 0) b1' (show nth [u] 0 = some u from rfl)
    have b2' : Sk 2 qE h7 u (((arw (rat L)).take i).map toI) := b2.same fun id off n sz e => o7 _ (fun e2 => by have := q3 _ _ _ _ e; rw [e2] at this; omega)
    have hlen : (((arw (rat L)).take i).map toI).length < 16777216 := by
      have := arI_len (g := rat L)
      unfold arI at this
      rw [List.length_map] at this ⊢
      rw [List.length_take]; omega
    obtain ⟨u', h8, a1, s1, o1, gr8, k8⟩ := Sk.push qE_len (by omega) (x := toI (x, y)) b2' q3 (by omega) hc7 hlen
    have a1' : appV 2 (h7.new (.cells (1 * 2) [.i .i64 (x : Int), .i .i64 (y : Int)])) u (.sl h7.nx 0 1 2) = .ok u' h8 := a1
    obtain ⟨k81, k82⟩ := k8 h1.nx (by omega) (q3.notIn (by omega))
    have hav : V.agg [.i .i64 (x : Int), .i .i64 (y : Int)] = pV (toI (x, y)) := rfl
    have cp : cellsN 2 (pV (toI (x, y))) = some [.i .i64 (x : Int), .i .i64 (y : Int)] := rfl
    have sp : setMany [V.i .i64 0, V.i .i64 0] 0 [V.i .i64 (x : Int), V.i .i64 (y : Int)] = [V.i .i64 (x : Int), V.i .i64 (y : Int)] := rfl
    have s8 : storeV h8 1 (.p h1.nx 0) u' = .ok undefV (h8.put h1.nx (.cells 1 [u'])) := st1 (k81.trans b1') s1.one
    have hbq := q2.beq
    unfold f58_b0
    simp (disch := omega) only [f58_r4, w_draw, w_block, true_and, x_nil, x_call, x_app, kx, kg, xg_nil, xg_ld, xg_ldn, xg_bslice, xd_cons, fresh_nil, stK_s, stay_nil, stay_cons, stay_ld, rvP_ok, ev_t, ev_c, evs_nil, evs_cons, getV_some, putD_some, oGet_s, of0, Option.some.injEq, exists_eq_left', getK_set, Nat.reduceEqDiff, ↓reduceIte, fill_0, g3, l0, l1, hav, k.n78, fill_c, cp, sp, hc7.dead]
    refine ⟨fresh_one (n := 1) (sz := 2) (by simp (disch := omega) only [getK_set, ↓reduceIte]), ?_⟩
    have gL : Grow h7.nx.nat h7 (h7.new (.cells (1 * 2) [.i .i64 (x : Int), .i .i64 (y : Int)])) := Grow.new (Nat.le_refl _) _
    have l0' := load_p (off := 0) ((gL.old h1.nx (by omega)).trans b1') (show nth [u] 0 = some u from rfl)
    simp (disch := omega) only [atK_n, true_and, x_nil, x_st, kx, xg_nil, xd_cons, fresh_nil, stK_n, stK_s, stay_nil, again_ok, rvP_ok, ev_t, getV_some, putD_some, putD_none, getK_set, Nat.reduceEqDiff, ↓reduceIte, g3, l0', hbq, a1', s8, itC_n, and_self]
    have g8n := gr8.nx
    refine ⟨⟨u', get_put_same, ?_, o1⟩, ?_⟩
    · rw [List.take_add_one, hx]
      simp only [Option.toList_some, List.map_append, List.map_cons, List.map_nil]
      exact s1.put k82 _
    · have h0 : Kr (fun id => id = h1.nx) h3.nx h7 h8 := Kr.of hc7 gr8 (by omega)
      exact h0.put (by omega) (.inl rfl) _
  · rintro h5 ⟨u, q1, q2, q3⟩ hk hn
    rw [List.take_length] at q2
    have l5 := load_p (off := 0) q1 (show nth [u] 0 = some u from rfl)
    simp (disch := omega) only [f58_r5, f58_rs, w_reg, w_seq, w_ret, seqK_n, atK_n, retK_r, x_nil, x_as, x_ld, kx, rvP_ok, ev_t, getV_some, putD_some, oGet_s, readRs_nil, readRs_t, retV_1, Option.some.injEq, exists_eq_left', getK_set, ↓reduceIte, g3, l5]
    exact ⟨q2, q3.low (by omega), gr1.trans ((gr2.low (by omega)).trans ((gr3.low (by omega)).trans (hk.toGrow (by rintro id rfl; omega) (by omega))))⟩
/-! ### Slices of relations that are gathered -/
noncomputable def eR (L : List Bool) : List V := (rl (rat L)).map V.b
theorem eR_len : ∀ x, (eR x).length = 49 := fun x => by simp [eR, rl_len]
theorem eR_eq {L : List Bool} (hL : L.length = 49) : eR L = L.map V.b := by unfold eR; rw [rl_rat hL]
theorem Rs.ofSk {v : V} {Ls : List (List Bool)} (s : Sk 49 eR h v Ls) (hl : ∀ L ∈ Ls, L.length = 49) : Rs h v Ls := by
  refine ⟨s.len, fun i hi => ?_⟩
  rcases s with ⟨_, rfl⟩ | ⟨id, off, m, cs, rfl, h1, h2, h3, h4⟩
  · simp at hi
  · have hh := flat_drop eR_len Ls i hi
    rw [← h4, List.drop_take, List.take_take, List.drop_drop, Nat.min_eq_left (by omega)] at hh
    refine ⟨id, off + i * 49, m, cs, fun h1 => by rw [iads_sl, idx_n hi], h1, ?_, ?_⟩
    · have : (i + 1) * 49 ≤ Ls.length * 49 := Nat.mul_le_mul_right _ hi
      omega
    · rw [takeN_eq, dropN_eq, hh, eR_eq (hl _ (List.getElem_mem hi))]
def f60_I (h0 : H) (id1 id2 : K) (L0 : List Bool) (s : List Bool × List (List Bool)) (fr : Fr) (h1 : H) : Prop := SymR s.1 ∧ (∀ C ∈ s.2, C.length = 49) ∧ cntT s.1 + s.2.length ≤ 49 ∧ (∀ r, OrS s.1 r → OrS L0 (r.map (s.2 ++ ·))) ∧ Kp id1 h0 h1 ∧ h1.get id1 = rC s.1 ∧
  ∃ u id5 x, Sk 49 eR h1 u s.2 ∧ Own (h0.nx.nat) u ∧ h0.nx.nat ≤ id5.nat ∧ id5.nat < h1.nx.nat ∧ NotIn id5 u ∧ h1.get id5 = .cells 2 [.i .i64 ((x : Nat × Nat).1 : Int), .i .i64 (x.2 : Int)] ∧ (∀ y, frO s.1 = some y → x = y) ∧ fr.get (K.ofNat 1) = some (.p id1 0) ∧ fr.get (K.ofNat 2) = some (.p id2 0) ∧ fr.get (K.ofNat 4) = some (u) ∧ fr.get (K.ofNat 5) = some (.p id5 0) ∧ fr.get (K.ofNat 6) = some (.b (frO s.1).isSome)
def frX (L : List Bool) : Nat × Nat := (frO L).getD (0, 0)
theorem frV_eq {L : List Bool} : frV L = .tup [aV (frX L), .b (frO L).isSome] := by
  unfold frV frX
  cases frO L <;> rfl
theorem zero49 : (V.agg (List.replicate 49 (.b false))) = rV (rl fun _ _ => false) := rfl
theorem set49a {L : List Bool} (hL : L.length = 49) : setMany (List.replicate 49 (.b false)) 0 (L.map V.b) = L.map V.b := by
  rw [setMany_eq _ _ _ (by simp [hL])]; simp [hL]
theorem f60_ret {L0 : List Bool} (k : Nat4 fs) (sy : SymR L0) (hc : HC h) : Ret fs f60 [rV L0] h fun r _ => r = orV L0 := by
  have hL := sy.len
  apply ret_of rfl
  show W fs none f60_c _ _ _
  unfold f60_c
  have c1 := rC_cells hL
  have n1 := nx_new h (.cells 49 (L0.map V.b))
  have gr1 : Grow h.nx.nat h (h.new (.cells 49 (L0.map V.b))) := Grow.new (Nat.le_refl _) _
  have e1 : (h.new (.cells 49 (L0.map V.b))).get h.nx = rC L0 := get_new_same
  simp (disch := omega) only [f60_r0, w_reg, w_seq, seqK_n, x_nil, x_as, x_alloc, x_box, kx, rvP_ok, ev_t, ev_c, getV_some, putD_some, oGet_s, frame_1, getK_set, ↓reduceIte, c1]
  generalize h.new (.cells 49 (L0.map V.b)) = h1 at *
  have n2 := nx_new h1 (.cells 49 (List.replicate 49 (.b false)))
  have gr2 : Grow h1.nx.nat h1 (h1.new (.cells 49 (List.replicate 49 (.b false)))) := Grow.new (Nat.le_refl _) _
  have e2 : (h1.new (.cells 49 (List.replicate 49 (.b false)))).get h1.nx = rC (rl fun _ _ => false) := by rw [rl_false]; exact get_new_same
  generalize h1.new (.cells 49 (List.replicate 49 (.b false))) = h2 at *
  have hc2 := gr2.hc (gr1.hc hc)
  have e1' := (gr2.old h.nx (by omega)).trans e1
  have e2' := e2
  have l2 := rC_ldn hL e1'
  obtain ⟨hst, gB, c7, n5⟩ := arr_var (h := h2) (x := (frX L0).1) (y := (frX L0).2)
  replace hst : storeV (h2.new (.cells 2 [.i .i64 0, .i .i64 0])) 2 (.p h2.nx 0) (aV (frX L0)) = _ := hst
  simp (disch := omega) only [f60_r1, f60_r2, w_reg, w_seq, w_block, seqK_n, x_nil, x_mv, x_as, x_alloc, x_ldn, x_st, x_ext, x_call, kx, rvP_ok, okv_some, ev_t, ev_c, evs_nil, evs_cons, getV_some, putD_some, putD_none, onTup_t, nth0, nth1, of0, getK_set, Nat.reduceEqDiff, ↓reduceIte, l2, k.n87 _ _ _ hL, frV_eq, hst]
  generalize (h2.new (.cells 2 [.i .i64 0, .i .i64 0])).put h2.nx (.cells 2 [.i .i64 ((frX L0).1 : Int), .i .i64 ((frX L0).2 : Int)]) = h3 at *
  have k3 : Kp h.nx h2 h3 := Kp.of hc2 gB (Nat.le_refl _)
  refine W_loop (f60_I h2 h.nx h1.nx L0) (fun s => cntT s.1) ?_ (L0, []) ⟨sy, fun C hC => (by cases hC), by have := cntT_le hL; simpa using this, fun r hr => by cases r <;> exact hr, k3, (gB.old h.nx (by omega)).trans e1', .sn, h2.nx, frX L0, Sk.nil, Own.sn, Nat.le_refl _, by omega, NotIn.sn, c7, fun y hy => by unfold frX; rw [hy]; rfl, by simp (disch := omega) only [getK_set, Nat.reduceEqDiff, ↓reduceIte, and_self]⟩
  clear c7 hst n5 gB k3 h3
  rintro ⟨L, P⟩ fr h3 ⟨sL, hP, hcn, hO, hk, hB, u, id5, x, hu, hou, h5a, h5b, h5n, e5, hx, g1, g2, g4, g5, g6⟩
  simp only at sL hP hcn hO hB hu hx g6
  have hkn := hk.nx
  have hLl := sL.len
  unfold f60_l0
  cases hf : frO L with
  | none =>
    rw [hf] at g6
    have g6 : fr.get (K.ofNat 6) = some (.b false) := g6
    have hor : orO L0 = some P := by
      have := orO_eq (hO _ (.done hf))
      simpa using this
    simp (disch := omega) only [f60_r3, f60_r13, w_reg, w_seq, w_cond, w_exit, seqK_n, seqK_e, atK_e, loopK_e, ckB_b, cbB_b, true_and, x_nil, x_mv, x_call, ev_t, ev_c, evs_nil, evs_cons, getV_some, putD_some, getK_set, Nat.reduceEqDiff, ↓reduceIte, Bool.false_eq_true, g4, g6]
    have hRs : Rs h3 u P := Rs.ofSk hu hP
    refine (callP_0 (ef := f69) k.c69 rfl (f69_ret k.c84 k.c101 hRs hP (by omega) hk.hc)).mono ?_
    rintro r h4 ⟨rfl, gr4⟩
    have hJ : (jnR P).length = 49 := rl_len
    have s4 := rC_stn hJ rl_len (M := rl fun _ _ => false) ((gr4.old h1.nx (by omega)).trans ((hk.old h1.nx (by omega) (kNe (by omega)).symm).trans e2'))
    have hr4 : readP (h4.put h1.nx (rC (jnR P))) (.p h1.nx 0) (many? 49) = some (rV (jnR P)) := rC_read hJ get_put_same
    simp (disch := omega) only [f60_rs, w_ret, seqK_n, retK_r, x_nil, x_as, x_st, kx, rvP_ok, ev_t, ev_c, getV_some, putD_some, putD_none, oGet_s, readRs_nil, readRs_t, readRs_n, retV_2, Option.some.injEq, exists_eq_left', getK_set, Nat.reduceEqDiff, ↓reduceIte, g2, s4, hr4]
    unfold orV
    rw [hor]
  | some y =>
    have hxy := hx y hf
    subst hxy
    rw [hf] at g6
    have g6 : fr.get (K.ofNat 6) = some (.b true) := g6
    obtain ⟨hx1, hx2, hxr⟩ := frO_some hf
    have l3 := rC_ldn hLl hB
    have l5 := ldn2 e5
    have hav : V.agg [.i .i64 (x.1 : Int), .i .i64 (x.2 : Int)] = aV x := rfl
    have hC : (clsR L x).length = 49 := clsR_len
    have hT : (turnR (clsR L x)).length = 49 := rl_len
    have hnx : nxR L x = woR L (jnR [clsR L x, turnR (clsR L x)]) := rfl
    have hct := nxR_cnt sL hf
    have hstep := fun r hne => OrS.step (r := r) hf hne
    have hclash := OrS.clash hf
    have sN := sL.next (x := x) ⟨hx1, hx2⟩
    have hcls := k.n57 L x
    generalize clsR L x = C at *
    have n4 := nx_new h3 (.cells 49 (List.replicate 49 (.b false)))
    have s4 := rC_stn hC rl_len (M := rl fun _ _ => false) (h := h3.new (.cells 49 (List.replicate 49 (.b false)))) (id := h3.nx) (by rw [rl_false]; exact get_new_same)
    have gr4 : Grow h3.nx.nat h3 ((h3.new (.cells 49 (List.replicate 49 (.b false)))).put h3.nx (rC C)) := (Grow.new (Nat.le_refl _) _).trans (Grow.put (Nat.le_refl _) (by omega) _)
    have n4' : ((h3.new (.cells 49 (List.replicate 49 (.b false)))).put h3.nx (rC C)).nx.nat = h3.nx.nat + 1 := n4
    have e4 : ((h3.new (.cells 49 (List.replicate 49 (.b false)))).put h3.nx (rC C)).get h3.nx = rC C := get_put_same
    simp (disch := omega) only [f60_r3, f60_r4, w_skip, w_reg, w_seq, w_cond, w_block, seqK_n, ckB_b, cbB_b, true_and, x_nil, x_mv, x_alloc, x_ldn, x_st, x_call, kx, rvP_ok, ev_t, ev_c, evs_nil, evs_cons, getV_some, putD_some, putD_none, getK_set, Nat.reduceEqDiff, ↓reduceIte, g1, g5, g6, l3, l5, hav, hcls _ _ hLl ⟨hx1, hx2⟩, s4]
    generalize (h3.new (.cells 49 (List.replicate 49 (.b false)))).put h3.nx (rC C) = h4 at *
    have l4 := rC_ldn hC e4
    have n6 := nx_new h4 (.cells 49 (List.replicate 49 (.b false)))
    have s6 := rC_stn hT rl_len (M := rl fun _ _ => false) (h := h4.new (.cells 49 (List.replicate 49 (.b false)))) (id := h4.nx) (by rw [rl_false]; exact get_new_same)
    have gr6 : Grow h4.nx.nat h4 ((h4.new (.cells 49 (List.replicate 49 (.b false)))).put h4.nx (rC (turnR C))) := (Grow.new (Nat.le_refl _) _).trans (Grow.put (Nat.le_refl _) (by omega) _)
    have n6' : ((h4.new (.cells 49 (List.replicate 49 (.b false)))).put h4.nx (rC (turnR C))).nx.nat = h4.nx.nat + 1 := n6
    have e6 : ((h4.new (.cells 49 (List.replicate 49 (.b false)))).put h4.nx (rC (turnR C))).get h4.nx = rC (turnR C) := get_put_same
    simp (disch := omega) only [f60_r5, w_reg, w_seq, seqK_n, x_nil, x_alloc, x_ldn, x_st, x_call, kx, rvP_ok, ev_t, ev_c, evs_nil, evs_cons, getV_some, putD_some, putD_none, getK_set, Nat.reduceEqDiff, ↓reduceIte, l4, k.n70 _ _ _ hC, s6]
    generalize (h4.new (.cells 49 (List.replicate 49 (.b false)))).put h4.nx (rC (turnR C)) = h5 at *
    have gA : Grow h3.nx.nat h3 h5 := gr4.trans (gr6.low (by omega))
    have hc5 := gA.hc hk.hc
    have lC := rC_ldn hC ((gr6.old h3.nx (by omega)).trans e4)
    have lT := rC_ldn hT e6
    have hq := keyEq_rel2 hC hT
    by_cases e : C = turnR C
    · have d0 : decide (C = turnR C) = true := decide_eq_true e
      have hor : orO L0 = none := by
        have := orO_eq (hO _ (hclash e))
        simpa using this
      rw [d0] at hq
      have s7 := rC_stn (L := rl fun _ _ => false) rl_len rl_len (M := rl fun _ _ => false) ((gA.old h1.nx (by omega)).trans ((hk.old h1.nx (by omega) (kNe (by omega)).symm).trans e2'))
      have hr7 : readP (h5.put h1.nx (rC (rl fun _ _ => false))) (.p h1.nx 0) (many? 49) = some (rV (rl fun _ _ => false)) := rC_read rl_len get_put_same
      simp (disch := omega) only [f60_r6, f60_r7, f60_rs, w_reg, w_seq, w_cond, w_ret, seqK_n, seqK_r, atK_r, loopK_r, ckB_b, cbB_b, true_and, retK_r, x_nil, x_as, x_build, x_ldn, x_st, x_eqk, kx, rvP_ok, okv_some, ev_t, ev_c, getV_some, putD_some, putD_none, oGet_s, readRs_nil, readRs_t, readRs_n, retV_2, Option.some.injEq, exists_eq_left', getK_set, Nat.reduceEqDiff, ↓reduceIte, fill_0, g2, lC, lT, hq, cond_false, zero49, s7, hr7]
      unfold orV
      rw [hor]
    · have d0 : decide (C = turnR C) = false := decide_eq_false e
      rw [d0] at hq
      have cC := rC_cells hC
      have cT := rC_cells hT
      have hu5 := hu.grow hk.hc gA
      obtain ⟨u', h7, a1, s1, o1, gr7, k7⟩ := Sk.push (b := h2.nx.nat) eR_len (by omega) (x := C) hu5 hou (by omega) hc5 (by omega)
      rw [eR_eq hC] at a1
      have hc7 := gr7.hc hc5
      have g7n := gr7.nx
      -- what is older than these parts
      have old7 : ∀ id : K, id.nat < h5.nx.nat → NotIn id u → h7.get id = h5.get id := fun id hi hn => (k7 id hi hn).1
      have nlt : ∀ id : K, id.nat < h2.nx.nat → NotIn id u := fun id hi => hou.notIn hi
      have nge : ∀ id : K, h3.nx.nat ≤ id.nat → NotIn id u := fun id hi off n sz ee => by have := hu.lt hk.hc _ _ _ _ ee; omega
      have e1_7 : h7.get h.nx = rC L := (old7 h.nx (by omega) (nlt _ (by omega))).trans ((gA.old h.nx (by omega)).trans hB)
      have eC_7 : h7.get h3.nx = rC C := (old7 h3.nx (by omega) (nge _ (Nat.le_refl _))).trans ((gr6.old h3.nx (by omega)).trans e4)
      have eT_7 : h7.get h4.nx = rC (turnR C) := (old7 h4.nx (by omega) (nge _ (by omega))).trans e6
      have e5_7 : h7.get id5 = .cells 2 [.i .i64 (x.1 : Int), .i .i64 (x.2 : Int)] := (old7 id5 (by omega) h5n).trans ((gA.old id5 (by omega)).trans e5)
      have gL : Grow h7.nx.nat h7 (h7.new (.cells (2 * 49) (C.map V.b ++ (turnR C).map V.b))) := Grow.new (Nat.le_refl _) _
      have lL7 := rC_ldn hLl e1_7
      have lC7 := rC_ldn hC eC_7
      have lT7 := rC_ldn hT eT_7
      simp (disch := omega) only [f60_r6, f60_r8, w_skip, w_reg, w_draw, w_seq, w_cond, seqK_n, ckB_b, cbB_b, true_and, x_nil, x_mv, x_as, x_bslice, x_ldn, x_eqk, x_app, kx, rvP_ok, okv_some, ev_t, getV_some, putD_some, oGet_s, getK_set, Nat.reduceEqDiff, ↓reduceIte, Bool.false_eq_true, fill_0, g4, lC, lT, hq, cond_false, fill_c, cC, set49a hC, a1]
      simp (disch := omega) only [f60_r9, true_and, x_call, kg, xg_nil, xg_ldn, xg_bslice, xd_cons, stK_s, stay_nil, rvP_ok, ev_t, ev_c, evs_nil, evs_cons, getV_some, putD_some, oGet_s, Option.some.injEq, exists_eq_left', getK_set, Nat.reduceEqDiff, ↓reduceIte, fill_0, g1, lL7, lC7, lT7, fill_c, cC, cT, set98a hC, set98b hC hT, hc7.dead]
      refine ⟨fresh_one (n := 2) (sz := 49) (by simp (disch := omega) only [getK_set, ↓reduceIte]), ?_⟩
      have hr8 := Rs.two (h := h7) hC hT
      have n8 := nx_new h7 (.cells (2 * 49) (C.map V.b ++ (turnR C).map V.b))
      have hc8 := gL.hc hc7
      generalize h7.new (.cells (2 * 49) (C.map V.b ++ (turnR C).map V.b)) = h8 at *
      have hall : ∀ z ∈ [C, turnR C], z.length = 49 := fun z hz => by
        simp only [List.mem_cons, List.not_mem_nil, or_false] at hz
        rcases hz with rfl | rfl
        · exact hC
        · exact hT
      refine (callP_0 (ef := f69) k.c69 rfl (f69_ret k.c84 k.c101 hr8 hall (by simp) hc8)).mono ?_
      rintro r h9 ⟨rfl, gr9⟩
      have gD : Grow h7.nx.nat h7 h9 := gL.trans (gr9.low (by omega))
      have hc9 := gr9.hc hc8
      have g9n := gr9.nx
      have hJ : (jnR [C, turnR C]).length = 49 := rl_len
      have hN : (woR L (jnR [C, turnR C])).length = 49 := rl_len
      have e1_9 := (gD.old h.nx (by omega)).trans e1_7
      have lL9 := rC_ldn hLl e1_9
      have s9 := rC_stn hN hLl e1_9
      have kk : Kp h.nx h2 h9 := ((hk.grow gA hkn).grow gr7 (Nat.le_refl _)).grow gD (by omega)
      have kP := kk.put (by have := hkn; omega) (rC (woR L (jnR [C, turnR C])))
      have e5_9 := (gD.old id5 (by omega)).trans e5_7
      have nid5 : id5 ≠ h.nx := fun e => by have := congrArg K.nat e; omega
      have e5_10 : (h9.put h.nx (rC (woR L (jnR [C, turnR C])))).get id5 = .cells 2 [.i .i64 (x.1 : Int), .i .i64 (x.2 : Int)] := by rw [get_put_other nid5]; exact e5_9
      have e1_10 : (h9.put h.nx (rC (woR L (jnR [C, turnR C])))).get h.nx = rC (woR L (jnR [C, turnR C])) := get_put_same
      have u_10 : Sk 49 eR (h9.put h.nx (rC (woR L (jnR [C, turnR C])))) u' (P ++ [C]) := (s1.grow hc7 gD).put (o1.notIn (by omega)) _
      have n10 : (h9.put h.nx (rC (woR L (jnR [C, turnR C])))).nx.nat = h9.nx.nat := rfl
      have hn81 := k.n81 L (jnR [C, turnR C])
      simp (disch := omega) only [w_reg, w_seq, seqK_n, atK_n, true_and, x_nil, x_st, x_call, kx, xg_nil, xd_cons, fresh_nil, stK_n, stK_s, stay_nil, stay_cons, again_ok, rvP_ok, ev_t, ev_c, evs_nil, evs_cons, getV_some, putD_some, putD_none, getK_set, Nat.reduceEqDiff, ↓reduceIte, stay_ldn, g1, lL9, beq_rV, hn81 _ _ hLl hJ, s9]
      generalize h9.put h.nx (rC (woR L (jnR [C, turnR C]))) = h10 at *
      have l10 := ldn2 e5_10
      obtain ⟨hst, gB, c7, n11⟩ := arr_var (h := h10) (x := x.1) (y := x.2)
      replace hst : storeV (h10.new (.cells 2 [.i .i64 0, .i .i64 0])) 2 (.p h10.nx 0) (aV x) = _ := hst
      simp (disch := omega) only [f60_r10, f60_r11, w_reg, seqK_n, x_nil, x_alloc, x_ldn, x_st, kx, rvP_ok, ev_t, getV_some, putD_some, putD_none, of0, getK_set, Nat.reduceEqDiff, ↓reduceIte, g5, l10, hav, hst]
      generalize (h10.new (.cells 2 [.i .i64 0, .i .i64 0])).put h10.nx (.cells 2 [.i .i64 (x.1 : Int), .i .i64 (x.2 : Int)]) = h11 at *
      have l11 := rC_ldn hN ((gB.old h.nx (by omega)).trans e1_10)
      have s11 : storeV h11 2 (.p h10.nx 0) (aV (frX (woR L (jnR [C, turnR C])))) = .ok undefV (h11.put h10.nx (.cells 2 [.i .i64 ((frX (woR L (jnR [C, turnR C]))).1 : Int), .i .i64 ((frX (woR L (jnR [C, turnR C]))).2 : Int)])) := st2 c7
      simp (disch := omega) only [f60_r12, loopK_n, x_nil, x_mv, x_as, x_ldn, x_st, x_ext, x_call, kx, rvP_ok, okv_some, ev_t, ev_c, evs_nil, evs_cons, getV_some, putD_some, putD_none, onTup_t, nth0, nth1, getK_set, Nat.reduceEqDiff, ↓reduceIte, g1, l11, k.n87 _ _ _ hN, frV_eq, s11]
      have gE : Grow h10.nx.nat h10 (h11.put h10.nx (.cells 2 [.i .i64 ((frX (woR L (jnR [C, turnR C]))).1 : Int), .i .i64 ((frX (woR L (jnR [C, turnR C]))).2 : Int)])) := gB.trans (Grow.put (Nat.le_refl _) (by omega) _)
      rw [hnx] at hct hstep sN
      refine ⟨(woR L (jnR [C, turnR C]), P ++ [C]), hct, sN, fun z hz => ?_, ?_, fun r hr => ?_, kP.grow gE (by omega), (gE.old h.nx (by omega)).trans e1_10, u', h10.nx, frX (woR L (jnR [C, turnR C])), u_10.grow kP.hc gE, o1, by omega, by rw [nx_put]; omega, fun off n sz ee => by have := u_10.lt kP.hc _ _ _ _ ee; omega, get_put_same, fun y hy => by unfold frX; rw [hy]; rfl, by simp (disch := omega) only [getK_set, Nat.reduceEqDiff, ↓reduceIte, g1, g2, and_self]⟩
      · rcases List.mem_append.1 hz with hz | hz
        · exact hP z hz
        · rw [List.mem_singleton.1 hz]; exact hC
      · simp only at hct hcn ⊢
        rw [List.length_append]
        show cntT (woR L (jnR [C, turnR C])) + (P.length + 1) ≤ 49
        omega
      · have := hO _ (hstep r e hr)
        cases r with
        | none => exact this
        | some qs =>
          simp only [Option.map_some] at this ⊢
          rw [List.append_assoc]; exact this
end
end Go.Ev
namespace Go.Ev
open Go Go.RowKit
theorem nd_arI {f : Nat → Nat → Bool} : Nd (arI f) := fun x hx => by
  obtain ⟨a, b, h1, h2, _, rfl⟩ := mem_arI.1 hx
  show ((0 : Int) ≤ (a : Int) ∧ (a : Int) < 7) ∧ ((0 : Int) ≤ (b : Int) ∧ (b : Int) < 7)
  omega
theorem relR_iff {L : List (Int × Int)} {a b : Nat} (hn : Nd L) : rat (relR L) a b = true ↔ ((a : Int), (b : Int)) ∈ L := by
  unfold relR
  rw [rat_rl]
  simp only [Bool.and_eq_true, decide_eq_true_eq]
  exact ⟨fun h => h.2, fun h => ⟨by have := hn _ h; simp only at this; omega, h⟩⟩
theorem gR_iff {L : List (Int × Int)} {a b : Nat} (hn : Nd L) : rat (gR L) a b = true ↔ ((a : Int), (b : Int)) ∈ L ∨ ((b : Int), (a : Int)) ∈ L := by
  unfold gR
  rw [show jnR [relR L, turnR (relR L)] = jn2 (relR L) (turnR (relR L)) from rfl, jn2_iff, turnR_iff, relR_iff hn, relR_iff hn]
theorem gR_arI {n : Nat} {g : Nat → Nat → Bool} (hg : Gph n g) {a b : Nat} : rat (gR (arI g)) a b = true ↔ sy g a b = true := by
  rw [gR_iff nd_arI, mem_arI', mem_arI']
  unfold sy
  rw [Bool.or_eq_true]
  have h7 := hg.n7
  exact or_congr ⟨fun h => h.2.2, fun h => by have := hg.up _ _ h; exact ⟨by omega, by omega, h⟩⟩ ⟨fun h => h.2.2, fun h => by have := hg.up _ _ h; exact ⟨by omega, by omega, h⟩⟩
theorem symR_g {n : Nat} {g : Nat → Nat → Bool} (hg : Gph n g) : SymR (gR (arI g)) := by
  refine ⟨gR_len, ⟨fun a b h => ?_, fun a h => ?_⟩⟩
  · have h := (gR_arI hg).1 h
    exact (gR_arI hg).2 (by unfold sy at h ⊢; rw [Bool.or_comm]; exact h)
  · have h := (gR_arI hg).1 h
    unfold sy at h
    rw [Bool.or_self] at h
    have := hg.up _ _ h
    omega
/-- Pairs of a relation are rising. -/
theorem ris_arI {f : Nat → Nat → Bool} {n : Nat} (hf : ∀ a b, a < 7 → b < 7 → f a b = true → a < n ∧ b < n ∧ a ≠ b) : risB (n : Int) (arI f) = true := by
  unfold risB
  refine @decide_eq_true _ (Classical.propDecidable _) fun j hj => ?_
  have hl : (arI f).length = (arw f).length := by unfold arI; rw [List.length_map]
  have e : ∀ i (hi : i < (arw f).length), (arI f).getD i (0, 0) = toI (arw f)[i] := fun i hi => by
    rw [List.getD_eq_getElem?_getD]
    unfold arI
    rw [List.getElem?_map, List.getElem?_eq_getElem hi]; rfl
  refine ⟨?_, fun h0 => ?_⟩
  · rw [e j (by omega)]
    obtain ⟨h1, h2, h3⟩ := arw_lt (List.getElem_mem (show j < (arw f).length by omega))
    obtain ⟨q1, q2, q3⟩ := hf _ _ h1 h2 h3
    unfold okE nodeB toI
    rw [decide_eq_true (show (0 : Int) ≤ ((arw f)[j].1 : Int) ∧ ((arw f)[j].1 : Int) < (n : Int) by omega), decide_eq_true (show (0 : Int) ≤ ((arw f)[j].2 : Int) ∧ ((arw f)[j].2 : Int) < (n : Int) by omega), decide_eq_true (show ((arw f)[j].1 : Int) ≠ ((arw f)[j].2 : Int) by omega)]
    try rfl
  · rw [e j (by omega), e (j - 1) (by omega)]
    have hs := arw_sorted (g := f) (i := j - 1) (by omega)
    have ej : j - 1 + 1 = j := by omega
    simp only [ej] at hs
    obtain ⟨_, h2, _⟩ := arw_lt (List.getElem_mem (show j < (arw f).length by omega))
    obtain ⟨_, k2, _⟩ := arw_lt (List.getElem_mem (show j - 1 < (arw f).length by omega))
    unfold bfB toI
    by_cases e1 : (arw f)[j - 1].1 < (arw f)[j].1
    · rw [decide_eq_true (show ((arw f)[j - 1].1 : Int) < ((arw f)[j].1 : Int) by omega)]; rfl
    · rw [decide_eq_true (show ((arw f)[j - 1].1 : Int) = ((arw f)[j].1 : Int) by omega), decide_eq_true (show ((arw f)[j - 1].2 : Int) < ((arw f)[j].2 : Int) by omega)]
      simp
theorem chkG_g {n : Nat} {g : Nat → Nat → Bool} (hg : Gph n g) : chkG (n : Int) (arI g) = 0 := by
  have h1 := hg.n1; have h7 := hg.n7
  have hu : UpT (arI g) (arI g).length := fun j hj => by
    have hl : (arI g).length = (arw g).length := by unfold arI; rw [List.length_map]
    rw [List.getD_eq_getElem?_getD]
    unfold arI
    rw [List.getElem?_map, List.getElem?_eq_getElem (show j < (arw g).length by omega)]
    obtain ⟨_, _, h3⟩ := arw_lt (List.getElem_mem (show j < (arw g).length by omega))
    have := hg.up _ _ h3
    show ((arw g)[j].1 : Int) ≤ ((arw g)[j].2 : Int)
    omega
  unfold chkG
  rw [if_neg (by omega), if_pos ⟨ris_arI fun a b _ _ h => by have := hg.up _ _ h; omega, hu⟩]
open Classical in
/-- The search gives an order, or none is there. -/
theorem OrS.total : ∀ (m : Nat) {L : List Bool}, SymR L → cntT L ≤ m → ∃ r, OrS L r := by
  intro m
  induction m with
  | zero =>
    intro L s hm
    cases hf : frO L with
    | none => exact ⟨_, .done hf⟩
    | some x => have := nxR_cnt s hf; omega
  | succ m ih =>
    intro L s hm
    cases hf : frO L with
    | none => exact ⟨_, .done hf⟩
    | some x =>
      by_cases e : clsR L x = turnR (clsR L x)
      · exact ⟨_, .clash hf e⟩
      · obtain ⟨h1, h2, _⟩ := frO_some hf
        obtain ⟨r, hr⟩ := ih (s.next ⟨h1, h2⟩) (by have := nxR_cnt s hf; omega)
        exact ⟨_, .step hf e hr⟩
theorem orO_spec {L : List Bool} (s : SymR L) : (∃ ps, orO L = some ps ∧ Ord (Er L) (Er (jnR ps))) ∨ (orO L = none ∧ ¬ CF (Er L)) := by
  obtain ⟨r, hr⟩ := OrS.total _ s (Nat.le_refl _)
  have h1 := orO_eq hr
  have h2 := hr.sound s
  cases r with
  | none => exact .inr ⟨h1, h2.2 rfl⟩
  | some ps => exact .inl ⟨ps, h1, (h2.1 ps rfl).1⟩
end Go.Ev
namespace Go.Ev
open Go Go.RowKit
noncomputable def f40_r0 : List EOper := [⟨(some (K.ofNat 3)), none, .box 2 (.t (K.ofNat 1))⟩, ⟨(some (K.ofNat 4)), none, .as (.c (.b false))⟩]
noncomputable def f40_r1 : List EOper := [⟨(some (K.ofNat 5)), none, .as (.c (.i .i64 (.ofNat 0)))⟩]
noncomputable def f40_r2 : List EOper := [⟨(some (K.ofNat 6)), none, .mv (.t (K.ofNat 5))⟩, ⟨(some (K.ofNat 7)), none, .mv (.t (K.ofNat 0))⟩, ⟨(some (K.ofNat 8)), none, .len (.t (K.ofNat 7))⟩, ⟨(some (K.ofNat 9)), none, .bin .lss (.t (K.ofNat 6)) (.t (K.ofNat 8))⟩]
noncomputable def f40_r3 : List Stage := [⟨[⟨(some (K.ofNat 12)), none, .mv (.t (K.ofNat 0))⟩, ⟨(some (K.ofNat 13)), none, .mv (.t (K.ofNat 5))⟩, ⟨(some (K.ofNat 14)), none, .iads 2 (.t (K.ofNat 12)) (.t (K.ofNat 13))⟩, ⟨(some (K.ofNat 15)), none, .ldn 2 (.t (K.ofNat 14))⟩, ⟨(some (K.ofNat 16)), none, .ldn 2 (.t (K.ofNat 3))⟩, ⟨(some (K.ofNat 17)), none, .eqk (.many [(some .i64), (some .i64)]) false (.t (K.ofNat 15)) (.t (K.ofNat 16))⟩], [], none, []⟩]
noncomputable def f40_r4 : List EOper := [⟨(some (K.ofNat 4)), none, .as (.c (.b true))⟩]
noncomputable def f40_r5 : List EOper := [⟨(some (K.ofNat 10)), none, .mv (.t (K.ofNat 5))⟩, ⟨(some (K.ofNat 11)), none, .bin .add (.t (K.ofNat 10)) (.c (.i .i64 (.ofNat 1)))⟩, ⟨(some (K.ofNat 5)), none, .as (.t (K.ofNat 11))⟩]
noncomputable def f40_l0 : EC := (.seq (.seq (.reg f40_r2) (.cond (.t (K.ofNat 9)) .skip (.exit 0))) (.seq (.block 1 (.seq (.draw f40_r3) (.cond (.t (K.ofNat 17)) (.seq (.reg f40_r4) .ret) .skip))) (.reg f40_r5)))
noncomputable def f40_r6 : List EOper := [⟨(some (K.ofNat 4)), none, .as (.c (.b false))⟩]
noncomputable def f40_c : EC := (.seq (.reg f40_r0) (.seq (.seq (.reg f40_r1) (.block 0 (.loop f40_l0))) (.seq (.reg f40_r6) .ret)))
noncomputable def f40 : EF := ⟨18, [.tmp (K.ofNat 4)], f40_c, none⟩
theorem f40_rs : f40.rs = [.tmp (K.ofNat 4)] := of_eq_true (eq_self _)
noncomputable def f23_r0 : List EOper := [⟨(some (K.ofNat 4)), none, .as (.c .sn)⟩, ⟨(some (K.ofNat 5)), none, .as (.c (.b false))⟩, ⟨(some (K.ofNat 6)), none, .as (.c (.i .i64 (.ofNat 0)))⟩]
noncomputable def f23_r1 : List EOper := [⟨(some (K.ofNat 10)), none, .mv (.t (K.ofNat 0))⟩, ⟨(some (K.ofNat 11)), none, .mv (.t (K.ofNat 1))⟩, ⟨(some (K.ofNat 12)), none, .call (.c (.fn (K.ofNat 47) [])) [(.t (K.ofNat 10)), (.t (K.ofNat 11))]⟩, ⟨(some (K.ofNat 7)), none, .as (.t (K.ofNat 12))⟩]
noncomputable def f23_r2 : List EOper := [⟨(some (K.ofNat 13)), none, .mv (.t (K.ofNat 7))⟩, ⟨(some (K.ofNat 14)), none, .bin .neq (.t (K.ofNat 13)) (.c (.i .i64 (.ofNat 0)))⟩]
noncomputable def f23_r3 : List EOper := [⟨(some (K.ofNat 15)), none, .mv (.t (K.ofNat 7))⟩, ⟨(some (K.ofNat 4)), none, .as (.c .sn)⟩, ⟨(some (K.ofNat 5)), none, .as (.c (.b false))⟩, ⟨(some (K.ofNat 6)), none, .as (.t (K.ofNat 15))⟩]
noncomputable def f23_r4 : List EOper := [⟨(some (K.ofNat 17)), none, .mv (.t (K.ofNat 1))⟩, ⟨(some (K.ofNat 18)), none, .call (.c (.fn (K.ofNat 48) [])) [(.t (K.ofNat 17))]⟩, ⟨(some (K.ofNat 19)), none, .call (.c (.fn (K.ofNat 60) [])) [(.t (K.ofNat 18))]⟩, ⟨(some (K.ofNat 16)), none, .mv (.t (K.ofNat 19))⟩, ⟨(some (K.ofNat 20)), none, .ext (.t (K.ofNat 16)) 0⟩, ⟨(some (K.ofNat 21)), none, .ext (.t (K.ofNat 16)) 1⟩, ⟨(some (K.ofNat 8)), none, .alloc 49 (List.replicate 49 (.b false))⟩, ⟨none, none, .st 49 (.t (K.ofNat 8)) (.t (K.ofNat 20))⟩, ⟨(some (K.ofNat 9)), none, .as (.t (K.ofNat 21))⟩]
noncomputable def f23_r5 : List EOper := [⟨(some (K.ofNat 22)), none, .ldn 49 (.t (K.ofNat 8))⟩, ⟨(some (K.ofNat 23)), none, .call (.c (.fn (K.ofNat 58) [])) [(.t (K.ofNat 22))]⟩, ⟨(some (K.ofNat 24)), none, .mv (.t (K.ofNat 9))⟩, ⟨(some (K.ofNat 4)), none, .as (.t (K.ofNat 23))⟩, ⟨(some (K.ofNat 5)), none, .as (.t (K.ofNat 24))⟩, ⟨(some (K.ofNat 6)), none, .as (.c (.i .i64 (.ofNat 0)))⟩]
noncomputable def f23_c : EC := (.seq (.reg f23_r0) (.seq (.seq (.reg f23_r1) (.seq (.reg f23_r2) (.cond (.t (K.ofNat 14)) (.seq (.reg f23_r3) .ret) .skip))) (.seq (.reg f23_r4) (.seq (.reg f23_r5) .ret))))
noncomputable def f23 : EF := ⟨25, [.tmp (K.ofNat 4), .tmp (K.ofNat 5), .tmp (K.ofNat 6)], f23_c, none⟩
theorem f23_rs : f23.rs = [.tmp (K.ofNat 4), .tmp (K.ofNat 5), .tmp (K.ofNat 6)] := of_eq_true (eq_self _)
section
variable {fs : T EF} {h h' : H}
def inI (x : Int × Int) : Prop := inR .i64 x.1 = true ∧ inR .i64 x.2 = true
theorem inI_nat {a b : Nat} (ha : a < 7) (hb : b < 7) : inI ((a : Int), (b : Int)) := by
  have r : ∀ n : Nat, n < 7 → inR .i64 (n : Int) = true := fun n hn => by
    show Nat.ble n (kmax .i64) = true
    exact Nat.ble_eq_true_of_le (by show n ≤ 9223372036854775807; omega)
  exact ⟨r _ ha, r _ hb⟩
theorem inI_arI {f : Nat → Nat → Bool} : ∀ x ∈ arI f, inI x := fun x hx => by
  obtain ⟨a, b, h1, h2, _, rfl⟩ := mem_arI.1 hx
  exact inI_nat h1 h2
theorem keyEq_pVO {x y : Int × Int} (hx : inI x) (hy : inI y) : keyEq (.many [some .i64, some .i64]) (pV x) (pV y) = some (decide (x = y)) := by
  have := keyEq_2 hx.1 hx.2 hy.1 hy.2
  rw [show keyEq (.many [some .i64, some .i64]) (pV x) (pV y) = _ from this]
  congr 1
  rw [← Bool.decide_and]
  exact decide_eq_decide.2 ⟨fun h => Prod.ext h.1 h.2, fun h => by rw [h]; exact ⟨rfl, rfl⟩⟩
def f40_I (h0 : H) (id3 : K) (v : V) (L : List (Int × Int)) (x : Int × Int) (i : Nat) (fr : Fr) (h1 : H) : Prop := i ≤ L.length ∧ h1 = h0 ∧ x ∉ L.take i ∧ fr.get (K.ofNat 0) = some (v) ∧ fr.get (K.ofNat 3) = some (.p id3 0) ∧ fr.get (K.ofNat 5) = some (.i .i64 (i : Int))
theorem f40_ret {v : V} {L : List (Int × Int)} {x : Int × Int} (hv : Srp h v L) (hL : ∀ y ∈ L, inI y) (hx : inI x) (hb : L.length ≤ 1000000) (hc : HC h) : Ret fs f40 [v, pV x] h fun r h' => r = .b (decide (x ∈ L)) ∧ Grow h.nx.nat h h' := by
  apply ret_of rfl
  show W fs none f40_c _ _ _
  unfold f40_c
  have c1 : cellsN 2 (pV x) = some [.i .i64 x.1, .i .i64 x.2] := rfl
  have gr1 : Grow h.nx.nat h (h.new (.cells 2 [.i .i64 x.1, .i .i64 x.2])) := Grow.new (Nat.le_refl _) _
  have e1 : (h.new (.cells 2 [.i .i64 x.1, .i .i64 x.2])).get h.nx = .cells 2 [.i .i64 x.1, .i .i64 x.2] := get_new_same
  simp (disch := omega) only [f40_r0, f40_r1, w_reg, w_seq, w_block, seqK_n, x_nil, x_as, x_box, kx, rvP_ok, ev_t, ev_c, getV_some, putD_some, oGet_s, frame_2, of0, getK_set, ↓reduceIte, c1]
  generalize h.new (.cells 2 [.i .i64 x.1, .i .i64 x.2]) = h1 at *
  have hv1 := hv.grow hc gr1
  have hlen := hv1.len
  have l1 := ldn2 e1
  have hvb := hv.beq
  refine W_loop (f40_I h1 h.nx v L x) (fun i => L.length - i) ?_ 0 ⟨by omega, rfl, by simp, by simp (disch := omega) only [getK_set, Nat.reduceEqDiff, ↓reduceIte, and_self, Int.natCast_zero]⟩
  rintro i fr h2 ⟨hi, rfl, hn, g0, g3, g5⟩
  unfold f40_l0
  by_cases hlt : i < L.length
  · have d0 : decide ((i : Int) < (L.length : Int)) = true := decide_eq_true (by omega)
    obtain ⟨id, q, p1, p2, _⟩ := hv1.at2 hlt
    have hq := keyEq_pVO (hL _ (List.getElem_mem hlt)) hx
    have hav1 : V.agg [.i .i64 L[i].1, .i .i64 L[i].2] = pV L[i] := rfl
    have hav2 : V.agg [.i .i64 x.1, .i .i64 x.2] = pV x := rfl
    by_cases e : L[i] = x
    · have d1 : decide (L[i] = x) = true := decide_eq_true e
      rw [d1] at hq
      simp (disch := omega) only [f40_r2, f40_r3, f40_r4, f40_rs, w_skip, w_reg, w_draw, w_seq, w_cond, w_block, w_ret, seqK_n, seqK_r, atK_r, loopK_r, ckB_b, cbB_b, true_and, retK_r, x_nil, x_mv, x_as, x_bin, x_len, kx, kg, xg_nil, xg_mv, xg_ldn, xg_eqk, xg_iads, xd_cons, fresh_nil, stK_n, stay_nil, rvP_ok, okv_some, ev_t, ev_c, getV_some, putD_some, bin_lss, oGet_s, readRs_nil, readRs_t, retV_1, Option.some.injEq, exists_eq_left', getK_set, Nat.reduceEqDiff, ↓reduceIte, g0, g3, g5, hlen, d0, p1, p2, l1, hav1, hav2, hq, cond_false]
      exact ⟨by rw [decide_eq_true (show x ∈ L by rw [← e]; exact List.getElem_mem hlt)], gr1⟩
    · have d1 : decide (L[i] = x) = false := decide_eq_false e
      rw [d1] at hq
      simp (disch := omega) only [f40_r2, f40_r3, f40_r5, w_skip, w_reg, w_draw, w_seq, w_cond, w_block, seqK_n, atK_n, loopK_n, ckB_b, cbB_b, true_and, x_nil, x_mv, x_as, x_bin, x_len, kx, kg, xg_nil, xg_mv, xg_ldn, xg_eqk, xg_iads, xd_cons, fresh_nil, stK_n, stay_nil, rvP_ok, okv_some, ev_t, ev_c, getV_some, putD_some, bin_add, bin_lss, oGet_s, of1, getK_set, Nat.reduceEqDiff, ↓reduceIte, Bool.false_eq_true, g0, g3, g5, hlen, d0, p1, p2, l1, hav1, hav2, hq, cond_false, fw64]
      refine ⟨i + 1, by omega, hlt, rfl, ?_, by simp (disch := omega) only [getK_set, Nat.reduceEqDiff, ↓reduceIte, g0, g3, and_self, Int.natCast_add, Int.natCast_one]⟩
      rw [List.take_succ_eq_append_getElem hlt, List.mem_append, List.mem_singleton]
      exact fun h => h.elim hn (fun h => e h.symm)
  · have d0 : decide ((i : Int) < (L.length : Int)) = false := decide_eq_false (by omega)
    have ei : i = L.length := by omega
    subst ei
    rw [List.take_length] at hn
    simp (disch := omega) only [f40_r2, f40_r6, f40_rs, w_reg, w_seq, w_cond, w_exit, w_ret, seqK_n, seqK_e, atK_e, loopK_e, ckB_b, cbB_b, true_and, retK_r, x_nil, x_mv, x_as, x_bin, x_len, kx, rvP_ok, okv_some, ev_t, ev_c, getV_some, putD_some, bin_lss, oGet_s, readRs_nil, readRs_t, retV_1, Option.some.injEq, exists_eq_left', getK_set, Nat.reduceEqDiff, ↓reduceIte, Bool.false_eq_true, g0, g5, hlen, d0]
    exact ⟨by rw [decide_eq_false hn], gr1⟩
/-! ### Orient -/
structure CallsOr (fs : T EF) : Prop extends CallsCk fs where
  c47 : fs.get (K.ofNat 47) = some f47
  c48 : fs.get (K.ofNat 48) = some f48
  c58 : fs.get (K.ofNat 58) = some f58
  n60 : ∀ L h P, SymR L → CallP fs (.fn (K.ofNat 60) []) [rV L] h P = P (orV L) h
/-- What Orient gives. -/
structure OrI (g : Nat → Nat → Bool) (b : Bool) (F : List Bool) : Prop where
  len : F.length = 49
  yes : b = true → Ord (Er (gR (arI g))) (Er F)
  no : b = false → F = rl (fun _ _ => false) ∧ ¬ CF (Er (gR (arI g)))
theorem orI_of {n : Nat} {g : Nat → Nat → Bool} (hg : Gph n g) : ∃ b F, orV (gR (arI g)) = .tup [rV F, .b b] ∧ OrI g b F := by
  unfold orV
  rcases orO_spec (symR_g hg) with ⟨ps, e, o⟩ | ⟨e, o⟩
  · exact ⟨true, jnR ps, by rw [e], rl_len, fun _ => o, fun e => by cases e⟩
  · exact ⟨false, rl fun _ _ => false, by rw [e], rl_len, (fun e => by cases e), fun _ => ⟨rfl, o⟩⟩
theorem f23_ret {n : Nat} {v : V} {g : Nat → Nat → Bool} (k : CallsOr fs) (hg : Gph n g) (hv : Srp h v (arI g)) (hc : HC h) : Ret fs f23 [.i .i64 (n : Int), v] h fun r h' => ∃ b F u, r = .tup [u, .b b, .i .i64 0] ∧ OrI g b F ∧ Sk 2 qE h' u (arI (rat F)) ∧ Own h.nx.nat u ∧ Grow h.nx.nat h h' := by
  have hlb := arI_len (g := g)
  apply ret_of rfl
  show W fs none f23_c _ _ _
  unfold f23_c
  simp (disch := omega) only [f23_r0, f23_r1, w_reg, w_seq, seqK_n, x_nil, x_mv, x_as, x_call, ev_t, ev_c, evs_nil, evs_cons, getV_some, putD_some, frame_2, of0, getK_set, Nat.reduceEqDiff, ↓reduceIte]
  refine (callP_0 (ef := f47) k.c47 rfl (f47_ret k.toCallsCk hv (by omega) hc)).mono ?_
  rintro r h1 ⟨rfl, gr1⟩
  rw [chkG_g hg]
  have ne0 : decide ((0 : Int) ≠ 0) = false := rfl
  simp (disch := omega) only [f23_r2, f23_r4, w_skip, w_reg, w_seq, w_cond, seqK_n, ckB_b, cbB_b, true_and, x_nil, x_mv, x_as, x_bin, x_call, kx, rvP_ok, okv_some, ev_t, ev_c, evs_nil, evs_cons, getV_some, putD_some, bin_neq, of0, getK_set, Nat.reduceEqDiff, ↓reduceIte, Bool.false_eq_true, ne0]
  have hc1 := gr1.hc hc
  refine (callP_0 (ef := f48) k.c48 rfl (f48_ret k.toNat2 (hv.grow hc gr1) nd_arI (by omega) hc1)).mono ?_
  rintro r h2 ⟨rfl, gr2⟩
  have hc2 := gr2.hc hc1
  obtain ⟨b, F, hO, hF⟩ := orI_of hg
  have s2 := rC_stn hF.len rl_len (M := rl fun _ _ => false) (h := h2.new (.cells 49 (List.replicate 49 (.b false)))) (id := h2.nx) (by rw [rl_false]; exact get_new_same)
  have n3 := nx_new h2 (.cells 49 (List.replicate 49 (.b false)))
  have gr3 : Grow h2.nx.nat h2 ((h2.new (.cells 49 (List.replicate 49 (.b false)))).put h2.nx (rC F)) := (Grow.new (Nat.le_refl _) _).trans (Grow.put (Nat.le_refl _) (by omega) _)
  have e3 : ((h2.new (.cells 49 (List.replicate 49 (.b false)))).put h2.nx (rC F)).get h2.nx = rC F := get_put_same
  have l3 := rC_ldn hF.len e3
  simp (disch := omega) only [f23_r5, w_reg, w_seq, seqK_n, x_nil, x_mv, x_as, x_alloc, x_ldn, x_st, x_ext, x_call, kx, rvP_ok, okv_some, ev_t, ev_c, evs_nil, evs_cons, getV_some, putD_some, putD_none, onTup_t, nth0, nth1, of0, getK_set, Nat.reduceEqDiff, ↓reduceIte, k.n60 _ _ _ (symR_g hg), hO, s2, l3]
  generalize (h2.new (.cells 49 (List.replicate 49 (.b false)))).put h2.nx (rC F) = h3 at *
  have gA : Grow h.nx.nat h h3 := gr1.trans ((gr2.low gr1.nx).trans (gr3.low (by have := gr1.nx; have := gr2.nx; omega)))
  refine (callP_0 (ef := f58) k.c58 rfl (f58_ret k.toNat4 hF.len (gr3.hc hc2))).mono ?_
  rintro u h4 ⟨hs, ho, gr4⟩
  simp (disch := omega) only [f23_rs, w_ret, seqK_n, retK_r, x_nil, x_mv, x_as, kx, ev_t, ev_c, getV_some, putD_some, oGet_s, readRs_nil, readRs_t, retV_2, Option.some.injEq, exists_eq_left', getK_set, Nat.reduceEqDiff, ↓reduceIte]
  exact ⟨b, F, u, rfl, hF, hs, ho.low gA.nx, gA.trans (gr4.low gA.nx)⟩
end
end Go.Ev
namespace Go.Ev
open Go Go.RowKit
theorem nodup_leO {α : Type} [DecidableEq α] : ∀ {l m : List α}, l.Nodup → (∀ x ∈ l, x ∈ m) → l.length ≤ m.length
  | [], _, _, _ => Nat.zero_le _
  | x :: l, m, hn, hs => by
    rw [List.nodup_cons] at hn
    have hx : x ∈ m := hs x (by simp)
    have := nodup_leO (l := l) (m := m.erase x) hn.2 fun y hy => (List.mem_erase_of_ne (fun e : y = x => hn.1 (e ▸ hy))).2 (hs y (by simp [hy]))
    rw [List.length_erase_of_mem hx] at this
    have : 0 < m.length := List.length_pos_of_mem hx
    rw [List.length_cons]; omega
section
variable {L : List Bool} {n : Nat}
end
end Go.Ev
namespace Go.Ev
open Go Go.RowKit
section
variable {fs : T EF} {h h' : H}
end
end Go.Ev
namespace Go.Ev
open Go Go.RowKit
section
variable {fs : T EF} {h h' : H}
end
end Go.Ev
namespace Go.Ev
open Go Go.RowKit
section
variable {g : Nat → Nat → Bool} {k n : Nat}
end
end Go.Ev
namespace Go.Ev
open Go Go.RowKit
section
variable {fs : T EF} {h h' : H}
end
end Go.Ev
namespace Go.Ev
open Go Go.RowKit
theorem HC.empty : HC ⟨.e, .nil⟩ := fun _ _ => by show getB (T.get _ .nil) = _; rw [T.get_nil]; rfl
theorem pV_inj {x y : Int × Int} (h : pV x = pV y) : x = y := by
  unfold pV at h
  injection h with h
  injection h with h1 h
  injection h with h2 _
  injection h1 with _ h1
  injection h2 with _ h2
  exact Prod.ext h1 h2
theorem aV_inj {x y : Nat × Nat} (h : aV x = aV y) : x = y := by
  rw [aV_pV, aV_pV] at h
  have := pV_inj h
  injection this with h1 h2
  exact Prod.ext (by omega) (by omega)
theorem iV_inj {k : IntKind} {a b : Int} (h : V.i k a = V.i k b) : a = b := by injection h
section
variable {Y : Rig} {fs : T EF}
theorem frV_plain {L : List Bool} : (frV L).plainT = true := by unfold frV; split <;> rfl
theorem orV_plain {L : List Bool} : (orV L).plainT = true := by
  unfold orV
  split
  · show ([rV _, V.b true].all V.plain) = true
    simp only [List.all_cons, List.all_nil, rV_plain, Bool.true_and]; rfl
  · show ([rV _, V.b false].all V.plain) = true
    simp only [List.all_cons, List.all_nil, rV_plain, Bool.true_and]; rfl
theorem rV_plainT {L : List Bool} : (rV L).plainT = true := rV_plain (L := L)
def D96 : Type := {_x : Int × Int // True}
noncomputable def A96 : D96 → List V := fun ⟨x, _⟩ => [V.i .i64 x.1, V.i .i64 x.2]
noncomputable def F96 : D96 → V := fun ⟨x, _⟩ => V.b (nodeB x.1 x.2)
theorem I96 : ∀ x y, A96 x = A96 y → F96 x = F96 y := by
  rintro ⟨x, p⟩ ⟨y, q⟩ h
  have h : [V.i .i64 x.1, V.i .i64 x.2] = [V.i .i64 y.1, V.i .i64 y.2] := h
  injection h with h0 h
  have e0 := iV_inj h0
  injection h with h1 h
  have e1 := iV_inj h1
  have e : x = y := by
    exact Prod.ext e0 e1
  subst e
  rfl
theorem P96 : ∀ x, (A96 x).all V.plain = true := by
  rintro ⟨x, p⟩
  show ([V.i .i64 x.1, V.i .i64 x.2].all V.plain) = true
  first | rfl | (simp only [List.all_cons, List.all_nil, rV_plain, Bool.true_and, Bool.and_true]; done) | (simp only [List.all_cons, List.all_nil, rV_plain, Bool.true_and, Bool.and_true]; rfl)
theorem Q96 : ∀ x, (F96 x).plainT = true := fun ⟨_, _⟩ => rfl
theorem G96 (hfs : Fns Y fs) (hf : f96.nv = none ∧ ∃ fn c, FnOk Y (K.ofNat 96) f96 fn c) : ∀ args v, dataG A96 F96 args = some v → Gives Y (K.ofNat 96) args v := dataG_gives hfs hf P96 Q96 fun ⟨_, p⟩ => by have _ := p; exact f96_ret
theorem E96 {ef : EF} (hf : fs.get (K.ofNat 96) = some ef) (hn : ef.nv = some (flatG (dataG A96 F96))) (x : Int × Int) (p : True) (h : H) (P : V → H → Prop) : CallP fs (.fn (K.ofNat 96) []) (A96 ⟨x, p⟩) h P = P (F96 ⟨x, p⟩) h := callP_data hf hn I96 _ h P
def D77 : Type := {_x : Int × Int // True}
noncomputable def A77 : D77 → List V := fun ⟨x, _⟩ => [pV x]
noncomputable def F77 : D77 → V := fun ⟨x, _⟩ => pV (x.2, x.1)
theorem I77 : ∀ x y, A77 x = A77 y → F77 x = F77 y := by
  rintro ⟨x, p⟩ ⟨y, q⟩ h
  have h : [pV x] = [pV y] := h
  injection h with h0 h
  have e0 := pV_inj h0
  have e : x = y := by
    exact e0
  subst e
  rfl
theorem P77 : ∀ x, (A77 x).all V.plain = true := by
  rintro ⟨x, p⟩
  show ([pV x].all V.plain) = true
  first | rfl | (simp only [List.all_cons, List.all_nil, rV_plain, Bool.true_and, Bool.and_true]; done) | (simp only [List.all_cons, List.all_nil, rV_plain, Bool.true_and, Bool.and_true]; rfl)
theorem Q77 : ∀ x, (F77 x).plainT = true := fun ⟨_, _⟩ => rfl
theorem G77 (hfs : Fns Y fs) (hf : f77.nv = none ∧ ∃ fn c, FnOk Y (K.ofNat 77) f77 fn c) : ∀ args v, dataG A77 F77 args = some v → Gives Y (K.ofNat 77) args v := dataG_gives hfs hf P77 Q77 fun ⟨_, p⟩ => by have _ := p; exact f77_ret
theorem E77 {ef : EF} (hf : fs.get (K.ofNat 77) = some ef) (hn : ef.nv = some (flatG (dataG A77 F77))) (x : Int × Int) (p : True) (h : H) (P : V → H → Prop) : CallP fs (.fn (K.ofNat 77) []) (A77 ⟨x, p⟩) h P = P (F77 ⟨x, p⟩) h := callP_data hf hn I77 _ h P
def D78 : Type := {_x : Int × Int // True}
noncomputable def A78 : D78 → List V := fun ⟨x, _⟩ => [pV x]
noncomputable def F78 : D78 → V := fun ⟨x, _⟩ => pV x
theorem I78 : ∀ x y, A78 x = A78 y → F78 x = F78 y := by
  rintro ⟨x, p⟩ ⟨y, q⟩ h
  have h : [pV x] = [pV y] := h
  injection h with h0 h
theorem P78 : ∀ x, (A78 x).all V.plain = true := by
  rintro ⟨x, p⟩
  show ([pV x].all V.plain) = true
  first | rfl | (simp only [List.all_cons, List.all_nil, rV_plain, Bool.true_and, Bool.and_true]; done) | (simp only [List.all_cons, List.all_nil, rV_plain, Bool.true_and, Bool.and_true]; rfl)
theorem Q78 : ∀ x, (F78 x).plainT = true := fun ⟨_, _⟩ => rfl
theorem G78 (hfs : Fns Y fs) (hf : f78.nv = none ∧ ∃ fn c, FnOk Y (K.ofNat 78) f78 fn c) : ∀ args v, dataG A78 F78 args = some v → Gives Y (K.ofNat 78) args v := dataG_gives hfs hf P78 Q78 fun ⟨_, p⟩ => by have _ := p; exact f78_ret
theorem E78 {ef : EF} (hf : fs.get (K.ofNat 78) = some ef) (hn : ef.nv = some (flatG (dataG A78 F78))) (x : Int × Int) (p : True) (h : H) (P : V → H → Prop) : CallP fs (.fn (K.ofNat 78) []) (A78 ⟨x, p⟩) h P = P (F78 ⟨x, p⟩) h := callP_data hf hn I78 _ h P
def D56 : Type := {_x : Int × Int // True}
noncomputable def A56 : D56 → List V := fun ⟨x, _⟩ => [pV x]
noncomputable def F56 : D56 → V := fun ⟨x, _⟩ => pV x
theorem I56 : ∀ x y, A56 x = A56 y → F56 x = F56 y := by
  rintro ⟨x, p⟩ ⟨y, q⟩ h
  have h : [pV x] = [pV y] := h
  injection h with h0 h
theorem P56 : ∀ x, (A56 x).all V.plain = true := by
  rintro ⟨x, p⟩
  show ([pV x].all V.plain) = true
  first | rfl | (simp only [List.all_cons, List.all_nil, rV_plain, Bool.true_and, Bool.and_true]; done) | (simp only [List.all_cons, List.all_nil, rV_plain, Bool.true_and, Bool.and_true]; rfl)
theorem Q56 : ∀ x, (F56 x).plainT = true := fun ⟨_, _⟩ => rfl
theorem G56 (hfs : Fns Y fs) (hf : f56.nv = none ∧ ∃ fn c, FnOk Y (K.ofNat 56) f56 fn c) : ∀ args v, dataG A56 F56 args = some v → Gives Y (K.ofNat 56) args v := dataG_gives hfs hf P56 Q56 fun ⟨_, p⟩ => by have _ := p; exact f56_ret
theorem E56 {ef : EF} (hf : fs.get (K.ofNat 56) = some ef) (hn : ef.nv = some (flatG (dataG A56 F56))) (x : Int × Int) (p : True) (h : H) (P : V → H → Prop) : CallP fs (.fn (K.ofNat 56) []) (A56 ⟨x, p⟩) h P = P (F56 ⟨x, p⟩) h := callP_data hf hn I56 _ h P
def D70 : Type := {x : List Bool // x.length = 49}
noncomputable def A70 : D70 → List V := fun ⟨x, _⟩ => [rV x]
noncomputable def F70 : D70 → V := fun ⟨x, _⟩ => rV (turnR x)
theorem I70 : ∀ x y, A70 x = A70 y → F70 x = F70 y := by
  rintro ⟨x, p⟩ ⟨y, q⟩ h
  have h : [rV x] = [rV y] := h
  injection h with h0 h
  have e0 := rV_inj h0
  have e : x = y := by
    exact e0
  subst e
  rfl
theorem P70 : ∀ x, (A70 x).all V.plain = true := by
  rintro ⟨x, p⟩
  show ([rV x].all V.plain) = true
  first | rfl | (simp only [List.all_cons, List.all_nil, rV_plain, Bool.and_true]; done) | (simp only [List.all_cons, List.all_nil, rV_plain, Bool.true_and, Bool.and_true]; rfl)
theorem Q70 : ∀ x, (F70 x).plainT = true := fun ⟨_, _⟩ => rV_plainT
theorem G70 (h84 : fs.get (K.ofNat 84) = some f84) (h101 : fs.get (K.ofNat 101) = some f101) (hfs : Fns Y fs) (hf : f70.nv = none ∧ ∃ fn c, FnOk Y (K.ofNat 70) f70 fn c) : ∀ args v, dataG A70 F70 args = some v → Gives Y (K.ofNat 70) args v := dataG_gives hfs hf P70 Q70 fun ⟨_, p⟩ => by have _ := p; exact (f70_ret p h84 h101 HC.empty).mono fun _ _ h => h.1
theorem E70 {ef : EF} (hf : fs.get (K.ofNat 70) = some ef) (hn : ef.nv = some (flatG (dataG A70 F70))) (x : List Bool) (p : x.length = 49) (h : H) (P : V → H → Prop) : CallP fs (.fn (K.ofNat 70) []) (A70 ⟨x, p⟩) h P = P (F70 ⟨x, p⟩) h := callP_data hf hn I70 _ h P
def D81 : Type := {x : List Bool × List Bool // x.1.length = 49 ∧ x.2.length = 49}
noncomputable def A81 : D81 → List V := fun ⟨x, _⟩ => [rV x.1, rV x.2]
noncomputable def F81 : D81 → V := fun ⟨x, _⟩ => rV (woR x.1 x.2)
theorem I81 : ∀ x y, A81 x = A81 y → F81 x = F81 y := by
  rintro ⟨x, p⟩ ⟨y, q⟩ h
  have h : [rV x.1, rV x.2] = [rV y.1, rV y.2] := h
  injection h with h0 h
  have e0 := rV_inj h0
  injection h with h1 h
  have e1 := rV_inj h1
  have e : x = y := by
    exact Prod.ext e0 e1
  subst e
  rfl
theorem P81 : ∀ x, (A81 x).all V.plain = true := by
  rintro ⟨x, p⟩
  show ([rV x.1, rV x.2].all V.plain) = true
  first | rfl | (simp only [List.all_cons, List.all_nil, rV_plain, Bool.and_true]; done) | (simp only [List.all_cons, List.all_nil, rV_plain, Bool.true_and, Bool.and_true]; rfl)
theorem Q81 : ∀ x, (F81 x).plainT = true := fun ⟨_, _⟩ => rV_plainT
theorem G81 (h84 : fs.get (K.ofNat 84) = some f84) (h101 : fs.get (K.ofNat 101) = some f101) (hfs : Fns Y fs) (hf : f81.nv = none ∧ ∃ fn c, FnOk Y (K.ofNat 81) f81 fn c) : ∀ args v, dataG A81 F81 args = some v → Gives Y (K.ofNat 81) args v := dataG_gives hfs hf P81 Q81 fun ⟨_, p⟩ => by have _ := p; exact f81_ret p.1 p.2 h84 h101 HC.empty
theorem E81 {ef : EF} (hf : fs.get (K.ofNat 81) = some ef) (hn : ef.nv = some (flatG (dataG A81 F81))) (x : List Bool × List Bool) (p : x.1.length = 49 ∧ x.2.length = 49) (h : H) (P : V → H → Prop) : CallP fs (.fn (K.ofNat 81) []) (A81 ⟨x, p⟩) h P = P (F81 ⟨x, p⟩) h := callP_data hf hn I81 _ h P
def D85 : Type := {x : List Bool × (Int × Int) // x.1.length = 49}
noncomputable def A85 : D85 → List V := fun ⟨x, _⟩ => [rV x.1, pV x.2]
noncomputable def F85 : D85 → V := fun ⟨x, _⟩ => V.b (hasR x.1 x.2)
theorem I85 : ∀ x y, A85 x = A85 y → F85 x = F85 y := by
  rintro ⟨x, p⟩ ⟨y, q⟩ h
  have h : [rV x.1, pV x.2] = [rV y.1, pV y.2] := h
  injection h with h0 h
  have e0 := rV_inj h0
  injection h with h1 h
  have e1 := pV_inj h1
  have e : x = y := by
    exact Prod.ext e0 e1
  subst e
  rfl
theorem P85 : ∀ x, (A85 x).all V.plain = true := by
  rintro ⟨x, p⟩
  show ([rV x.1, pV x.2].all V.plain) = true
  first | rfl | (simp only [List.all_cons, List.all_nil, rV_plain, Bool.true_and, Bool.and_true]; done) | (simp only [List.all_cons, List.all_nil, rV_plain, Bool.true_and, Bool.and_true]; rfl)
theorem Q85 : ∀ x, (F85 x).plainT = true := fun ⟨_, _⟩ => rfl
theorem G85 (k : Nat1 fs) (hfs : Fns Y fs) (hf : f85.nv = none ∧ ∃ fn c, FnOk Y (K.ofNat 85) f85 fn c) : ∀ args v, dataG A85 F85 args = some v → Gives Y (K.ofNat 85) args v := dataG_gives hfs hf P85 Q85 fun ⟨_, p⟩ => by have _ := p; exact f85_ret k p
theorem E85 {ef : EF} (hf : fs.get (K.ofNat 85) = some ef) (hn : ef.nv = some (flatG (dataG A85 F85))) (x : List Bool × (Int × Int)) (p : x.1.length = 49) (h : H) (P : V → H → Prop) : CallP fs (.fn (K.ofNat 85) []) (A85 ⟨x, p⟩) h P = P (F85 ⟨x, p⟩) h := callP_data hf hn I85 _ h P
def D87 : Type := {x : List Bool // x.length = 49}
noncomputable def A87 : D87 → List V := fun ⟨x, _⟩ => [rV x]
noncomputable def F87 : D87 → V := fun ⟨x, _⟩ => frV x
theorem I87 : ∀ x y, A87 x = A87 y → F87 x = F87 y := by
  rintro ⟨x, p⟩ ⟨y, q⟩ h
  have h : [rV x] = [rV y] := h
  injection h with h0 h
  have e0 := rV_inj h0
  have e : x = y := by
    exact e0
  subst e
  rfl
theorem P87 : ∀ x, (A87 x).all V.plain = true := by
  rintro ⟨x, p⟩
  show ([rV x].all V.plain) = true
  first | rfl | (simp only [List.all_cons, List.all_nil, rV_plain, Bool.and_true]; done) | (simp only [List.all_cons, List.all_nil, rV_plain, Bool.true_and, Bool.and_true]; rfl)
theorem Q87 : ∀ x, (F87 x).plainT = true := fun ⟨_, _⟩ => frV_plain
theorem G87 (k : Nat2 fs) (hfs : Fns Y fs) (hf : f87.nv = none ∧ ∃ fn c, FnOk Y (K.ofNat 87) f87 fn c) : ∀ args v, dataG A87 F87 args = some v → Gives Y (K.ofNat 87) args v := dataG_gives hfs hf P87 Q87 fun ⟨_, p⟩ => by have _ := p; exact f87_ret k p HC.empty
theorem E87 {ef : EF} (hf : fs.get (K.ofNat 87) = some ef) (hn : ef.nv = some (flatG (dataG A87 F87))) (x : List Bool) (p : x.length = 49) (h : H) (P : V → H → Prop) : CallP fs (.fn (K.ofNat 87) []) (A87 ⟨x, p⟩) h P = P (F87 ⟨x, p⟩) h := callP_data hf hn I87 _ h P
def D92 : Type := {x : List Bool // x.length = 49}
noncomputable def A92 : D92 → List V := fun ⟨x, _⟩ => [rV x]
noncomputable def F92 : D92 → V := fun ⟨x, _⟩ => rV (spR x)
theorem I92 : ∀ x y, A92 x = A92 y → F92 x = F92 y := by
  rintro ⟨x, p⟩ ⟨y, q⟩ h
  have h : [rV x] = [rV y] := h
  injection h with h0 h
  have e0 := rV_inj h0
  have e : x = y := by
    exact e0
  subst e
  rfl
theorem P92 : ∀ x, (A92 x).all V.plain = true := by
  rintro ⟨x, p⟩
  show ([rV x].all V.plain) = true
  first | rfl | (simp only [List.all_cons, List.all_nil, rV_plain, Bool.and_true]; done) | (simp only [List.all_cons, List.all_nil, rV_plain, Bool.true_and, Bool.and_true]; rfl)
theorem Q92 : ∀ x, (F92 x).plainT = true := fun ⟨_, _⟩ => rV_plainT
theorem G92 (k : Nat2 fs) (hfs : Fns Y fs) (hf : f92.nv = none ∧ ∃ fn c, FnOk Y (K.ofNat 92) f92 fn c) : ∀ args v, dataG A92 F92 args = some v → Gives Y (K.ofNat 92) args v := dataG_gives hfs hf P92 Q92 fun ⟨_, p⟩ => by have _ := p; exact f92_ret k p HC.empty
theorem E92 {ef : EF} (hf : fs.get (K.ofNat 92) = some ef) (hn : ef.nv = some (flatG (dataG A92 F92))) (x : List Bool) (p : x.length = 49) (h : H) (P : V → H → Prop) : CallP fs (.fn (K.ofNat 92) []) (A92 ⟨x, p⟩) h P = P (F92 ⟨x, p⟩) h := callP_data hf hn I92 _ h P
def D91 : Type := {x : List Bool × List Bool // x.1.length = 49 ∧ x.2.length = 49}
noncomputable def A91 : D91 → List V := fun ⟨x, _⟩ => [rV x.1, rV x.2]
noncomputable def F91 : D91 → V := fun ⟨x, _⟩ => V.b (cvB x.1 x.2)
theorem I91 : ∀ x y, A91 x = A91 y → F91 x = F91 y := by
  rintro ⟨x, p⟩ ⟨y, q⟩ h
  have h : [rV x.1, rV x.2] = [rV y.1, rV y.2] := h
  injection h with h0 h
  have e0 := rV_inj h0
  injection h with h1 h
  have e1 := rV_inj h1
  have e : x = y := by
    exact Prod.ext e0 e1
  subst e
  rfl
theorem P91 : ∀ x, (A91 x).all V.plain = true := by
  rintro ⟨x, p⟩
  show ([rV x.1, rV x.2].all V.plain) = true
  first | rfl | (simp only [List.all_cons, List.all_nil, rV_plain, Bool.and_true]; done) | (simp only [List.all_cons, List.all_nil, rV_plain, Bool.true_and, Bool.and_true]; rfl)
theorem Q91 : ∀ x, (F91 x).plainT = true := fun ⟨_, _⟩ => rfl
theorem G91 (k : Nat2 fs) (hfs : Fns Y fs) (hf : f91.nv = none ∧ ∃ fn c, FnOk Y (K.ofNat 91) f91 fn c) : ∀ args v, dataG A91 F91 args = some v → Gives Y (K.ofNat 91) args v := dataG_gives hfs hf P91 Q91 fun ⟨_, p⟩ => by have _ := p; exact f91_ret k p.1 p.2 HC.empty
theorem E91 {ef : EF} (hf : fs.get (K.ofNat 91) = some ef) (hn : ef.nv = some (flatG (dataG A91 F91))) (x : List Bool × List Bool) (p : x.1.length = 49 ∧ x.2.length = 49) (h : H) (P : V → H → Prop) : CallP fs (.fn (K.ofNat 91) []) (A91 ⟨x, p⟩) h P = P (F91 ⟨x, p⟩) h := callP_data hf hn I91 _ h P
def D49 : Type := {x : List Bool × Nat // x.1.length = 49 ∧ x.2 ≤ 7}
noncomputable def A49 : D49 → List V := fun ⟨x, _⟩ => [rV x.1, V.i .i64 (x.2 : Int)]
noncomputable def F49 : D49 → V := fun ⟨x, _⟩ => rV (otR x.2 x.1)
theorem I49 : ∀ x y, A49 x = A49 y → F49 x = F49 y := by
  rintro ⟨x, p⟩ ⟨y, q⟩ h
  have h : [rV x.1, V.i .i64 (x.2 : Int)] = [rV y.1, V.i .i64 (y.2 : Int)] := h
  injection h with h0 h
  have e0 := rV_inj h0
  injection h with h1 h
  have e1 := iV_inj h1
  have e : x = y := by
    exact Prod.ext e0 (by omega)
  subst e
  rfl
theorem P49 : ∀ x, (A49 x).all V.plain = true := by
  rintro ⟨x, p⟩
  show ([rV x.1, V.i .i64 (x.2 : Int)].all V.plain) = true
  first | rfl | (simp only [List.all_cons, List.all_nil, rV_plain, Bool.true_and, Bool.and_true]; done) | (simp only [List.all_cons, List.all_nil, rV_plain, Bool.true_and, Bool.and_true]; rfl)
theorem Q49 : ∀ x, (F49 x).plainT = true := fun ⟨_, _⟩ => rV_plainT
theorem G49 (k : Nat2 fs) (hfs : Fns Y fs) (hf : f49.nv = none ∧ ∃ fn c, FnOk Y (K.ofNat 49) f49 fn c) : ∀ args v, dataG A49 F49 args = some v → Gives Y (K.ofNat 49) args v := dataG_gives hfs hf P49 Q49 fun ⟨_, p⟩ => by have _ := p; exact f49_ret k p.1 p.2 HC.empty
theorem E49 {ef : EF} (hf : fs.get (K.ofNat 49) = some ef) (hn : ef.nv = some (flatG (dataG A49 F49))) (x : List Bool × Nat) (p : x.1.length = 49 ∧ x.2 ≤ 7) (h : H) (P : V → H → Prop) : CallP fs (.fn (K.ofNat 49) []) (A49 ⟨x, p⟩) h P = P (F49 ⟨x, p⟩) h := callP_data hf hn I49 _ h P
def D57 : Type := {x : List Bool × (Nat × Nat) // x.1.length = 49 ∧ (x.2.1 < 7 ∧ x.2.2 < 7)}
noncomputable def A57 : D57 → List V := fun ⟨x, _⟩ => [rV x.1, aV x.2]
noncomputable def F57 : D57 → V := fun ⟨x, _⟩ => rV (clsR x.1 x.2)
theorem I57 : ∀ x y, A57 x = A57 y → F57 x = F57 y := by
  rintro ⟨x, p⟩ ⟨y, q⟩ h
  have h : [rV x.1, aV x.2] = [rV y.1, aV y.2] := h
  injection h with h0 h
  have e0 := rV_inj h0
  injection h with h1 h
  have e1 := aV_inj h1
  have e : x = y := by
    exact Prod.ext e0 e1
  subst e
  rfl
theorem P57 : ∀ x, (A57 x).all V.plain = true := by
  rintro ⟨x, p⟩
  show ([rV x.1, aV x.2].all V.plain) = true
  first | rfl | (simp only [List.all_cons, List.all_nil, rV_plain, Bool.true_and, Bool.and_true]; done) | (simp only [List.all_cons, List.all_nil, rV_plain, Bool.true_and, Bool.and_true]; rfl)
theorem Q57 : ∀ x, (F57 x).plainT = true := fun ⟨_, _⟩ => rV_plainT
theorem G57 (k : Nat3 fs) (h86 : fs.get (K.ofNat 86) = some f86) (h102 : fs.get (K.ofNat 102) = some f102) (hfs : Fns Y fs) (hf : f57.nv = none ∧ ∃ fn c, FnOk Y (K.ofNat 57) f57 fn c) : ∀ args v, dataG A57 F57 args = some v → Gives Y (K.ofNat 57) args v := dataG_gives hfs hf P57 Q57 fun ⟨_, p⟩ => by have _ := p; exact f57_ret k h86 h102 p.1 p.2 HC.empty
theorem E57 {ef : EF} (hf : fs.get (K.ofNat 57) = some ef) (hn : ef.nv = some (flatG (dataG A57 F57))) (x : List Bool × (Nat × Nat)) (p : x.1.length = 49 ∧ (x.2.1 < 7 ∧ x.2.2 < 7)) (h : H) (P : V → H → Prop) : CallP fs (.fn (K.ofNat 57) []) (A57 ⟨x, p⟩) h P = P (F57 ⟨x, p⟩) h := callP_data hf hn I57 _ h P
def D55 : Type := {x : List Bool × ((Nat × Nat) × (Nat × Nat)) // x.1.length = 49 ∧ ((x.2.1.1 < 7 ∧ x.2.1.2 < 7) ∧ (x.2.2.1 < 7 ∧ x.2.2.2 < 7))}
noncomputable def A55 : D55 → List V := fun ⟨x, _⟩ => [rV x.1, aV x.2.1, aV x.2.2]
noncomputable def F55 : D55 → V := fun ⟨x, _⟩ => V.b (decide (x.2.2 ∈ fcY x.1 x.2.1.1 x.2.1.2))
theorem I55 : ∀ x y, A55 x = A55 y → F55 x = F55 y := by
  rintro ⟨x, p⟩ ⟨y, q⟩ h
  have h : [rV x.1, aV x.2.1, aV x.2.2] = [rV y.1, aV y.2.1, aV y.2.2] := h
  injection h with h0 h
  have e0 := rV_inj h0
  injection h with h1 h
  have e1 := aV_inj h1
  injection h with h2 h
  have e2 := aV_inj h2
  have e : x = y := by
    exact Prod.ext e0 (Prod.ext e1 e2)
  subst e
  rfl
theorem P55 : ∀ x, (A55 x).all V.plain = true := by
  rintro ⟨x, p⟩
  show ([rV x.1, aV x.2.1, aV x.2.2].all V.plain) = true
  first | rfl | (simp only [List.all_cons, List.all_nil, rV_plain, Bool.true_and, Bool.and_true]; done) | (simp only [List.all_cons, List.all_nil, rV_plain, Bool.true_and, Bool.and_true]; rfl)
theorem Q55 : ∀ x, (F55 x).plainT = true := fun ⟨_, _⟩ => rfl
theorem G55 (h86 : fs.get (K.ofNat 86) = some f86) (h102 : fs.get (K.ofNat 102) = some f102) (hfs : Fns Y fs) (hf : f55.nv = none ∧ ∃ fn c, FnOk Y (K.ofNat 55) f55 fn c) : ∀ args v, dataG A55 F55 args = some v → Gives Y (K.ofNat 55) args v := dataG_gives hfs hf P55 Q55 fun ⟨_, p⟩ => by have _ := p; exact f55_ret h86 h102 p.1 p.2.1 p.2.2 HC.empty
theorem E55 {ef : EF} (hf : fs.get (K.ofNat 55) = some ef) (hn : ef.nv = some (flatG (dataG A55 F55))) (x : List Bool × ((Nat × Nat) × (Nat × Nat))) (p : x.1.length = 49 ∧ ((x.2.1.1 < 7 ∧ x.2.1.2 < 7) ∧ (x.2.2.1 < 7 ∧ x.2.2.2 < 7))) (h : H) (P : V → H → Prop) : CallP fs (.fn (K.ofNat 55) []) (A55 ⟨x, p⟩) h P = P (F55 ⟨x, p⟩) h := callP_data hf hn I55 _ h P
def D76 : Type := {x : List Bool // x.length = 49}
noncomputable def A76 : D76 → List V := fun ⟨x, _⟩ => [rV x]
noncomputable def F76 : D76 → V := fun ⟨x, _⟩ => V.b (trB x)
theorem I76 : ∀ x y, A76 x = A76 y → F76 x = F76 y := by
  rintro ⟨x, p⟩ ⟨y, q⟩ h
  have h : [rV x] = [rV y] := h
  injection h with h0 h
  have e0 := rV_inj h0
  have e : x = y := by
    exact e0
  subst e
  rfl
theorem P76 : ∀ x, (A76 x).all V.plain = true := by
  rintro ⟨x, p⟩
  show ([rV x].all V.plain) = true
  first | rfl | (simp only [List.all_cons, List.all_nil, rV_plain, Bool.and_true]; done) | (simp only [List.all_cons, List.all_nil, rV_plain, Bool.true_and, Bool.and_true]; rfl)
theorem Q76 : ∀ x, (F76 x).plainT = true := fun ⟨_, _⟩ => rfl
theorem G76 (k : Nat3 fs) (hfs : Fns Y fs) (hf : f76.nv = none ∧ ∃ fn c, FnOk Y (K.ofNat 76) f76 fn c) : ∀ args v, dataG A76 F76 args = some v → Gives Y (K.ofNat 76) args v := dataG_gives hfs hf P76 Q76 fun ⟨_, p⟩ => by have _ := p; exact f76_ret k p
theorem E76 {ef : EF} (hf : fs.get (K.ofNat 76) = some ef) (hn : ef.nv = some (flatG (dataG A76 F76))) (x : List Bool) (p : x.length = 49) (h : H) (P : V → H → Prop) : CallP fs (.fn (K.ofNat 76) []) (A76 ⟨x, p⟩) h P = P (F76 ⟨x, p⟩) h := callP_data hf hn I76 _ h P
def D80 : Type := {_x : (Int × Int) × (Int × Int) // True}
noncomputable def A80 : D80 → List V := fun ⟨x, _⟩ => [pV x.1, pV x.2]
noncomputable def F80 : D80 → V := fun ⟨x, _⟩ => V.b (bfB x.1 x.2)
theorem I80 : ∀ x y, A80 x = A80 y → F80 x = F80 y := by
  rintro ⟨x, p⟩ ⟨y, q⟩ h
  have h : [pV x.1, pV x.2] = [pV y.1, pV y.2] := h
  injection h with h0 h
  have e0 := pV_inj h0
  injection h with h1 h
  have e1 := pV_inj h1
  have e : x = y := by
    exact Prod.ext e0 e1
  subst e
  rfl
theorem P80 : ∀ x, (A80 x).all V.plain = true := by
  rintro ⟨x, p⟩
  show ([pV x.1, pV x.2].all V.plain) = true
  first | rfl | (simp only [List.all_cons, List.all_nil, rV_plain, Bool.true_and, Bool.and_true]; done) | (simp only [List.all_cons, List.all_nil, rV_plain, Bool.true_and, Bool.and_true]; rfl)
theorem Q80 : ∀ x, (F80 x).plainT = true := fun ⟨_, _⟩ => rfl
theorem G80 (h99 : fs.get (K.ofNat 99) = some f99) (h108 : fs.get (K.ofNat 108) = some f108) (h121 : fs.get (K.ofNat 121) = some f121) (hfs : Fns Y fs) (hf : f80.nv = none ∧ ∃ fn c, FnOk Y (K.ofNat 80) f80 fn c) : ∀ args v, dataG A80 F80 args = some v → Gives Y (K.ofNat 80) args v := dataG_gives hfs hf P80 Q80 fun ⟨_, p⟩ => by have _ := p; exact f80_ret h99 h108 h121
theorem E80 {ef : EF} (hf : fs.get (K.ofNat 80) = some ef) (hn : ef.nv = some (flatG (dataG A80 F80))) (x : (Int × Int) × (Int × Int)) (p : True) (h : H) (P : V → H → Prop) : CallP fs (.fn (K.ofNat 80) []) (A80 ⟨x, p⟩) h P = P (F80 ⟨x, p⟩) h := callP_data hf hn I80 _ h P
def D60 : Type := {x : List Bool // SymR x}
noncomputable def A60 : D60 → List V := fun ⟨x, _⟩ => [rV x]
noncomputable def F60 : D60 → V := fun ⟨x, _⟩ => orV x
theorem I60 : ∀ x y, A60 x = A60 y → F60 x = F60 y := by
  rintro ⟨x, p⟩ ⟨y, q⟩ h
  have h : [rV x] = [rV y] := h
  injection h with h0 h
  have e0 := rV_inj h0
  have e : x = y := by
    exact e0
  subst e
  rfl
theorem P60 : ∀ x, (A60 x).all V.plain = true := by
  rintro ⟨x, p⟩
  show ([rV x].all V.plain) = true
  first | rfl | (simp only [List.all_cons, List.all_nil, rV_plain, Bool.and_true]; done) | (simp only [List.all_cons, List.all_nil, rV_plain, Bool.true_and, Bool.and_true]; rfl)
theorem Q60 : ∀ x, (F60 x).plainT = true := fun ⟨_, _⟩ => orV_plain
theorem G60 (k : Nat4 fs) (hfs : Fns Y fs) (hf : f60.nv = none ∧ ∃ fn c, FnOk Y (K.ofNat 60) f60 fn c) : ∀ args v, dataG A60 F60 args = some v → Gives Y (K.ofNat 60) args v := dataG_gives hfs hf P60 Q60 fun ⟨_, p⟩ => by have _ := p; exact f60_ret k p HC.empty
theorem E60 {ef : EF} (hf : fs.get (K.ofNat 60) = some ef) (hn : ef.nv = some (flatG (dataG A60 F60))) (x : List Bool) (p : SymR x) (h : H) (P : V → H → Prop) : CallP fs (.fn (K.ofNat 60) []) (A60 ⟨x, p⟩) h P = P (F60 ⟨x, p⟩) h := callP_data hf hn I60 _ h P
end
end Go.Ev
namespace Go.Ev
open Go Go.RowKit
noncomputable def entA (M : List ((Nat × Nat) × (Nat × Nat))) : List (V × V) := M.map fun e => (aV e.1, aV e.2)
def lookA : List ((Nat × Nat) × (Nat × Nat)) → Nat × Nat → Option (Nat × Nat)
  | [], _ => none
  | e :: M, x => if x = e.1 then some e.2 else lookA M x
def in7 (x : Nat × Nat) : Prop := x.1 < 7 ∧ x.2 < 7
theorem find_a {x : Nat × Nat} (hx : in7 x) : ∀ (M : List ((Nat × Nat) × (Nat × Nat))), (∀ e ∈ M, in7 e.1) → findE (.many [some .i64, some .i64]) (aV x) (entA M) = some ((lookA M x).map aV)
  | [], _ => by
    show (oGet (keyEq (.many [some .i64, some .i64]) (aV x) (aV x)) none fun _ => some none) = _
    rw [keyEq_aV hx hx]; rfl
  | y :: M, hM => by
    have ih := find_a hx M fun z hz => hM z (List.mem_cons_of_mem _ hz)
    show (oGet (keyEq (.many [some .i64, some .i64]) (aV x) (aV y.1)) none fun r => bif r then some (some (aV y.2)) else findE (.many [some .i64, some .i64]) (aV x) (entA M)) = _
    rw [keyEq_aV hx (hM y (by simp)), ih]
    show (bif decide (x = y.1) then _ else _) = some ((if x = y.1 then some y.2 else lookA M x).map aV)
    by_cases e : x = y.1
    · rw [decide_eq_true e, if_pos e]; rfl
    · rw [decide_eq_false e, if_neg e]; rfl
theorem upd_a {x v : Nat × Nat} (hx : in7 x) : ∀ (M : List ((Nat × Nat) × (Nat × Nat))), (∀ e ∈ M, in7 e.1) → x ∉ M.map Prod.fst → updE (.many [some .i64, some .i64]) (aV x) (aV v) (entA M) = some (entA (M ++ [(x, v)]))
  | [], _, _ => by
    show (oGet (keyEq (.many [some .i64, some .i64]) (aV x) (aV x)) none fun _ => some [(aV x, aV v)]) = _
    rw [keyEq_aV hx hx]; rfl
  | y :: M, hM, hn => by
    rw [List.map_cons, List.mem_cons, not_or] at hn
    have ih := upd_a (v := v) hx M (fun z hz => hM z (List.mem_cons_of_mem _ hz)) hn.2
    show (oGet (keyEq (.many [some .i64, some .i64]) (aV x) (aV y.1)) none fun r => bif r then some ((aV x, aV v) :: entA M) else oGet (updE (.many [some .i64, some .i64]) (aV x) (aV v) (entA M)) none fun l => some ((aV y.1, aV y.2) :: l)) = _
    rw [keyEq_aV hx (hM y (by simp)), ih, decide_eq_false hn.1]; rfl
theorem lookA_none {x : Nat × Nat} : ∀ {M : List ((Nat × Nat) × (Nat × Nat))}, x ∉ M.map Prod.fst → lookA M x = none
  | [], _ => rfl
  | e :: M, h => by
    rw [List.map_cons, List.mem_cons, not_or] at h
    show (if x = e.1 then some e.2 else lookA M x) = none
    rw [if_neg h.1]; exact lookA_none h.2
theorem lookA_at {x v : Nat × Nat} : ∀ {M : List ((Nat × Nat) × (Nat × Nat))} {j : Nat}, (M.map Prod.fst).Nodup → M[j]? = some (x, v) → lookA M x = some v
  | [], _, _, h => by simp at h
  | e :: M, 0, _, h => by
    simp at h; subst h
    show (if x = x then some v else lookA M x) = some v
    rw [if_pos rfl]
  | e :: M, j + 1, hn, h => by
    rw [List.map_cons, List.nodup_cons] at hn
    have h : M[j]? = some (x, v) := by simpa using h
    have hx : x ∈ M.map Prod.fst := List.mem_map.2 ⟨(x, v), List.mem_of_getElem? h, rfl⟩
    show (if x = e.1 then some e.2 else lookA M x) = some v
    rw [if_neg (fun e2 => hn.1 (by rw [← e2]; exact hx))]
    exact lookA_at hn.2 h
/-- A map in memory. -/
def MapA (h : H) (id : K) (kt : Nat) (M : List ((Nat × Nat) × (Nat × Nat))) : Prop := h.get id = .map kt (entA M)
noncomputable def okA (o : Option (Nat × Nat)) : V := match o with | none => .tup [.agg [.i .i64 0, .i .i64 0], .b false] | some v => .tup [aV v, .b true]
theorem MapA.look {h : H} {id : K} {kt : Nat} {M : List ((Nat × Nat) × (Nat × Nat))} {x : Nat × Nat} (hm : MapA h id kt M) (hM : ∀ e ∈ M, in7 e.1) (hx : in7 x) : lookV kt (.many [some .i64, some .i64]) (.agg [.i .i64 0, .i .i64 0]) h (.m id) (aV x) true = .ok (okA (lookA M x)) h := by
  show ((h.get id).onM kt fun es => oGet (findE (.many [some .i64, some .i64]) (aV x) es) RV.no fun r => bif true then RV.ok (oGet r (.tup [.agg [.i .i64 0, .i .i64 0], .b false]) fun v => .tup [v, .b true]) h else RV.ok (oGet r (V.agg [.i .i64 0, .i .i64 0]) fun v => v) h) = _
  rw [hm]
  show (bif Nat.beq kt kt then (oGet (findE (.many [some .i64, some .i64]) (aV x) (entA M)) RV.no fun r => RV.ok (oGet r (.tup [.agg [.i .i64 0, .i .i64 0], .b false]) fun v => .tup [v, .b true]) h) else _) = _
  rw [Nat.beq_same, find_a hx M hM]
  cases lookA M x <;> rfl
theorem MapA.put {h : H} {id : K} {kt : Nat} {M : List ((Nat × Nat) × (Nat × Nat))} {x v : Nat × Nat} (hm : MapA h id kt M) (hM : ∀ e ∈ M, in7 e.1) (hx : in7 x) (hn : x ∉ M.map Prod.fst) : mupdV kt (.many [some .i64, some .i64]) h (.m id) (aV x) (aV v) = .ok undefV (h.put id (.map kt (entA (M ++ [(x, v)])))) := by
  show ((h.get id).onM kt fun es => oGet (updE (.many [some .i64, some .i64]) (aV x) (aV v) es) RV.no fun es => RV.ok undefV (h.put id (.map kt es))) = _
  rw [hm]
  show (bif Nat.beq kt kt then (oGet (updE (.many [some .i64, some .i64]) (aV x) (aV v) (entA M)) RV.no fun es => RV.ok undefV (h.put id (.map kt es))) else _) = _
  rw [Nat.beq_same, upd_a hx M hM hn]; rfl
theorem MapA.lt_nx {h : H} {id : K} {kt : Nat} {M : List ((Nat × Nat) × (Nat × Nat))} (hm : MapA h id kt M) (hc : HC h) : id.nat < h.nx.nat := by
  by_cases e : id.nat < h.nx.nat
  · exact e
  · have := hc id (by omega)
    rw [hm] at this; cases this
theorem MapA.grow {h h' : H} {id : K} {kt : Nat} {M : List ((Nat × Nat) × (Nat × Nat))} (hm : MapA h id kt M) (hc : HC h) (g : Grow h.nx.nat h h') : MapA h' id kt M := (g.old id (hm.lt_nx hc)).trans hm
/-- What the search has met: each arrow, and by which one. -/
structure Bf (L : List Bool) (s : Nat × Nat) (M : List ((Nat × Nat) × (Nat × Nat))) : Prop where
  lt : ∀ e ∈ M, in7 e.1
  nd : (M.map Prod.fst).Nodup
  beg : M[0]? = some (s, s)
  par : ∀ j x v, M[j]? = some (x, v) → 0 < j → x ≠ v ∧ ∃ i w, i < j ∧ M[i]? = some (v, w)
  rch : ∀ e ∈ M, Rch (Er L) s.1 s.2 e.1.1 e.1.2
theorem Bf.one {L : List Bool} {s : Nat × Nat} (hs : in7 s) : Bf L s [(s, s)] where
  lt := fun e he => by rw [List.mem_singleton.1 he]; exact hs
  nd := by simp
  beg := rfl
  par := fun j x v h h0 => by rw [List.getElem?_eq_none (by simp; omega)] at h; cases h
  rch := fun e he => by rw [List.mem_singleton.1 he]; exact .refl
theorem fcY_rch {L : List Bool} {x : Nat × Nat} {p : Nat × Nat} (h : p ∈ fcY L x.1 x.2) {a b : Nat} (k : Rch (Er L) a b x.1 x.2) : Rch (Er L) a b p.1 p.2 := by
  rcases mem_fcY.1 h with ⟨e, h3⟩ | ⟨e, h3⟩
  · unfold fcA at h3
    simp only [Bool.and_eq_true, Bool.not_eq_true'] at h3
    rw [e]
    exact k.out h3.1 (fun h => by have h : rat L x.2 p.2 = true := h; rw [h3.2] at h; cases h)
  · unfold fcB at h3
    simp only [Bool.and_eq_true, Bool.not_eq_true'] at h3
    rw [e]
    exact k.inn h3.2.1 (fun h => by have h : rat L p.1 x.1 = true := h; rw [h3.2.2] at h; cases h)
theorem Bf.len {L : List Bool} {s : Nat × Nat} {M : List ((Nat × Nat) × (Nat × Nat))} (k : Bf L s M) : M.length ≤ 49 := by
  have h := nodup_leO (m := arw fun _ _ => true) k.nd fun x hx => by
    obtain ⟨e, he, rfl⟩ := List.mem_map.1 hx
    exact mem_arw.2 ⟨(k.lt e he).1, (k.lt e he).2, rfl⟩
  rw [List.length_map] at h
  have := arI_len (g := fun _ _ => true)
  unfold arI at this
  rw [List.length_map] at this
  omega
theorem Bf.add {L : List Bool} {s : Nat × Nat} {M : List ((Nat × Nat) × (Nat × Nat))} (k : Bf L s M) {i : Nat} {x w p : Nat × Nat} (hi : M[i]? = some (x, w)) (hp : p ∈ fcY L x.1 x.2) (hn : p ∉ M.map Prod.fst) : Bf L s (M ++ [(p, x)]) := by
  have hx := List.mem_of_getElem? hi
  have hxl := k.lt _ hx
  have hpl := fcY_lt hxl.1 hxl.2 hp
  have hil : i < M.length := by
    by_cases e : i < M.length
    · exact e
    · rw [List.getElem?_eq_none (by omega)] at hi; cases hi
  have hne : M ≠ [] := fun e => by rw [e] at hil; simp at hil
  refine ⟨fun e he => ?_, ?_, ?_, fun j a b h h0 => ?_, fun e he => ?_⟩
  · rcases List.mem_append.1 he with he | he
    · exact k.lt e he
    · rw [List.mem_singleton.1 he]; exact ⟨hpl.1, hpl.2.1⟩
  · rw [List.map_append, List.nodup_append]
    refine ⟨k.nd, by simp, fun a ha b hb e => hn ?_⟩
    rw [List.map_cons, List.map_nil, List.mem_singleton] at hb
    have hb : b = p := hb
    rw [← hb, ← e]; exact ha
  · rw [List.getElem?_append_left (by omega)]; exact k.beg
  · by_cases hj : j < M.length
    · rw [List.getElem?_append_left hj] at h
      obtain ⟨q, i', w', h1, h2⟩ := k.par j a b h h0
      exact ⟨q, i', w', h1, by rw [List.getElem?_append_left (by omega)]; exact h2⟩
    · rw [List.getElem?_append_right (by omega)] at h
      have ej : j = M.length := by
        by_cases e : j = M.length
        · exact e
        · rw [List.getElem?_eq_none (by simp; omega)] at h; cases h
      subst ej
      simp at h
      obtain ⟨rfl, rfl⟩ := h
      refine ⟨fun e => hn (by rw [e]; exact List.mem_map.2 ⟨_, hx, rfl⟩), i, w, hil, by rw [List.getElem?_append_left hil]; exact hi⟩
  · rcases List.mem_append.1 he with he | he
    · exact k.rch e he
    · rw [List.mem_singleton.1 he]; exact fcY_rch hp (k.rch _ hx)
/-- What the search has met is closed when nothing is left. -/
theorem Bf.all {L : List Bool} {s : Nat × Nat} {M : List ((Nat × Nat) × (Nat × Nat))} (k : Bf L s M) (hc : ∀ (j : Nat) (e : (Nat × Nat) × (Nat × Nat)), M[j]? = some e → ∀ p ∈ fcY L e.1.1 e.1.2, p ∈ M.map Prod.fst) {a b : Nat} (h : Rch (Er L) s.1 s.2 a b) : (a, b) ∈ M.map Prod.fst := by
  have cl : ∀ {x p : Nat × Nat}, x ∈ M.map Prod.fst → p ∈ fcY L x.1 x.2 → p ∈ M.map Prod.fst := fun {x p} hx hp => by
    obtain ⟨e, he, rfl⟩ := List.mem_map.1 hx
    obtain ⟨j, hj, rfl⟩ := List.getElem_of_mem he
    exact hc j _ (List.getElem?_eq_getElem hj) p hp
  induction h with
  | refl => exact List.mem_map.2 ⟨(s, s), List.mem_of_getElem? k.beg, rfl⟩
  | @out c d e _ h1 h2 ih =>
    have h2 : ¬ rat L d e = true := h2
    have h1 : rat L c e = true := h1
    exact cl (p := (c, e)) ih (mem_fcY.2 (.inl ⟨rfl, by unfold fcA; rw [h1]; simpa using h2⟩))
  | @inn c d e _ h1 h2 ih =>
    have h2 : ¬ rat L e c = true := h2
    have h1 : rat L e d = true := h1
    by_cases ee : e = c
    · rw [ee]; exact ih
    · exact cl (p := (e, d)) ih (mem_fcY.2 (.inr ⟨rfl, by unfold fcB; rw [h1, decide_eq_true ee]; simpa using h2⟩))
end Go.Ev
namespace Go.Ev
open Go Go.RowKit
noncomputable def f103_r0 : List EOper := [⟨(some (K.ofNat 4)), none, .mv (.t (K.ofNat 0))⟩, ⟨(some (K.ofNat 5)), none, .len (.t (K.ofNat 4))⟩, ⟨(some (K.ofNat 6)), none, .bin .sub (.t (K.ofNat 5)) (.c (.i .i64 (.ofNat 1)))⟩, ⟨(some (K.ofNat 2)), none, .as (.c (.i .i64 (.ofNat 0)))⟩, ⟨(some (K.ofNat 3)), none, .as (.t (K.ofNat 6))⟩]
noncomputable def f103_r1 : List EOper := [⟨(some (K.ofNat 7)), none, .mv (.t (K.ofNat 2))⟩, ⟨(some (K.ofNat 8)), none, .mv (.t (K.ofNat 3))⟩, ⟨(some (K.ofNat 9)), none, .bin .lss (.t (K.ofNat 7)) (.t (K.ofNat 8))⟩]
noncomputable def f103_r2 : List Stage := [⟨[⟨(some (K.ofNat 14)), none, .mv (.t (K.ofNat 0))⟩, ⟨(some (K.ofNat 15)), none, .mv (.t (K.ofNat 2))⟩, ⟨(some (K.ofNat 16)), none, .mv (.t (K.ofNat 0))⟩, ⟨(some (K.ofNat 17)), none, .mv (.t (K.ofNat 3))⟩, ⟨(some (K.ofNat 18)), none, .mv (.t (K.ofNat 0))⟩, ⟨(some (K.ofNat 19)), none, .mv (.t (K.ofNat 3))⟩, ⟨(some (K.ofNat 20)), none, .iads 2 (.t (K.ofNat 18)) (.t (K.ofNat 19))⟩, ⟨(some (K.ofNat 21)), none, .ldn 2 (.t (K.ofNat 20))⟩, ⟨(some (K.ofNat 22)), none, .mv (.t (K.ofNat 0))⟩, ⟨(some (K.ofNat 23)), none, .mv (.t (K.ofNat 2))⟩, ⟨(some (K.ofNat 24)), none, .iads 2 (.t (K.ofNat 22)) (.t (K.ofNat 23))⟩, ⟨(some (K.ofNat 25)), none, .ldn 2 (.t (K.ofNat 24))⟩, ⟨(some (K.ofNat 26)), none, .iads 2 (.t (K.ofNat 14)) (.t (K.ofNat 15))⟩], [], (some ⟨none, none, .st 2 (.t (K.ofNat 26)) (.t (K.ofNat 21))⟩), []⟩, ⟨[⟨(some (K.ofNat 27)), none, .iads 2 (.t (K.ofNat 16)) (.t (K.ofNat 17))⟩], [⟨(some (K.ofNat 16)), none, .mv (.t (K.ofNat 0))⟩, ⟨(some (K.ofNat 17)), none, .mv (.t (K.ofNat 3))⟩], (some ⟨none, none, .st 2 (.t (K.ofNat 27)) (.t (K.ofNat 25))⟩), []⟩, ⟨[], [], none, []⟩]
noncomputable def f103_r3 : List EOper := [⟨(some (K.ofNat 10)), none, .mv (.t (K.ofNat 2))⟩, ⟨(some (K.ofNat 11)), none, .bin .add (.t (K.ofNat 10)) (.c (.i .i64 (.ofNat 1)))⟩, ⟨(some (K.ofNat 12)), none, .mv (.t (K.ofNat 3))⟩, ⟨(some (K.ofNat 13)), none, .bin .sub (.t (K.ofNat 12)) (.c (.i .i64 (.ofNat 1)))⟩, ⟨(some (K.ofNat 2)), none, .as (.t (K.ofNat 11))⟩, ⟨(some (K.ofNat 3)), none, .as (.t (K.ofNat 13))⟩]
noncomputable def f103_l0 : EC := (.seq (.seq (.reg f103_r1) (.cond (.t (K.ofNat 9)) .skip (.exit 0))) (.seq (.block 1 (.draw f103_r2)) (.reg f103_r3)))
noncomputable def f103_c : EC := (.seq (.reg f103_r0) (.block 0 (.loop f103_l0)))
noncomputable def f103 : EF := ⟨28, [], f103_c, none⟩
theorem f103_rs : f103.rs = [] := of_eq_true (eq_self _)
noncomputable def f89_r0 : List EOper := [⟨(some (K.ofNat 2)), none, .box 2 (.t (K.ofNat 0))⟩, ⟨(some (K.ofNat 4)), none, .as (.c .sn)⟩, ⟨(some (K.ofNat 5)), none, .as (.c (.b false))⟩]
noncomputable def f89_r1 : List EOper := [⟨(some (K.ofNat 9)), none, .ldn 2 (.t (K.ofNat 2))⟩, ⟨(some (K.ofNat 10)), none, .call (.c (.fn (K.ofNat 78) [])) [(.t (K.ofNat 9))]⟩, ⟨(some (K.ofNat 11)), none, .bslice 1 2 [(.i .i64 (.ofNat 0)), (.i .i64 (.ofNat 0))] [(0, 2, (.t (K.ofNat 10)))]⟩, ⟨(some (K.ofNat 6)), none, .as (.t (K.ofNat 11))⟩]
noncomputable def f89_r2 : List EOper := [⟨(some (K.ofNat 13)), none, .mv (.t (K.ofNat 1))⟩, ⟨(some (K.ofNat 14)), none, .ldn 2 (.t (K.ofNat 2))⟩, ⟨(some (K.ofNat 15)), none, .look 76 (.many [(some .i64), (some .i64)]) (.agg [(.i .i64 (.ofNat 0)), (.i .i64 (.ofNat 0))]) (.t (K.ofNat 13)) (.t (K.ofNat 14)) true⟩, ⟨(some (K.ofNat 12)), none, .mv (.t (K.ofNat 15))⟩, ⟨(some (K.ofNat 16)), none, .ext (.t (K.ofNat 12)) 0⟩, ⟨(some (K.ofNat 17)), none, .ext (.t (K.ofNat 12)) 1⟩, ⟨(some (K.ofNat 7)), none, .alloc 2 [(.i .i64 (.ofNat 0)), (.i .i64 (.ofNat 0))]⟩, ⟨none, none, .st 2 (.t (K.ofNat 7)) (.t (K.ofNat 16))⟩, ⟨(some (K.ofNat 8)), none, .as (.t (K.ofNat 17))⟩]
noncomputable def f89_r3 : List EOper := [⟨(some (K.ofNat 18)), none, .mv (.t (K.ofNat 8))⟩, ⟨(some (K.ofNat 19)), none, .not (.t (K.ofNat 18))⟩]
noncomputable def f89_r4 : List EOper := [⟨(some (K.ofNat 4)), none, .as (.c .sn)⟩, ⟨(some (K.ofNat 5)), none, .as (.c (.b false))⟩]
noncomputable def f89_r5 : List EOper := [⟨(some (K.ofNat 20)), none, .ldn 2 (.t (K.ofNat 7))⟩, ⟨(some (K.ofNat 21)), none, .ldn 2 (.t (K.ofNat 2))⟩, ⟨(some (K.ofNat 22)), none, .eqk (.many [(some .i64), (some .i64)]) false (.t (K.ofNat 20)) (.t (K.ofNat 21))⟩]
noncomputable def f89_r6 : List EOper := [⟨(some (K.ofNat 23)), none, .mv (.t (K.ofNat 6))⟩, ⟨(some (K.ofNat 24)), none, .call (.c (.fn (K.ofNat 103) [])) [(.t (K.ofNat 23))]⟩]
noncomputable def f89_r7 : List EOper := [⟨(some (K.ofNat 25)), none, .mv (.t (K.ofNat 6))⟩, ⟨(some (K.ofNat 4)), none, .as (.t (K.ofNat 25))⟩, ⟨(some (K.ofNat 5)), none, .as (.c (.b true))⟩]
noncomputable def f89_r8 : List EOper := [⟨(some (K.ofNat 26)), none, .mv (.t (K.ofNat 6))⟩, ⟨(some (K.ofNat 27)), none, .ldn 2 (.t (K.ofNat 7))⟩, ⟨(some (K.ofNat 28)), none, .call (.c (.fn (K.ofNat 78) [])) [(.t (K.ofNat 27))]⟩, ⟨(some (K.ofNat 29)), none, .bslice 1 2 [(.i .i64 (.ofNat 0)), (.i .i64 (.ofNat 0))] [(0, 2, (.t (K.ofNat 28)))]⟩, ⟨(some (K.ofNat 30)), none, .app 2 (.t (K.ofNat 26)) (.t (K.ofNat 29))⟩, ⟨(some (K.ofNat 6)), none, .as (.t (K.ofNat 30))⟩]
noncomputable def f89_r9 : List EOper := [⟨(some (K.ofNat 31)), none, .ldn 2 (.t (K.ofNat 7))⟩, ⟨none, none, .st 2 (.t (K.ofNat 2)) (.t (K.ofNat 31))⟩]
noncomputable def f89_l0 : EC := (.block 1 (.seq (.reg f89_r2) (.seq (.seq (.reg f89_r3) (.cond (.t (K.ofNat 19)) (.seq (.reg f89_r4) .ret) .skip)) (.seq (.seq (.reg f89_r5) (.cond (.t (K.ofNat 22)) (.seq (.reg f89_r6) (.seq (.reg f89_r7) .ret)) .skip)) (.seq (.reg f89_r8) (.reg f89_r9))))))
noncomputable def f89_c : EC := (.seq (.reg f89_r0) (.seq (.reg f89_r1) (.block 0 (.loop f89_l0))))
noncomputable def f89 : EF := ⟨32, [.tmp (K.ofNat 4), .tmp (K.ofNat 5)], f89_c, none⟩
theorem f89_rs : f89.rs = [.tmp (K.ofNat 4), .tmp (K.ofNat 5)] := of_eq_true (eq_self _)
section
variable {fs : T EF} {h h' : H}
theorem iads_det {v p q : V} {i : Int} (a : ∀ (k : IntKind) (h1 : H), iadsV 2 v (.i k i) h1 = .ok p h1) (b : ∀ (k : IntKind) (h1 : H), iadsV 2 v (.i k i) h1 = .ok q h1) : p = q := by
  have e := (a .i64 ⟨.e, .nil⟩).symm.trans (b .i64 ⟨.e, .nil⟩)
  injection e
def f103_I (v : V) (n : Nat) (h0 : H) (i : Nat) (fr : Fr) (h1 : H) : Prop := 2 * i ≤ n ∧ (∃ L, L.length = n ∧ Sk 2 qE h1 v L) ∧ h1.nx = h0.nx ∧ HC h1 ∧ (∀ id : K, NotIn id v → h1.get id = h0.get id) ∧ fr.get (K.ofNat 0) = some (v) ∧ fr.get (K.ofNat 2) = some (.i .i64 (i : Int)) ∧ fr.get (K.ofNat 3) = some (.i .i64 ((n : Int) - 1 - (i : Int)))
theorem f103_ret {v : V} {L : List (Int × Int)} (hs : Sk 2 qE h v L) (hl : L.length ≤ 1000) (hc : HC h) : Ret fs f103 [v] h fun r h' => r = .tup [] ∧ (∃ M, M.length = L.length ∧ Sk 2 qE h' v M) ∧ h'.nx = h.nx ∧ HC h' ∧ (∀ id : K, NotIn id v → h'.get id = h.get id) := by
  apply ret_of rfl
  show W fs none f103_c _ _ _
  unfold f103_c
  have hlen := hs.len
  simp (disch := omega) only [f103_r0, w_reg, w_seq, w_block, seqK_n, x_nil, x_mv, x_as, x_bin, x_len, kx, rvP_ok, okv_some, ev_t, ev_c, getV_some, putD_some, bin_sub, frame_1, of0, of1, getK_set, Nat.reduceEqDiff, ↓reduceIte, hlen, fw64]
  refine W_loop (f103_I v L.length h) (fun i => L.length - i) ?_ 0 ⟨by omega, ⟨L, rfl, hs⟩, rfl, hc, fun _ _ => rfl, by simp (disch := omega) only [getK_set, Nat.reduceEqDiff, ↓reduceIte, and_self, Int.natCast_zero, Int.sub_zero]⟩
  rintro i fr h1 ⟨hi, ⟨M, hM, s1⟩, hnx, hc1, ho, g0, g2, g3⟩
  unfold f103_l0
  by_cases hlt : 2 * i + 1 < L.length
  · have d0 : decide ((i : Int) < (L.length : Int) - 1 - (i : Int)) = true := decide_eq_true (by omega)
    obtain ⟨j, hj⟩ : ∃ j : Nat, (j : Int) = (L.length : Int) - 1 - (i : Int) := ⟨L.length - 1 - i, by omega⟩
    have hiM : i < M.length := by omega
    have hjM : j < M.length := by omega
    obtain ⟨p1, a1, b1⟩ := s1.at2 hjM
    obtain ⟨p2, a2, b2⟩ := s1.at2 hiM
    have hvb := s1.beq
    obtain ⟨p3, id3, m3, cs3, a3, b3, c3, ⟨of3_, n3, z3, e3⟩, l3⟩ := s1.st2 hiM (x := M[j]) hc1
    have hc2 := (Grow.put (b := 0) (Nat.zero_le _) l3 (.cells m3 cs3)).hc hc1
    obtain ⟨p4, id4, m4, cs4, a4, b4, c4, ⟨of4_, n4, z4, e4⟩, l4⟩ := c3.st2 (i := j) (by rw [List.length_set]; exact hjM) (x := M[i]) hc2
    have hc3 := (Grow.put (b := 0) (Nat.zero_le _) l4 (.cells m4 cs4)).hc hc2
    obtain rfl := iads_det a3 a2
    obtain rfl := iads_det a4 a1
    rw [← hj] at g3 d0
    simp (disch := omega) only [f103_r1, f103_r2, f103_r3, w_skip, w_reg, w_draw, w_seq, w_cond, w_block, seqK_n, atK_n, loopK_n, ckB_b, cbB_b, true_and, x_nil, x_mv, x_as, x_st, x_bin, kx, kg, xg_nil, xg_mv, xg_ldn, xg_iads, xd_cons, fresh_nil, stK_n, stK_s, stay_nil, stay_cons, stay_mv, beq_i, rvP_ok, okv_some, ev_t, ev_c, getV_some, putD_some, putD_none, bin_add, bin_sub, bin_lss, of1, getK_set, Nat.reduceEqDiff, ↓reduceIte, g0, g2, g3, d0, a1, b1, a2, b2, b3, b4, hvb, fw64]
    refine ⟨i + 1, by omega, by omega, ⟨_, by simp [hM], c4⟩, hnx, hc3, fun id hn => ?_, by simp (disch := omega) only [true_and, Option.some.injEq, getK_set, Nat.reduceEqDiff, ↓reduceIte, g0, Int.natCast_add, Int.natCast_one]; exact congrArg _ (by omega)⟩
    rw [get_put_other (fun e => hn of4_ n4 z4 (by rw [e]; exact e4)), get_put_other (fun e => hn of3_ n3 z3 (by rw [e]; exact e3))]
    exact ho id hn
  · have d0 : decide ((i : Int) < (L.length : Int) - 1 - (i : Int)) = false := decide_eq_false (by omega)
    simp (disch := omega) only [f103_r1, f103_rs, w_reg, w_seq, w_cond, w_exit, seqK_n, seqK_e, atK_e, loopK_e, ckB_b, cbB_b, true_and, retK_n, x_nil, x_mv, x_bin, kx, rvP_ok, okv_some, ev_t, getV_some, putD_some, bin_lss, readRs_nil, retV_0, Option.some.injEq, exists_eq_left', getK_set, Nat.reduceEqDiff, ↓reduceIte, Bool.false_eq_true, g2, g3, d0]
    exact ⟨⟨M, hM, s1⟩, hnx, hc1, ho⟩
def f89_I (h0 : H) (id2 idm : K) (b : Nat) (M : List ((Nat × Nat) × (Nat × Nat))) (j : Nat) (fr : Fr) (h1 : H) : Prop := ∃ x w u W_, M[j]? = some (x, w) ∧ Kp id2 h0 h1 ∧ h1.get id2 = .cells 2 [.i .i64 (x.1 : Int), .i .i64 (x.2 : Int)] ∧ Sk 2 qE h1 u W_ ∧ W_ ≠ [] ∧ W_.length + j ≤ 60 ∧ Own b u ∧ fr.get (K.ofNat 1) = some (.m idm) ∧ fr.get (K.ofNat 2) = some (.p id2 0) ∧ fr.get (K.ofNat 6) = some (u)
theorem f89_ret {L : List Bool} {s x : Nat × Nat} {idm : K} {M : List ((Nat × Nat) × (Nat × Nat))} (k : Nat1 fs) (h103 : fs.get (K.ofNat 103) = some f103) (hB : Bf L s M) (hx : in7 x) (hm : MapA h idm 76 M) (hc : HC h) : Ret fs f89 [aV x, .m idm] h fun r h' => Grow h.nx.nat h h' ∧ ((x ∉ M.map Prod.fst ∧ r = .tup [.sn, .b false]) ∨ (x ∈ M.map Prod.fst ∧ ∃ id off n, r = .tup [.sl id off n 2, .b true])) := by
  apply ret_of rfl
  show W fs none f89_c _ _ _
  unfold f89_c
  have c2 : cellsN 2 (aV x) = some [.i .i64 (x.1 : Int), .i .i64 (x.2 : Int)] := rfl
  have n1 := nx_new h (.cells 2 [.i .i64 (x.1 : Int), .i .i64 (x.2 : Int)])
  have gr1 : Grow h.nx.nat h (h.new (.cells 2 [.i .i64 (x.1 : Int), .i .i64 (x.2 : Int)])) := Grow.new (Nat.le_refl _) _
  have e1 : (h.new (.cells 2 [.i .i64 (x.1 : Int), .i .i64 (x.2 : Int)])).get h.nx = .cells 2 [.i .i64 (x.1 : Int), .i .i64 (x.2 : Int)] := get_new_same
  simp (disch := omega) only [f89_r0, w_reg, w_seq, seqK_n, x_nil, x_as, x_box, kx, rvP_ok, ev_t, ev_c, getV_some, putD_some, oGet_s, frame_2, getK_set, Nat.reduceEqDiff, ↓reduceIte, c2]
  generalize h.new (.cells 2 [.i .i64 (x.1 : Int), .i .i64 (x.2 : Int)]) = h1 at *
  have hc1 := gr1.hc hc
  have lm := hm.lt_nx hc
  have l1 := ldn2 e1
  have hav : V.agg [.i .i64 (x.1 : Int), .i .i64 (x.2 : Int)] = pV (toI x) := rfl
  have cp : cellsN 2 (pV (toI x)) = some [.i .i64 (x.1 : Int), .i .i64 (x.2 : Int)] := rfl
  have sp : setMany [V.i .i64 0, V.i .i64 0] 0 [V.i .i64 (x.1 : Int), V.i .i64 (x.2 : Int)] = [V.i .i64 (x.1 : Int), V.i .i64 (x.2 : Int)] := rfl
  have n2 := nx_new h1 (.cells (1 * 2) [.i .i64 (x.1 : Int), .i .i64 (x.2 : Int)])
  have gr2 : Grow h1.nx.nat h1 (h1.new (.cells (1 * 2) [.i .i64 (x.1 : Int), .i .i64 (x.2 : Int)])) := Grow.new (Nat.le_refl _) _
  have s2 : Sk 2 qE (h1.new (.cells (1 * 2) [.i .i64 (x.1 : Int), .i .i64 (x.2 : Int)])) (.sl h1.nx 0 1 2) [toI x] := Sk.lit2o
  simp (disch := omega) only [f89_r1, w_block, seqK_n, x_nil, x_as, x_bslice, x_ldn, x_call, kx, rvP_ok, ev_t, ev_c, evs_nil, evs_cons, getV_some, putD_some, oGet_s, of0, getK_set, Nat.reduceEqDiff, ↓reduceIte, fill_0, l1, hav, k.n78, fill_c, cp, sp]
  generalize h1.new (.cells (1 * 2) [.i .i64 (x.1 : Int), .i .i64 (x.2 : Int)]) = h2 at *
  have hc2 := gr2.hc hc1
  have e2 := (gr2.old h.nx (by omega)).trans e1
  have m1 : MapA h1 idm 76 M := hm.grow hc gr1
  have m2 : MapA h2 idm 76 M := m1.grow hc1 (gr2.low (by omega))
  have gA1 := gr1
  have gA : Grow h.nx.nat h h2 := gr1.trans (gr2.low (by omega))
  by_cases hin : x ∈ M.map Prod.fst
  · obtain ⟨⟨x', w⟩, he, hx'⟩ := List.mem_map.1 hin
    replace hx' : x' = x := hx'
    rw [hx'] at he
    obtain ⟨j, hj, ej⟩ := List.getElem_of_mem he
    have hjM : M[j]? = some (x, w) := by rw [List.getElem?_eq_getElem hj, ej]
    have hMl := hB.len
    have o2 : Own (h.nx.nat + 1) (.sl h1.nx 0 1 2) := fun id off n sz ee => by cases ee; omega
    have hnn : h1.nx.nat = h.nx.nat + 1 := by omega
    refine W_loop (f89_I h1 h.nx idm (h.nx.nat + 1) M) (fun j => j) ?_ j ⟨x, w, _, _, hjM, Kp.of hc1 gr2 (Nat.le_refl _), e2, s2, by simp, by simp; omega, o2, by simp (disch := omega) only [getK_set, Nat.reduceEqDiff, ↓reduceIte, and_self]⟩
    clear hjM ej hj he n1 n2 gr1 gr2 e1 l1 hav cp sp c2 s2 o2 hm e2 hx
    clear hx'
    clear x' w j
    rintro j fr h3 ⟨x, w, u, W_, hjM, hk, e3, s3, hne, hlen, hou, g1, g2, g6⟩
    have hx := hB.lt _ (List.mem_of_getElem? hjM)
    have hkn := hk.nx
    have m3 : MapA h3 idm 76 M := (hk.old idm (by omega) (fun e => by have := congrArg K.nat e; omega)).trans m1
    have hlk := lookA_at hB.nd hjM
    have hjl : j < M.length := by
      by_cases e : j < M.length
      · exact e
      · rw [List.getElem?_eq_none (by omega)] at hjM; cases hjM
    have l3 := ldn2 e3
    have hav : V.agg [.i .i64 (x.1 : Int), .i .i64 (x.2 : Int)] = aV x := rfl
    have hlook := m3.look hB.lt hx
    rw [hlk] at hlook
    have hok : okA (some w) = .tup [aV w, .b true] := rfl
    have cw : cellsN 2 (aV w) = some [.i .i64 (w.1 : Int), .i .i64 (w.2 : Int)] := rfl
    have hcell : storeV (h3.new (.cells 2 [.i .i64 0, .i .i64 0])) 2 (.p h3.nx 0) (aV w) = .ok undefV ((h3.new (.cells 2 [.i .i64 0, .i .i64 0])).put h3.nx (.cells 2 [.i .i64 (w.1 : Int), .i .i64 (w.2 : Int)])) := (arr_var (h := h3) (x := w.1) (y := w.2)).1
    obtain ⟨_, gB, c7, n5⟩ := arr_var (h := h3) (x := w.1) (y := w.2)
    unfold f89_l0
    simp (disch := omega) only [f89_r2, f89_r3, w_skip, w_reg, w_seq, w_cond, w_block, seqK_n, ckB_b, cbB_b, true_and, x_nil, x_mv, x_as, x_alloc, x_ldn, x_st, x_not, x_look, x_ext, kx, rvP_ok, okv_some, ev_t, getV_some, putD_some, putD_none, onB_b, onTup_t, nth0, nth1, of0, getK_set, Nat.reduceEqDiff, ↓reduceIte, Bool.false_eq_true, Bool.not_true, g1, g2, l3, hav, hlook, hok, hcell]
    generalize (h3.new (.cells 2 [.i .i64 0, .i .i64 0])).put h3.nx (.cells 2 [.i .i64 (w.1 : Int), .i .i64 (w.2 : Int)]) = h4 at *
    have hc4 := gB.hc hk.hc
    have e4 := (gB.old h.nx (by omega)).trans e3
    have l4 := ldn2 e4
    have l7 := ldn2 c7
    have s4 := s3.grow hk.hc gB
    have hw : in7 w := by
      by_cases h0 : 0 < j
      · obtain ⟨_, i, w', _, hi⟩ := hB.par j x w hjM h0
        exact hB.lt _ (List.mem_of_getElem? hi)
      · have : j = 0 := by omega
        subst this
        rw [hB.beg] at hjM
        simp at hjM
        rw [← hjM.2, hjM.1]; exact hx
    have hav2 : V.agg [.i .i64 (w.1 : Int), .i .i64 (w.2 : Int)] = aV w := rfl
    have hq := keyEq_aV hw hx
    have gC : Grow h.nx.nat h h4 := gA1.trans ((hk.toGrow (b := h.nx.nat) (Nat.le_refl _) (by omega)).trans (gB.low (by omega)))
    by_cases e : w = x
    · have d0 : decide (w = x) = true := decide_eq_true e
      rw [d0] at hq
      simp (disch := omega) only [f89_r5, f89_r6, w_skip, w_reg, w_seq, w_cond, seqK_n, ckB_b, cbB_b, true_and, x_nil, x_mv, x_ldn, x_eqk, x_call, kx, rvP_ok, okv_some, ev_t, ev_c, evs_nil, evs_cons, getV_some, putD_some, oGet_s, getK_set, Nat.reduceEqDiff, ↓reduceIte, Bool.not_true, g2, g6, l7, l4, hav, hav2, hq]
      refine (callP_0 (ef := f103) h103 rfl (f103_ret s4 (by omega) hc4)).mono ?_
      rintro r h5 ⟨rfl, ⟨M5, hM5, s5⟩, n6, hc5, ho5⟩
      simp (disch := omega) only [f89_r7, f89_rs, w_reg, w_seq, w_ret, seqK_n, seqK_r, atK_r, loopK_r, retK_r, x_nil, x_mv, x_as, kx, ev_t, ev_c, getV_some, putD_some, oGet_s, readRs_nil, readRs_t, retV_2, Option.some.injEq, exists_eq_left', getK_set, Nat.reduceEqDiff, ↓reduceIte, g6]
      have n6' : h5.nx.nat = h4.nx.nat := congrArg K.nat n6
      refine ⟨gC.trans ⟨by omega, fun id hid => ho5 id (hou.notIn (by omega)), fun _ => hc5⟩, .inr ⟨hin, ?_⟩⟩
      rcases s4 with ⟨_, q2⟩ | ⟨id, off, m, cs, rfl, _⟩
      · exact absurd q2 hne
      · exact ⟨id, off, _, rfl⟩
    · have d0 : decide (w = x) = false := decide_eq_false e
      rw [d0] at hq
      have h0 : 0 < j := by
        by_cases h0 : 0 < j
        · exact h0
        · have : j = 0 := by omega
          subst this
          rw [hB.beg] at hjM
          simp at hjM
          exact absurd (hjM.2.symm.trans hjM.1) e
      obtain ⟨_, i, w', hij, hi⟩ := hB.par j x w hjM h0
      have hvb := s4.beq
      have sp2 : setMany [V.i .i64 0, V.i .i64 0] 0 [V.i .i64 (w.1 : Int), V.i .i64 (w.2 : Int)] = [V.i .i64 (w.1 : Int), V.i .i64 (w.2 : Int)] := rfl
      have k78 : ∀ h1 P, CallP fs (.fn (K.ofNat 78) []) [aV w] h1 P = P (aV w) h1 := fun h1 P => k.n78 (toI w) h1 P
      obtain ⟨u', h8, a1, s1, o1, gr8, k8⟩ := Sk.push (b := h.nx.nat + 1) qE_len (by omega) (x := toI w) s4 hou (by omega) hc4 (by omega)
      have a1' : appV 2 (h4.new (.cells (1 * 2) [.i .i64 (w.1 : Int), .i .i64 (w.2 : Int)])) u (.sl h4.nx 0 1 2) = .ok u' h8 := a1
      have gr8n := gr8.nx
      have b7 := (k8 h3.nx (by omega) (fun off n sz ee => by have := s3.lt hk.hc _ _ _ _ ee; omega)).1.trans c7
      have l8 := ldn2 b7
      have b2 := (k8 h.nx (by omega) (hou.notIn (by omega))).1.trans e4
      have s9 : storeV h8 2 (.p h.nx 0) (aV w) = .ok undefV (h8.put h.nx (.cells 2 [.i .i64 (w.1 : Int), .i .i64 (w.2 : Int)])) := st2 b2
      simp (disch := omega) only [f89_r5, f89_r8, f89_r9, w_skip, w_reg, w_seq, w_cond, seqK_n, atK_n, loopK_n, ckB_b, cbB_b, true_and, x_nil, x_mv, x_as, x_bslice, x_ldn, x_st, x_eqk, x_call, x_app, kx, rvP_ok, okv_some, ev_t, ev_c, evs_nil, evs_cons, getV_some, putD_some, putD_none, oGet_s, of0, getK_set, Nat.reduceEqDiff, ↓reduceIte, Bool.false_eq_true, fill_0, g2, g6, l7, l4, hav, hav2, hq, cond_false, k78, fill_c, cw, sp2, a1', l8, s9]
      have kk : Kp h.nx h1 (h8.put h.nx (.cells 2 [.i .i64 (w.1 : Int), .i .i64 (w.2 : Int)])) := by
        refine ⟨by rw [nx_put]; omega, fun id hid hn => ?_, ?_⟩
        · have hid0 : id.nat ≠ h.nx.nat := fun e => hn (K.nat_inj e)
          rw [get_put_other hn, (k8 id (by omega) (hou.notIn (by omega))).1, gB.old id (by omega)]
          exact hk.old id hid hn
        · exact (Grow.put (b := 0) (Nat.zero_le _) (by omega) _).hc (gr8.hc hc4)
      refine ⟨i, hij, w, w', u', _, hi, kk, get_put_same, s1.put (o1.notIn (by omega)) _, by simp, by simp; omega, o1, by simp (disch := omega) only [getK_set, Nat.reduceEqDiff, ↓reduceIte, g1, g2, and_self]⟩
  · have hlook := m2.look hB.lt hx
    rw [lookA_none hin] at hlook
    have hok : okA none = .tup [.agg [.i .i64 0, .i .i64 0], .b false] := rfl
    have l2 := ldn2 e2
    have hav : V.agg [.i .i64 (x.1 : Int), .i .i64 (x.2 : Int)] = aV x := rfl
    obtain ⟨hcell, gB, _, _⟩ := arr_var (h := h2) (x := 0) (y := 0)
    have hcell : storeV (h2.new (.cells 2 [.i .i64 0, .i .i64 0])) 2 (.p h2.nx 0) (.agg [.i .i64 0, .i .i64 0]) = .ok undefV ((h2.new (.cells 2 [.i .i64 0, .i .i64 0])).put h2.nx (.cells 2 [.i .i64 0, .i .i64 0])) := hcell
    refine W_loop (fun (_ : Nat) fr h1 => h1 = h2 ∧ fr.get (K.ofNat 1) = some (.m idm) ∧ fr.get (K.ofNat 2) = some (.p h.nx 0)) (fun _ => 0) ?_ 0 ⟨rfl, by simp (disch := omega) only [getK_set, Nat.reduceEqDiff, ↓reduceIte, and_self]⟩
    rintro _ fr h3 ⟨rfl, g1, g2⟩
    unfold f89_l0
    simp (disch := omega) only [f89_r2, f89_r3, f89_r4, f89_rs, w_reg, w_seq, w_cond, w_block, w_ret, seqK_n, seqK_r, atK_r, loopK_r, ckB_b, cbB_b, true_and, retK_r, x_nil, x_mv, x_as, x_alloc, x_ldn, x_st, x_not, x_look, x_ext, kx, rvP_ok, okv_some, ev_t, ev_c, getV_some, putD_some, putD_none, onB_b, onTup_t, oGet_s, nth0, nth1, readRs_nil, readRs_t, retV_2, of0, Option.some.injEq, exists_eq_left', getK_set, Nat.reduceEqDiff, ↓reduceIte, Bool.not_false, g1, g2, l2, hav, hlook, hok, hcell]
    exact ⟨gA.trans (gB.low (by have := gA.nx; omega)), .inl ⟨hin, trivial⟩⟩
end
end Go.Ev
