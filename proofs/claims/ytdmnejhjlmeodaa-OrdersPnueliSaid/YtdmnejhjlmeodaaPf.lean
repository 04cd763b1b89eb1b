/-
  Orders: the first arrow, steps, what is transitive.
  Orders: what an arrow forces (an iterator).
  Orders: the class of an arrow.
  Orders: is one pair less than another; are pairs rising; Check.
  Orders (plain): lists of pairs that are gathered in order.
-/
import Derived.Test.YtdmnejhjlmeodaaPe
namespace Go.Ev
open Go Go.RowKit
noncomputable def f87_r0 : List EOper := [⟨some (.ofNat 1), none, .box 49 (.t (.ofNat 0))⟩, ⟨some (.ofNat 2), none, .alloc 2 [(.i .i64 (.ofNat 0)), (.i .i64 (.ofNat 0))]⟩, ⟨some (.ofNat 3), none, .alloc 1 [(.b false)]⟩]
noncomputable def f87_r1 : List EOper := [⟨some (.ofNat 5), none, .ldn 49 (.t (.ofNat 1))⟩, ⟨some (.ofNat 6), none, .call (.c (.fn (.ofNat 84) [])) [(.t (.ofNat 5))]⟩]
noncomputable def f87_r2 : List EOper := [⟨some (.ofNat 4), none, .alloc 2 [(.i .i64 (.ofNat 0)), (.i .i64 (.ofNat 0))]⟩, ⟨none, none, .st 2 (.t (.ofNat 4)) (.t (.ofNat 7))⟩]
noncomputable def f87_a0 : EC := (.reg f87_r2)
noncomputable def f87_r3 : List EOper := [⟨some (.ofNat 8), none, .ldn 2 (.t (.ofNat 4))⟩, ⟨none, none, .st 2 (.t (.ofNat 2)) (.t (.ofNat 8))⟩, ⟨none, none, .st 1 (.t (.ofNat 3)) (.c (.b true))⟩]
noncomputable def f87_b0 : EC := (.block 1 (.seq (.reg f87_r3) .ret))
noncomputable def f87_r4 : List EOper := [⟨some (.ofNat 9), none, .build [(.i .i64 (.ofNat 0)), (.i .i64 (.ofNat 0))] []⟩, ⟨none, none, .st 2 (.t (.ofNat 2)) (.t (.ofNat 9))⟩, ⟨none, none, .st 1 (.t (.ofNat 3)) (.c (.b false))⟩]
noncomputable def f87_c : EC := (.seq (.reg f87_r0) (.seq (.seq (.reg f87_r1) (.block 0 (.rangeF (.t (.ofNat 6)) [(.ofNat 7)] f87_a0 f87_b0))) (.seq (.reg f87_r4) .ret)))
noncomputable def f87 : EF := ⟨10, [.celln (.ofNat 2) 2, .cell (.ofNat 3)], f87_c, none⟩
theorem f87_rs : f87.rs = [.celln (.ofNat 2) 2, .cell (.ofNat 3)] := of_eq_true (eq_self _)
noncomputable def f92_r0 : List EOper := [⟨some (.ofNat 1), none, .box 49 (.t (.ofNat 0))⟩, ⟨some (.ofNat 2), none, .alloc 49 (List.replicate 49 (.b false))⟩]
noncomputable def f92_r1 : List EOper := [⟨some (.ofNat 3), none, .alloc 49 (List.replicate 49 (.b false))⟩]
noncomputable def f92_r2 : List EOper := [⟨some (.ofNat 7), none, .ldn 49 (.t (.ofNat 1))⟩, ⟨some (.ofNat 8), none, .call (.c (.fn (.ofNat 84) [])) [(.t (.ofNat 7))]⟩]
noncomputable def f92_r3 : List EOper := [⟨some (.ofNat 4), none, .alloc 2 [(.i .i64 (.ofNat 0)), (.i .i64 (.ofNat 0))]⟩, ⟨none, none, .st 2 (.t (.ofNat 4)) (.t (.ofNat 9))⟩]
noncomputable def f92_a0 : EC := (.reg f92_r3)
noncomputable def f92_r4 : List EOper := [⟨some (.ofNat 10), none, .fadr 1 (.t (.ofNat 4))⟩, ⟨some (.ofNat 11), none, .ld (.t (.ofNat 10))⟩, ⟨some (.ofNat 12), none, .iadr 7 7 (.t (.ofNat 1)) (.t (.ofNat 11))⟩, ⟨some (.ofNat 13), none, .ldn 7 (.t (.ofNat 12))⟩, ⟨some (.ofNat 14), none, .mv (.c (.i .i64 (.ofNat 0)))⟩]
noncomputable def f92_r5 : List EOper := [⟨some (.ofNat 15), none, .bin .lss (.t (.ofNat 14)) (.c (.i .i64 (.ofNat 7)))⟩]
noncomputable def f92_r6 : List EOper := [⟨some (.ofNat 16), none, .mv (.t (.ofNat 14))⟩, ⟨some (.ofNat 17), none, .ix 7 1 false (.t (.ofNat 13)) (.t (.ofNat 14))⟩, ⟨some (.ofNat 5), none, .as (.t (.ofNat 16))⟩, ⟨some (.ofNat 6), none, .as (.t (.ofNat 17))⟩]
noncomputable def f92_r7 : List Stage := [⟨[⟨some (.ofNat 18), none, .fadr 0 (.t (.ofNat 4))⟩, ⟨some (.ofNat 19), none, .ld (.t (.ofNat 18))⟩, ⟨some (.ofNat 20), none, .mv (.t (.ofNat 5))⟩, ⟨some (.ofNat 21), none, .fadr 0 (.t (.ofNat 4))⟩, ⟨some (.ofNat 22), none, .ld (.t (.ofNat 21))⟩, ⟨some (.ofNat 23), none, .mv (.t (.ofNat 5))⟩, ⟨some (.ofNat 24), none, .iadr 7 7 (.t (.ofNat 3)) (.t (.ofNat 22))⟩, ⟨some (.ofNat 25), none, .iadr 7 1 (.t (.ofNat 24)) (.t (.ofNat 23))⟩, ⟨some (.ofNat 26), none, .ld (.t (.ofNat 25))⟩, ⟨some (.ofNat 27), none, .mv (.t (.ofNat 26))⟩, ⟨some (.ofNat 28), (some ((.ofNat 27), false)), .mv (.t (.ofNat 6))⟩, ⟨some (.ofNat 29), none, .pick (.t (.ofNat 27)) (.c (.b true)) (.t (.ofNat 28))⟩, ⟨some (.ofNat 30), none, .iadr 7 7 (.t (.ofNat 3)) (.t (.ofNat 19))⟩, ⟨some (.ofNat 31), none, .iadr 7 1 (.t (.ofNat 30)) (.t (.ofNat 20))⟩], [], (some ⟨none, none, .st 1 (.t (.ofNat 31)) (.t (.ofNat 29))⟩), []⟩, ⟨[], [], none, []⟩]
noncomputable def f92_r8 : List EOper := [⟨some (.ofNat 32), none, .bin .add (.t (.ofNat 14)) (.c (.i .i64 (.ofNat 1)))⟩, ⟨some (.ofNat 14), none, .mv (.t (.ofNat 32))⟩]
noncomputable def f92_l0 : EC := (.seq (.reg f92_r5) (.seq (.cond (.t (.ofNat 15)) .skip (.exit 2)) (.seq (.block 3 (.seq (.reg f92_r6) (.draw f92_r7))) (.reg f92_r8))))
noncomputable def f92_b0 : EC := (.block 1 (.seq (.reg f92_r4) (.block 2 (.loop f92_l0))))
noncomputable def f92_r9 : List EOper := [⟨some (.ofNat 33), none, .ldn 49 (.t (.ofNat 3))⟩, ⟨none, none, .st 49 (.t (.ofNat 2)) (.t (.ofNat 33))⟩]
noncomputable def f92_c : EC := (.seq (.reg f92_r0) (.seq (.reg f92_r1) (.seq (.seq (.reg f92_r2) (.block 0 (.rangeF (.t (.ofNat 8)) [(.ofNat 9)] f92_a0 f92_b0))) (.seq (.reg f92_r9) .ret))))
noncomputable def f92 : EF := ⟨34, [.celln (.ofNat 2) 49], f92_c, none⟩
theorem f92_rs : f92.rs = [.celln (.ofNat 2) 49] := of_eq_true (eq_self _)
noncomputable def f76_r0 : List EOper := [⟨some (.ofNat 1), none, .box 49 (.t (.ofNat 0))⟩, ⟨some (.ofNat 2), none, .as (.c (.b false))⟩]
noncomputable def f76_r1 : List Stage := [⟨[⟨some (.ofNat 3), none, .ldn 49 (.t (.ofNat 1))⟩, ⟨some (.ofNat 4), none, .ldn 49 (.t (.ofNat 1))⟩], [], (some ⟨some (.ofNat 5), none, .call (.c (.fn (.ofNat 92) [])) [(.t (.ofNat 4))]⟩), []⟩, ⟨[], [⟨some (.ofNat 3), none, .ldn 49 (.t (.ofNat 1))⟩], (some ⟨some (.ofNat 6), none, .call (.c (.fn (.ofNat 91) [])) [(.t (.ofNat 3)), (.t (.ofNat 5))]⟩), []⟩, ⟨[], [], (some ⟨some (.ofNat 2), none, .as (.t (.ofNat 6))⟩), []⟩, ⟨[], [], none, []⟩]
noncomputable def f76_c : EC := (.seq (.reg f76_r0) (.seq (.draw f76_r1) .ret))
noncomputable def f76 : EF := ⟨7, [.tmp (.ofNat 2)], f76_c, none⟩
theorem f76_rs : f76.rs = [.tmp (.ofNat 2)] := of_eq_true (eq_self _)
section
variable {fs : T EF} {h h' : H}
theorem rd1 {id : K} {a : V} (hb : h.get id = .cells 1 [a]) : readP h (.p id 0) one? = some a := by
  have h1 := load_p (v := a) (off := 0) hb rfl
  unfold loadV okv at h1
  cases e : readP h (.p id 0) one? with
  | none => rw [e] at h1; cases h1
  | some v => rw [e] at h1; have h1 : RV.ok v h = RV.ok _ h := h1; injection h1 with h1; rw [h1]
def frO (L : List Bool) : Option (Nat × Nat) := (arw (rat L)).head?
noncomputable def frV (L : List Bool) : V := match frO L with
  | some x => .tup [aV x, .b true]
  | none => .tup [aV (0, 0), .b false]
theorem f87_ret {L : List Bool} (k : Nat2 fs) (hL : L.length = 49) (hc : HC h) : Ret fs f87 [rV L] h fun r _ => r = frV L := by
  apply ret_of rfl
  show W fs none f87_c _ _ _
  unfold f87_c
  have c1 := rC_cells hL
  have n1 := nx_new h (.cells 49 (L.map V.b))
  have gr1 : Grow h.nx.nat h (h.new (.cells 49 (L.map V.b))) := Grow.new (Nat.le_refl _) _
  have e1 : (h.new (.cells 49 (L.map V.b))).get h.nx = rC L := get_new_same
  simp (disch := omega) only [f87_r0, w_reg, w_seq, seqK_n, x_nil, x_alloc, x_box, kx, rvP_ok, ev_t, getV_some, putD_some, oGet_s, frame_1, of0, getK_set, ↓reduceIte, c1]
  generalize h.new (.cells 49 (L.map V.b)) = h1 at *
  have n2 := nx_new h1 (.cells 2 [.i .i64 0, .i .i64 0])
  have gr2 : Grow h1.nx.nat h1 (h1.new (.cells 2 [.i .i64 0, .i .i64 0])) := Grow.new (Nat.le_refl _) _
  have e2 : (h1.new (.cells 2 [.i .i64 0, .i .i64 0])).get h1.nx = .cells 2 [.i .i64 0, .i .i64 0] := get_new_same
  generalize h1.new (.cells 2 [.i .i64 0, .i .i64 0]) = h2 at *
  have n3 := nx_new h2 (.cells 1 [.b false])
  have gr3 : Grow h2.nx.nat h2 (h2.new (.cells 1 [.b false])) := Grow.new (Nat.le_refl _) _
  have e3 : (h2.new (.cells 1 [.b false])).get h2.nx = .cells 1 [.b false] := get_new_same
  generalize h2.new (.cells 1 [.b false]) = h3 at *
  have hc3 := gr3.hc (gr2.hc (gr1.hc hc))
  have l3 := rC_ldn hL ((gr3.old h.nx (by omega)).trans ((gr2.old h.nx (by omega)).trans e1))
  have e2' := (gr3.old h1.nx (by omega)).trans e2
  simp (disch := omega) only [f87_r1, x_ldn, x_call, kx, rvP_ok, ev_t, ev_c, evs_nil, evs_cons, getV_some, putD_some, getK_set, Nat.reduceEqDiff, ↓reduceIte, l3]
  refine (callP_0 (ef := f84) k.c84 rfl (f84_ret hL)).mono ?_
  rintro r h4 ⟨rfl, rfl⟩
  have n4 := nx_new h3 (rC L)
  have gr4 : Grow h3.nx.nat h3 (h3.new (rC L)) := Grow.new (Nat.le_refl _) _
  have e4 : (h3.new (rC L)).get h3.nx = rC L := get_new_same
  have hc4 := gr4.hc hc3
  have e2'' := (gr4.old h1.nx (by omega)).trans e2'
  have e3' := (gr4.old h2.nx (by omega)).trans e3
  simp (disch := omega) only [w_block, seqK_n, x_nil, kx, putD_some]
  generalize h3.new (rC L) = h4 at *
  generalize hfr : T.set (K.ofNat 6) _ _ = fr
  have g2 : fr.get (K.ofNat 2) = some (.p h1.nx 0) := by rw [← hfr]; simp only [getK_set, Nat.reduceEqDiff, ↓reduceIte]
  have g3 : fr.get (K.ofNat 3) = some (.p h2.nx 0) := by rw [← hfr]; simp only [getK_set, Nat.reduceEqDiff, ↓reduceIte]
  have g6 : fr.get (K.ofNat 6) = some (.fn (K.ofNat 101) [.p h3.nx 0]) := by rw [← hfr]; simp only [getK_set, ↓reduceIte]
  clear hfr
  have ne12 : h1.nx ≠ h2.nx := kNe (by omega)
  refine W_itr (by simp (disch := omega) only [ev_t, getV_some, g6]) (all_yieldsR hL k.c101) (fun id => id = h1.nx ∨ id = h2.nx) (fun i h5 => i = 0 ∧ h5.get h1.nx = .cells 2 [.i .i64 0, .i .i64 0] ∧ h5.get h2.nx = .cells 1 [.b false]) (fun e h5 => e = .ret ∧ ∃ x, frO L = some x ∧ h5.get h1.nx = .cells 2 [.i .i64 (x.1 : Int), .i .i64 (x.2 : Int)] ∧ h5.get h2.nx = .cells 1 [.b true]) hc4 rfl (by rintro id (rfl | rfl) <;> omega)
    (fun h5 ks => (ks.old _ (by omega) (by rintro (e | e) <;> (have := congrArg K.nat e; omega))).trans e4) ?_ ?_ ?_ ?_ ?_ ?_
  · rintro i h5 h6 ⟨he, q2, q3⟩ _ hn ho
    exact ⟨he, by rw [ho _ (by omega) (kNe (by omega))]; exact q2, by rw [ho _ (by omega) (kNe (by omega))]; exact q3⟩
  · rintro e h5 h6 ⟨he, x, q1, q2, q3⟩ _ hn ho
    exact ⟨he, x, q1, by rw [ho _ (by omega) (kNe (by omega))]; exact q2, by rw [ho _ (by omega) (kNe (by omega))]; exact q3⟩
  · exact fun h5 hg => ⟨rfl, (hg.old _ (by omega)).trans e2'', (hg.old _ (by omega)).trans e3'⟩
  · rintro i ⟨x, y⟩ h5 hx hk hn ⟨rfl, q2, q3⟩
    obtain ⟨hst, gB, c7, n5⟩ := arr_var (h := h5) (x := x) (y := y)
    have b2 := (gB.old h1.nx (by omega)).trans q2
    have b3 := (gB.old h2.nx (by omega)).trans q3
    unfold f87_a0
    simp (disch := omega) only [f87_r2, w_reg, x_nil, x_alloc, x_st, kx, rvP_ok, ev_t, getV_some, putD_some, putD_none, of0, getK_set, Nat.reduceEqDiff, ↓reduceIte, hst, itA_n]
    generalize (h5.new (.cells 2 [.i .i64 0, .i .i64 0])).put h5.nx (.cells 2 [.i .i64 (x : Int), .i .i64 (y : Int)]) = h6 at *
    refine ⟨gB, fun h7 n7 hc7 o7 _ => ?_⟩
    have n7' : h7.nx.nat = h6.nx.nat := congrArg K.nat n7
    have l1 := ldn2 ((o7 _ (kNe hn).symm).trans c7)
    have b2' := (o7 h1.nx (kNe (by omega))).trans b2
    have b3' := (o7 h2.nx (kNe (by omega))).trans b3
    have s1 := st2 (c := .i .i64 (x : Int)) (d := .i .i64 (y : Int)) b2'
    have s2 : storeV (h7.put h1.nx (.cells 2 [.i .i64 (x : Int), .i .i64 (y : Int)])) 1 (.p h2.nx 0) (.b true) = .ok undefV ((h7.put h1.nx (.cells 2 [.i .i64 (x : Int), .i .i64 (y : Int)])).put h2.nx (.cells 1 [.b true])) := st1 (a := .b false) (by rw [get_put_other ne12.symm]; exact b3') rfl
    have hf : frO L = some (x, y) := by
      unfold frO
      rw [List.head?_eq_getElem?]; exact hx
    unfold f87_b0
    simp (disch := omega) only [f87_r3, w_reg, w_seq, w_block, w_ret, seqK_n, atK_r, true_and, x_nil, x_ldn, x_st, kx, rvP_ok, ev_t, ev_c, getV_some, putD_some, putD_none, getK_set, Nat.reduceEqDiff, ↓reduceIte, g2, g3, l1, s1, s2, itC_r]
    refine ⟨⟨(x, y), hf, by rw [get_put_other ne12]; exact get_put_same, get_put_same⟩, ?_⟩
    have hk7 : Kr (fun id => id = h1.nx ∨ id = h2.nx) h4.nx h7 h7 := Kr.refl hc7
    exact (hk7.put (by omega) (.inl (.inl rfl)) _).put (by rw [nx_put]; omega) (.inl (.inr rfl)) _
  · rintro h5 ⟨h0, q2, q3⟩ hk hn
    have hf : frO L = none := by
      unfold frO
      rw [List.length_eq_zero_iff.1 h0]; rfl
    have s1 := st2 (c := .i .i64 0) (d := .i .i64 0) q2
    have s2 : storeV (h5.put h1.nx (.cells 2 [.i .i64 0, .i .i64 0])) 1 (.p h2.nx 0) (.b false) = .ok undefV ((h5.put h1.nx (.cells 2 [.i .i64 0, .i .i64 0])).put h2.nx (.cells 1 [.b false])) := st1 (a := .b false) (by rw [get_put_other ne12.symm]; exact q3) rfl
    have r1 : readP ((h5.put h1.nx (.cells 2 [.i .i64 0, .i .i64 0])).put h2.nx (.cells 1 [.b false])) (.p h1.nx 0) (many? 2) = some (aV (0, 0)) := rd2 (by rw [get_put_other ne12]; exact get_put_same)
    have r2 : readP ((h5.put h1.nx (.cells 2 [.i .i64 0, .i .i64 0])).put h2.nx (.cells 1 [.b false])) (.p h2.nx 0) one? = some (.b false) := rd1 get_put_same
    simp (disch := omega) only [f87_r4, f87_rs, w_reg, w_seq, w_ret, seqK_n, atK_n, retK_r, x_nil, x_build, x_st, kx, rvP_ok, ev_t, ev_c, getV_some, putD_some, putD_none, oGet_s, readRs_nil, readRs_c, readRs_n, retV_2, of0, Option.some.injEq, exists_eq_left', getK_set, Nat.reduceEqDiff, ↓reduceIte, fill_0, g2, g3, s1, s2, r1, r2]
    unfold frV; rw [hf]
  · rintro e h5 _ ⟨rfl, ⟨x, y⟩, hf, q2, q3⟩ hk hn
    have r1 : readP h5 (.p h1.nx 0) (many? 2) = some (aV (x, y)) := rd2 q2
    have r2 : readP h5 (.p h2.nx 0) one? = some (.b true) := rd1 q3
    simp (disch := omega) only [f87_rs, seqK_r, atK_r, retK_r, getV_some, oGet_s, readRs_nil, readRs_c, readRs_n, retV_2, Option.some.injEq, exists_eq_left', g2, g3, r1, r2]
    unfold frV; rw [hf]
/-- Steps: all a c with an arrow a b and an arrow b c. -/
def spB (L : List Bool) (i : Nat) (a c : Nat) : Bool := ((arw (rat L)).take i).any fun x => decide (x.1 = a) && rat L x.2 c
def spG (L : List Bool) (i x y t : Nat) (a c : Nat) : Bool := spB L i a c || (decide (a = x ∧ c < t) && rat L y c)
def spR (L : List Bool) : List Bool := rl (spB L (arw (rat L)).length)
theorem spB_succ {L : List Bool} {i x y : Nat} (hx : (arw (rat L))[i]? = some (x, y)) : rl (spG L i x y 7) = rl (spB L (i + 1)) := by
  refine rl_congr fun a c _ hc => ?_
  unfold spG spB
  rw [List.take_add_one, hx]
  simp only [Option.toList_some, List.any_append, List.any_cons, List.any_nil, Bool.or_false]
  congr 2
  exact decide_eq_decide.2 ⟨fun h => h.1.symm, fun h => ⟨h.symm, hc⟩⟩
theorem spR_iff {L : List Bool} {a c : Nat} : rat (spR L) a c = true ↔ ∃ b, rat L a b = true ∧ rat L b c = true := by
  unfold spR spB
  rw [rat_rl, List.take_length]
  simp only [Bool.and_eq_true, decide_eq_true_eq, List.any_eq_true]
  constructor
  · rintro ⟨_, ⟨x, y⟩, h1, rfl, h2⟩
    exact ⟨y, (mem_arw.1 h1).2.2, h2⟩
  · rintro ⟨b, h1, h2⟩
    have l1 := rat_lt h1; have l2 := rat_lt h2
    exact ⟨⟨l1.1, l2.2⟩, (a, b), mem_arw.2 ⟨l1.1, l1.2, h1⟩, rfl, h2⟩
def f92_J (h0 : H) (idr id2 id3 id4 _lp : K) (L : List Bool) (i x y : Nat) (t : Nat) (fr : Fr) (h1 : H) : Prop := t ≤ 7 ∧ Kp id3 h0 h1 ∧ h1.get id3 = rC (rl (spG L i x y t)) ∧ fr.get (K.ofNat 1) = some (.p idr 0) ∧ fr.get (K.ofNat 2) = some (.p id2 0) ∧ fr.get (K.ofNat 3) = some (.p id3 0) ∧ fr.get (K.ofNat 4) = some (.p id4 0) ∧ fr.get (K.ofNat 13) = some (.agg ((List.range 7).map fun b => .b (rat L y b))) ∧ fr.get (K.ofNat 14) = some (.i .i64 (t : Int))
theorem ld_row {L : List Bool} {id : K} {a : Nat} (ha : a < 7) (hL : L.length = 49) (hg : h.get id = rC L) : loadV h (.p id (0 + a * 7)) (many? 7) = .ok (.agg ((List.range 7).map fun b => .b (rat L a b))) h := by
  rw [loadn_p hg (by omega)]
  have := ix_row (h := h) ha hL
  have e : ixV 7 7 true (rV L) (.i .i64 (a : Int)) h = .ok (.agg (takeN 7 (dropN (a * 7) (L.map V.b)))) h := by
    show idxV (.i .i64 (a : Int)) 7 (fun n => bif true then .ok (.agg (takeN 7 (dropN (n * 7) (L.map V.b)))) h else okv (nth (L.map V.b) (n * 7)) h) = _
    rw [idx_n ha]; rfl
  rw [e] at this
  rw [Nat.zero_add]; exact this
theorem f92_ret {L : List Bool} (k : Nat2 fs) (hL : L.length = 49) (hc : HC h) : Ret fs f92 [rV L] h fun r _ => r = rV (spR L) := by
  apply ret_of rfl
  show W fs none f92_c _ _ _
  unfold f92_c
  have c1 := rC_cells hL
  have n1 := nx_new h (.cells 49 (L.map V.b))
  have gr1 : Grow h.nx.nat h (h.new (.cells 49 (L.map V.b))) := Grow.new (Nat.le_refl _) _
  have e1 : (h.new (.cells 49 (L.map V.b))).get h.nx = rC L := get_new_same
  simp (disch := omega) only [f92_r0, w_reg, w_seq, seqK_n, x_nil, x_alloc, x_box, kx, rvP_ok, ev_t, getV_some, putD_some, oGet_s, frame_1, getK_set, ↓reduceIte, c1]
  generalize h.new (.cells 49 (L.map V.b)) = h1 at *
  have n2 := nx_new h1 (.cells 49 (List.replicate 49 (.b false)))
  have gr2 : Grow h1.nx.nat h1 (h1.new (.cells 49 (List.replicate 49 (.b false)))) := Grow.new (Nat.le_refl _) _
  have e2 : (h1.new (.cells 49 (List.replicate 49 (.b false)))).get h1.nx = rC (rl fun _ _ => false) := by rw [rl_false]; exact get_new_same
  generalize h1.new (.cells 49 (List.replicate 49 (.b false))) = h2 at *
  have n3 := nx_new h2 (.cells 49 (List.replicate 49 (.b false)))
  have gr3 : Grow h2.nx.nat h2 (h2.new (.cells 49 (List.replicate 49 (.b false)))) := Grow.new (Nat.le_refl _) _
  have e3 : (h2.new (.cells 49 (List.replicate 49 (.b false)))).get h2.nx = rC (rl fun _ _ => false) := by rw [rl_false]; exact get_new_same
  simp (disch := omega) only [f92_r1, w_reg, w_seq, seqK_n, x_nil, x_alloc, putD_some]
  generalize h2.new (.cells 49 (List.replicate 49 (.b false))) = h3 at *
  have hc3 := gr3.hc (gr2.hc (gr1.hc hc))
  have e1' := (gr3.old h.nx (by omega)).trans ((gr2.old h.nx (by omega)).trans e1)
  have l3 := rC_ldn hL e1'
  simp (disch := omega) only [f92_r2, x_ldn, x_call, kx, rvP_ok, ev_t, ev_c, evs_nil, evs_cons, getV_some, putD_some, getK_set, Nat.reduceEqDiff, ↓reduceIte, l3]
  refine (callP_0 (ef := f84) k.c84 rfl (f84_ret hL)).mono ?_
  rintro r h4 ⟨rfl, rfl⟩
  have n4 := nx_new h3 (rC L)
  have gr4 : Grow h3.nx.nat h3 (h3.new (rC L)) := Grow.new (Nat.le_refl _) _
  have e4 : (h3.new (rC L)).get h3.nx = rC L := get_new_same
  have hc4 := gr4.hc hc3
  have e1'' := (gr4.old h.nx (by omega)).trans e1'
  have e2' := (gr4.old h1.nx (by omega)).trans ((gr3.old h1.nx (by omega)).trans e2)
  have e3' := (gr4.old h2.nx (by omega)).trans e3
  simp (disch := omega) only [w_block, seqK_n, x_nil, kx, putD_some]
  generalize h3.new (rC L) = h4 at *
  generalize hfr : T.set (K.ofNat 8) _ _ = fr
  have g1 : fr.get (K.ofNat 1) = some (.p h.nx 0) := by rw [← hfr]; simp only [getK_set, Nat.reduceEqDiff, ↓reduceIte]
  have g2 : fr.get (K.ofNat 2) = some (.p h1.nx 0) := by rw [← hfr]; simp only [getK_set, Nat.reduceEqDiff, ↓reduceIte]
  have g3 : fr.get (K.ofNat 3) = some (.p h2.nx 0) := by rw [← hfr]; simp only [getK_set, Nat.reduceEqDiff, ↓reduceIte]
  have g8 : fr.get (K.ofNat 8) = some (.fn (K.ofNat 101) [.p h3.nx 0]) := by rw [← hfr]; simp only [getK_set, ↓reduceIte]
  clear hfr
  refine W_arr (idB := h2.nx) (by simp (disch := omega) only [ev_t, getV_some, g8]) hL k.c101 hc4 e4 (kNe (by omega)).symm (fun i => rC (rl (spB L i))) (by rw [e3']; rfl) (by omega) rfl ?_ ?_
  · rintro i ⟨x, y⟩ h5 hx hx1 hx2 hk hn hB
    obtain ⟨hst, gB, c7, n5⟩ := arr_var (h := h5) (x := x) (y := y)
    have b6 := (gB.old _ (by omega)).trans hB
    have r6 := (gB.old h.nx (by omega)).trans ((hk.old h.nx (by omega) (kNe (by omega))).trans e1'')
    unfold f92_a0
    simp (disch := omega) only [f92_r3, w_reg, x_nil, x_alloc, x_st, kx, rvP_ok, ev_t, getV_some, putD_some, putD_none, of0, getK_set, Nat.reduceEqDiff, ↓reduceIte, hst, arrA_n]
    generalize (h5.new (.cells 2 [.i .i64 0, .i .i64 0])).put h5.nx (.cells 2 [.i .i64 (x : Int), .i .i64 (y : Int)]) = h6 at *
    refine ⟨gB, fun h7 n7 hc7 o7 => ?_⟩
    have n7' : h7.nx.nat = h6.nx.nat := congrArg K.nat n7
    have c8 := (o7 _ (kNe hn).symm).trans c7
    have l1 := ld21 c8
    have b7 := (o7 h2.nx (kNe (by omega))).trans b6
    have lr := ld_row hx2 hL ((o7 h.nx (kNe (by omega))).trans r6)
    have hx2' : y < 7 := hx2
    unfold f92_b0
    simp (disch := omega) only [f92_r4, w_reg, w_seq, w_block, seqK_n, x_nil, x_mv, x_ld, x_ldn, x_fadr, x_iadr, kx, rvP_ok, ev_t, ev_c, getV_some, putD_some, onP_p, idx_n, of0, getK_set, Nat.reduceEqDiff, ↓reduceIte, g1, l1, lr]
    have eG0 : rl (spB L i) = rl (spG L i x y 0) := rl_congr fun a c _ _ => by unfold spG; simp
    rw [eG0] at b7
    refine W_loop (f92_J h7 h.nx h1.nx h2.nx h5.nx h4.nx L i x y) (fun t => 7 - t) ?_ 0 ⟨by omega, Kp.refl hc7, b7, by simp (disch := omega) only [getK_set, Nat.reduceEqDiff, ↓reduceIte, g1, g2, g3, and_self, Int.natCast_zero]⟩
    clear g1 g2 g3 g8 fr
    rintro t fr h8 ⟨ht, hk8, b8, g1, g2, g3, g4, g13, g14⟩
    have hkn := hk8.nx
    unfold f92_l0
    by_cases hlt : t < 7
    · have d0 : decide ((t : Int) < 7) = true := decide_eq_true (by omega)
      have hxc := fun h => ix_cell (h := h) (f := rat L y) hlt
      have c9 := (hk8.old h5.nx (by omega) (kNe (by omega)).symm).trans c8
      have l0 := ld20 c9
      have lc := rC_ld hx1 hlt rl_len b8
      have eS : rl (fun p q => if p = x ∧ q = t then (rat (rl (spG L i x y t)) x t || rat L y t) else spG L i x y t p q) = rl (spG L i x y (t + 1)) := rl_congr fun a c ha hc => by
        by_cases e : a = x ∧ c = t
        · rw [if_pos e, e.1, e.2, rat_rl, decide_eq_true hx1, decide_eq_true hlt]
          unfold spG
          rw [decide_eq_false (show ¬ (x = x ∧ t < t) by omega), decide_eq_true (show x = x ∧ t < t + 1 by omega)]
          simp
        · rw [if_neg e]
          unfold spG
          rw [show decide (a = x ∧ c < t) = decide (a = x ∧ c < t + 1) from decide_eq_decide.2 ⟨fun h => ⟨h.1, by omega⟩, fun h => ⟨h.1, by have : c ≠ t := fun e2 => e ⟨h.1, e2⟩; omega⟩⟩]
      have hs := fun v => rC_st (v := v) hx1 hlt b8
      simp (disch := omega) only [f92_r5, f92_r6, w_skip, w_reg, w_draw, w_seq, w_cond, w_block, seqK_n, ckB_b, cbB_b, true_and, x_nil, x_mv, x_as, x_bin, x_ix, kx, rvP_ok, okv_some, ev_t, ev_c, getV_some, putD_some, bin_lss, getK_set, Nat.reduceEqDiff, ↓reduceIte, of7, g13, g14, d0, hxc]
      cases hq : rat (rl (spG L i x y t)) x t with
      | true =>
        rw [hq, Bool.true_or] at eS
        rw [hq] at lc
        simp (disch := omega) only [f92_r7, f92_r8, w_reg, seqK_n, atK_n, loopK_n, okG_b, asG_f, true_and, x_nil, x_mv, x_st, x_bin, kx, kg, xg_nil, xg_g, xg_mv, xg_pick, xg_ld, xg_fadr, xg_iadr, xd_cons, fresh_nil, stK_n, stK_s, stay_nil, rvP_ok, okv_some, ev_t, ev_c, getV_some, putD_some, putD_none, bin_add, pick_b, onP_p, idx_n, of1, getK_set, Nat.reduceEqDiff, ↓reduceIte, Bool.false_eq_true, Bool.not_true, g3, g4, g14, l0, lc, hs, fw64]
        exact ⟨t + 1, by omega, by omega, hk8.put (by omega) _, by rw [get_put_same, eS], by simp (disch := omega) only [getK_set, Nat.reduceEqDiff, ↓reduceIte, g1, g2, g3, g4, g13, and_self, Int.natCast_add, Int.natCast_one]⟩
      | false =>
        rw [hq, Bool.false_or] at eS
        rw [hq] at lc
        simp (disch := omega) only [f92_r7, f92_r8, w_reg, seqK_n, atK_n, loopK_n, okG_b, asG_f, true_and, x_nil, x_mv, x_st, x_bin, kx, kg, xg_nil, xg_g, xg_mv, xg_pick, xg_ld, xg_fadr, xg_iadr, xd_cons, fresh_nil, stK_n, stK_s, stay_nil, rvP_ok, okv_some, ev_t, ev_c, getV_some, putD_some, putD_none, bin_add, pick_b, onP_p, idx_n, of1, getK_set, Nat.reduceEqDiff, ↓reduceIte, Bool.false_eq_true, Bool.not_false, g3, g4, g14, l0, lc, hs, fw64]
        exact ⟨t + 1, by omega, by omega, hk8.put (by omega) _, by rw [get_put_same, eS], by simp (disch := omega) only [getK_set, Nat.reduceEqDiff, ↓reduceIte, g1, g2, g3, g4, g13, and_self, Int.natCast_add, Int.natCast_one]⟩
    · have d0 : decide ((t : Int) < 7) = false := decide_eq_false (by omega)
      have et : t = 7 := by omega
      subst et
      rw [spB_succ hx] at b8
      simp (disch := omega) only [f92_r5, w_reg, w_seq, w_cond, w_exit, seqK_n, seqK_e, atK_n, atK_e, loopK_e, ckB_b, cbB_b, true_and, x_nil, x_bin, kx, rvP_ok, okv_some, ev_t, ev_c, getV_some, putD_some, bin_lss, getK_set, ↓reduceIte, Bool.false_eq_true, of7, g14, d0, arrC_n]
      exact ⟨b8, hk8⟩
  · intro h5 hB hk
    have hR : (spR L).length = 49 := rl_len
    have l5 := rC_ldn (L := spR L) hR hB
    have hs5 := rC_stn (L := spR L) hR rl_len ((hk.old h1.nx (by omega) (kNe (by omega))).trans e2')
    have hr5 : readP (h5.put h1.nx (rC (spR L))) (.p h1.nx 0) (many? 49) = some (rV (spR L)) := rC_read hR get_put_same
    simp (disch := omega) only [f92_r9, f92_rs, w_reg, w_seq, w_ret, seqK_n, atK_n, retK_r, x_nil, x_ldn, x_st, kx, rvP_ok, ev_t, getV_some, putD_some, putD_none, oGet_s, readRs_nil, readRs_n, retV_1, Option.some.injEq, exists_eq_left', getK_set, Nat.reduceEqDiff, ↓reduceIte, g2, g3, l5, hs5, hr5]
structure Nat3 (fs : T EF) : Prop extends Nat2 fs where
  n87 : ∀ L h P, L.length = 49 → CallP fs (.fn (K.ofNat 87) []) [rV L] h P = P (frV L) h
  n92 : ∀ L h P, L.length = 49 → CallP fs (.fn (K.ofNat 92) []) [rV L] h P = P (rV (spR L)) h
  n91 : ∀ L M h P, L.length = 49 → M.length = 49 → CallP fs (.fn (K.ofNat 91) []) [rV L, rV M] h P = P (.b (cvB L M)) h
  n49 : ∀ L (n : Nat) h P, L.length = 49 → n ≤ 7 → CallP fs (.fn (K.ofNat 49) []) [rV L, .i .i64 (n : Int)] h P = P (rV (otR n L)) h
def trB (L : List Bool) : Bool := cvB L (spR L)
theorem f76_ret {L : List Bool} (k : Nat3 fs) (hL : L.length = 49) : Ret fs f76 [rV L] h fun r _ => r = .b (trB L) := by
  apply ret_of rfl
  show W fs none f76_c _ _ _
  unfold f76_c
  have c1 := rC_cells hL
  have e1 : (h.new (.cells 49 (L.map V.b))).get h.nx = rC L := get_new_same
  have l1 := rC_ldn hL e1
  have hS : (spR L).length = 49 := rl_len
  simp (disch := omega) only [f76_r0, f76_r1, f76_rs, w_reg, w_draw, w_seq, w_ret, seqK_n, true_and, retK_r, x_nil, x_as, x_box, x_call, kx, kg, xg_nil, xg_ldn, xd_cons, fresh_nil, stK_n, stK_s, stay_nil, stay_cons, again_ok, rvP_ok, ev_t, ev_c, evs_nil, evs_cons, getV_some, putD_some, oGet_s, readRs_nil, readRs_t, retV_1, frame_1, Option.some.injEq, exists_eq_left', getK_set, Nat.reduceEqDiff, ↓reduceIte, stay_ldn, c1, l1, k.n92 _ _ _ hL, k.n91 _ _ _ _ hL hS, beq_rV]
  rfl
end
end Go.Ev
namespace Go.Ev
open Go Go.RowKit
noncomputable def f86_r0 : List EOper := [⟨some (.ofNat 2), none, .box 49 (.t (.ofNat 0))⟩, ⟨some (.ofNat 3), none, .box 2 (.t (.ofNat 1))⟩, ⟨some (.ofNat 4), none, .as (.c .fnil)⟩]
noncomputable def f86_r1 : List EOper := [⟨some (.ofNat 5), none, .mkfn (.ofNat 102) [(.t (.ofNat 2)), (.t (.ofNat 3))]⟩, ⟨some (.ofNat 4), none, .as (.t (.ofNat 5))⟩]
noncomputable def f86_c : EC := (.seq (.reg f86_r0) (.seq (.reg f86_r1) .ret))
noncomputable def f86 : EF := ⟨6, [.tmp (.ofNat 4)], f86_c, none⟩
theorem f86_rs : f86.rs = [.tmp (.ofNat 4)] := of_eq_true (eq_self _)
noncomputable def f102_r0 : List EOper := [⟨some (.ofNat 5), none, .mv (.c (.i .i64 (.ofNat 0)))⟩]
noncomputable def f102_r1 : List EOper := [⟨some (.ofNat 6), none, .bin .lss (.t (.ofNat 5)) (.c (.i .i64 (.ofNat 7)))⟩]
noncomputable def f102_r2 : List EOper := [⟨some (.ofNat 7), none, .mv (.t (.ofNat 5))⟩, ⟨some (.ofNat 4), none, .as (.t (.ofNat 7))⟩]
noncomputable def f102_r3 : List EOper := [⟨some (.ofNat 8), none, .fadr 0 (.t (.ofNat 2))⟩, ⟨some (.ofNat 9), none, .ld (.t (.ofNat 8))⟩, ⟨some (.ofNat 10), none, .mv (.t (.ofNat 4))⟩, ⟨some (.ofNat 11), none, .iadr 7 7 (.t (.ofNat 1)) (.t (.ofNat 9))⟩, ⟨some (.ofNat 12), none, .iadr 7 1 (.t (.ofNat 11)) (.t (.ofNat 10))⟩, ⟨some (.ofNat 13), none, .ld (.t (.ofNat 12))⟩, ⟨some (.ofNat 14), none, .mv (.t (.ofNat 13))⟩, ⟨some (.ofNat 15), (some ((.ofNat 14), true)), .fadr 1 (.t (.ofNat 2))⟩, ⟨some (.ofNat 16), (some ((.ofNat 14), true)), .ld (.t (.ofNat 15))⟩, ⟨some (.ofNat 17), (some ((.ofNat 14), true)), .mv (.t (.ofNat 4))⟩, ⟨some (.ofNat 18), (some ((.ofNat 14), true)), .iadr 7 7 (.t (.ofNat 1)) (.t (.ofNat 16))⟩, ⟨some (.ofNat 19), (some ((.ofNat 14), true)), .iadr 7 1 (.t (.ofNat 18)) (.t (.ofNat 17))⟩, ⟨some (.ofNat 20), (some ((.ofNat 14), true)), .ld (.t (.ofNat 19))⟩, ⟨some (.ofNat 21), (some ((.ofNat 14), true)), .not (.t (.ofNat 20))⟩, ⟨some (.ofNat 22), none, .pick (.t (.ofNat 14)) (.t (.ofNat 21)) (.c (.b false))⟩, ⟨some (.ofNat 23), none, .mv (.t (.ofNat 22))⟩, ⟨some (.ofNat 24), (some ((.ofNat 23), true)), .mv (.t (.ofNat 0))⟩, ⟨some (.ofNat 25), (some ((.ofNat 23), true)), .fadr 0 (.t (.ofNat 2))⟩, ⟨some (.ofNat 26), (some ((.ofNat 23), true)), .ld (.t (.ofNat 25))⟩, ⟨some (.ofNat 27), (some ((.ofNat 23), true)), .mv (.t (.ofNat 4))⟩, ⟨some (.ofNat 28), (some ((.ofNat 23), true)), .build [(.i .i64 (.ofNat 0)), (.i .i64 (.ofNat 0))] [(0, 1, (.t (.ofNat 26))), (1, 1, (.t (.ofNat 27)))]⟩, ⟨some (.ofNat 29), (some ((.ofNat 23), true)), .call (.t (.ofNat 24)) [(.t (.ofNat 28))]⟩, ⟨some (.ofNat 30), (some ((.ofNat 23), true)), .not (.t (.ofNat 29))⟩, ⟨some (.ofNat 31), none, .pick (.t (.ofNat 23)) (.t (.ofNat 30)) (.c (.b false))⟩]
noncomputable def f102_r4 : List Stage := [⟨[⟨some (.ofNat 32), none, .mv (.t (.ofNat 4))⟩, ⟨some (.ofNat 33), none, .fadr 0 (.t (.ofNat 2))⟩, ⟨some (.ofNat 34), none, .ld (.t (.ofNat 33))⟩, ⟨some (.ofNat 35), none, .bin .neq (.t (.ofNat 32)) (.t (.ofNat 34))⟩, ⟨some (.ofNat 36), none, .mv (.t (.ofNat 35))⟩, ⟨some (.ofNat 37), (some ((.ofNat 36), true)), .mv (.t (.ofNat 4))⟩, ⟨some (.ofNat 38), (some ((.ofNat 36), true)), .fadr 1 (.t (.ofNat 2))⟩, ⟨some (.ofNat 39), (some ((.ofNat 36), true)), .ld (.t (.ofNat 38))⟩, ⟨some (.ofNat 40), (some ((.ofNat 36), true)), .iadr 7 7 (.t (.ofNat 1)) (.t (.ofNat 37))⟩, ⟨some (.ofNat 41), (some ((.ofNat 36), true)), .iadr 7 1 (.t (.ofNat 40)) (.t (.ofNat 39))⟩, ⟨some (.ofNat 42), (some ((.ofNat 36), true)), .ld (.t (.ofNat 41))⟩, ⟨some (.ofNat 43), none, .pick (.t (.ofNat 36)) (.t (.ofNat 42)) (.c (.b false))⟩, ⟨some (.ofNat 44), none, .mv (.t (.ofNat 43))⟩, ⟨some (.ofNat 45), (some ((.ofNat 44), true)), .mv (.t (.ofNat 4))⟩, ⟨some (.ofNat 46), (some ((.ofNat 44), true)), .fadr 0 (.t (.ofNat 2))⟩, ⟨some (.ofNat 47), (some ((.ofNat 44), true)), .ld (.t (.ofNat 46))⟩, ⟨some (.ofNat 48), (some ((.ofNat 44), true)), .iadr 7 7 (.t (.ofNat 1)) (.t (.ofNat 45))⟩, ⟨some (.ofNat 49), (some ((.ofNat 44), true)), .iadr 7 1 (.t (.ofNat 48)) (.t (.ofNat 47))⟩, ⟨some (.ofNat 50), (some ((.ofNat 44), true)), .ld (.t (.ofNat 49))⟩, ⟨some (.ofNat 51), (some ((.ofNat 44), true)), .not (.t (.ofNat 50))⟩, ⟨some (.ofNat 52), none, .pick (.t (.ofNat 44)) (.t (.ofNat 51)) (.c (.b false))⟩, ⟨some (.ofNat 53), none, .mv (.t (.ofNat 52))⟩, ⟨some (.ofNat 54), (some ((.ofNat 53), true)), .mv (.t (.ofNat 0))⟩, ⟨some (.ofNat 55), (some ((.ofNat 53), true)), .mv (.t (.ofNat 4))⟩, ⟨some (.ofNat 56), (some ((.ofNat 53), true)), .fadr 1 (.t (.ofNat 2))⟩, ⟨some (.ofNat 57), (some ((.ofNat 53), true)), .ld (.t (.ofNat 56))⟩, ⟨some (.ofNat 58), (some ((.ofNat 53), true)), .build [(.i .i64 (.ofNat 0)), (.i .i64 (.ofNat 0))] [(0, 1, (.t (.ofNat 55))), (1, 1, (.t (.ofNat 57)))]⟩], [], (some ⟨some (.ofNat 59), (some ((.ofNat 53), true)), .call (.t (.ofNat 54)) [(.t (.ofNat 58))]⟩), []⟩, ⟨[⟨some (.ofNat 60), (some ((.ofNat 53), true)), .not (.t (.ofNat 59))⟩, ⟨some (.ofNat 61), none, .pick (.t (.ofNat 53)) (.t (.ofNat 60)) (.c (.b false))⟩], [], none, []⟩]
noncomputable def f102_r5 : List EOper := [⟨some (.ofNat 62), none, .bin .add (.t (.ofNat 5)) (.c (.i .i64 (.ofNat 1)))⟩, ⟨some (.ofNat 5), none, .mv (.t (.ofNat 62))⟩]
noncomputable def f102_l0 : EC := (.seq (.reg f102_r1) (.seq (.cond (.t (.ofNat 6)) .skip (.exit 0)) (.seq (.block 1 (.seq (.reg f102_r2) (.seq (.seq (.reg f102_r3) (.cond (.t (.ofNat 31)) .ret .skip)) (.seq (.draw f102_r4) (.cond (.t (.ofNat 61)) .ret .skip))))) (.reg f102_r5))))
noncomputable def f102_c : EC := (.seq (.reg f102_r0) (.block 0 (.loop f102_l0)))
noncomputable def f102 : EF := ⟨63, [], f102_c, none⟩
theorem f102_rs : f102.rs = [] := of_eq_true (eq_self _)
noncomputable def f55_r0 : List EOper := [⟨some (.ofNat 3), none, .box 49 (.t (.ofNat 0))⟩, ⟨some (.ofNat 4), none, .box 2 (.t (.ofNat 1))⟩, ⟨some (.ofNat 5), none, .box 2 (.t (.ofNat 2))⟩, ⟨some (.ofNat 6), none, .alloc 1 [(.b false)]⟩]
noncomputable def f55_r1 : List EOper := [⟨some (.ofNat 8), none, .ldn 49 (.t (.ofNat 3))⟩, ⟨some (.ofNat 9), none, .ldn 2 (.t (.ofNat 4))⟩, ⟨some (.ofNat 10), none, .call (.c (.fn (.ofNat 86) [])) [(.t (.ofNat 8)), (.t (.ofNat 9))]⟩]
noncomputable def f55_r2 : List EOper := [⟨some (.ofNat 7), none, .alloc 2 [(.i .i64 (.ofNat 0)), (.i .i64 (.ofNat 0))]⟩, ⟨none, none, .st 2 (.t (.ofNat 7)) (.t (.ofNat 11))⟩]
noncomputable def f55_a0 : EC := (.reg f55_r2)
noncomputable def f55_r3 : List EOper := [⟨some (.ofNat 12), none, .ldn 2 (.t (.ofNat 7))⟩, ⟨some (.ofNat 13), none, .ldn 2 (.t (.ofNat 5))⟩, ⟨some (.ofNat 14), none, .eqk (.many [(some .i64), (some .i64)]) false (.t (.ofNat 12)) (.t (.ofNat 13))⟩]
noncomputable def f55_r4 : List EOper := [⟨none, none, .st 1 (.t (.ofNat 6)) (.c (.b true))⟩]
noncomputable def f55_b0 : EC := (.block 1 (.seq (.reg f55_r3) (.cond (.t (.ofNat 14)) (.seq (.reg f55_r4) .ret) .skip)))
noncomputable def f55_r5 : List EOper := [⟨none, none, .st 1 (.t (.ofNat 6)) (.c (.b false))⟩]
noncomputable def f55_c : EC := (.seq (.reg f55_r0) (.seq (.seq (.reg f55_r1) (.block 0 (.rangeF (.t (.ofNat 10)) [(.ofNat 11)] f55_a0 f55_b0))) (.seq (.reg f55_r5) .ret)))
noncomputable def f55 : EF := ⟨15, [.cell (.ofNat 6)], f55_c, none⟩
theorem f55_rs : f55.rs = [.cell (.ofNat 6)] := of_eq_true (eq_self _)
section
variable {fs : T EF} {h h' : H}
def fcA (L : List Bool) (x y d : Nat) : Bool := rat L x d && !rat L y d
def fcB (L : List Bool) (x y d : Nat) : Bool := decide (d ≠ x) && (rat L d y && !rat L d x)
def fcN (L : List Bool) (x y d : Nat) : List (Nat × Nat) := (if fcA L x y d = true then [(x, d)] else []) ++ (if fcB L x y d = true then [(d, y)] else [])
def fcT (L : List Bool) (x y i : Nat) : List (Nat × Nat) := (List.range i).flatMap (fcN L x y)
def fcY (L : List Bool) (x y : Nat) : List (Nat × Nat) := fcT L x y 7
theorem fcT_succ {L : List Bool} {x y i : Nat} : fcT L x y (i + 1) = fcT L x y i ++ fcN L x y i := by
  unfold fcT; rw [List.range_succ, List.flatMap_append]; simp
theorem fcT_split {L : List Bool} {x y i : Nat} : ∀ k, i < k → ∃ R, fcT L x y k = fcT L x y i ++ (fcN L x y i ++ R)
  | 0, h => by omega
  | k + 1, h => by
    rw [fcT_succ]
    by_cases e : i = k
    · subst e; exact ⟨[], by simp⟩
    · obtain ⟨R, hR⟩ := fcT_split (L := L) (x := x) (y := y) (i := i) k (by omega)
      exact ⟨R ++ fcN L x y k, by rw [hR]; simp⟩
theorem mem_fcY {L : List Bool} {x y : Nat} {p : Nat × Nat} : p ∈ fcY L x y ↔ (p.1 = x ∧ fcA L x y p.2 = true) ∨ (p.2 = y ∧ fcB L x y p.1 = true) := by
  unfold fcY fcT fcN
  simp only [List.mem_flatMap, List.mem_range, List.mem_append]
  constructor
  · rintro ⟨d, hd, h | h⟩
    · split at h
      · rename_i e; rw [List.mem_singleton] at h; subst h; exact .inl ⟨rfl, e⟩
      · cases h
    · split at h
      · rename_i e; rw [List.mem_singleton] at h; subst h; exact .inr ⟨rfl, e⟩
      · cases h
  · obtain ⟨p1, p2⟩ := p
    rintro (⟨rfl, h⟩ | ⟨rfl, h⟩)
    · have h : fcA L p1 y p2 = true := h
      have l : rat L p1 p2 = true := by unfold fcA at h; simp only [Bool.and_eq_true] at h; exact h.1
      exact ⟨p2, (rat_lt l).2, .inl (by rw [if_pos h]; exact List.mem_singleton.2 rfl)⟩
    · have h : fcB L x p2 p1 = true := h
      have l : rat L p1 p2 = true := by unfold fcB at h; simp only [Bool.and_eq_true] at h; exact h.2.1
      exact ⟨p1, (rat_lt l).1, .inr (by rw [if_pos h]; exact List.mem_singleton.2 rfl)⟩
theorem fcY_lt {L : List Bool} {x y : Nat} (hx : x < 7) (hy : y < 7) {p : Nat × Nat} (h : p ∈ fcY L x y) : p.1 < 7 ∧ p.2 < 7 ∧ rat L p.1 p.2 = true := by
  rcases mem_fcY.1 h with ⟨h1, h2⟩ | ⟨h1, h2⟩
  · have l : rat L x p.2 = true := by unfold fcA at h2; simp only [Bool.and_eq_true] at h2; exact h2.1
    rw [h1]; exact ⟨hx, (rat_lt l).2, l⟩
  · have l : rat L p.1 y = true := by unfold fcB at h2; simp only [Bool.and_eq_true] at h2; exact h2.2.1
    rw [h1]; exact ⟨(rat_lt l).1, hy, l⟩
def fcM (idr ida : K) (L : List Bool) (x y : Nat) (h : H) : Prop := h.get idr = rC L ∧ h.get ida = .cells 2 [.i .i64 (x : Int), .i .i64 (y : Int)]
def f102_I (id idr ida : K) (L : List Bool) (x y : Nat) (I : Nat → H → Prop) (d : Nat) (fr : Fr) (h1 : H) : Prop := d ≤ 7 ∧ I (fcT L x y d).length h1 ∧ fr.get (K.ofNat 0) = some (.yl id) ∧ fr.get (K.ofNat 1) = some (.p idr 0) ∧ fr.get (K.ofNat 2) = some (.p ida 0) ∧ fr.get (K.ofNat 5) = some (.i .i64 (d : Int))
theorem forced_yields {idr ida : K} {L : List Bool} {x y : Nat} (hL : L.length = 49) (hx : x < 7) (hy : y < 7) (h102 : fs.get (K.ofNat 102) = some f102) : YieldsM fs (K.ofNat 102) [.p idr 0, .p ida 0] (fcM idr ida L x y) BA (fcY L x y) := by
  intro id I D h hN h0 round
  refine callP_of (ef := f102) h102 rfl ?_
  show Ret fs f102 [.yl id, .p idr 0, .p ida 0] h _
  apply ret_of rfl
  show W fs none f102_c _ _ _
  unfold f102_c
  simp (disch := omega) only [f102_r0, w_reg, w_seq, w_block, seqK_n, x_nil, x_mv, ev_c, putD_some, frame_3, of0]
  refine W_loop (f102_I id idr ida L x y I) (fun d => 7 - d) ?_ 0 ⟨by omega, h0, by simp (disch := omega) only [getK_set, Nat.reduceEqDiff, ↓reduceIte, and_self, Int.natCast_zero]⟩
  rintro d fr h1 ⟨hd, hI, g0, g1, g2, g5⟩
  unfold f102_l0
  by_cases hlt : d < 7
  · have d0 : decide ((d : Int) < 7) = true := decide_eq_true (by omega)
    obtain ⟨er, ea⟩ := (hN _ _ hI).1
    have la0 := ld20 ea
    have la1 := ld21 ea
    have lxd := rC_ld hx hlt hL er
    have lyd := rC_ld hy hlt hL er
    obtain ⟨R, hR⟩ := fcT_split (L := L) (x := x) (y := y) (i := d) 7 hlt
    have hsu := fcT_succ (L := L) (x := x) (y := y) (i := d)
    -- behind the first yield
    have rest : ∀ (fr : Fr) (h1 : H) (pre : List (Nat × Nat)), pre = fcT L x y d ++ (if fcA L x y d = true then [(x, d)] else []) → I pre.length h1 → fr.get (K.ofNat 0) = some (.yl id) ∧ fr.get (K.ofNat 1) = some (.p idr 0) ∧ fr.get (K.ofNat 2) = some (.p ida 0) ∧ fr.get (K.ofNat 4) = some (.i .i64 (d : Int)) ∧ fr.get (K.ofNat 5) = some (.i .i64 (d : Int)) →
        XD fs f102_r4 (seqK (W fs none (.cond (.t (K.ofNat 61)) .ret .skip)) (atK 1 (seqK (W fs none (.reg f102_r5)) (loopK (f102_I id idr ida L x y I) (fun d => 7 - d) d (atK 0 (retK f102 fun r h' => r = .tup [] ∧ ((∃ h1, I (fcY L x y).length h1 ∧ Grow h1.nx.nat h1 h') ∨ D h')))))) .normal) fr h1 := by
      clear g0 g1 g2 g5 fr hI la0 la1 lxd lyd er ea h1
      rintro fr h1 pre hpre hI ⟨g0, g1, g2, g4, g5⟩
      obtain ⟨er, ea⟩ := (hN _ _ hI).1
      have la0 := ld20 ea
      have la1 := ld21 ea
      have ldy := rC_ld hlt hy hL er
      have ldx := rC_ld hlt hx hL er
      have fin : fcB L x y d = false → fcT L x y (d + 1) = pre := fun e => by rw [hsu, hpre]; unfold fcN; rw [if_neg (show ¬ fcB L x y d = true by rw [e]; simp)]; simp
      by_cases e1 : d = x
      · have d1 : decide ((d : Int) ≠ (x : Int)) = false := decide_eq_false (by omega)
        have hb : fcB L x y d = false := by unfold fcB; rw [decide_eq_false (by omega)]; rfl
        simp (disch := omega) only [f102_r4, f102_r5, w_skip, w_reg, w_cond, seqK_n, atK_n, loopK_n, ckB_b, cbB_b, okG_b, asG_t, true_and, x_nil, x_g, x_mv, x_bin, kx, kg, xg_nil, xg_g, xg_mv, xg_pick, xg_ld, xg_bin, xg_fadr, xd_cons, fresh_nil, stK_n, stK_s, stay_nil, rvP_ok, okv_some, ev_t, ev_c, getV_some, putD_some, bin_add, bin_neq, pick_b, onP_p, of0, of1, getK_set, Nat.reduceEqDiff, ↓reduceIte, Bool.false_eq_true, g2, g4, g5, la0, d1, fw64]
        exact ⟨d + 1, by omega, by omega, by rw [fin hb]; exact hI, by simp (disch := omega) only [getK_set, Nat.reduceEqDiff, ↓reduceIte, g0, g1, g2, and_self, Int.natCast_add, Int.natCast_one]⟩
      · have d1 : decide ((d : Int) ≠ (x : Int)) = true := decide_eq_true (by omega)
        have hb0 : fcB L x y d = (rat L d y && !rat L d x) := by unfold fcB; rw [decide_eq_true (by omega), Bool.true_and]
        cases h2 : rat L d y with
        | false =>
          rw [h2] at ldy
          have hb : fcB L x y d = false := by rw [hb0, h2]; rfl
          simp (disch := omega) only [f102_r4, f102_r5, w_skip, w_reg, w_cond, seqK_n, atK_n, loopK_n, ckB_b, cbB_b, okG_b, asG_t, true_and, x_nil, x_g, x_mv, x_bin, kx, kg, xg_nil, xg_g, xg_mv, xg_pick, xg_ld, xg_bin, xg_fadr, xg_iadr, xd_cons, fresh_nil, stK_n, stK_s, stay_nil, rvP_ok, okv_some, ev_t, ev_c, getV_some, putD_some, bin_add, bin_neq, pick_b, onP_p, idx_n, of0, of1, getK_set, Nat.reduceEqDiff, ↓reduceIte, Bool.false_eq_true, g1, g2, g4, g5, la0, la1, d1, ldy, fw64]
          exact ⟨d + 1, by omega, by omega, by rw [fin hb]; exact hI, by simp (disch := omega) only [getK_set, Nat.reduceEqDiff, ↓reduceIte, g0, g1, g2, and_self, Int.natCast_add, Int.natCast_one]⟩
        | true =>
          rw [h2] at ldy
          cases h3 : rat L d x with
          | true =>
            rw [h3] at ldx
            have hb : fcB L x y d = false := by rw [hb0, h2, h3]; rfl
            simp (disch := omega) only [f102_r4, f102_r5, w_skip, w_reg, w_cond, seqK_n, atK_n, loopK_n, ckB_b, cbB_b, okG_b, asG_t, true_and, x_nil, x_g, x_mv, x_bin, kx, kg, xg_nil, xg_g, xg_mv, xg_pick, xg_ld, xg_bin, xg_not, xg_fadr, xg_iadr, xd_cons, fresh_nil, stK_n, stK_s, stay_nil, rvP_ok, okv_some, ev_t, ev_c, getV_some, putD_some, bin_add, bin_neq, pick_b, onB_b, onP_p, idx_n, of0, of1, getK_set, Nat.reduceEqDiff, ↓reduceIte, Bool.false_eq_true, Bool.not_true, g1, g2, g4, g5, la0, la1, d1, ldy, ldx, fw64]
            exact ⟨d + 1, by omega, by omega, by rw [fin hb]; exact hI, by simp (disch := omega) only [getK_set, Nat.reduceEqDiff, ↓reduceIte, g0, g1, g2, and_self, Int.natCast_add, Int.natCast_one]⟩
          | false =>
            rw [h3] at ldx
            have hb : fcB L x y d = true := by rw [hb0, h2, h3]; rfl
            have hsp : fcY L x y = pre ++ ((d, y) :: R) := by
              unfold fcY; rw [hR, hpre]; unfold fcN; rw [if_pos hb]; simp
            have hi : pre.length < (fcY L x y).length := by rw [hsp]; simp
            have hg : (fcY L x y)[pre.length] = (d, y) := by simp [hsp]
            obtain ⟨r, h', ⟨n, hn⟩, hT, hF⟩ := round pre.length h1 h1 (aV (d, y)) hi hI (Grow.refl _ _) (by show aV (d, y) = aV _; rw [hg]) (fun _ _ _ _ e => by cases e)
            have hnx : fcT L x y (d + 1) = pre ++ [(d, y)] := by rw [hsu, hpre]; unfold fcN; rw [if_pos hb]; simp
            have hav : V.agg [.i .i64 (d : Int), .i .i64 (y : Int)] = aV (d, y) := rfl
            simp (disch := omega) only [f102_r4, okG_b, asG_t, true_and, x_g, x_call, kg, xg_nil, xg_g, xg_mv, xg_pick, xg_build, xg_ld, xg_bin, xg_not, xg_fadr, xg_iadr, xd_cons, fresh_nil, stK_s, stay_nil, rvP_ok, okv_some, ev_t, ev_c, evs_nil, evs_cons, getV_some, putD_some, bin_neq, pick_b, onB_b, onP_p, oGet_s, idx_n, cells1_i, of0, getK_set, Nat.reduceEqDiff, ↓reduceIte, Bool.not_false, fill_2, set_2, g0, g1, g2, g4, la0, la1, d1, ldy, ldx, fill_2, set_2, hav]
            refine ⟨n, _, _, hn, ?_⟩
            cases r with
            | true =>
              simp (disch := omega) only [f102_r5, w_skip, w_reg, w_cond, seqK_n, atK_n, loopK_n, ckB_b, cbB_b, okG_b, asG_t, true_and, x_nil, x_mv, x_bin, kx, kg, xg_nil, xg_g, xg_pick, xg_not, xd_cons, fresh_nil, stK_n, stay_nil, rvP_ok, okv_some, ev_t, ev_c, getV_some, putD_some, bin_add, pick_b, onB_b, of1, getK_set, Nat.reduceEqDiff, ↓reduceIte, Bool.false_eq_true, Bool.not_true, g5, fw64]
              exact ⟨d + 1, by omega, by omega, by rw [hnx, List.length_append]; exact hT rfl, by simp (disch := omega) only [getK_set, Nat.reduceEqDiff, ↓reduceIte, g0, g1, g2, and_self, Int.natCast_add, Int.natCast_one]⟩
            | false =>
              simp (disch := omega) only [f102_rs, w_cond, w_ret, seqK_n, seqK_r, atK_r, loopK_r, ckB_b, cbB_b, okG_b, asG_t, true_and, retK_r, x_nil, kx, kg, xg_nil, xg_g, xg_pick, xg_not, xd_cons, fresh_nil, stK_n, stay_nil, rvP_ok, ev_t, ev_c, getV_some, putD_some, pick_b, onB_b, readRs_nil, retV_0, Option.some.injEq, exists_eq_left', getK_set, Nat.reduceEqDiff, ↓reduceIte, Bool.not_false]
              exact .inr (hF rfl)
    cases h2 : rat L x d with
    | false =>
      rw [h2] at lxd
      have hb : ¬ fcA L x y d = true := by unfold fcA; rw [h2]; simp
      simp (disch := omega) only [f102_r1, f102_r2, f102_r3, w_skip, w_reg, w_draw, w_seq, w_cond, w_block, seqK_n, ckB_b, cbB_b, okG_b, asG_t, true_and, x_nil, x_g, x_mv, x_as, x_pick, x_ld, x_bin, x_fadr, x_iadr, kx, rvP_ok, okv_some, ev_t, ev_c, getV_some, putD_some, bin_lss, pick_b, onP_p, idx_n, of0, getK_set, Nat.reduceEqDiff, ↓reduceIte, Bool.false_eq_true, of7, g1, g2, g5, d0, la0, lxd]
      exact rest _ _ _ (by rw [if_neg hb, List.append_nil]) hI (by simp (disch := omega) only [getK_set, Nat.reduceEqDiff, ↓reduceIte, g0, g1, g2, g5, and_self])
    | true =>
      rw [h2] at lxd
      cases h3 : rat L y d with
      | true =>
        rw [h3] at lyd
        have hb : ¬ fcA L x y d = true := by unfold fcA; rw [h2, h3]; simp
        simp (disch := omega) only [f102_r1, f102_r2, f102_r3, w_skip, w_reg, w_draw, w_seq, w_cond, w_block, seqK_n, ckB_b, cbB_b, okG_b, asG_t, true_and, x_nil, x_g, x_mv, x_as, x_pick, x_ld, x_bin, x_not, x_fadr, x_iadr, kx, rvP_ok, okv_some, ev_t, ev_c, getV_some, putD_some, bin_lss, pick_b, onB_b, onP_p, idx_n, of0, getK_set, Nat.reduceEqDiff, ↓reduceIte, Bool.false_eq_true, Bool.not_true, of7, g1, g2, g5, d0, la0, la1, lxd, lyd]
        exact rest _ _ _ (by rw [if_neg hb, List.append_nil]) hI (by simp (disch := omega) only [getK_set, Nat.reduceEqDiff, ↓reduceIte, g0, g1, g2, g5, and_self])
      | false =>
        rw [h3] at lyd
        have hb : fcA L x y d = true := by unfold fcA; rw [h2, h3]; rfl
        have hsp : fcY L x y = fcT L x y d ++ ((x, d) :: ((if fcB L x y d = true then [(d, y)] else []) ++ R)) := by
          unfold fcY; rw [hR]; unfold fcN; rw [if_pos hb]; simp
        have hi : (fcT L x y d).length < (fcY L x y).length := by rw [hsp]; simp
        have hg : (fcY L x y)[(fcT L x y d).length] = (x, d) := by simp [hsp]
        obtain ⟨r, h', ⟨n, hn⟩, hT, hF⟩ := round (fcT L x y d).length h1 h1 (aV (x, d)) hi hI (Grow.refl _ _) (by show aV (x, d) = aV _; rw [hg]) (fun _ _ _ _ e => by cases e)
        have hav : V.agg [.i .i64 (x : Int), .i .i64 (d : Int)] = aV (x, d) := rfl
        simp (disch := omega) only [f102_r1, f102_r2, f102_r3, w_skip, w_reg, w_seq, w_cond, w_block, seqK_n, ckB_b, cbB_b, okG_b, asG_t, true_and, x_nil, x_g, x_mv, x_as, x_pick, x_build, x_ld, x_bin, x_not, x_fadr, x_iadr, x_call, kx, rvP_ok, okv_some, ev_t, ev_c, evs_nil, evs_cons, getV_some, putD_some, bin_lss, pick_b, onB_b, onP_p, oGet_s, idx_n, cells1_i, of0, getK_set, Nat.reduceEqDiff, ↓reduceIte, Bool.not_false, fill_2, set_2, of7, g0, g1, g2, g5, d0, la0, la1, lxd, lyd, fill_2, set_2, hav]
        refine ⟨n, _, _, hn, ?_⟩
        cases r with
        | true =>
          simp (disch := omega) only [w_skip, w_draw, w_seq, w_cond, seqK_n, ckB_b, cbB_b, okG_b, asG_t, true_and, x_nil, x_g, x_pick, x_not, kx, rvP_ok, ev_t, ev_c, getV_some, putD_some, pick_b, onB_b, getK_set, Nat.reduceEqDiff, ↓reduceIte, Bool.false_eq_true, Bool.not_true]
          exact rest _ _ (fcT L x y d ++ [(x, d)]) (by rw [if_pos hb]) (by rw [List.length_append]; exact hT rfl) (by simp (disch := omega) only [getK_set, Nat.reduceEqDiff, ↓reduceIte, g0, g1, g2, g5, and_self])
        | false =>
          simp (disch := omega) only [f102_rs, w_cond, w_ret, seqK_n, seqK_r, atK_r, loopK_r, ckB_b, cbB_b, okG_b, asG_t, true_and, retK_r, x_nil, x_g, x_pick, x_not, kx, rvP_ok, ev_t, ev_c, getV_some, putD_some, pick_b, onB_b, readRs_nil, retV_0, Option.some.injEq, exists_eq_left', getK_set, Nat.reduceEqDiff, ↓reduceIte, Bool.not_false]
          exact .inr (hF rfl)
  · have d0 : decide ((d : Int) < 7) = false := decide_eq_false (by omega)
    have e7 : d = 7 := by omega
    subst e7
    simp (disch := omega) only [f102_r1, f102_rs, w_reg, w_seq, w_cond, w_exit, seqK_n, seqK_e, atK_e, loopK_e, ckB_b, cbB_b, true_and, retK_n, x_nil, x_bin, kx, rvP_ok, okv_some, ev_t, ev_c, getV_some, putD_some, bin_lss, readRs_nil, retV_0, Option.some.injEq, exists_eq_left', getK_set, ↓reduceIte, Bool.false_eq_true, of7, g5, d0]
    exact .inl ⟨h1, hI, Grow.refl _ _⟩
theorem f86_ret {L : List Bool} {x : Nat × Nat} (hL : L.length = 49) (hc : HC h) : Ret fs f86 [rV L, aV x] h fun r h' => ∃ idr ida, r = .fn (.ofNat 102) [.p idr 0, .p ida 0] ∧ h.nx.nat ≤ idr.nat ∧ h.nx.nat ≤ ida.nat ∧ idr.nat < h'.nx.nat ∧ ida.nat < h'.nx.nat ∧ Grow h.nx.nat h h' ∧ h'.get idr = rC L ∧ h'.get ida = .cells 2 [.i .i64 (x.1 : Int), .i .i64 (x.2 : Int)] := by
  have _ := hc
  apply ret_of rfl
  show W fs none f86_c _ _ _
  unfold f86_c
  have c1 := rC_cells hL
  have c2 : cellsN 2 (aV x) = some [.i .i64 (x.1 : Int), .i .i64 (x.2 : Int)] := rfl
  have n1 := nx_new h (.cells 49 (L.map V.b))
  have gr1 : Grow h.nx.nat h (h.new (.cells 49 (L.map V.b))) := Grow.new (Nat.le_refl _) _
  have e1 : (h.new (.cells 49 (L.map V.b))).get h.nx = rC L := get_new_same
  simp (disch := omega) only [f86_r0, f86_r1, f86_rs, w_reg, w_seq, w_ret, seqK_n, retK_r, x_nil, x_as, x_box, x_mkfn, kx, rvP_ok, ev_t, ev_c, evs_nil, evs_cons, getV_some, putD_some, oGet_s, readRs_nil, readRs_t, retV_1, frame_2, Option.some.injEq, exists_eq_left', getK_set, Nat.reduceEqDiff, ↓reduceIte, c1, c2]
  generalize h.new (.cells 49 (L.map V.b)) = h1 at *
  have n2 := nx_new h1 (.cells 2 [.i .i64 (x.1 : Int), .i .i64 (x.2 : Int)])
  have gr2 : Grow h1.nx.nat h1 (h1.new (.cells 2 [.i .i64 (x.1 : Int), .i .i64 (x.2 : Int)])) := Grow.new (Nat.le_refl _) _
  exact ⟨h.nx, h1.nx, rfl, Nat.le_refl _, by omega, by omega, by omega, gr1.trans (gr2.low (by omega)), (gr2.old _ (by omega)).trans e1, get_new_same⟩
theorem keyEq_aV {x y : Nat × Nat} (hx : x.1 < 7 ∧ x.2 < 7) (hy : y.1 < 7 ∧ y.2 < 7) : keyEq (.many [some .i64, some .i64]) (aV x) (aV y) = some (decide (x = y)) := by
  have r : ∀ n : Nat, n < 7 → inR .i64 (n : Int) = true := fun n hn => by
    show Nat.ble n (kmax .i64) = true
    exact Nat.ble_eq_true_of_le (by show n ≤ 9223372036854775807; omega)
  have := keyEq_2 (r _ hx.1) (r _ hx.2) (r _ hy.1) (r _ hy.2)
  rw [show keyEq (.many [some .i64, some .i64]) (aV x) (aV y) = _ from this]
  congr 1
  rw [← Bool.decide_and]
  exact decide_eq_decide.2 ⟨fun h => Prod.ext (by omega) (by omega), fun h => by rw [h]; exact ⟨rfl, rfl⟩⟩
theorem f55_ret {L : List Bool} {x y : Nat × Nat} (h86 : fs.get (.ofNat 86) = some f86) (h102 : fs.get (.ofNat 102) = some f102) (hL : L.length = 49) (hx : x.1 < 7 ∧ x.2 < 7) (hy : y.1 < 7 ∧ y.2 < 7) (hc : HC h) : Ret fs f55 [rV L, aV x, aV y] h fun r _ => r = .b (decide (y ∈ fcY L x.1 x.2)) := by
  apply ret_of rfl
  show W fs none f55_c _ _ _
  unfold f55_c
  have c1 := rC_cells hL
  have c2 : cellsN 2 (aV x) = some [.i .i64 (x.1 : Int), .i .i64 (x.2 : Int)] := rfl
  have c3 : cellsN 2 (aV y) = some [.i .i64 (y.1 : Int), .i .i64 (y.2 : Int)] := rfl
  have n1 := nx_new h (.cells 49 (L.map V.b))
  have gr1 : Grow h.nx.nat h (h.new (.cells 49 (L.map V.b))) := Grow.new (Nat.le_refl _) _
  have e1 : (h.new (.cells 49 (L.map V.b))).get h.nx = rC L := get_new_same
  simp (disch := omega) only [f55_r0, w_reg, w_seq, seqK_n, x_nil, x_alloc, x_box, kx, rvP_ok, ev_t, getV_some, putD_some, oGet_s, frame_3, getK_set, Nat.reduceEqDiff, ↓reduceIte, c1, c2, c3]
  generalize h.new (.cells 49 (L.map V.b)) = h1 at *
  have n2 := nx_new h1 (.cells 2 [.i .i64 (x.1 : Int), .i .i64 (x.2 : Int)])
  have gr2 : Grow h1.nx.nat h1 (h1.new (.cells 2 [.i .i64 (x.1 : Int), .i .i64 (x.2 : Int)])) := Grow.new (Nat.le_refl _) _
  have e2 : (h1.new (.cells 2 [.i .i64 (x.1 : Int), .i .i64 (x.2 : Int)])).get h1.nx = .cells 2 [.i .i64 (x.1 : Int), .i .i64 (x.2 : Int)] := get_new_same
  generalize h1.new (.cells 2 [.i .i64 (x.1 : Int), .i .i64 (x.2 : Int)]) = h2 at *
  have n3 := nx_new h2 (.cells 2 [.i .i64 (y.1 : Int), .i .i64 (y.2 : Int)])
  have gr3 : Grow h2.nx.nat h2 (h2.new (.cells 2 [.i .i64 (y.1 : Int), .i .i64 (y.2 : Int)])) := Grow.new (Nat.le_refl _) _
  have e3 : (h2.new (.cells 2 [.i .i64 (y.1 : Int), .i .i64 (y.2 : Int)])).get h2.nx = .cells 2 [.i .i64 (y.1 : Int), .i .i64 (y.2 : Int)] := get_new_same
  generalize h2.new (.cells 2 [.i .i64 (y.1 : Int), .i .i64 (y.2 : Int)]) = h3 at *
  have n4 := nx_new h3 (.cells 1 [.b false])
  have gr4 : Grow h3.nx.nat h3 (h3.new (.cells 1 [.b false])) := Grow.new (Nat.le_refl _) _
  have e4 : (h3.new (.cells 1 [.b false])).get h3.nx = .cells 1 [.b false] := get_new_same
  generalize h3.new (.cells 1 [.b false]) = h4 at *
  have hc4 := gr4.hc (gr3.hc (gr2.hc (gr1.hc hc)))
  have e1' := (gr4.old h.nx (by omega)).trans ((gr3.old h.nx (by omega)).trans ((gr2.old h.nx (by omega)).trans e1))
  have e2' := (gr4.old h1.nx (by omega)).trans ((gr3.old h1.nx (by omega)).trans e2)
  have e3' := (gr4.old h2.nx (by omega)).trans e3
  have hav : V.agg [.i .i64 (x.1 : Int), .i .i64 (x.2 : Int)] = aV x := rfl
  simp (disch := omega) only [f55_r1, x_ldn, x_call, kx, rvP_ok, ev_t, ev_c, evs_nil, evs_cons, getV_some, putD_some, getK_set, Nat.reduceEqDiff, ↓reduceIte, rC_ldn hL e1', ldn2 e2', hav]
  refine (callP_0 (ef := f86) h86 rfl (f86_ret hL hc4)).mono ?_
  rintro r h5 ⟨idr, ida, rfl, o1, o2, o3, o4, gr5, er, ea⟩
  have hc5 := gr5.hc hc4
  have e3'' := (gr5.old h2.nx (by omega)).trans e3'
  have e4' := (gr5.old h3.nx (by omega)).trans e4
  have n5 := gr5.nx
  simp (disch := omega) only [w_block, seqK_n, x_nil, kx, putD_some]
  generalize hfr : T.set (K.ofNat 10) _ _ = fr
  have g3 : fr.get (K.ofNat 3) = some (.p h.nx 0) := by rw [← hfr]; simp only [getK_set, Nat.reduceEqDiff, ↓reduceIte]
  have g4 : fr.get (K.ofNat 4) = some (.p h1.nx 0) := by rw [← hfr]; simp only [getK_set, Nat.reduceEqDiff, ↓reduceIte]
  have g5 : fr.get (K.ofNat 5) = some (.p h2.nx 0) := by rw [← hfr]; simp only [getK_set, Nat.reduceEqDiff, ↓reduceIte]
  have g6 : fr.get (K.ofNat 6) = some (.p h3.nx 0) := by rw [← hfr]; simp only [getK_set, Nat.reduceEqDiff, ↓reduceIte]
  have g10 : fr.get (K.ofNat 10) = some (.fn (K.ofNat 102) [.p idr 0, .p ida 0]) := by rw [← hfr]; simp only [getK_set, ↓reduceIte]
  clear hfr
  refine W_itr (by simp (disch := omega) only [ev_t, getV_some, g10]) (forced_yields hL hx.1 hx.2 h102) (fun id => id = h3.nx) (fun i h6 => y ∉ (fcY L x.1 x.2).take i ∧ h6.get h3.nx = .cells 1 [.b false]) (fun e h6 => e = .ret ∧ y ∈ fcY L x.1 x.2 ∧ h6.get h3.nx = .cells 1 [.b true]) hc5 rfl (by rintro id rfl; omega)
    (fun h6 ks => ⟨(ks.old _ (by omega) (fun e => by have := congrArg K.nat e; omega)).trans er, (ks.old _ (by omega) (fun e => by have := congrArg K.nat e; omega)).trans ea⟩) ?_ ?_ ?_ ?_ ?_ ?_
  · rintro i h6 h7 ⟨he, q2⟩ _ hn ho
    exact ⟨he, by rw [ho _ (by omega) (kNe (by omega))]; exact q2⟩
  · rintro e h6 h7 ⟨he, q1, q2⟩ _ hn ho
    exact ⟨he, q1, by rw [ho _ (by omega) (kNe (by omega))]; exact q2⟩
  · exact fun h6 hg => ⟨by simp, (hg.old _ (by omega)).trans e4'⟩
  · rintro i ⟨a, b⟩ h6 hxi hk hn ⟨q1, q2⟩
    obtain ⟨hst, gB, c7, n7⟩ := arr_var (h := h6) (x := a) (y := b)
    obtain ⟨ha, hb, _⟩ := fcY_lt hx.1 hx.2 (List.mem_of_getElem? hxi)
    have b2 := (gB.old h3.nx (by omega)).trans q2
    have b3 := (gB.old h2.nx (by omega)).trans ((hk.old h2.nx (by omega) (fun e => by have := congrArg K.nat e; omega)).trans e3'')
    unfold f55_a0
    simp (disch := omega) only [f55_r2, w_reg, x_nil, x_alloc, x_st, kx, rvP_ok, ev_t, getV_some, putD_some, putD_none, of0, getK_set, Nat.reduceEqDiff, ↓reduceIte, hst, itA_n]
    generalize (h6.new (.cells 2 [.i .i64 0, .i .i64 0])).put h6.nx (.cells 2 [.i .i64 (a : Int), .i .i64 (b : Int)]) = h7 at *
    refine ⟨gB, fun h8 n8 hc8 o8 _ => ?_⟩
    have n8' : h8.nx.nat = h7.nx.nat := congrArg K.nat n8
    have l1 := ldn2 ((o8 _ (kNe hn).symm).trans c7)
    have b2' := (o8 h3.nx (kNe (by omega))).trans b2
    have l2 := ldn2 ((o8 h2.nx (kNe (by omega))).trans b3)
    have ht : (fcY L x.1 x.2).take (i + 1) = (fcY L x.1 x.2).take i ++ [(a, b)] := by rw [List.take_add_one, hxi]; rfl
    have hq := keyEq_aV (x := (a, b)) (y := y) ⟨ha, hb⟩ hy
    have hav1 : V.agg [.i .i64 (a : Int), .i .i64 (b : Int)] = aV (a, b) := rfl
    have hav2 : V.agg [.i .i64 (y.1 : Int), .i .i64 (y.2 : Int)] = aV y := rfl
    unfold f55_b0
    by_cases e : (a, b) = y
    · have d0 : decide ((a, b) = y) = true := decide_eq_true e
      rw [d0] at hq
      have s1 : storeV h8 1 (.p h3.nx 0) (.b true) = .ok undefV (h8.put h3.nx (.cells 1 [.b true])) := st1 b2' rfl
      simp (disch := omega) only [f55_r3, f55_r4, w_reg, w_seq, w_cond, w_block, w_ret, seqK_n, atK_r, ckB_b, cbB_b, true_and, x_nil, x_ldn, x_st, x_eqk, kx, rvP_ok, okv_some, ev_t, ev_c, getV_some, putD_some, putD_none, oGet_s, getK_set, Nat.reduceEqDiff, ↓reduceIte, g5, g6, l1, l2, hav1, hav2, hq, s1, cond_false, itC_r]
      refine ⟨⟨by rw [← e]; exact List.mem_of_getElem? hxi, get_put_same⟩, ?_⟩
      have hk8 : Kr (fun id => id = h3.nx) h5.nx h8 h8 := Kr.refl hc8
      exact hk8.put (by omega) (.inl rfl) _
    · have d0 : decide ((a, b) = y) = false := decide_eq_false e
      rw [d0] at hq
      simp (disch := omega) only [f55_r3, w_skip, w_reg, w_seq, w_cond, w_block, seqK_n, atK_n, ckB_b, cbB_b, true_and, x_nil, x_ldn, x_eqk, kx, rvP_ok, okv_some, ev_t, getV_some, putD_some, oGet_s, getK_set, Nat.reduceEqDiff, ↓reduceIte, Bool.false_eq_true, g5, l1, l2, hav1, hav2, hq, cond_false, itC_n]
      refine ⟨⟨by rw [ht, List.mem_append, List.mem_singleton]; exact fun h => h.elim q1 (fun h => e h.symm), b2'⟩, Kr.refl hc8⟩
  · rintro h6 ⟨q1, q2⟩ hk hn
    rw [List.take_length] at q1
    have s1 : storeV h6 1 (.p h3.nx 0) (.b false) = .ok undefV (h6.put h3.nx (.cells 1 [.b false])) := st1 q2 rfl
    have r1 : readP (h6.put h3.nx (.cells 1 [.b false])) (.p h3.nx 0) one? = some (.b false) := rd1 get_put_same
    simp (disch := omega) only [f55_r5, f55_rs, w_reg, w_seq, w_ret, seqK_n, atK_n, retK_r, x_nil, x_st, kx, rvP_ok, ev_t, ev_c, getV_some, putD_none, oGet_s, readRs_nil, readRs_c, retV_1, Option.some.injEq, exists_eq_left', g6, s1, r1]
    rw [decide_eq_false q1]
  · rintro e h6 _ ⟨rfl, q1, q2⟩ hk hn
    have r1 : readP h6 (.p h3.nx 0) one? = some (.b true) := rd1 q2
    simp (disch := omega) only [f55_rs, seqK_r, atK_r, retK_r, getV_some, oGet_s, readRs_nil, readRs_c, retV_1, Option.some.injEq, exists_eq_left', g6, r1]
    rw [decide_eq_true q1]
end
end Go.Ev
namespace Go.Ev
open Go Go.RowKit
noncomputable def f57_r0 : List EOper := [⟨some (.ofNat 2), none, .box 49 (.t (.ofNat 0))⟩, ⟨some (.ofNat 3), none, .box 2 (.t (.ofNat 1))⟩, ⟨some (.ofNat 4), none, .alloc 49 (List.replicate 49 (.b false))⟩]
noncomputable def f57_r1 : List EOper := [⟨some (.ofNat 9), none, .ldn 2 (.t (.ofNat 3))⟩, ⟨some (.ofNat 10), none, .call (.c (.fn (.ofNat 78) [])) [(.t (.ofNat 9))]⟩, ⟨some (.ofNat 11), none, .bslice 1 2 [(.i .i64 (.ofNat 0)), (.i .i64 (.ofNat 0))] [(0, 2, (.t (.ofNat 10)))]⟩, ⟨some (.ofNat 12), none, .call (.c (.fn (.ofNat 71) [])) [(.t (.ofNat 11))]⟩, ⟨some (.ofNat 5), none, .alloc 49 (List.replicate 49 (.b false))⟩, ⟨none, none, .st 49 (.t (.ofNat 5)) (.t (.ofNat 12))⟩]
noncomputable def f57_r2 : List EOper := [⟨some (.ofNat 13), none, .ldn 49 (.t (.ofNat 5))⟩, ⟨some (.ofNat 6), none, .alloc 49 (List.replicate 49 (.b false))⟩, ⟨none, none, .st 49 (.t (.ofNat 6)) (.t (.ofNat 13))⟩]
noncomputable def f57_r3 : List EOper := [⟨some (.ofNat 14), none, .ldn 49 (.t (.ofNat 5))⟩, ⟨some (.ofNat 15), none, .call (.c (.fn (.ofNat 84) [])) [(.t (.ofNat 14))]⟩]
noncomputable def f57_r4 : List EOper := [⟨some (.ofNat 7), none, .alloc 2 [(.i .i64 (.ofNat 0)), (.i .i64 (.ofNat 0))]⟩, ⟨none, none, .st 2 (.t (.ofNat 7)) (.t (.ofNat 16))⟩]
noncomputable def f57_a0 : EC := (.reg f57_r4)
noncomputable def f57_r5 : List EOper := [⟨some (.ofNat 17), none, .ldn 49 (.t (.ofNat 2))⟩, ⟨some (.ofNat 18), none, .ldn 2 (.t (.ofNat 7))⟩, ⟨some (.ofNat 19), none, .call (.c (.fn (.ofNat 86) [])) [(.t (.ofNat 17)), (.t (.ofNat 18))]⟩]
noncomputable def f57_r6 : List EOper := [⟨some (.ofNat 8), none, .alloc 2 [(.i .i64 (.ofNat 0)), (.i .i64 (.ofNat 0))]⟩, ⟨none, none, .st 2 (.t (.ofNat 8)) (.t (.ofNat 20))⟩]
noncomputable def f57_a1 : EC := (.reg f57_r6)
noncomputable def f57_r7 : List Stage := [⟨[⟨some (.ofNat 21), none, .fadr 0 (.t (.ofNat 8))⟩, ⟨some (.ofNat 22), none, .ld (.t (.ofNat 21))⟩, ⟨some (.ofNat 23), none, .fadr 1 (.t (.ofNat 8))⟩, ⟨some (.ofNat 24), none, .ld (.t (.ofNat 23))⟩, ⟨some (.ofNat 25), none, .iadr 7 7 (.t (.ofNat 6)) (.t (.ofNat 22))⟩, ⟨some (.ofNat 26), none, .iadr 7 1 (.t (.ofNat 25)) (.t (.ofNat 24))⟩], [], (some ⟨none, none, .st 1 (.t (.ofNat 26)) (.c (.b true))⟩), []⟩, ⟨[], [], none, []⟩]
noncomputable def f57_b0 : EC := (.block 5 (.draw f57_r7))
noncomputable def f57_b1 : EC := (.block 3 (.seq (.reg f57_r5) (.block 4 (.rangeF (.t (.ofNat 19)) [(.ofNat 20)] f57_a1 f57_b0))))
noncomputable def f57_r8 : List EOper := [⟨some (.ofNat 27), none, .ldn 49 (.t (.ofNat 6))⟩, ⟨some (.ofNat 28), none, .ldn 49 (.t (.ofNat 5))⟩, ⟨some (.ofNat 29), none, .eqk (.many (List.replicate 49 none)) false (.t (.ofNat 27)) (.t (.ofNat 28))⟩]
noncomputable def f57_r9 : List EOper := [⟨some (.ofNat 30), none, .ldn 49 (.t (.ofNat 5))⟩, ⟨none, none, .st 49 (.t (.ofNat 4)) (.t (.ofNat 30))⟩]
noncomputable def f57_r10 : List EOper := [⟨some (.ofNat 31), none, .ldn 49 (.t (.ofNat 6))⟩, ⟨none, none, .st 49 (.t (.ofNat 5)) (.t (.ofNat 31))⟩]
noncomputable def f57_l0 : EC := (.block 1 (.seq (.reg f57_r2) (.seq (.seq (.reg f57_r3) (.block 2 (.rangeF (.t (.ofNat 15)) [(.ofNat 16)] f57_a0 f57_b1))) (.seq (.seq (.reg f57_r8) (.cond (.t (.ofNat 29)) (.seq (.reg f57_r9) .ret) .skip)) (.reg f57_r10)))))
noncomputable def f57_c : EC := (.seq (.reg f57_r0) (.seq (.reg f57_r1) (.block 0 (.loop f57_l0))))
noncomputable def f57 : EF := ⟨32, [.celln (.ofNat 4) 49], f57_c, none⟩
theorem f57_rs : f57.rs = [.celln (.ofNat 4) 49] := of_eq_true (eq_self _)
section
variable {fs : T EF} {h h' : H}
theorem Sk.lit2o {x : Int × Int} : Sk 2 qE (h.new (.cells (1 * 2) [.i .i64 x.1, .i .i64 x.2])) (.sl h.nx 0 1 2) [x] := .inr ⟨h.nx, 0, 1 * 2, _, rfl, get_new_same, rfl, by simp, rfl⟩
theorem Sk.srpo {v : V} {L : List (Int × Int)} (hs : Sk 2 qE h v L) : Srp h v L := by
  rcases hs with ⟨rfl, rfl⟩ | ⟨id, off, m, cs, rfl, h1, h2, h3, h4⟩
  · exact .inl ⟨rfl, rfl, rfl⟩
  · exact .inr ⟨id, off, m, cs, rfl, .inl h1, h2, h3, h4⟩
def Er (L : List Bool) (a b : Nat) : Prop := rat L a b = true
open Classical in
/-- The class of an arrow. -/
noncomputable def clsR (L : List Bool) (x : Nat × Nat) : List Bool := rl fun a b => decide (Rch (Er L) x.1 x.2 a b)
theorem clsR_len {L : List Bool} {x : Nat × Nat} : (clsR L x).length = 49 := rl_len
theorem clsR_iff {L : List Bool} {x : Nat × Nat} (hx : x.1 < 7 ∧ x.2 < 7) {a b : Nat} : rat (clsR L x) a b = true ↔ Rch (Er L) x.1 x.2 a b := by
  unfold clsR
  rw [rat_rl]
  simp only [Bool.and_eq_true, decide_eq_true_eq]
  refine ⟨fun h => h.2, fun h => ⟨?_, h⟩⟩
  cases h with
  | refl => exact hx
  | out _ h1 _ => exact rat_lt h1
  | inn _ h1 _ => exact rat_lt h1
def cntT (C : List Bool) : Nat := C.count true
theorem cntT_le {C : List Bool} (h : C.length = 49) : cntT C ≤ 49 := by unfold cntT; rw [← h]; exact List.count_le_length
theorem cntT_lt : ∀ {C D : List Bool}, C.length = D.length → (∀ i (h1 : i < C.length) (h2 : i < D.length), C[i] = true → D[i] = true) → cntT C ≤ cntT D ∧ (C ≠ D → cntT C < cntT D)
  | [], [], _, _ => ⟨Nat.le_refl _, fun h => absurd rfl h⟩
  | [], _ :: _, h, _ => by simp at h
  | _ :: _, [], h, _ => by simp at h
  | x :: C, y :: D, hl, hi => by
    obtain ⟨h1, h2⟩ := cntT_lt (C := C) (D := D) (by simpa using hl) fun i q1 q2 hq => hi (i + 1) (by simpa using q1) (by simpa using q2) hq
    have h0 := hi 0 (by simp) (by simp)
    simp only [List.getElem_cons_zero] at h0
    unfold cntT at h1 h2 ⊢
    rw [List.count_cons, List.count_cons]
    cases x <;> cases y <;> simp_all
    · omega
def clP (L C : List Bool) (i : Nat) (a b : Nat) : Bool := rat C a b || ((arw (rat C)).take i).any fun p => decide ((a, b) ∈ fcY L p.1 p.2)
def clN (L C : List Bool) : List Bool := rl (clP L C (arw (rat C)).length)
theorem clP_succ {L C : List Bool} {i : Nat} {x : Nat × Nat} (hx : (arw (rat C))[i]? = some x) : rl (onF (fcY L x.1 x.2) true (clP L C i)) = rl (clP L C (i + 1)) := by
  refine rl_congr fun a b _ _ => ?_
  unfold onF clP
  rw [List.take_add_one, hx]
  simp only [Option.toList_some, List.any_append, List.any_cons, List.any_nil, Bool.or_false]
  by_cases e : (a, b) ∈ fcY L x.1 x.2
  · rw [if_pos e, decide_eq_true e]; simp
  · rw [if_neg e, decide_eq_false e]; simp
theorem clN_iff {L C : List Bool} {a b : Nat} : rat (clN L C) a b = true ↔ a < 7 ∧ b < 7 ∧ (rat C a b = true ∨ ∃ p : Nat × Nat, rat C p.1 p.2 = true ∧ (a, b) ∈ fcY L p.1 p.2) := by
  unfold clN clP
  rw [rat_rl, List.take_length]
  simp only [Bool.and_eq_true, decide_eq_true_eq, Bool.or_eq_true, List.any_eq_true, and_assoc]
  refine and_congr Iff.rfl (and_congr Iff.rfl (or_congr Iff.rfl ⟨?_, ?_⟩))
  · rintro ⟨⟨p, q⟩, h1, h2⟩
    exact ⟨(p, q), (mem_arw.1 h1).2.2, h2⟩
  · rintro ⟨⟨p, q⟩, h1, h2⟩
    exact ⟨(p, q), mem_arw.2 ⟨(rat_lt h1).1, (rat_lt h1).2, h1⟩, h2⟩
structure ClI (L : List Bool) (x : Nat × Nat) (C : List Bool) : Prop where
  len : C.length = 49
  beg : rat C x.1 x.2 = true
  inn : ∀ a b, rat C a b = true → Rch (Er L) x.1 x.2 a b
theorem ClI.step {L C : List Bool} {x : Nat × Nat} (k : ClI L x C) : ClI L x (clN L C) := by
  refine ⟨rl_len, clN_iff.2 ⟨(rat_lt k.beg).1, (rat_lt k.beg).2, .inl k.beg⟩, fun a b h => ?_⟩
  rcases (clN_iff.1 h).2.2 with h | ⟨p, h1, h2⟩
  · exact k.inn _ _ h
  · have := k.inn _ _ h1
    rcases mem_fcY.1 h2 with ⟨e, h3⟩ | ⟨e, h3⟩
    · unfold fcA at h3
      simp only [Bool.and_eq_true, Bool.not_eq_true'] at h3
      have e : a = p.1 := e
      rw [e]
      exact this.out h3.1 (fun h => by have h : rat L p.2 b = true := h; rw [h3.2] at h; cases h)
    · unfold fcB at h3
      simp only [Bool.and_eq_true, Bool.not_eq_true'] at h3
      have e : b = p.2 := e
      rw [e]
      exact this.inn h3.2.1 (fun h => by have h : rat L a p.1 = true := h; rw [h3.2.2] at h; cases h)
theorem ClI.fin {L C : List Bool} {x : Nat × Nat} (k : ClI L x C) (he : clN L C = C) : C = clsR L x := by
  have hx := rat_lt k.beg
  refine rel_ext k.len clsR_len fun a b _ _ => ?_
  rw [Bool.eq_iff_iff, clsR_iff hx]
  have cl : ∀ {c d : Nat} {p : Nat × Nat}, rat C c d = true → p ∈ fcY L c d → rat C p.1 p.2 = true := fun {c d p} h1 h2 => by
    have l := fcY_lt (rat_lt h1).1 (rat_lt h1).2 h2
    have : rat (clN L C) p.1 p.2 = true := clN_iff.2 ⟨l.1, l.2.1, .inr ⟨(c, d), h1, h2⟩⟩
    rw [he] at this
    exact this
  refine ⟨k.inn a b, fun h => ?_⟩
  have all : ∀ {a b : Nat}, Rch (Er L) x.1 x.2 a b → rat C a b = true := fun {a b} h => by
    induction h with
    | refl => exact k.beg
    | @out c d e _ h1 h2 ih =>
      have h2 : ¬ rat L d e = true := h2
      have h1 : rat L c e = true := h1
      exact cl (p := (c, e)) ih (mem_fcY.2 (.inl ⟨rfl, by unfold fcA; rw [h1]; simpa using h2⟩))
    | @inn c d e _ h1 h2 ih =>
      have h2 : ¬ rat L e c = true := h2
      have h1 : rat L e d = true := h1
      by_cases ee : e = c
      · rw [ee]; exact ih
      · exact cl (p := (e, d)) ih (mem_fcY.2 (.inr ⟨rfl, by unfold fcB; rw [h1, decide_eq_true ee]; simpa using h2⟩))
  exact all h
theorem clN_cnt {L C : List Bool} (hC : C.length = 49) : C ≠ clN L C → cntT C < cntT (clN L C) := by
  refine (cntT_lt (by rw [hC]; exact rl_len.symm) fun i h1 h2 hi => ?_).2
  have hi49 : i < 49 := by omega
  have e : ∀ (M : List Bool) (hM : M.length = 49), M[i]'(by omega) = rat M (i / 7) (i % 7) := fun M hM => by
    unfold rat
    rw [decide_eq_true (show i / 7 < 7 by omega), decide_eq_true (show i % 7 < 7 by omega), show 7 * (i / 7) + i % 7 = i by omega, List.getD_eq_getElem?_getD, List.getElem?_eq_getElem (show i < M.length by omega)]
    rfl
  rw [e _ hC] at hi
  rw [e _ (show (clN L C).length = 49 from rl_len)]
  exact clN_iff.2 ⟨by omega, by omega, .inl hi⟩
def f57_I (h0 : H) (id2 id4 id5 : K) (L : List Bool) (x : Nat × Nat) (C : List Bool) (fr : Fr) (h1 : H) : Prop := ClI L x C ∧ Kp id5 h0 h1 ∧ h1.get id5 = rC C ∧ fr.get (K.ofNat 2) = some (.p id2 0) ∧ fr.get (K.ofNat 4) = some (.p id4 0) ∧ fr.get (K.ofNat 5) = some (.p id5 0)
theorem f57_ret {L : List Bool} {x : Nat × Nat} (k : Nat3 fs) (h86 : fs.get (.ofNat 86) = some f86) (h102 : fs.get (.ofNat 102) = some f102) (hL : L.length = 49) (hx : x.1 < 7 ∧ x.2 < 7) (hc : HC h) : Ret fs f57 [rV L, aV x] h fun r _ => r = rV (clsR L x) := by
  apply ret_of rfl
  show W fs none f57_c _ _ _
  unfold f57_c
  have c1 := rC_cells hL
  have c2 : cellsN 2 (aV x) = some [.i .i64 (x.1 : Int), .i .i64 (x.2 : Int)] := rfl
  have n1 := nx_new h (.cells 49 (L.map V.b))
  have gr1 : Grow h.nx.nat h (h.new (.cells 49 (L.map V.b))) := Grow.new (Nat.le_refl _) _
  have e1 : (h.new (.cells 49 (L.map V.b))).get h.nx = rC L := get_new_same
  simp (disch := omega) only [f57_r0, w_reg, w_seq, seqK_n, x_nil, x_alloc, x_box, kx, rvP_ok, ev_t, getV_some, putD_some, oGet_s, frame_2, getK_set, Nat.reduceEqDiff, ↓reduceIte, c1, c2]
  generalize h.new (.cells 49 (L.map V.b)) = h1 at *
  have n2 := nx_new h1 (.cells 2 [.i .i64 (x.1 : Int), .i .i64 (x.2 : Int)])
  have gr2 : Grow h1.nx.nat h1 (h1.new (.cells 2 [.i .i64 (x.1 : Int), .i .i64 (x.2 : Int)])) := Grow.new (Nat.le_refl _) _
  have e2 : (h1.new (.cells 2 [.i .i64 (x.1 : Int), .i .i64 (x.2 : Int)])).get h1.nx = .cells 2 [.i .i64 (x.1 : Int), .i .i64 (x.2 : Int)] := get_new_same
  generalize h1.new (.cells 2 [.i .i64 (x.1 : Int), .i .i64 (x.2 : Int)]) = h2 at *
  have n3 := nx_new h2 (.cells 49 (List.replicate 49 (.b false)))
  have gr3 : Grow h2.nx.nat h2 (h2.new (.cells 49 (List.replicate 49 (.b false)))) := Grow.new (Nat.le_refl _) _
  have e3 : (h2.new (.cells 49 (List.replicate 49 (.b false)))).get h2.nx = rC (rl fun _ _ => false) := by rw [rl_false]; exact get_new_same
  generalize h2.new (.cells 49 (List.replicate 49 (.b false))) = h3 at *
  have hc3 := gr3.hc (gr2.hc (gr1.hc hc))
  have e1' := (gr3.old h.nx (by omega)).trans ((gr2.old h.nx (by omega)).trans e1)
  have e2' := (gr3.old h1.nx (by omega)).trans e2
  have hav : V.agg [.i .i64 (x.1 : Int), .i .i64 (x.2 : Int)] = pV ((x.1 : Int), (x.2 : Int)) := rfl
  have n4 := nx_new h3 (.cells (1 * 2) [.i .i64 (x.1 : Int), .i .i64 (x.2 : Int)])
  have gr4 : Grow h3.nx.nat h3 (h3.new (.cells (1 * 2) [.i .i64 (x.1 : Int), .i .i64 (x.2 : Int)])) := Grow.new (Nat.le_refl _) _
  have hsk : Sk 2 qE (h3.new (.cells (1 * 2) [.i .i64 (x.1 : Int), .i .i64 (x.2 : Int)])) (.sl h3.nx 0 1 2) [((x.1 : Int), (x.2 : Int))] := Sk.lit2o
  have cp : cellsN 2 (pV ((x.1 : Int), (x.2 : Int))) = some [.i .i64 (x.1 : Int), .i .i64 (x.2 : Int)] := rfl
  have sp : setMany [V.i .i64 0, V.i .i64 0] 0 [V.i .i64 (x.1 : Int), V.i .i64 (x.2 : Int)] = [V.i .i64 (x.1 : Int), V.i .i64 (x.2 : Int)] := rfl
  simp (disch := omega) only [f57_r1, x_bslice, x_ldn, x_call, kx, rvP_ok, ev_t, ev_c, evs_nil, evs_cons, getV_some, putD_some, oGet_s, of0, getK_set, Nat.reduceEqDiff, ↓reduceIte, fill_0, ldn2 e2', hav, k.n78, fill_c, cp, sp]
  have hc4 := gr4.hc hc3
  generalize h3.new (.cells (1 * 2) [.i .i64 (x.1 : Int), .i .i64 (x.2 : Int)]) = h4 at *
  refine (callP_0 (ef := f71) k.c71 rfl (f71_ret hsk.srpo (fun z hz => by rw [List.mem_singleton.1 hz]; show ((0 : Int) ≤ (x.1 : Int) ∧ (x.1 : Int) < 7) ∧ ((0 : Int) ≤ (x.2 : Int) ∧ (x.2 : Int) < 7); omega) (by simp) hc4)).mono ?_
  rintro r h5 ⟨rfl, gr5⟩
  have n5 := gr5.nx
  have hR : (relR [((x.1 : Int), (x.2 : Int))]).length = 49 := rl_len
  have hCI : ClI L x (relR [((x.1 : Int), (x.2 : Int))]) := by
    refine ⟨rl_len, ?_, fun a b h => ?_⟩
    · unfold relR; rw [rat_rl, decide_eq_true hx.1, decide_eq_true hx.2]; simp
    · unfold relR at h
      rw [rat_rl] at h
      simp only [Bool.and_eq_true, decide_eq_true_eq, List.mem_singleton, Prod.mk.injEq] at h
      rw [show a = x.1 by omega, show b = x.2 by omega]
      exact .refl
  generalize relR [((x.1 : Int), (x.2 : Int))] = C0 at *
  have n6 := nx_new h5 (.cells 49 (List.replicate 49 (.b false)))
  have s6 := rC_stn hR rl_len (M := rl fun _ _ => false) (h := h5.new (.cells 49 (List.replicate 49 (.b false)))) (id := h5.nx) (by rw [rl_false]; exact get_new_same)
  have gr6 : Grow h5.nx.nat h5 ((h5.new (.cells 49 (List.replicate 49 (.b false)))).put h5.nx (rC C0)) := (Grow.new (Nat.le_refl _) _).trans (Grow.put (Nat.le_refl _) (by omega) _)
  have n6' : ((h5.new (.cells 49 (List.replicate 49 (.b false)))).put h5.nx (rC C0)).nx.nat = h5.nx.nat + 1 := n6
  have e6 : ((h5.new (.cells 49 (List.replicate 49 (.b false)))).put h5.nx (rC C0)).get h5.nx = rC C0 := get_put_same
  simp (disch := omega) only [w_block, seqK_n, x_nil, x_alloc, x_st, kx, rvP_ok, ev_t, getV_some, putD_some, putD_none, getK_set, Nat.reduceEqDiff, ↓reduceIte, s6]
  generalize (h5.new (.cells 49 (List.replicate 49 (.b false)))).put h5.nx (rC C0) = h6 at *
  have hc6 := gr6.hc (gr5.hc hc4)
  have e1'' : h6.get h.nx = rC L := (gr6.old _ (by omega)).trans ((gr5.old _ (by omega)).trans ((gr4.old _ (by omega)).trans e1'))
  have e3'' : h6.get h2.nx = rC (rl fun _ _ => false) := (gr6.old _ (by omega)).trans ((gr5.old _ (by omega)).trans ((gr4.old _ (by omega)).trans e3))
  refine W_loop (f57_I h6 h.nx h2.nx h5.nx L x) (fun C => 49 - cntT C) ?_ C0 ⟨hCI, Kp.refl hc6, e6, by simp (disch := omega) only [getK_set, Nat.reduceEqDiff, ↓reduceIte, and_self]⟩
  clear s6 n6 hCI hR
  rintro C fr h7 ⟨hCI, hk, hB, g2, g4, g5⟩
  have hkn := hk.nx
  have hC := hCI.len
  have l7 := rC_ldn hC hB
  have n8 := nx_new h7 (.cells 49 (List.replicate 49 (.b false)))
  have s8 := rC_stn hC rl_len (M := rl fun _ _ => false) (h := h7.new (.cells 49 (List.replicate 49 (.b false)))) (id := h7.nx) (by rw [rl_false]; exact get_new_same)
  have gr8 : Grow h7.nx.nat h7 ((h7.new (.cells 49 (List.replicate 49 (.b false)))).put h7.nx (rC C)) := (Grow.new (Nat.le_refl _) _).trans (Grow.put (Nat.le_refl _) (by omega) _)
  have n8' : ((h7.new (.cells 49 (List.replicate 49 (.b false)))).put h7.nx (rC C)).nx.nat = h7.nx.nat + 1 := n8
  have e8 : ((h7.new (.cells 49 (List.replicate 49 (.b false)))).put h7.nx (rC C)).get h7.nx = rC C := get_put_same
  have l8 : loadV ((h7.new (.cells 49 (List.replicate 49 (.b false)))).put h7.nx (rC C)) (.p h5.nx 0) (many? 49) = .ok (rV C) _ := rC_ldn hC ((gr8.old _ (by omega)).trans hB)
  unfold f57_l0
  simp (disch := omega) only [f57_r2, f57_r3, w_reg, w_seq, w_block, seqK_n, x_nil, x_alloc, x_ldn, x_st, x_call, kx, rvP_ok, ev_t, ev_c, evs_nil, evs_cons, getV_some, putD_some, putD_none, getK_set, Nat.reduceEqDiff, ↓reduceIte, g5, l7, s8, l8]
  generalize (h7.new (.cells 49 (List.replicate 49 (.b false)))).put h7.nx (rC C) = h8 at *
  have k8 := hk.grow gr8 hkn
  refine (callP_0 (ef := f84) k.c84 rfl (f84_ret hC)).mono ?_
  rintro r h9 ⟨rfl, rfl⟩
  have n9 := nx_new h8 (rC C)
  have gr9 : Grow h8.nx.nat h8 (h8.new (rC C)) := Grow.new (Nat.le_refl _) _
  have e9 : (h8.new (rC C)).get h8.nx = rC C := get_new_same
  have k9 := k8.grow gr9 (by omega)
  have b9 := (gr9.old h7.nx (by omega)).trans e8
  have eL9 := (k9.old h.nx (by omega) (kNe (by omega))).trans e1''
  simp (disch := omega) only [w_block, seqK_n, x_nil, kx, putD_some]
  generalize h8.new (rC C) = h9 at *
  generalize hfr : T.set (K.ofNat 15) _ _ = fr
  have g2 : fr.get (K.ofNat 2) = some (.p h.nx 0) := by rw [← hfr]; simp only [getK_set, Nat.reduceEqDiff, ↓reduceIte, g2]
  have g4 : fr.get (K.ofNat 4) = some (.p h2.nx 0) := by rw [← hfr]; simp only [getK_set, Nat.reduceEqDiff, ↓reduceIte, g4]
  have g5 : fr.get (K.ofNat 5) = some (.p h5.nx 0) := by rw [← hfr]; simp only [getK_set, Nat.reduceEqDiff, ↓reduceIte, g5]
  have g6 : fr.get (K.ofNat 6) = some (.p h7.nx 0) := by rw [← hfr]; simp only [getK_set, Nat.reduceEqDiff, ↓reduceIte]
  have g15 : fr.get (K.ofNat 15) = some (.fn (K.ofNat 101) [.p h8.nx 0]) := by rw [← hfr]; simp only [getK_set, ↓reduceIte]
  clear hfr
  have eP0 : rl (clP L C 0) = C := by
    rw [← rl_rat hC]
    refine rl_congr fun a b _ _ => ?_
    unfold clP; rw [rl_rat hC]; simp
  refine W_itr (by simp (disch := omega) only [ev_t, getV_some, g15]) (all_yieldsR hC k.c101) (fun id => id = h7.nx) (fun i h1 => h1.get h7.nx = rC (rl (clP L C i))) (fun _ _ => False) k9.hc rfl (by rintro id rfl; omega)
    (fun h1 ks => (ks.old _ (by omega) (fun e => by have := congrArg K.nat e; omega)).trans e9) ?_ (fun _ _ _ h _ _ _ => h.elim) ?_ ?_ ?_ (fun _ _ _ h => h.elim)
  · intro i h1 h2 q1 _ hn ho
    rw [ho _ (by omega) (kNe (by omega))]; exact q1
  · intro h1 hg
    rw [hg.old _ (by omega), b9, eP0]
  · rintro i ⟨a, b⟩ ha hxi hka hn q1
    obtain ⟨l1, l2, _⟩ := arw_lt (List.mem_of_getElem? hxi)
    have l1 : a < 7 := l1
    have l2 : b < 7 := l2
    obtain ⟨hst, gB, c7, nb⟩ := arr_var (h := ha) (x := a) (y := b)
    have qb := (gB.old h7.nx (by omega)).trans q1
    have qL := (gB.old h.nx (by omega)).trans ((hka.old h.nx (by omega) (fun e => by have := congrArg K.nat e; omega)).trans eL9)
    unfold f57_a0
    simp (disch := omega) only [f57_r4, w_reg, x_nil, x_alloc, x_st, kx, rvP_ok, ev_t, getV_some, putD_some, putD_none, of0, getK_set, Nat.reduceEqDiff, ↓reduceIte, hst, itA_n]
    generalize (ha.new (.cells 2 [.i .i64 0, .i .i64 0])).put ha.nx (.cells 2 [.i .i64 (a : Int), .i .i64 (b : Int)]) = hb at *
    refine ⟨gB, fun h3 n3 hc3 o3 lp3 => ?_⟩
    have n3' : h3.nx.nat = hb.nx.nat := congrArg K.nat n3
    have lL := rC_ldn hL ((o3 h.nx (kNe (by omega))).trans qL)
    have la := ldn2 ((o3 _ (kNe hn).symm).trans c7)
    have qb3 := (o3 h7.nx (kNe (by omega))).trans qb
    have hav1 : V.agg [.i .i64 (a : Int), .i .i64 (b : Int)] = aV (a, b) := rfl
    unfold f57_b1
    simp (disch := omega) only [f57_r5, w_reg, w_seq, w_block, x_ldn, x_call, kx, rvP_ok, ev_t, ev_c, evs_nil, evs_cons, getV_some, putD_some, getK_set, Nat.reduceEqDiff, ↓reduceIte, g2, lL, la, hav1]
    refine (callP_0 (ef := f86) h86 rfl (f86_ret (x := (a, b)) hL hc3)).mono ?_
    rintro r h4 ⟨idr, ida, rfl, o1, o2, o3', o4, gr10, er, ea⟩
    have hc4' := gr10.hc hc3
    have n10 := gr10.nx
    have qb4 := (gr10.old h7.nx (by omega)).trans qb3
    have kr4 : Kr (fun id => id = h7.nx) h9.nx h3 h4 := Kr.of hc3 gr10 (by omega)
    simp (disch := omega) only [w_block, seqK_n, x_nil, kx, putD_some]
    generalize hfr : T.set (K.ofNat 19) _ _ = fr2
    have f19 : fr2.get (K.ofNat 19) = some (.fn (K.ofNat 102) [.p idr 0, .p ida 0]) := by rw [← hfr]; simp only [getK_set, ↓reduceIte]
    have f6 : fr2.get (K.ofNat 6) = some (.p h7.nx 0) := by rw [← hfr]; simp only [getK_set, Nat.reduceEqDiff, ↓reduceIte, g6]
    clear hfr
    refine W_itr (by simp (disch := omega) only [ev_t, getV_some, f19]) (forced_yields hL l1 l2 h102) (fun id => id = h7.nx) (fun j h1 => h1.get h7.nx = rC (rl (onF ((fcY L a b).take j) true (clP L C i)))) (fun _ _ => False) hc4' (by show (h4.get h9.nx).isL = true; rw [gr10.old _ (by omega)]; exact lp3) (by rintro id rfl; omega)
      (fun h1 ks => ⟨(ks.old _ (by omega) (fun e => by have := congrArg K.nat e; omega)).trans er, (ks.old _ (by omega) (fun e => by have := congrArg K.nat e; omega)).trans ea⟩) ?_ (fun _ _ _ h _ _ _ => h.elim) ?_ ?_ ?_ (fun _ _ _ h => h.elim)
    · intro j h1 h2 q1 _ hn ho
      rw [ho _ (by omega) (kNe (by omega))]; exact q1
    · intro h1 hg
      rw [hg.old _ (by omega), qb4, List.take_zero, onF_nil]
    · rintro j ⟨c, d⟩ hd hxj hkd hnd q2
      obtain ⟨m1, m2, _⟩ := fcY_lt l1 l2 (List.mem_of_getElem? hxj)
      have m1 : c < 7 := m1
      have m2 : d < 7 := m2
      obtain ⟨hst, gD, c7, nd⟩ := arr_var (h := hd) (x := c) (y := d)
      have qd := (gD.old h7.nx (by omega)).trans q2
      unfold f57_a1
      simp (disch := omega) only [f57_r6, w_reg, x_nil, x_alloc, x_st, kx, rvP_ok, ev_t, getV_some, putD_some, putD_none, of0, getK_set, Nat.reduceEqDiff, ↓reduceIte, hst, itA_n]
      generalize (hd.new (.cells 2 [.i .i64 0, .i .i64 0])).put hd.nx (.cells 2 [.i .i64 (c : Int), .i .i64 (d : Int)]) = he at *
      refine ⟨gD, fun h1 n1 hc1 o1 _ => ?_⟩
      have n1' : h1.nx.nat = he.nx.nat := congrArg K.nat n1
      have l0 := ld20 ((o1 _ (kNe hnd).symm).trans c7)
      have l1 := ld21 ((o1 _ (kNe hnd).symm).trans c7)
      have hs := rC_st (v := true) m1 m2 ((o1 h7.nx (kNe (by omega))).trans qd)
      unfold f57_b0
      simp (disch := omega) only [f57_r7, w_draw, w_block, atK_n, true_and, x_nil, x_st, kx, kg, xg_nil, xg_ld, xg_fadr, xg_iadr, xd_cons, fresh_nil, stK_n, stK_s, stay_nil, rvP_ok, ev_t, ev_c, getV_some, putD_some, putD_none, onP_p, idx_n, getK_set, Nat.reduceEqDiff, ↓reduceIte, f6, l0, l1, hs, itC_n]
      have hk0 : Kr (fun id => id = h7.nx) h4.nx h1 h1 := Kr.refl hc1
      refine ⟨?_, hk0.put (id' := h7.nx) (by omega) (.inl rfl) _⟩
      rw [get_put_same, List.take_add_one, hxj]
      simp only [Option.toList_some, onF_snoc]
    · intro h1 q2 hk1 hn1
      rw [List.take_length, clP_succ hxi] at q2
      simp (disch := omega) only [atK_n, itC_n]
      exact ⟨q2, kr4.trans (hk1.kr (by omega))⟩
  · intro h1 q1 hk1 hn1
    have q1 : h1.get h7.nx = rC (clN L C) := q1
    have hN : (clN L C).length = 49 := rl_len
    have n1 := hk1.nx
    have ne7 : ∀ {id : K}, id.nat < h7.nx.nat → ¬ id = h7.nx := fun h e => by rw [e] at h; omega
    have b5 := (hk1.old h5.nx (by omega) (ne7 (by omega))).trans ((gr9.old h5.nx (by omega)).trans ((gr8.old h5.nx (by omega)).trans hB))
    have k1 : Kp h5.nx h6 h1 := ⟨by omega, fun id hi hn => (hk1.old id (by omega) (ne7 (by omega))).trans (k9.old id hi hn), hk1.hc⟩
    have lN := rC_ldn hN q1
    have lC := rC_ldn hC b5
    have hq := keyEq_rel2 hN hC
    by_cases e : clN L C = C
    · have d0 : decide (clN L C = C) = true := decide_eq_true e
      have hfin := hCI.fin e
      have hs5 := rC_stn hC rl_len (M := rl fun _ _ => false) ((k1.old h2.nx (by omega) (kNe (by omega))).trans e3'')
      have hr5 : readP (h1.put h2.nx (rC C)) (.p h2.nx 0) (many? 49) = some (rV C) := rC_read hC get_put_same
      rw [d0] at hq
      simp (disch := omega) only [f57_r8, f57_r9, f57_rs, w_reg, w_seq, w_cond, w_ret, seqK_n, seqK_r, atK_n, atK_r, loopK_r, ckB_b, cbB_b, true_and, retK_r, x_nil, x_ldn, x_st, x_eqk, kx, rvP_ok, okv_some, ev_t, getV_some, putD_some, putD_none, oGet_s, readRs_nil, readRs_n, retV_1, Option.some.injEq, exists_eq_left', getK_set, Nat.reduceEqDiff, ↓reduceIte, g4, g5, g6, lN, lC, hq, cond_false, hs5, hr5]
      rw [hfin]
    · have d0 : decide (clN L C = C) = false := decide_eq_false e
      have hs5 := rC_stn hN hC b5
      rw [d0] at hq
      simp (disch := omega) only [f57_r8, f57_r10, w_skip, w_reg, w_seq, w_cond, seqK_n, atK_n, loopK_n, ckB_b, cbB_b, true_and, x_nil, x_ldn, x_st, x_eqk, kx, rvP_ok, okv_some, ev_t, getV_some, putD_some, putD_none, oGet_s, getK_set, Nat.reduceEqDiff, ↓reduceIte, Bool.false_eq_true, g5, g6, lN, lC, hq, cond_false, hs5]
      have hlt := clN_cnt (L := L) hC (fun h => e h.symm)
      have := cntT_le hN
      exact ⟨clN L C, by omega, hCI.step, k1.put (by omega) _, get_put_same, by simp (disch := omega) only [getK_set, Nat.reduceEqDiff, ↓reduceIte, g2, g4, g5, and_self]⟩
end
end Go.Ev
namespace Go.Ev
open Go Go.RowKit
noncomputable def f121_r0 : List EOper := [⟨some (.ofNat 2), none, .as (.c (.b false))⟩]
noncomputable def f121_r1 : List EOper := [⟨some (.ofNat 3), none, .mv (.t (.ofNat 0))⟩, ⟨some (.ofNat 4), none, .mv (.t (.ofNat 0))⟩, ⟨some (.ofNat 5), none, .bin .neq (.t (.ofNat 3)) (.t (.ofNat 4))⟩, ⟨some (.ofNat 2), none, .as (.t (.ofNat 5))⟩]
noncomputable def f121_c : EC := (.seq (.reg f121_r0) (.seq (.reg f121_r1) .ret))
noncomputable def f121 : EF := ⟨6, [.tmp (.ofNat 2)], f121_c, none⟩
theorem f121_rs : f121.rs = [.tmp (.ofNat 2)] := of_eq_true (eq_self _)
noncomputable def f108_r0 : List EOper := [⟨some (.ofNat 4), none, .as (.c (.i .i64 (.ofNat 0)))⟩]
noncomputable def f108_r1 : List EOper := [⟨some (.ofNat 7), none, .mv (.t (.ofNat 0))⟩, ⟨some (.ofNat 8), none, .call (.c (.fn (.ofNat 121) [])) [(.t (.ofNat 7))]⟩, ⟨some (.ofNat 5), none, .as (.t (.ofNat 8))⟩]
noncomputable def f108_r2 : List EOper := [⟨some (.ofNat 9), none, .mv (.t (.ofNat 1))⟩, ⟨some (.ofNat 10), none, .call (.c (.fn (.ofNat 121) [])) [(.t (.ofNat 9))]⟩, ⟨some (.ofNat 6), none, .as (.t (.ofNat 10))⟩]
noncomputable def f108_r3 : List EOper := [⟨some (.ofNat 11), none, .mv (.t (.ofNat 5))⟩]
noncomputable def f108_r4 : List EOper := [⟨some (.ofNat 12), none, .mv (.t (.ofNat 6))⟩]
noncomputable def f108_r5 : List EOper := [⟨some (.ofNat 4), none, .as (.c (.i .i64 (.ofNat 0)))⟩]
noncomputable def f108_r6 : List EOper := [⟨some (.ofNat 4), none, .as (.c (.i .i64 (.negSucc 0)))⟩]
noncomputable def f108_r7 : List EOper := [⟨some (.ofNat 13), none, .mv (.t (.ofNat 6))⟩]
noncomputable def f108_r8 : List EOper := [⟨some (.ofNat 4), none, .as (.c (.i .i64 (.ofNat 1)))⟩]
noncomputable def f108_r9 : List EOper := [⟨some (.ofNat 14), none, .mv (.t (.ofNat 0))⟩, ⟨some (.ofNat 15), none, .mv (.t (.ofNat 1))⟩, ⟨some (.ofNat 16), none, .bin .lss (.t (.ofNat 14)) (.t (.ofNat 15))⟩]
noncomputable def f108_r10 : List EOper := [⟨some (.ofNat 4), none, .as (.c (.i .i64 (.negSucc 0)))⟩]
noncomputable def f108_r11 : List EOper := [⟨some (.ofNat 17), none, .mv (.t (.ofNat 0))⟩, ⟨some (.ofNat 18), none, .mv (.t (.ofNat 1))⟩, ⟨some (.ofNat 19), none, .bin .gtr (.t (.ofNat 17)) (.t (.ofNat 18))⟩]
noncomputable def f108_r12 : List EOper := [⟨some (.ofNat 4), none, .as (.c (.i .i64 (.ofNat 1)))⟩]
noncomputable def f108_r13 : List EOper := [⟨some (.ofNat 4), none, .as (.c (.i .i64 (.ofNat 0)))⟩]
noncomputable def f108_c : EC := (.seq (.reg f108_r0) (.seq (.reg f108_r1) (.seq (.reg f108_r2) (.seq (.seq (.reg f108_r3) (.cond (.t (.ofNat 11)) (.seq (.seq (.reg f108_r4) (.cond (.t (.ofNat 12)) (.seq (.reg f108_r5) .ret) .skip)) (.seq (.reg f108_r6) .ret)) .skip)) (.seq (.seq (.reg f108_r7) (.cond (.t (.ofNat 13)) (.seq (.reg f108_r8) .ret) .skip)) (.seq (.seq (.reg f108_r9) (.cond (.t (.ofNat 16)) (.seq (.reg f108_r10) .ret) .skip)) (.seq (.seq (.reg f108_r11) (.cond (.t (.ofNat 19)) (.seq (.reg f108_r12) .ret) .skip)) (.seq (.reg f108_r13) .ret))))))))
noncomputable def f108 : EF := ⟨20, [.tmp (.ofNat 4)], f108_c, none⟩
theorem f108_rs : f108.rs = [.tmp (.ofNat 4)] := of_eq_true (eq_self _)
noncomputable def f99_r0 : List EOper := [⟨some (.ofNat 4), none, .as (.c (.i .i64 (.ofNat 0)))⟩]
noncomputable def f99_r1 : List EOper := [⟨some (.ofNat 9), none, .mv (.t (.ofNat 0))⟩, ⟨some (.ofNat 10), none, .len (.t (.ofNat 9))⟩, ⟨some (.ofNat 11), none, .mv (.c (.i .i64 (.ofNat 0)))⟩]
noncomputable def f99_r2 : List EOper := [⟨some (.ofNat 12), none, .bin .lss (.t (.ofNat 11)) (.t (.ofNat 10))⟩]
noncomputable def f99_r3 : List EOper := [⟨some (.ofNat 13), none, .mv (.t (.ofNat 11))⟩, ⟨some (.ofNat 14), none, .iads 1 (.t (.ofNat 9)) (.t (.ofNat 11))⟩, ⟨some (.ofNat 15), none, .ld (.t (.ofNat 14))⟩, ⟨some (.ofNat 5), none, .as (.t (.ofNat 13))⟩, ⟨some (.ofNat 6), none, .as (.t (.ofNat 15))⟩]
noncomputable def f99_r4 : List EOper := [⟨some (.ofNat 16), none, .mv (.t (.ofNat 5))⟩, ⟨some (.ofNat 17), none, .mv (.t (.ofNat 1))⟩, ⟨some (.ofNat 18), none, .len (.t (.ofNat 17))⟩, ⟨some (.ofNat 19), none, .bin .geq (.t (.ofNat 16)) (.t (.ofNat 18))⟩]
noncomputable def f99_r5 : List EOper := [⟨some (.ofNat 4), none, .as (.c (.i .i64 (.ofNat 1)))⟩]
noncomputable def f99_r6 : List EOper := [⟨some (.ofNat 20), none, .mv (.t (.ofNat 1))⟩, ⟨some (.ofNat 21), none, .mv (.t (.ofNat 5))⟩, ⟨some (.ofNat 22), none, .iads 1 (.t (.ofNat 20)) (.t (.ofNat 21))⟩, ⟨some (.ofNat 23), none, .ld (.t (.ofNat 22))⟩, ⟨some (.ofNat 7), none, .as (.t (.ofNat 23))⟩]
noncomputable def f99_r7 : List EOper := [⟨some (.ofNat 24), none, .mv (.t (.ofNat 6))⟩, ⟨some (.ofNat 25), none, .mv (.t (.ofNat 7))⟩, ⟨some (.ofNat 26), none, .call (.c (.fn (.ofNat 108) [])) [(.t (.ofNat 24)), (.t (.ofNat 25))]⟩, ⟨some (.ofNat 8), none, .as (.t (.ofNat 26))⟩]
noncomputable def f99_r8 : List EOper := [⟨some (.ofNat 27), none, .mv (.t (.ofNat 8))⟩, ⟨some (.ofNat 28), none, .bin .neq (.t (.ofNat 27)) (.c (.i .i64 (.ofNat 0)))⟩]
noncomputable def f99_r9 : List EOper := [⟨some (.ofNat 29), none, .mv (.t (.ofNat 8))⟩, ⟨some (.ofNat 4), none, .as (.t (.ofNat 29))⟩]
noncomputable def f99_r10 : List EOper := [⟨some (.ofNat 30), none, .bin .add (.t (.ofNat 11)) (.c (.i .i64 (.ofNat 1)))⟩, ⟨some (.ofNat 11), none, .mv (.t (.ofNat 30))⟩]
noncomputable def f99_l0 : EC := (.seq (.reg f99_r2) (.seq (.cond (.t (.ofNat 12)) .skip (.exit 0)) (.seq (.block 1 (.seq (.reg f99_r3) (.seq (.seq (.reg f99_r4) (.cond (.t (.ofNat 19)) (.seq (.reg f99_r5) .ret) .skip)) (.seq (.reg f99_r6) (.seq (.reg f99_r7) (.seq (.reg f99_r8) (.cond (.t (.ofNat 28)) (.seq (.reg f99_r9) .ret) .skip))))))) (.reg f99_r10))))
noncomputable def f99_r11 : List EOper := [⟨some (.ofNat 31), none, .mv (.t (.ofNat 0))⟩, ⟨some (.ofNat 32), none, .len (.t (.ofNat 31))⟩, ⟨some (.ofNat 33), none, .mv (.t (.ofNat 1))⟩, ⟨some (.ofNat 34), none, .len (.t (.ofNat 33))⟩, ⟨some (.ofNat 35), none, .bin .lss (.t (.ofNat 32)) (.t (.ofNat 34))⟩]
noncomputable def f99_r12 : List EOper := [⟨some (.ofNat 4), none, .as (.c (.i .i64 (.negSucc 0)))⟩]
noncomputable def f99_r13 : List EOper := [⟨some (.ofNat 4), none, .as (.c (.i .i64 (.ofNat 0)))⟩]
noncomputable def f99_c : EC := (.seq (.reg f99_r0) (.seq (.seq (.reg f99_r1) (.block 0 (.loop f99_l0))) (.seq (.seq (.reg f99_r11) (.cond (.t (.ofNat 35)) (.seq (.reg f99_r12) .ret) .skip)) (.seq (.reg f99_r13) .ret))))
noncomputable def f99 : EF := ⟨36, [.tmp (.ofNat 4)], f99_c, none⟩
theorem f99_rs : f99.rs = [.tmp (.ofNat 4)] := of_eq_true (eq_self _)
noncomputable def f80_r0 : List EOper := [⟨some (.ofNat 2), none, .box 2 (.t (.ofNat 0))⟩, ⟨some (.ofNat 3), none, .box 2 (.t (.ofNat 1))⟩, ⟨some (.ofNat 4), none, .as (.c (.b false))⟩]
noncomputable def f80_r1 : List Stage := [⟨[⟨some (.ofNat 5), none, .slcA 2 1 (.t (.ofNat 2)) none none⟩, ⟨some (.ofNat 6), none, .slcA 2 1 (.t (.ofNat 3)) none none⟩], [], (some ⟨some (.ofNat 7), none, .call (.c (.fn (.ofNat 99) [])) [(.t (.ofNat 5)), (.t (.ofNat 6))]⟩), []⟩, ⟨[⟨some (.ofNat 8), none, .bin .lss (.t (.ofNat 7)) (.c (.i .i64 (.ofNat 0)))⟩], [], (some ⟨some (.ofNat 4), none, .as (.t (.ofNat 8))⟩), []⟩, ⟨[], [], none, []⟩]
noncomputable def f80_c : EC := (.seq (.reg f80_r0) (.seq (.draw f80_r1) .ret))
noncomputable def f80 : EF := ⟨9, [.tmp (.ofNat 4)], f80_c, none⟩
theorem f80_rs : f80.rs = [.tmp (.ofNat 4)] := of_eq_true (eq_self _)
noncomputable def f75_r0 : List EOper := [⟨some (.ofNat 4), none, .as (.c (.b false))⟩]
noncomputable def f75_r1 : List EOper := [⟨some (.ofNat 7), none, .mv (.t (.ofNat 1))⟩, ⟨some (.ofNat 8), none, .len (.t (.ofNat 7))⟩, ⟨some (.ofNat 9), none, .mv (.c (.i .i64 (.ofNat 0)))⟩]
noncomputable def f75_r2 : List EOper := [⟨some (.ofNat 10), none, .bin .lss (.t (.ofNat 9)) (.t (.ofNat 8))⟩]
noncomputable def f75_r3 : List EOper := [⟨some (.ofNat 11), none, .mv (.t (.ofNat 9))⟩, ⟨some (.ofNat 12), none, .iads 2 (.t (.ofNat 7)) (.t (.ofNat 9))⟩, ⟨some (.ofNat 13), none, .ldn 2 (.t (.ofNat 12))⟩, ⟨some (.ofNat 6), none, .alloc 2 [(.i .i64 (.ofNat 0)), (.i .i64 (.ofNat 0))]⟩, ⟨some (.ofNat 5), none, .as (.t (.ofNat 11))⟩, ⟨none, none, .st 2 (.t (.ofNat 6)) (.t (.ofNat 13))⟩]
noncomputable def f75_r4 : List EOper := [⟨some (.ofNat 14), none, .mv (.t (.ofNat 0))⟩, ⟨some (.ofNat 15), none, .iadr 2 1 (.t (.ofNat 6)) (.c (.i .i64 (.ofNat 0)))⟩, ⟨some (.ofNat 16), none, .ld (.t (.ofNat 15))⟩, ⟨some (.ofNat 17), none, .call (.c (.fn (.ofNat 96) [])) [(.t (.ofNat 14)), (.t (.ofNat 16))]⟩, ⟨some (.ofNat 18), none, .not (.t (.ofNat 17))⟩, ⟨some (.ofNat 19), none, .mv (.t (.ofNat 18))⟩, ⟨some (.ofNat 20), (some ((.ofNat 19), false)), .mv (.t (.ofNat 0))⟩, ⟨some (.ofNat 21), (some ((.ofNat 19), false)), .iadr 2 1 (.t (.ofNat 6)) (.c (.i .i64 (.ofNat 1)))⟩, ⟨some (.ofNat 22), (some ((.ofNat 19), false)), .ld (.t (.ofNat 21))⟩, ⟨some (.ofNat 23), (some ((.ofNat 19), false)), .call (.c (.fn (.ofNat 96) [])) [(.t (.ofNat 20)), (.t (.ofNat 22))]⟩, ⟨some (.ofNat 24), (some ((.ofNat 19), false)), .not (.t (.ofNat 23))⟩, ⟨some (.ofNat 25), none, .pick (.t (.ofNat 19)) (.c (.b true)) (.t (.ofNat 24))⟩, ⟨some (.ofNat 26), none, .mv (.t (.ofNat 25))⟩, ⟨some (.ofNat 27), (some ((.ofNat 26), false)), .iadr 2 1 (.t (.ofNat 6)) (.c (.i .i64 (.ofNat 0)))⟩, ⟨some (.ofNat 28), (some ((.ofNat 26), false)), .ld (.t (.ofNat 27))⟩, ⟨some (.ofNat 29), (some ((.ofNat 26), false)), .iadr 2 1 (.t (.ofNat 6)) (.c (.i .i64 (.ofNat 1)))⟩, ⟨some (.ofNat 30), (some ((.ofNat 26), false)), .ld (.t (.ofNat 29))⟩, ⟨some (.ofNat 31), (some ((.ofNat 26), false)), .bin .eql (.t (.ofNat 28)) (.t (.ofNat 30))⟩, ⟨some (.ofNat 32), none, .pick (.t (.ofNat 26)) (.c (.b true)) (.t (.ofNat 31))⟩]
noncomputable def f75_r5 : List EOper := [⟨some (.ofNat 4), none, .as (.c (.b false))⟩]
noncomputable def f75_r6 : List Stage := [⟨[⟨some (.ofNat 33), none, .mv (.t (.ofNat 5))⟩, ⟨some (.ofNat 34), none, .bin .gtr (.t (.ofNat 33)) (.c (.i .i64 (.ofNat 0)))⟩, ⟨some (.ofNat 35), none, .mv (.t (.ofNat 34))⟩, ⟨some (.ofNat 36), (some ((.ofNat 35), true)), .mv (.t (.ofNat 1))⟩, ⟨some (.ofNat 37), (some ((.ofNat 35), true)), .mv (.t (.ofNat 5))⟩, ⟨some (.ofNat 38), (some ((.ofNat 35), true)), .bin .sub (.t (.ofNat 37)) (.c (.i .i64 (.ofNat 1)))⟩, ⟨some (.ofNat 39), (some ((.ofNat 35), true)), .iads 2 (.t (.ofNat 36)) (.t (.ofNat 38))⟩, ⟨some (.ofNat 40), (some ((.ofNat 35), true)), .ldn 2 (.t (.ofNat 39))⟩, ⟨some (.ofNat 41), (some ((.ofNat 35), true)), .ldn 2 (.t (.ofNat 6))⟩], [], (some ⟨some (.ofNat 42), (some ((.ofNat 35), true)), .call (.c (.fn (.ofNat 80) [])) [(.t (.ofNat 40)), (.t (.ofNat 41))]⟩), []⟩, ⟨[⟨some (.ofNat 43), (some ((.ofNat 35), true)), .not (.t (.ofNat 42))⟩, ⟨some (.ofNat 44), none, .pick (.t (.ofNat 35)) (.t (.ofNat 43)) (.c (.b false))⟩], [], none, []⟩]
noncomputable def f75_r7 : List EOper := [⟨some (.ofNat 4), none, .as (.c (.b false))⟩]
noncomputable def f75_r8 : List EOper := [⟨some (.ofNat 45), none, .bin .add (.t (.ofNat 9)) (.c (.i .i64 (.ofNat 1)))⟩, ⟨some (.ofNat 9), none, .mv (.t (.ofNat 45))⟩]
noncomputable def f75_l0 : EC := (.seq (.reg f75_r2) (.seq (.cond (.t (.ofNat 10)) .skip (.exit 0)) (.seq (.block 1 (.seq (.reg f75_r3) (.seq (.seq (.reg f75_r4) (.cond (.t (.ofNat 32)) (.seq (.reg f75_r5) .ret) .skip)) (.seq (.draw f75_r6) (.cond (.t (.ofNat 44)) (.seq (.reg f75_r7) .ret) .skip))))) (.reg f75_r8))))
noncomputable def f75_r9 : List EOper := [⟨some (.ofNat 4), none, .as (.c (.b true))⟩]
noncomputable def f75_c : EC := (.seq (.reg f75_r0) (.seq (.seq (.reg f75_r1) (.block 0 (.loop f75_l0))) (.seq (.reg f75_r9) .ret)))
noncomputable def f75 : EF := ⟨46, [.tmp (.ofNat 4)], f75_c, none⟩
theorem f75_rs : f75.rs = [.tmp (.ofNat 4)] := of_eq_true (eq_self _)
noncomputable def f47_r0 : List EOper := [⟨some (.ofNat 4), none, .as (.c (.i .i64 (.ofNat 0)))⟩]
noncomputable def f47_r1 : List EOper := [⟨some (.ofNat 7), none, .mv (.t (.ofNat 0))⟩, ⟨some (.ofNat 8), none, .bin .lss (.t (.ofNat 7)) (.c (.i .i64 (.ofNat 1)))⟩, ⟨some (.ofNat 9), none, .mv (.t (.ofNat 8))⟩, ⟨some (.ofNat 10), (some ((.ofNat 9), false)), .mv (.t (.ofNat 0))⟩, ⟨some (.ofNat 11), (some ((.ofNat 9), false)), .bin .gtr (.t (.ofNat 10)) (.c (.i .i64 (.ofNat 7)))⟩, ⟨some (.ofNat 12), none, .pick (.t (.ofNat 9)) (.c (.b true)) (.t (.ofNat 11))⟩]
noncomputable def f47_r2 : List EOper := [⟨some (.ofNat 4), none, .as (.c (.i .i64 (.ofNat 1)))⟩]
noncomputable def f47_r3 : List EOper := [⟨some (.ofNat 13), none, .mv (.t (.ofNat 0))⟩, ⟨some (.ofNat 14), none, .mv (.t (.ofNat 1))⟩, ⟨some (.ofNat 15), none, .call (.c (.fn (.ofNat 75) [])) [(.t (.ofNat 13)), (.t (.ofNat 14))]⟩, ⟨some (.ofNat 16), none, .not (.t (.ofNat 15))⟩]
noncomputable def f47_r4 : List EOper := [⟨some (.ofNat 4), none, .as (.c (.i .i64 (.ofNat 20)))⟩]
noncomputable def f47_r5 : List EOper := [⟨some (.ofNat 17), none, .mv (.t (.ofNat 1))⟩, ⟨some (.ofNat 18), none, .len (.t (.ofNat 17))⟩, ⟨some (.ofNat 19), none, .mv (.c (.i .i64 (.ofNat 0)))⟩]
noncomputable def f47_r6 : List EOper := [⟨some (.ofNat 20), none, .bin .lss (.t (.ofNat 19)) (.t (.ofNat 18))⟩]
noncomputable def f47_r7 : List EOper := [⟨some (.ofNat 21), none, .iads 2 (.t (.ofNat 17)) (.t (.ofNat 19))⟩, ⟨some (.ofNat 22), none, .ldn 2 (.t (.ofNat 21))⟩, ⟨some (.ofNat 6), none, .alloc 2 [(.i .i64 (.ofNat 0)), (.i .i64 (.ofNat 0))]⟩, ⟨none, none, .st 2 (.t (.ofNat 6)) (.t (.ofNat 22))⟩]
noncomputable def f47_r8 : List EOper := [⟨some (.ofNat 23), none, .iadr 2 1 (.t (.ofNat 6)) (.c (.i .i64 (.ofNat 0)))⟩, ⟨some (.ofNat 24), none, .ld (.t (.ofNat 23))⟩, ⟨some (.ofNat 25), none, .iadr 2 1 (.t (.ofNat 6)) (.c (.i .i64 (.ofNat 1)))⟩, ⟨some (.ofNat 26), none, .ld (.t (.ofNat 25))⟩, ⟨some (.ofNat 27), none, .bin .gtr (.t (.ofNat 24)) (.t (.ofNat 26))⟩]
noncomputable def f47_r9 : List EOper := [⟨some (.ofNat 4), none, .as (.c (.i .i64 (.ofNat 20)))⟩]
noncomputable def f47_r10 : List EOper := [⟨some (.ofNat 28), none, .bin .add (.t (.ofNat 19)) (.c (.i .i64 (.ofNat 1)))⟩, ⟨some (.ofNat 19), none, .mv (.t (.ofNat 28))⟩]
noncomputable def f47_l0 : EC := (.seq (.reg f47_r6) (.seq (.cond (.t (.ofNat 20)) .skip (.exit 0)) (.seq (.block 1 (.seq (.reg f47_r7) (.seq (.reg f47_r8) (.cond (.t (.ofNat 27)) (.seq (.reg f47_r9) .ret) .skip)))) (.reg f47_r10))))
noncomputable def f47_r11 : List EOper := [⟨some (.ofNat 4), none, .as (.c (.i .i64 (.ofNat 0)))⟩]
noncomputable def f47_c : EC := (.seq (.reg f47_r0) (.seq (.seq (.reg f47_r1) (.cond (.t (.ofNat 12)) (.seq (.reg f47_r2) .ret) .skip)) (.seq (.seq (.reg f47_r3) (.cond (.t (.ofNat 16)) (.seq (.reg f47_r4) .ret) .skip)) (.seq (.seq (.reg f47_r5) (.block 0 (.loop f47_l0))) (.seq (.reg f47_r11) .ret)))))
noncomputable def f47 : EF := ⟨29, [.tmp (.ofNat 4)], f47_c, none⟩
theorem f47_rs : f47.rs = [.tmp (.ofNat 4)] := of_eq_true (eq_self _)
section
variable {fs : T EF}
theorem f121_ret {h : H} {a : Int} : Ret fs f121 [.i .i64 a] h fun r h' => r = .b false ∧ h' = h := by
  apply ret_of rfl
  show W fs none f121_c _ _ _
  unfold f121_c
  have d : decide (a ≠ a) = false := by simp
  simp (disch := omega) only [f121_r0, f121_r1, f121_rs, w_reg, w_seq, w_ret, seqK_n, retK_r, x_nil, x_mv, x_as, x_bin, kx, rvP_ok, okv_some, ev_t, ev_c, getV_some, putD_some, bin_neq, oGet_s, readRs_nil, readRs_t, retV_1, frame_1, Option.some.injEq, exists_eq_left', getK_set, Nat.reduceEqDiff, ↓reduceIte, d, and_self]
def cmpI (a b : Int) : Int := if a < b then -1 else if b < a then 1 else 0
theorem f108_ret {h : H} {a b : Int} (h121 : fs.get (.ofNat 121) = some f121) : Ret fs f108 [.i .i64 a, .i .i64 b] h fun r h' => r = .i .i64 (cmpI a b) ∧ h' = h := by
  apply ret_of rfl
  show W fs none f108_c _ _ _
  unfold f108_c
  simp (disch := omega) only [f108_r0, f108_r1, w_reg, w_seq, seqK_n, x_nil, x_mv, x_as, x_call, ev_t, ev_c, evs_nil, evs_cons, getV_some, putD_some, frame_2, of0, getK_set, Nat.reduceEqDiff, ↓reduceIte]
  refine (callP_0 (ef := f121) h121 rfl f121_ret).mono ?_
  rintro r h1 ⟨rfl, hq⟩
  subst hq
  simp (disch := omega) only [f108_r2, w_reg, w_seq, seqK_n, x_nil, x_mv, x_as, x_call, kx, ev_t, ev_c, evs_nil, evs_cons, getV_some, putD_some, getK_set, Nat.reduceEqDiff, ↓reduceIte]
  refine (callP_0 (ef := f121) h121 rfl f121_ret).mono ?_
  rintro r h2 ⟨rfl, hq⟩
  subst hq
  unfold cmpI
  have hm : Int.negSucc 0 = -1 := rfl
  by_cases h1 : a < b
  · have d1 : decide (a < b) = true := by simpa using h1
    simp (disch := omega) only [f108_r3, f108_r7, f108_r9, f108_r10, f108_rs, w_skip, w_reg, w_seq, w_cond, w_ret, seqK_n, seqK_r, ckB_b, cbB_b, retK_r, x_nil, x_mv, x_as, x_bin, kx, rvP_ok, okv_some, ev_t, ev_c, getV_some, putD_some, bin_lss, oGet_s, readRs_nil, readRs_t, retV_1, Option.some.injEq, exists_eq_left', getK_set, Nat.reduceEqDiff, ↓reduceIte, Bool.false_eq_true, decide_eq_true_eq, h1, hm, and_self]
  · have d1 : decide (a < b) = false := by simpa using h1
    by_cases h2 : b < a
    · have d2 : decide (a > b) = true := by simpa using h2
      simp (disch := omega) only [f108_r3, f108_r7, f108_r9, f108_r11, f108_r12, f108_rs, w_skip, w_reg, w_seq, w_cond, w_ret, seqK_n, seqK_r, ckB_b, cbB_b, retK_r, x_nil, x_mv, x_as, x_bin, kx, rvP_ok, okv_some, ev_t, ev_c, getV_some, putD_some, bin_lss, bin_gtr, oGet_s, readRs_nil, readRs_t, retV_1, of1, Option.some.injEq, exists_eq_left', getK_set, Nat.reduceEqDiff, ↓reduceIte, Bool.false_eq_true, decide_eq_true_eq, h1, h2, and_self]
    · have d2 : decide (a > b) = false := by simpa using h2
      simp (disch := omega) only [f108_r3, f108_r7, f108_r9, f108_r11, f108_r13, f108_rs, w_skip, w_reg, w_seq, w_cond, w_ret, seqK_n, ckB_b, cbB_b, retK_r, x_nil, x_mv, x_as, x_bin, kx, rvP_ok, okv_some, ev_t, ev_c, getV_some, putD_some, bin_lss, bin_gtr, oGet_s, readRs_nil, readRs_t, retV_1, of0, Option.some.injEq, exists_eq_left', getK_set, Nat.reduceEqDiff, ↓reduceIte, Bool.false_eq_true, decide_eq_true_eq, h1, h2, and_self]
def cmpL : List Int → List Int → Int
  | [], [] => 0
  | [], _ :: _ => -1
  | _ :: _, [] => 1
  | a :: L, b :: M => if cmpI a b ≠ 0 then cmpI a b else cmpL L M
def f99_I (h : H) (v w : V) (L M : List Int) (i : Nat) (fr : Fr) (h1 : H) : Prop := h1 = h ∧ i ≤ L.length ∧ cmpL (L.drop i) (M.drop i) = cmpL L M ∧ i ≤ M.length ∧ fr.get (K.ofNat 0) = some (v) ∧ fr.get (K.ofNat 1) = some (w) ∧ fr.get (K.ofNat 9) = some (v) ∧ fr.get (K.ofNat 10) = some (.i .i64 (L.length : Int)) ∧ fr.get (K.ofNat 11) = some (.i .i64 (i : Int))
theorem f99_ret {h : H} {v w : V} {L M : List Int} (h108 : fs.get (.ofNat 108) = some f108) (h121 : fs.get (.ofNat 121) = some f121) (hv : Sr iE h v L) (hw : Sr iE h w M) (hL : L.length ≤ 1000000) : Ret fs f99 [v, w] h fun r h' => r = .i .i64 (cmpL L M) ∧ h' = h := by
  apply ret_of rfl
  show W fs none f99_c _ _ _
  unfold f99_c
  have hm : Int.negSucc 0 = -1 := rfl
  simp (disch := omega) only [f99_r0, f99_r1, w_reg, w_seq, w_block, seqK_n, x_nil, x_mv, x_as, x_len, kx, rvP_ok, ev_t, ev_c, getV_some, putD_some, frame_2, of0, getK_set, Nat.reduceEqDiff, ↓reduceIte, hv.len]
  refine W_loop (f99_I h v w L M) (fun i => L.length - i) ?_ 0 ⟨rfl, by omega, rfl, by omega, by simp (disch := omega) only [getK_set, Nat.reduceEqDiff, ↓reduceIte, and_self, Int.natCast_zero]⟩
  rintro i fr h1 ⟨rfl, hi, hc, hiM, g0, g1, g9, g10, g11⟩
  unfold f99_l0
  by_cases hlt : i < L.length
  · have d0 : decide ((i : Int) < (L.length : Int)) = true := by simpa using hlt
    obtain ⟨p, hp1, hp2⟩ := hv.at i hlt
    rw [List.drop_eq_getElem_cons hlt] at hc
    by_cases hm2 : i < M.length
    · have d1 : decide ((i : Int) ≥ (M.length : Int)) = false := by simp; omega
      obtain ⟨p', hp3, hp4⟩ := hw.at i hm2
      rw [List.drop_eq_getElem_cons hm2] at hc
      simp (disch := omega) only [f99_r2, f99_r3, f99_r4, f99_r6, f99_r7, w_skip, w_reg, w_seq, w_cond, w_block, seqK_n, ckB_b, cbB_b, true_and, x_nil, x_mv, x_as, x_ld, x_bin, x_iads, x_call, x_len, kx, rvP_ok, okv_some, ev_t, ev_c, evs_nil, evs_cons, getV_some, putD_some, bin_lss, bin_geq, getK_set, Nat.reduceEqDiff, ↓reduceIte, Bool.false_eq_true, g1, g9, g10, g11, d0, d1, hp1, hp2, hp3, hp4, hw.len, iE]
      refine (callP_0 (ef := f108) h108 rfl (f108_ret (a := L[i]) (b := M[i]) h121)).mono ?_
      rintro r h2 ⟨rfl, hq⟩
      subst hq
      have hc : (if cmpI L[i] M[i] ≠ 0 then cmpI L[i] M[i] else cmpL (L.drop (i + 1)) (M.drop (i + 1))) = cmpL L M := hc
      by_cases h0 : cmpI L[i] M[i] = 0
      · have d2 : decide (cmpI L[i] M[i] ≠ 0) = false := by simpa using h0
        rw [if_neg (by simpa using h0)] at hc
        simp (disch := omega) only [f99_r8, f99_r10, w_skip, w_reg, w_seq, w_cond, seqK_n, atK_n, loopK_n, ckB_b, cbB_b, true_and, x_nil, x_mv, x_as, x_bin, kx, rvP_ok, okv_some, ev_t, ev_c, getV_some, putD_some, bin_add, bin_neq, of0, of1, getK_set, Nat.reduceEqDiff, ↓reduceIte, Bool.false_eq_true, g11, d2, fw64]
        exact ⟨i + 1, by omega, rfl, by omega, hc, by omega, by simp (disch := omega) only [getK_set, Nat.reduceEqDiff, ↓reduceIte, g0, g1, g9, g10, and_self, Int.natCast_add, Int.natCast_one]⟩
      · have d2 : decide (cmpI L[i] M[i] ≠ 0) = true := by simpa using h0
        rw [if_pos h0] at hc
        simp (disch := omega) only [f99_r8, f99_r9, f99_rs, w_reg, w_seq, w_cond, w_ret, seqK_n, seqK_r, atK_r, loopK_r, ckB_b, cbB_b, retK_r, x_nil, x_mv, x_as, x_bin, kx, rvP_ok, okv_some, ev_t, ev_c, getV_some, putD_some, bin_neq, oGet_s, readRs_nil, readRs_t, retV_1, of0, Option.some.injEq, exists_eq_left', getK_set, Nat.reduceEqDiff, ↓reduceIte, d2, ← hc, and_self]
    · have d1 : decide ((i : Int) ≥ (M.length : Int)) = true := by simp; omega
      rw [show List.drop i M = [] from List.drop_of_length_le (by omega)] at hc
      have hc : (1 : Int) = cmpL L M := hc
      simp (disch := omega) only [f99_r2, f99_r3, f99_r4, f99_r5, f99_rs, w_skip, w_reg, w_seq, w_cond, w_block, w_ret, seqK_n, seqK_r, atK_r, loopK_r, ckB_b, cbB_b, retK_r, x_nil, x_mv, x_as, x_ld, x_bin, x_iads, x_len, kx, rvP_ok, okv_some, ev_t, ev_c, getV_some, putD_some, bin_lss, bin_geq, oGet_s, readRs_nil, readRs_t, retV_1, of1, Option.some.injEq, exists_eq_left', getK_set, Nat.reduceEqDiff, ↓reduceIte, g1, g9, g10, g11, d0, d1, hp1, hp2, hw.len, iE, ← hc, and_self]
  · have d0 : decide ((i : Int) < (L.length : Int)) = false := by simpa using hlt
    rw [show List.drop i L = [] from List.drop_of_length_le (by omega)] at hc
    by_cases hm2 : L.length < M.length
    · have d1 : decide ((L.length : Int) < (M.length : Int)) = true := by simpa using hm2
      rw [List.drop_eq_getElem_cons (show i < M.length by omega)] at hc
      have hc : (-1 : Int) = cmpL L M := hc
      simp (disch := omega) only [f99_r2, f99_r11, f99_r12, f99_rs, w_reg, w_seq, w_cond, w_exit, w_ret, seqK_n, seqK_e, seqK_r, atK_e, loopK_e, ckB_b, cbB_b, retK_r, x_nil, x_mv, x_as, x_bin, x_len, kx, rvP_ok, okv_some, ev_t, ev_c, getV_some, putD_some, bin_lss, oGet_s, readRs_nil, readRs_t, retV_1, Option.some.injEq, exists_eq_left', getK_set, Nat.reduceEqDiff, ↓reduceIte, Bool.false_eq_true, g0, g1, g10, g11, d0, d1, hv.len, hw.len, hm, hc, and_self]
    · have d1 : decide ((L.length : Int) < (M.length : Int)) = false := by simpa using hm2
      rw [show List.drop i M = [] from List.drop_of_length_le (by omega)] at hc
      have hc : (0 : Int) = cmpL L M := hc
      simp (disch := omega) only [f99_r2, f99_r11, f99_r13, f99_rs, w_skip, w_reg, w_seq, w_cond, w_exit, w_ret, seqK_n, seqK_e, atK_e, loopK_e, ckB_b, cbB_b, retK_r, x_nil, x_mv, x_as, x_bin, x_len, kx, rvP_ok, okv_some, ev_t, ev_c, getV_some, putD_some, bin_lss, oGet_s, readRs_nil, readRs_t, retV_1, of0, Option.some.injEq, exists_eq_left', getK_set, Nat.reduceEqDiff, ↓reduceIte, Bool.false_eq_true, g0, g1, g10, g11, d0, d1, hv.len, hw.len, ← hc, and_self]
def bfB (a b : Int × Int) : Bool := decide (a.1 < b.1) || (decide (a.1 = b.1) && decide (a.2 < b.2))
theorem cmpL_2 (a b : Int × Int) : decide (cmpL [a.1, a.2] [b.1, b.2] < 0) = bfB a b := by
  unfold bfB cmpL cmpL cmpL cmpI
  by_cases h1 : a.1 < b.1
  · simp [h1]
  · by_cases h2 : b.1 < a.1
    · have : a.1 ≠ b.1 := by omega
      simp [h1, h2, this]
    · have h3 : a.1 = b.1 := by omega
      by_cases h4 : a.2 < b.2
      · simp [h3, h4]
      · by_cases h5 : b.2 < a.2 <;> simp [h3, h4, h5]
theorem slcA_2 {fr : Fr} {h : H} {id : K} {a b : V} (hb : h.get id = .cells 2 [a, b]) : slcAV fr 2 1 (.p id 0) none none h = .ok (.sl id 0 2 1) h := by
  show (h.get id).onC RV.no _ = _
  rw [hb]; rfl
theorem sl_2 {h : H} {id : K} {a b : Int} (hb : h.get id = .cells 2 [.i .i64 a, .i .i64 b]) : Sl iE h (.sl id 0 2 1) [a, b] := by
  refine .inr ⟨id, 0, 2, _, rfl, hb, rfl, by simp, fun i hi => ?_⟩
  have : i = 0 ∨ i = 1 := by simp at hi; omega
  rcases this with rfl | rfl <;> rfl
theorem f80_ret {h : H} {a b : Int × Int} (h99 : fs.get (.ofNat 99) = some f99) (h108 : fs.get (.ofNat 108) = some f108) (h121 : fs.get (.ofNat 121) = some f121) : Ret fs f80 [pV a, pV b] h fun r _ => r = .b (bfB a b) := by
  apply ret_of rfl
  show W fs none f80_c _ _ _
  unfold f80_c
  have n1 := nx_new h (.cells 2 [.i .i64 a.1, .i .i64 a.2])
  have n2 := nx_new (h.new (.cells 2 [.i .i64 a.1, .i .i64 a.2])) (.cells 2 [.i .i64 b.1, .i .i64 b.2])
  have e1 : ((h.new (.cells 2 [.i .i64 a.1, .i .i64 a.2])).new (.cells 2 [.i .i64 b.1, .i .i64 b.2])).get h.nx = .cells 2 [.i .i64 a.1, .i .i64 a.2] := by rw [get_new_old (by omega), get_new_same]
  have e2 : ((h.new (.cells 2 [.i .i64 a.1, .i .i64 a.2])).new (.cells 2 [.i .i64 b.1, .i .i64 b.2])).get (h.new (.cells 2 [.i .i64 a.1, .i .i64 a.2])).nx = .cells 2 [.i .i64 b.1, .i .i64 b.2] := get_new_same
  have c1 : cellsN 2 (pV a) = some [.i .i64 a.1, .i .i64 a.2] := rfl
  have c2 : cellsN 2 (pV b) = some [.i .i64 b.1, .i .i64 b.2] := rfl
  simp (disch := omega) only [f80_r0, f80_r1, w_reg, w_draw, w_seq, seqK_n, x_nil, x_as, x_box, kx, xg_slcA, xd_cons, rvP_ok, ev_t, ev_c, getV_some, putD_some, oGet_s, frame_2, of0, getK_set, Nat.reduceEqDiff, ↓reduceIte, c1, c2]
  generalize (h.new (.cells 2 [.i .i64 a.1, .i .i64 a.2])).nx = id2 at *
  generalize (h.new (.cells 2 [.i .i64 a.1, .i .i64 a.2])).new (.cells 2 [.i .i64 b.1, .i .i64 b.2]) = h2 at *
  simp (disch := omega) only [true_and, x_call, kg, xg_nil, xg_slcA, fresh_nil, stK_s, stay_nil, rvP_ok, ev_t, ev_c, evs_nil, evs_cons, getV_some, putD_some, getK_set, Nat.reduceEqDiff, ↓reduceIte, slcA_2 e1, slcA_2 e2]
  refine (callP_0 (ef := f99) h99 rfl (f99_ret h108 h121 (sl_2 e1).sr (sl_2 e2).sr (by simp))).mono ?_
  rintro r h3 ⟨rfl, hq⟩
  subst hq
  simp (disch := omega) only [f80_rs, w_ret, seqK_n, true_and, retK_r, x_nil, x_as, kx, kg, xg_nil, xg_bin, xd_cons, fresh_nil, stK_n, stK_s, stay_nil, rvP_ok, okv_some, ev_t, ev_c, getV_some, putD_some, bin_lss, oGet_s, readRs_nil, readRs_t, retV_1, Option.some.injEq, exists_eq_left', getK_set, ↓reduceIte, cmpL_2]

structure Nat4 (fs : T EF) : Prop extends Nat3 fs where
  n57 : ∀ L (x : Nat × Nat) h P, L.length = 49 → (x.1 < 7 ∧ x.2 < 7) → CallP fs (.fn (K.ofNat 57) []) [rV L, aV x] h P = P (rV (clsR L x)) h
  n55 : ∀ L (x y : Nat × Nat) h P, L.length = 49 → (x.1 < 7 ∧ x.2 < 7) → (y.1 < 7 ∧ y.2 < 7) → CallP fs (.fn (K.ofNat 55) []) [rV L, aV x, aV y] h P = P (.b (decide (y ∈ fcY L x.1 x.2))) h
  n76 : ∀ L h P, L.length = 49 → CallP fs (.fn (K.ofNat 76) []) [rV L] h P = P (.b (trB L)) h
  n80 : ∀ a b h P, CallP fs (.fn (K.ofNat 80) []) [pV a, pV b] h P = P (.b (bfB a b)) h
/-! ### Rising pairs -/
def okE (n : Int) (x : Int × Int) : Bool := nodeB n x.1 && (nodeB n x.2 && decide (x.1 ≠ x.2))
def risAt (n : Int) (L : List (Int × Int)) (j : Nat) : Prop := okE n (L.getD j (0, 0)) = true ∧ (0 < j → bfB (L.getD (j - 1) (0, 0)) (L.getD j (0, 0)) = true)
def RisT (n : Int) (L : List (Int × Int)) (i : Nat) : Prop := ∀ j, j < i → risAt n L j
open Classical in
noncomputable def risB (n : Int) (L : List (Int × Int)) : Bool := decide (RisT n L L.length)
section
variable {h : H}
def f75_I (h0 : H) (n : Int) (v : V) (L : List (Int × Int)) (i : Nat) (fr : Fr) (h1 : H) : Prop := i ≤ L.length ∧ Grow h0.nx.nat h0 h1 ∧ RisT n L i ∧ fr.get (K.ofNat 0) = some (.i .i64 n) ∧ fr.get (K.ofNat 1) = some (v) ∧ fr.get (K.ofNat 7) = some (v) ∧ fr.get (K.ofNat 8) = some (.i .i64 (L.length : Int)) ∧ fr.get (K.ofNat 9) = some (.i .i64 (i : Int))
theorem f75_ret {n : Int} {v : V} {L : List (Int × Int)} (k : Nat4 fs) (hv : Srp h v L) (hb : L.length ≤ 9223372036854775807) (hc : HC h) : Ret fs f75 [.i .i64 n, v] h fun r h' => r = .b (risB n L) ∧ Grow h.nx.nat h h' := by
  apply ret_of rfl
  show W fs none f75_c _ _ _
  unfold f75_c
  have hlen := hv.len
  simp (disch := omega) only [f75_r0, f75_r1, w_reg, w_seq, w_block, seqK_n, x_nil, x_mv, x_as, x_len, kx, rvP_ok, ev_t, ev_c, getV_some, putD_some, frame_2, of0, getK_set, Nat.reduceEqDiff, ↓reduceIte, hlen]
  refine W_loop (f75_I h n v L) (fun i => L.length - i) ?_ 0 ⟨by omega, Grow.refl _ _, fun j hj => by omega, by simp (disch := omega) only [getK_set, Nat.reduceEqDiff, ↓reduceIte, and_self, Int.natCast_zero]⟩
  rintro i fr h1 ⟨hi, hG, hR, g0, g1, g7, g8, g9⟩
  have hc1 := hG.hc hc
  unfold f75_l0
  by_cases hlt : i < L.length
  · have d0 : decide ((i : Int) < (L.length : Int)) = true := decide_eq_true (by omega)
    have hv1 := hv.grow hc hG
    obtain ⟨id, q, p1, p2, _⟩ := hv1.at2 hlt
    have hgd : L.getD i (0, 0) = L[i] := by rw [List.getD_eq_getElem?_getD, List.getElem?_eq_getElem hlt]; rfl
    have hno : ¬ risAt n L i → risB n L = false := fun h => by unfold risB; exact @decide_eq_false _ (Classical.propDecidable _) (fun hh => h (hh i hlt))
    have hst : storeV (h1.new (.cells 2 [.i .i64 0, .i .i64 0])) 2 (.p h1.nx 0) (.agg [.i .i64 L[i].1, .i .i64 L[i].2]) = .ok undefV ((h1.new (.cells 2 [.i .i64 0, .i .i64 0])).put h1.nx (.cells 2 [.i .i64 L[i].1, .i .i64 L[i].2])) := st2 (a := .i .i64 0) (b := .i .i64 0) get_new_same
    have n1 := nx_new h1 (.cells 2 [.i .i64 0, .i .i64 0])
    have gB : Grow h1.nx.nat h1 ((h1.new (.cells 2 [.i .i64 0, .i .i64 0])).put h1.nx (.cells 2 [.i .i64 L[i].1, .i .i64 L[i].2])) := (Grow.new (Nat.le_refl _) _).trans (Grow.put (Nat.le_refl _) (by omega) _)
    have c7 : ((h1.new (.cells 2 [.i .i64 0, .i .i64 0])).put h1.nx (.cells 2 [.i .i64 L[i].1, .i .i64 L[i].2])).get h1.nx = .cells 2 [.i .i64 L[i].1, .i .i64 L[i].2] := get_put_same
    simp (disch := omega) only [f75_r2, f75_r3, w_skip, w_reg, w_seq, w_cond, w_block, seqK_n, ckB_b, cbB_b, true_and, x_nil, x_mv, x_as, x_alloc, x_ldn, x_st, x_bin, x_iads, kx, rvP_ok, okv_some, ev_t, getV_some, putD_some, putD_none, bin_lss, of0, getK_set, Nat.reduceEqDiff, ↓reduceIte, g7, g8, g9, d0, p1, p2, hst]
    generalize (h1.new (.cells 2 [.i .i64 0, .i .i64 0])).put h1.nx (.cells 2 [.i .i64 L[i].1, .i .i64 L[i].2]) = h2 at *
    have gC := hG.trans (gB.low hG.nx)
    have l0 := ld20 c7
    have l1 := ld21 c7
    have l2 := ldn2 c7
    have z0 : ∀ ff : Nat → RV, idxV (.i .i64 0) 2 ff = ff 0 := fun _ => rfl
    have z1 : ∀ ff : Nat → RV, idxV (.i .i64 1) 2 ff = ff 1 := fun _ => rfl
    cases k1 : nodeB n L[i].1 with
    | false =>
      have hf := hno (fun h => by have h := h.1; rw [hgd] at h; unfold okE at h; rw [k1] at h; cases h)
      simp (disch := omega) only [f75_r4, f75_r5, f75_rs, w_reg, w_seq, w_cond, w_ret, seqK_n, seqK_r, atK_r, loopK_r, ckB_b, cbB_b, okG_b, asG_f, true_and, retK_r, x_nil, x_g, x_mv, x_as, x_pick, x_ld, x_not, x_iadr, x_call, kx, rvP_ok, ev_t, ev_c, evs_nil, evs_cons, getV_some, putD_some, pick_b, onB_b, onP_p, oGet_s, readRs_nil, readRs_t, retV_1, of0, of1, Option.some.injEq, exists_eq_left', getK_set, Nat.reduceEqDiff, ↓reduceIte, Bool.false_eq_true, Bool.not_true, Bool.not_false, g0, z0, l0, k.n96, k1]
      exact ⟨by rw [hf], gC⟩
    | true =>
    cases k2 : nodeB n L[i].2 with
    | false =>
      have hf := hno (fun h => by have h := h.1; rw [hgd] at h; unfold okE at h; rw [k1, k2] at h; cases h)
      simp (disch := omega) only [f75_r4, f75_r5, f75_rs, w_reg, w_seq, w_cond, w_ret, seqK_n, seqK_r, atK_r, loopK_r, ckB_b, cbB_b, okG_b, asG_f, true_and, retK_r, x_nil, x_g, x_mv, x_as, x_pick, x_ld, x_not, x_iadr, x_call, kx, rvP_ok, ev_t, ev_c, evs_nil, evs_cons, getV_some, putD_some, pick_b, onB_b, onP_p, oGet_s, readRs_nil, readRs_t, retV_1, of0, of1, Option.some.injEq, exists_eq_left', getK_set, Nat.reduceEqDiff, ↓reduceIte, Bool.false_eq_true, Bool.not_true, Bool.not_false, g0, z0, z1, l0, l1, k.n96, k1, k2]
      exact ⟨by rw [hf], gC⟩
    | true =>
    by_cases k3 : L[i].1 = L[i].2
    · have d3 : decide (L[i].1 = L[i].2) = true := decide_eq_true k3
      have hf := hno (fun h => by have h := h.1; rw [hgd] at h; unfold okE at h; rw [k1, k2] at h; simp [k3] at h)
      simp (disch := omega) only [f75_r4, f75_r5, f75_rs, w_reg, w_seq, w_cond, w_ret, seqK_n, seqK_r, atK_r, loopK_r, ckB_b, cbB_b, okG_b, asG_f, true_and, retK_r, x_nil, x_g, x_mv, x_as, x_pick, x_ld, x_bin, x_not, x_iadr, x_call, kx, rvP_ok, okv_some, ev_t, ev_c, evs_nil, evs_cons, getV_some, putD_some, bin_eql, pick_b, onB_b, onP_p, oGet_s, readRs_nil, readRs_t, retV_1, of0, of1, Option.some.injEq, exists_eq_left', getK_set, Nat.reduceEqDiff, ↓reduceIte, Bool.false_eq_true, Bool.not_true, Bool.not_false, g0, z0, z1, l0, l1, k.n96, k1, k2, d3]
      exact ⟨by rw [hf], gC⟩
    · have d3 : decide (L[i].1 = L[i].2) = false := decide_eq_false k3
      have hok : okE n (L.getD i (0, 0)) = true := by rw [hgd]; unfold okE; rw [k1, k2, decide_eq_true k3]; rfl
      simp (disch := omega) only [f75_r4, w_skip, w_draw, w_seq, w_cond, seqK_n, ckB_b, cbB_b, okG_b, asG_f, true_and, x_nil, x_g, x_mv, x_pick, x_ld, x_bin, x_not, x_iadr, x_call, kx, rvP_ok, okv_some, ev_t, ev_c, evs_nil, evs_cons, getV_some, putD_some, bin_eql, pick_b, onB_b, onP_p, of0, of1, getK_set, Nat.reduceEqDiff, ↓reduceIte, Bool.false_eq_true, Bool.not_true, Bool.not_false, g0, z0, z1, l0, l1, k.n96, k1, k2, d3]
      by_cases h0 : i = 0
      · have d4 : decide ((i : Int) > 0) = false := decide_eq_false (by omega)
        simp (disch := omega) only [f75_r6, f75_r8, w_skip, w_reg, w_cond, seqK_n, atK_n, loopK_n, ckB_b, cbB_b, okG_b, asG_t, true_and, x_nil, x_g, x_mv, x_bin, kx, kg, xg_nil, xg_g, xg_mv, xg_pick, xg_bin, xd_cons, fresh_nil, stK_n, stK_s, stay_nil, rvP_ok, okv_some, ev_t, ev_c, getV_some, putD_some, bin_add, bin_gtr, pick_b, of0, of1, getK_set, Nat.reduceEqDiff, ↓reduceIte, Bool.false_eq_true, g9, d4, fw64]
        exact ⟨i + 1, by omega, hlt, gC, fun j hj => by
          by_cases e : j < i
          · exact hR j e
          · rw [show j = i by omega]; exact ⟨hok, fun h => by omega⟩, by simp (disch := omega) only [getK_set, Nat.reduceEqDiff, ↓reduceIte, g0, g1, g7, g8, and_self, Int.natCast_add, Int.natCast_one]⟩
      · have d4 : decide ((i : Int) > 0) = true := decide_eq_true (by omega)
        have e1 : (i : Int) - 1 = ((i - 1 : Nat) : Int) := by omega
        have hlt1 : i - 1 < L.length := by omega
        obtain ⟨id', q', p1', p2', _⟩ := (hv.grow hc gC).at2 hlt1
        have hgd1 : L.getD (i - 1) (0, 0) = L[i - 1] := by rw [List.getD_eq_getElem?_getD, List.getElem?_eq_getElem hlt1]; rfl
        have hq := k.n80 L[i - 1] L[i]
        have hav1 : V.agg [.i .i64 L[i - 1].1, .i .i64 L[i - 1].2] = pV L[i - 1] := rfl
        have hav2 : V.agg [.i .i64 L[i].1, .i .i64 L[i].2] = pV L[i] := rfl
        cases hb : bfB L[i - 1] L[i] with
        | false =>
          have hf := hno (fun h => by have h := h.2 (by omega); rw [hgd, hgd1, hb] at h; cases h)
          simp (disch := omega) only [f75_r6, f75_r7, f75_rs, w_reg, w_seq, w_cond, w_ret, seqK_n, seqK_r, atK_r, loopK_r, ckB_b, cbB_b, okG_b, asG_t, true_and, retK_r, x_nil, x_g, x_as, x_call, kx, kg, xg_nil, xg_g, xg_mv, xg_pick, xg_ldn, xg_bin, xg_not, xg_iads, xd_cons, fresh_nil, stK_n, stK_s, stay_nil, rvP_ok, okv_some, ev_t, ev_c, evs_nil, evs_cons, getV_some, putD_some, bin_sub, bin_gtr, pick_b, onB_b, oGet_s, readRs_nil, readRs_t, retV_1, of0, of1, Option.some.injEq, exists_eq_left', getK_set, Nat.reduceEqDiff, ↓reduceIte, Bool.not_false, g1, d4, e1, fw64, p1', p2', l2, hav1, hav2, hq, hb]
          exact ⟨by rw [hf], gC⟩
        | true =>
          simp (disch := omega) only [f75_r6, f75_r8, w_skip, w_reg, w_cond, seqK_n, atK_n, loopK_n, ckB_b, cbB_b, okG_b, asG_t, true_and, x_nil, x_g, x_mv, x_bin, x_call, kx, kg, xg_nil, xg_g, xg_mv, xg_pick, xg_ldn, xg_bin, xg_not, xg_iads, xd_cons, fresh_nil, stK_n, stK_s, stay_nil, rvP_ok, okv_some, ev_t, ev_c, evs_nil, evs_cons, getV_some, putD_some, bin_add, bin_sub, bin_gtr, pick_b, onB_b, of0, of1, getK_set, Nat.reduceEqDiff, ↓reduceIte, Bool.false_eq_true, Bool.not_true, g1, g9, d4, e1, fw64, p1', p2', l2, hav1, hav2, hq, hb]
          exact ⟨i + 1, by omega, hlt, gC, fun j hj => by
            by_cases e : j < i
            · exact hR j e
            · rw [show j = i by omega]; exact ⟨hok, fun _ => by rw [hgd, hgd1]; exact hb⟩, by simp (disch := omega) only [getK_set, Nat.reduceEqDiff, ↓reduceIte, g0, g1, g7, g8, and_self, Int.natCast_add, Int.natCast_one]⟩
  · have d0 : decide ((i : Int) < (L.length : Int)) = false := decide_eq_false (by omega)
    have ei : i = L.length := by omega
    subst ei
    have hf : risB n L = true := by unfold risB; exact @decide_eq_true _ (Classical.propDecidable _) hR
    simp (disch := omega) only [f75_r2, f75_r9, f75_rs, w_reg, w_seq, w_cond, w_exit, w_ret, seqK_n, seqK_e, atK_e, loopK_e, ckB_b, cbB_b, true_and, retK_r, x_nil, x_as, x_bin, kx, rvP_ok, okv_some, ev_t, ev_c, getV_some, putD_some, bin_lss, oGet_s, readRs_nil, readRs_t, retV_1, Option.some.injEq, exists_eq_left', getK_set, ↓reduceIte, Bool.false_eq_true, g8, g9, d0]
    exact ⟨by rw [hf], hG⟩
def UpT (L : List (Int × Int)) (i : Nat) : Prop := ∀ j, j < i → (L.getD j (0, 0)).1 ≤ (L.getD j (0, 0)).2
open Classical in
noncomputable def chkG (n : Int) (L : List (Int × Int)) : Int := if n < 1 ∨ 7 < n then 1 else if risB n L = true ∧ UpT L L.length then 0 else 20
def f47_I (h0 : H) (n : Int) (v : V) (L : List (Int × Int)) (i : Nat) (fr : Fr) (h1 : H) : Prop := i ≤ L.length ∧ Grow h0.nx.nat h0 h1 ∧ UpT L i ∧ fr.get (K.ofNat 0) = some (.i .i64 n) ∧ fr.get (K.ofNat 1) = some (v) ∧ fr.get (K.ofNat 17) = some (v) ∧ fr.get (K.ofNat 18) = some (.i .i64 (L.length : Int)) ∧ fr.get (K.ofNat 19) = some (.i .i64 (i : Int))
structure CallsCk (fs : T EF) : Prop extends Nat4 fs where
  c75 : fs.get (K.ofNat 75) = some f75
theorem f47_ret {n : Int} {v : V} {L : List (Int × Int)} (k : CallsCk fs) (hv : Srp h v L) (hb : L.length ≤ 9223372036854775807) (hc : HC h) : Ret fs f47 [.i .i64 n, v] h fun r h' => r = .i .i64 (chkG n L) ∧ Grow h.nx.nat h h' := by
  apply ret_of rfl
  show W fs none f47_c _ _ _
  unfold f47_c
  by_cases hn : n < 1 ∨ 7 < n
  · have hg : chkG n L = 1 := by unfold chkG; rw [if_pos hn]
    by_cases h1 : n < 1
    · have d1 : decide (n < 1) = true := decide_eq_true h1
      simp (disch := omega) only [f47_r0, f47_r1, f47_r2, f47_rs, w_reg, w_seq, w_cond, w_ret, seqK_n, seqK_r, ckB_b, cbB_b, okG_b, asG_f, true_and, retK_r, x_nil, x_g, x_mv, x_as, x_pick, x_bin, kx, rvP_ok, okv_some, ev_t, ev_c, getV_some, putD_some, bin_lss, pick_b, oGet_s, readRs_nil, readRs_t, retV_1, frame_2, of0, of1, Option.some.injEq, exists_eq_left', getK_set, Nat.reduceEqDiff, ↓reduceIte, Bool.false_eq_true, Bool.not_true, of7, d1]
      exact ⟨by rw [hg], Grow.refl _ _⟩
    · have d1 : decide (n < 1) = false := decide_eq_false h1
      have d2 : decide (n > 7) = true := decide_eq_true (by omega)
      simp (disch := omega) only [f47_r0, f47_r1, f47_r2, f47_rs, w_reg, w_seq, w_cond, w_ret, seqK_n, seqK_r, ckB_b, cbB_b, okG_b, asG_f, true_and, retK_r, x_nil, x_g, x_mv, x_as, x_pick, x_bin, kx, rvP_ok, okv_some, ev_t, ev_c, getV_some, putD_some, bin_lss, bin_gtr, pick_b, oGet_s, readRs_nil, readRs_t, retV_1, frame_2, of0, of1, Option.some.injEq, exists_eq_left', getK_set, Nat.reduceEqDiff, ↓reduceIte, Bool.false_eq_true, Bool.not_false, of7, d1, d2]
      exact ⟨by rw [hg], Grow.refl _ _⟩
  · have d1 : decide (n < 1) = false := decide_eq_false (by omega)
    have d2 : decide (n > 7) = false := decide_eq_false (by omega)
    simp (disch := omega) only [f47_r0, f47_r1, f47_r3, w_skip, w_reg, w_seq, w_cond, seqK_n, ckB_b, cbB_b, okG_b, asG_f, true_and, x_nil, x_g, x_mv, x_as, x_pick, x_bin, x_call, kx, rvP_ok, okv_some, ev_t, ev_c, evs_nil, evs_cons, getV_some, putD_some, bin_lss, bin_gtr, pick_b, frame_2, of0, of1, getK_set, Nat.reduceEqDiff, ↓reduceIte, Bool.false_eq_true, Bool.not_false, of7, d1, d2]
    refine (callP_0 (ef := f75) k.c75 rfl (f75_ret k.toNat4 hv hb hc)).mono ?_
    rintro r h1 ⟨rfl, hG⟩
    cases hr : risB n L with
    | false =>
      have hg : chkG n L = 20 := by unfold chkG; rw [if_neg hn, if_neg (by rw [hr]; simp)]
      simp (disch := omega) only [f47_r4, f47_rs, w_reg, w_seq, w_cond, w_ret, seqK_n, seqK_r, ckB_b, cbB_b, true_and, retK_r, x_nil, x_as, x_not, kx, rvP_ok, ev_t, ev_c, getV_some, putD_some, onB_b, oGet_s, readRs_nil, readRs_t, retV_1, Option.some.injEq, exists_eq_left', getK_set, ↓reduceIte, Bool.not_false, of20]
      exact ⟨by rw [hg], hG⟩
    | true =>
      have hv1 := hv.grow hc hG
      have hlen := hv1.len
      simp (disch := omega) only [f47_r5, w_skip, w_reg, w_seq, w_cond, w_block, seqK_n, ckB_b, cbB_b, true_and, x_nil, x_mv, x_not, x_len, kx, rvP_ok, ev_t, ev_c, getV_some, putD_some, onB_b, of0, getK_set, Nat.reduceEqDiff, ↓reduceIte, Bool.false_eq_true, Bool.not_true, hlen]
      refine W_loop (f47_I h n v L) (fun i => L.length - i) ?_ 0 ⟨by omega, hG, fun j hj => by omega, by simp (disch := omega) only [getK_set, Nat.reduceEqDiff, ↓reduceIte, and_self, Int.natCast_zero]⟩
      clear hG hv1 hlen
      rintro i fr h1 ⟨hi, hG, hR, g0, g1, g17, g18, g19⟩
      have hc1 := hG.hc hc
      unfold f47_l0
      by_cases hlt : i < L.length
      · have d0 : decide ((i : Int) < (L.length : Int)) = true := decide_eq_true (by omega)
        obtain ⟨id, q, p1, p2, _⟩ := (hv.grow hc hG).at2 hlt
        have hgd : L.getD i (0, 0) = L[i] := by rw [List.getD_eq_getElem?_getD, List.getElem?_eq_getElem hlt]; rfl
        have hst : storeV (h1.new (.cells 2 [.i .i64 0, .i .i64 0])) 2 (.p h1.nx 0) (.agg [.i .i64 L[i].1, .i .i64 L[i].2]) = .ok undefV ((h1.new (.cells 2 [.i .i64 0, .i .i64 0])).put h1.nx (.cells 2 [.i .i64 L[i].1, .i .i64 L[i].2])) := st2 (a := .i .i64 0) (b := .i .i64 0) get_new_same
        have n1 := nx_new h1 (.cells 2 [.i .i64 0, .i .i64 0])
        have gB : Grow h1.nx.nat h1 ((h1.new (.cells 2 [.i .i64 0, .i .i64 0])).put h1.nx (.cells 2 [.i .i64 L[i].1, .i .i64 L[i].2])) := (Grow.new (Nat.le_refl _) _).trans (Grow.put (Nat.le_refl _) (by omega) _)
        have c7 : ((h1.new (.cells 2 [.i .i64 0, .i .i64 0])).put h1.nx (.cells 2 [.i .i64 L[i].1, .i .i64 L[i].2])).get h1.nx = .cells 2 [.i .i64 L[i].1, .i .i64 L[i].2] := get_put_same
        simp (disch := omega) only [f47_r6, f47_r7, w_skip, w_reg, w_seq, w_cond, w_block, seqK_n, ckB_b, cbB_b, true_and, x_nil, x_alloc, x_ldn, x_st, x_bin, x_iads, kx, rvP_ok, okv_some, ev_t, getV_some, putD_some, putD_none, bin_lss, of0, getK_set, Nat.reduceEqDiff, ↓reduceIte, g17, g18, g19, d0, p1, p2, hst]
        generalize (h1.new (.cells 2 [.i .i64 0, .i .i64 0])).put h1.nx (.cells 2 [.i .i64 L[i].1, .i .i64 L[i].2]) = h2 at *
        have gC := hG.trans (gB.low hG.nx)
        have l0 := ld20 c7
        have l1 := ld21 c7
        have z0 : ∀ ff : Nat → RV, idxV (.i .i64 0) 2 ff = ff 0 := fun _ => rfl
        have z1 : ∀ ff : Nat → RV, idxV (.i .i64 1) 2 ff = ff 1 := fun _ => rfl
        by_cases h3 : L[i].1 ≤ L[i].2
        · have d3 : decide (L[i].1 > L[i].2) = false := decide_eq_false (by omega)
          simp (disch := omega) only [f47_r8, f47_r10, w_skip, w_reg, w_cond, seqK_n, atK_n, loopK_n, ckB_b, cbB_b, true_and, x_nil, x_mv, x_ld, x_bin, x_iadr, kx, rvP_ok, okv_some, ev_t, ev_c, getV_some, putD_some, bin_add, bin_gtr, onP_p, of0, of1, getK_set, Nat.reduceEqDiff, ↓reduceIte, Bool.false_eq_true, g19, z0, z1, l0, l1, d3, fw64]
          exact ⟨i + 1, by omega, hlt, gC, fun j hj => by
            by_cases e : j < i
            · exact hR j e
            · rw [show j = i by omega, hgd]; exact h3, by simp (disch := omega) only [getK_set, Nat.reduceEqDiff, ↓reduceIte, g0, g1, g17, g18, and_self, Int.natCast_add, Int.natCast_one]⟩
        · have d3 : decide (L[i].1 > L[i].2) = true := decide_eq_true (by omega)
          have hg : chkG n L = 20 := by unfold chkG; rw [if_neg hn, if_neg (fun h => h3 (by have := h.2 i hlt; rw [hgd] at this; exact this))]
          simp (disch := omega) only [f47_r8, f47_r9, f47_rs, w_reg, w_seq, w_cond, w_ret, seqK_n, seqK_r, atK_r, loopK_r, ckB_b, cbB_b, true_and, retK_r, x_nil, x_as, x_ld, x_bin, x_iadr, kx, rvP_ok, okv_some, ev_t, ev_c, getV_some, putD_some, bin_gtr, onP_p, oGet_s, readRs_nil, readRs_t, retV_1, of0, of1, Option.some.injEq, exists_eq_left', getK_set, Nat.reduceEqDiff, ↓reduceIte, of20, z0, z1, l0, l1, d3]
          exact ⟨by rw [hg], gC⟩
      · have d0 : decide ((i : Int) < (L.length : Int)) = false := decide_eq_false (by omega)
        have ei : i = L.length := by omega
        subst ei
        have hg : chkG n L = 0 := by unfold chkG; rw [if_neg hn, if_pos ⟨hr, hR⟩]
        simp (disch := omega) only [f47_r6, f47_r11, f47_rs, w_reg, w_seq, w_cond, w_exit, w_ret, seqK_n, seqK_e, atK_e, loopK_e, ckB_b, cbB_b, true_and, retK_r, x_nil, x_as, x_bin, kx, rvP_ok, okv_some, ev_t, ev_c, getV_some, putD_some, bin_lss, oGet_s, readRs_nil, readRs_t, retV_1, of0, Option.some.injEq, exists_eq_left', getK_set, ↓reduceIte, Bool.false_eq_true, g18, g19, d0]
        exact ⟨by rw [hg], hG⟩
end
end
end Go.Ev
namespace Go.Ev
open Go Go.RowKit
def toI (x : Nat × Nat) : Int × Int := ((x.1 : Int), (x.2 : Int))
/-- The pairs before the i-th place. -/
def arP (g : Nat → Nat → Bool) (i : Nat) : List (Int × Int) := ((List.range i).filter fun j => g (j / 7) (j % 7)).map fun j => toI (j / 7, j % 7)
def arI (g : Nat → Nat → Bool) : List (Int × Int) := (arw g).map toI
theorem arP_all {g : Nat → Nat → Bool} : arP g 49 = arI g := by unfold arP arI arw; rw [List.map_map]; rfl
theorem arP_succ {g : Nat → Nat → Bool} {a b : Nat} (hb : b < 7) : arP g (7 * a + (b + 1)) = arP g (7 * a + b) ++ (if g a b = true then [((a : Int), (b : Int))] else []) := by
  unfold arP
  rw [show 7 * a + (b + 1) = 7 * a + b + 1 by omega, List.range_succ, List.filter_append, List.map_append]
  congr 1
  have e1 : (7 * a + b) / 7 = a := by omega
  have e2 : (7 * a + b) % 7 = b := by omega
  by_cases h : g a b = true
  · rw [if_pos h]; simp [e1, e2, h, toI]; omega
  · rw [if_neg h]; simp [e1, e2, h]
theorem arP_skip {g : Nat → Nat → Bool} {a b c : Nat} (hbc : b ≤ c) (hc : c ≤ 7) (hg : ∀ d, b ≤ d → d < c → g a d = false) : arP g (7 * a + c) = arP g (7 * a + b) := by
  induction c with
  | zero => have : b = 0 := by omega
            rw [this]
  | succ c ih =>
    by_cases e : b = c + 1
    · rw [e]
    · rw [arP_succ (by omega), if_neg (by rw [hg c (by omega) (by omega)]; simp), List.append_nil]
      exact ih (by omega) (by omega) (fun d h1 h2 => hg d h1 (by omega))
theorem arP_row {g : Nat → Nat → Bool} {a n : Nat} (hn : n ≤ 7) (hg : ∀ d, n ≤ d → d < 7 → g a d = false) : arP g (7 * (a + 1)) = arP g (7 * a + n) := by
  rw [show 7 * (a + 1) = 7 * a + 7 by omega]
  exact arP_skip hn (Nat.le_refl _) hg
theorem arP_end {g : Nat → Nat → Bool} {n : Nat} (hn : n ≤ 7) (hg : ∀ a d, n ≤ a → a < 7 → d < 7 → g a d = false) : arP g (7 * n) = arI g := by
  rw [← arP_all]
  have key : ∀ k, n + k ≤ 7 → arP g (7 * (n + k)) = arP g (7 * n) := by
    intro k
    induction k with
    | zero => intro _; rfl
    | succ k ih =>
      intro hk
      rw [show n + (k + 1) = n + k + 1 by omega, arP_row (n := 0) (by omega) (fun d _ hd => hg _ _ (by omega) (by omega) hd), Nat.add_zero]
      exact ih (by omega)
  have := key (7 - n) (by omega)
  rw [show 7 * (n + (7 - n)) = 49 by omega] at this
  exact this.symm
theorem arP_len {g : Nat → Nat → Bool} {i : Nat} : (arP g i).length ≤ i := by
  unfold arP
  rw [List.length_map]
  exact Nat.le_trans (List.length_filter_le _ _) (by simp)
theorem arI_len {g : Nat → Nat → Bool} : (arI g).length ≤ 49 := by rw [← arP_all]; exact arP_len
theorem arI_congr {f g : Nat → Nat → Bool} (h : ∀ a b, a < 7 → b < 7 → f a b = g a b) : arI f = arI g := by unfold arI; rw [arw_congr h]
theorem mem_arI {g : Nat → Nat → Bool} {x : Int × Int} : x ∈ arI g ↔ ∃ a b : Nat, a < 7 ∧ b < 7 ∧ g a b = true ∧ x = ((a : Int), (b : Int)) := by
  unfold arI
  rw [List.mem_map]
  constructor
  · rintro ⟨⟨a, b⟩, h, rfl⟩
    obtain ⟨h1, h2, h3⟩ := mem_arw.1 h
    exact ⟨a, b, h1, h2, h3, rfl⟩
  · rintro ⟨a, b, h1, h2, h3, rfl⟩
    exact ⟨(a, b), mem_arw.2 ⟨h1, h2, h3⟩, rfl⟩
theorem mem_arI' {g : Nat → Nat → Bool} {a b : Nat} : ((a : Int), (b : Int)) ∈ arI g ↔ a < 7 ∧ b < 7 ∧ g a b = true := by
  rw [mem_arI]
  constructor
  · rintro ⟨c, d, h1, h2, h3, h4⟩
    injection h4 with h4 h5
    have e1 : a = c := by omega
    have e2 : b = d := by omega
    rw [e1, e2]; exact ⟨h1, h2, h3⟩
  · rintro ⟨h1, h2, h3⟩; exact ⟨a, b, h1, h2, h3, rfl⟩
/-- A graph: pairs a < b of n nodes. -/
structure Gph (n : Nat) (g : Nat → Nat → Bool) : Prop where
  n1 : 1 ≤ n
  n7 : n ≤ 7
  up : ∀ a b, g a b = true → a < b ∧ b < n
/-- Its arrows. -/
def sy (g : Nat → Nat → Bool) (a b : Nat) : Bool := g a b || g b a
/-- Pairs that are rising. -/
theorem arw_sorted {g : Nat → Nat → Bool} {i : Nat} (hi : i + 1 < (arw g).length) : 7 * (arw g)[i].1 + (arw g)[i].2 < 7 * (arw g)[i + 1].1 + (arw g)[i + 1].2 := by
  have hs : ((List.range 49).filter fun i => g (i / 7) (i % 7)).Pairwise (· < ·) := List.Pairwise.sublist List.filter_sublist List.pairwise_lt_range
  have hl : (arw g).length = ((List.range 49).filter fun i => g (i / 7) (i % 7)).length := by unfold arw; rw [List.length_map]
  have := List.pairwise_iff_getElem.1 hs i (i + 1) (by omega) (by omega) (by omega)
  have e : ∀ j (h : j < (arw g).length), (arw g)[j] = ((((List.range 49).filter fun i => g (i / 7) (i % 7))[j]'(by omega)) / 7, (((List.range 49).filter fun i => g (i / 7) (i % 7))[j]'(by omega)) % 7) := fun j h => List.getElem_map (fun i => (i / 7, i % 7))
  rw [e, e]
  simp only
  omega
end Go.Ev
