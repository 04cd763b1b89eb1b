/-
  The pieces of Pieces of the reference, and what they make.
  Functions of the seat: few, partsOf.
  Functions of the seat: family.all, family.tops.
  Functions of the seat: piecesOf, Made.
-/
import Derived.Test.YtneacehpoaambaaPd
namespace Go.Ev
open Go Go.RowKit
noncomputable def f49_r0 : List EOper := [⟨(some (K.ofNat 2)), none, .as (.c .sn)⟩]
noncomputable def f49_r1 : List EOper := [⟨(some (K.ofNat 3)), none, .as (.c .sn)⟩]
noncomputable def f49_r2 : List EOper := [⟨(some (K.ofNat 4)), none, .as (.c (.i .i64 (.ofNat 0)))⟩]
noncomputable def f49_r3 : List EOper := [⟨(some (K.ofNat 8)), none, .mv (.t (K.ofNat 4))⟩, ⟨(some (K.ofNat 9)), none, .bin .lss (.t (K.ofNat 8)) (.c (.i .i64 (.ofNat 64)))⟩]
noncomputable def f49_r4 : List EOper := [⟨(some (K.ofNat 5)), none, .as (.c (.b false))⟩, ⟨(some (K.ofNat 6)), none, .as (.c (.b true))⟩]
noncomputable def f49_r5 : List EOper := [⟨(some (K.ofNat 7)), none, .as (.c (.i .i64 (.ofNat 0)))⟩]
noncomputable def f49_r6 : List EOper := [⟨(some (K.ofNat 12)), none, .mv (.t (K.ofNat 7))⟩, ⟨(some (K.ofNat 13)), none, .mv (.t (K.ofNat 0))⟩, ⟨(some (K.ofNat 14)), none, .len (.t (K.ofNat 13))⟩, ⟨(some (K.ofNat 15)), none, .bin .lss (.t (K.ofNat 12)) (.t (K.ofNat 14))⟩]
noncomputable def f49_r7 : List EOper := [⟨(some (K.ofNat 18)), none, .mv (.t (K.ofNat 5))⟩, ⟨(some (K.ofNat 19)), none, .mv (.t (K.ofNat 18))⟩, ⟨(some (K.ofNat 20)), (some ((K.ofNat 19), false)), .mv (.t (K.ofNat 0))⟩, ⟨(some (K.ofNat 21)), (some ((K.ofNat 19), false)), .mv (.t (K.ofNat 7))⟩, ⟨(some (K.ofNat 22)), (some ((K.ofNat 19), false)), .iads 1 (.t (K.ofNat 20)) (.t (K.ofNat 21))⟩, ⟨(some (K.ofNat 23)), (some ((K.ofNat 19), false)), .ld (.t (K.ofNat 22))⟩, ⟨(some (K.ofNat 24)), (some ((K.ofNat 19), false)), .mv (.t (K.ofNat 4))⟩, ⟨(some (K.ofNat 25)), (some ((K.ofNat 19), false)), .bin .eql (.t (K.ofNat 23)) (.t (K.ofNat 24))⟩, ⟨(some (K.ofNat 26)), none, .pick (.t (K.ofNat 19)) (.c (.b true)) (.t (K.ofNat 25))⟩, ⟨(some (K.ofNat 5)), none, .as (.t (K.ofNat 26))⟩]
noncomputable def f49_r8 : List EOper := [⟨(some (K.ofNat 27)), none, .mv (.t (K.ofNat 6))⟩, ⟨(some (K.ofNat 28)), none, .mv (.t (K.ofNat 27))⟩, ⟨(some (K.ofNat 29)), (some ((K.ofNat 28), true)), .mv (.t (K.ofNat 0))⟩, ⟨(some (K.ofNat 30)), (some ((K.ofNat 28), true)), .mv (.t (K.ofNat 7))⟩, ⟨(some (K.ofNat 31)), (some ((K.ofNat 28), true)), .iads 1 (.t (K.ofNat 29)) (.t (K.ofNat 30))⟩, ⟨(some (K.ofNat 32)), (some ((K.ofNat 28), true)), .ld (.t (K.ofNat 31))⟩, ⟨(some (K.ofNat 33)), (some ((K.ofNat 28), true)), .mv (.t (K.ofNat 4))⟩, ⟨(some (K.ofNat 34)), (some ((K.ofNat 28), true)), .bin .eql (.t (K.ofNat 32)) (.t (K.ofNat 33))⟩, ⟨(some (K.ofNat 35)), (some ((K.ofNat 28), true)), .mv (.t (K.ofNat 34))⟩, ⟨(some (K.ofNat 36)), (some ((K.ofNat 35), false)), .mv (.t (K.ofNat 4))⟩, ⟨(some (K.ofNat 37)), (some ((K.ofNat 35), false)), .mv (.t (K.ofNat 0))⟩, ⟨(some (K.ofNat 38)), (some ((K.ofNat 35), false)), .mv (.t (K.ofNat 7))⟩, ⟨(some (K.ofNat 39)), (some ((K.ofNat 35), false)), .iads 1 (.t (K.ofNat 37)) (.t (K.ofNat 38))⟩, ⟨(some (K.ofNat 40)), (some ((K.ofNat 35), false)), .ld (.t (K.ofNat 39))⟩, ⟨(some (K.ofNat 41)), (some ((K.ofNat 35), false)), .call (.c (.fn (K.ofNat 53) [])) [(.t (K.ofNat 36)), (.t (K.ofNat 40))]⟩, ⟨(some (K.ofNat 42)), (some ((K.ofNat 35), false)), .not (.t (K.ofNat 41))⟩, ⟨(some (K.ofNat 43)), (some ((K.ofNat 28), true)), .pick (.t (K.ofNat 35)) (.c (.b true)) (.t (K.ofNat 42))⟩, ⟨(some (K.ofNat 44)), none, .pick (.t (K.ofNat 28)) (.t (K.ofNat 43)) (.c (.b false))⟩, ⟨(some (K.ofNat 6)), none, .as (.t (K.ofNat 44))⟩]
noncomputable def f49_r9 : List EOper := [⟨(some (K.ofNat 16)), none, .mv (.t (K.ofNat 7))⟩, ⟨(some (K.ofNat 17)), none, .bin .add (.t (K.ofNat 16)) (.c (.i .i64 (.ofNat 1)))⟩, ⟨(some (K.ofNat 7)), none, .as (.t (K.ofNat 17))⟩]
noncomputable def f49_l0 : EC := (.seq (.seq (.reg f49_r6) (.cond (.t (K.ofNat 15)) .skip (.exit 2))) (.seq (.block 3 (.seq (.reg f49_r7) (.reg f49_r8))) (.reg f49_r9)))
noncomputable def f49_r10 : List EOper := [⟨(some (K.ofNat 45)), none, .mv (.t (K.ofNat 5))⟩, ⟨(some (K.ofNat 46)), none, .mv (.t (K.ofNat 45))⟩, ⟨(some (K.ofNat 47)), (some ((K.ofNat 46), true)), .mv (.t (K.ofNat 6))⟩, ⟨(some (K.ofNat 48)), none, .pick (.t (K.ofNat 46)) (.t (K.ofNat 47)) (.c (.b false))⟩]
noncomputable def f49_r11 : List EOper := [⟨(some (K.ofNat 49)), none, .mv (.t (K.ofNat 3))⟩, ⟨(some (K.ofNat 50)), none, .mv (.t (K.ofNat 4))⟩, ⟨(some (K.ofNat 51)), none, .bslice 1 1 [(.i .i64 (.ofNat 0))] [(0, 1, (.t (K.ofNat 50)))]⟩, ⟨(some (K.ofNat 52)), none, .app 1 (.t (K.ofNat 49)) (.t (K.ofNat 51))⟩, ⟨(some (K.ofNat 3)), none, .as (.t (K.ofNat 52))⟩]
noncomputable def f49_r12 : List EOper := [⟨(some (K.ofNat 10)), none, .mv (.t (K.ofNat 4))⟩, ⟨(some (K.ofNat 11)), none, .bin .add (.t (K.ofNat 10)) (.c (.i .i64 (.ofNat 1)))⟩, ⟨(some (K.ofNat 4)), none, .as (.t (K.ofNat 11))⟩]
noncomputable def f49_l1 : EC := (.seq (.seq (.reg f49_r3) (.cond (.t (K.ofNat 9)) .skip (.exit 0))) (.seq (.block 1 (.seq (.reg f49_r4) (.seq (.seq (.reg f49_r5) (.block 2 (.loop f49_l0))) (.seq (.reg f49_r10) (.cond (.t (K.ofNat 48)) (.reg f49_r11) .skip))))) (.reg f49_r12)))
noncomputable def f49_r13 : List EOper := [⟨(some (K.ofNat 53)), none, .mv (.t (K.ofNat 3))⟩, ⟨(some (K.ofNat 2)), none, .as (.t (K.ofNat 53))⟩]
noncomputable def f49_c : EC := (.seq (.reg f49_r0) (.seq (.reg f49_r1) (.seq (.seq (.reg f49_r2) (.block 0 (.loop f49_l1))) (.seq (.reg f49_r13) .ret))))
noncomputable def f49 : EF := ⟨54, [.tmp (K.ofNat 2)], f49_c, none⟩
theorem f49_rs : f49.rs = [.tmp (K.ofNat 2)] := of_eq_true (eq_self _)
noncomputable def ptI (a b : Int) : Bool := ieq (ibits (fun m n => Nat.xor m (Nat.land m n)) (fun _ x y => x &&& ~~~y) .i64 a b) (.ofNat 0)
noncomputable def inP (S : List Int) (x : Int) : Bool := S.any fun y => decide (y = x)
noncomputable def grP (S : List Int) (x : Int) : Bool := S.all fun y => decide (y = x) || !ptI x y
section
variable {fs : T EF} {ro : Option K}
theorem inP_snoc {S : List Int} {x : Int} {i : Nat} (hi : i < S.length) : inP (S.take (i + 1)) x = (inP (S.take i) x || decide (S[i] = x)) := by
  unfold inP; rw [List.take_succ_eq_append_getElem hi, List.any_append]; simp
theorem grP_snoc {S : List Int} {x : Int} {i : Nat} (hi : i < S.length) : grP (S.take (i + 1)) x = (grP (S.take i) x && (decide (S[i] = x) || !ptI x S[i])) := by
  unfold grP; rw [List.take_succ_eq_append_getElem hi, List.all_append]; simp
def f49_I0 (h : H) (v o : V) (S : List Int) (x : Int) (i : Nat) (fr : Fr) (h1 : H) : Prop := h1 = h ∧ i ≤ S.length ∧ fr.get (K.ofNat 0) = some (v) ∧ fr.get (K.ofNat 3) = some (o) ∧ fr.get (K.ofNat 4) = some (.i .i64 x) ∧ fr.get (K.ofNat 5) = some (.b (inP (S.take i) x)) ∧ fr.get (K.ofNat 6) = some (.b (grP (S.take i) x)) ∧ fr.get (K.ofNat 7) = some (.i .i64 (i : Int))
theorem f49_inner {Q : Ex → Fr → H → Prop} {h : H} {v : V} {S : List Int} {x : Int} {o : V}
    (hp : ∀ a b h P, CallP fs (.fn (K.ofNat 53) []) [.i .i64 a, .i .i64 b] h P = P (.b (ptI a b)) h)
    (hv : Sl iE h v S) (hS : S.length ≤ 1000000)
    (hq : ∀ fr, fr.get (K.ofNat 0) = some (v) ∧ fr.get (K.ofNat 3) = some (o) ∧ fr.get (K.ofNat 4) = some (.i .i64 x) ∧ fr.get (K.ofNat 5) = some (.b (inP S x)) ∧ fr.get (K.ofNat 6) = some (.b (grP S x)) → Q (.exit 2) fr h)
    {fr : Fr} (hg : fr.get (K.ofNat 0) = some (v) ∧ fr.get (K.ofNat 3) = some (o) ∧ fr.get (K.ofNat 4) = some (.i .i64 x) ∧ fr.get (K.ofNat 5) = some (.b false) ∧ fr.get (K.ofNat 6) = some (.b true) ∧ fr.get (K.ofNat 7) = some (.i .i64 0)) :
    W fs ro (.loop f49_l0) Q fr h := by
  refine W_loop (f49_I0 h v o S x) (fun i => S.length - i) ?_ 0 ⟨rfl, by omega, hg⟩
  clear hg fr
  rintro i fr h1 ⟨rfl, hi, g0, g3, g4, g5, g6, g7⟩
  unfold f49_l0
  simp (disch := omega) only [f49_r6, w_skip, w_reg, w_seq, w_cond, w_block, w_exit, seqK_n, seqK_e, loopK_e, ckB_b, cbB_b, true_and, x_nil, x_mv, x_bin, x_len, kx, rvP_ok, okv_some, ev_t, getV_some, putD_some, bin_lss, getK_set, Nat.reduceEqDiff, ↓reduceIte, decide_eq_true_eq, g0, g7, hv.len]
  split
  · rename_i hlt
    have hi' : i < S.length := by omega
    obtain ⟨p, hp1, hp2⟩ := hv.at i hi'
    have hinS := inP_snoc (x := x) hi'
    have hgrS := grP_snoc (x := x) hi'
    generalize inP (S.take i) x = bi at *
    generalize grP (S.take i) x = bg at *
    suffices ∀ fr, fr.get (K.ofNat 0) = some (v) ∧ fr.get (K.ofNat 3) = some (o) ∧ fr.get (K.ofNat 4) = some (.i .i64 x) ∧ fr.get (K.ofNat 5) = some (.b (inP (S.take (i + 1)) x)) ∧ fr.get (K.ofNat 6) = some (.b bg) ∧ fr.get (K.ofNat 7) = some (.i .i64 (i : Int)) → X fs f49_r8 (atK 3 (seqK (W fs ro (EC.reg f49_r9)) (loopK (f49_I0 h1 v o S x) (fun i => S.length - i) i Q)) Ex.normal) fr h1 by
      cases bi
      · simp (disch := omega) only [f49_r7, w_reg, seqK_n, okG_b, asG_f, true_and, x_nil, x_g, x_mv, x_as, x_pick, x_ld, x_bin, x_iads, kx, rvP_ok, okv_some, ev_t, ev_c, getV_some, putD_some, bin_eql, pick_b, getK_set, Nat.reduceEqDiff, ↓reduceIte, Bool.false_eq_true, Bool.not_false, g0, g4, g5, g7, hp1, hp2, iE]
        apply this; simp (disch := omega) only [getK_set, Nat.reduceEqDiff, ↓reduceIte, g0, g3, g4, g6, g7, hinS, Bool.false_or, and_self]
      · simp (disch := omega) only [f49_r7, w_reg, seqK_n, okG_b, asG_f, true_and, x_nil, x_g, x_mv, x_as, x_pick, kx, rvP_ok, ev_t, ev_c, getV_some, putD_some, pick_b, getK_set, Nat.reduceEqDiff, ↓reduceIte, Bool.false_eq_true, Bool.not_true, g5]
        apply this; simp (disch := omega) only [getK_set, Nat.reduceEqDiff, ↓reduceIte, g0, g3, g4, g6, g7, hinS, Bool.true_or, and_self]
    clear g0 g3 g4 g5 g6 g7 fr
    rintro fr ⟨g0, g3, g4, g5, g6, g7⟩
    have fin : ∀ fr, fr.get (K.ofNat 0) = some (v) ∧ fr.get (K.ofNat 3) = some (o) ∧ fr.get (K.ofNat 4) = some (.i .i64 x) ∧ fr.get (K.ofNat 5) = some (.b (inP (S.take (i + 1)) x)) ∧ fr.get (K.ofNat 6) = some (.b (grP (S.take (i + 1)) x)) ∧ fr.get (K.ofNat 7) = some (.i .i64 (i : Int)) → X fs f49_r9 (loopK (f49_I0 h1 v o S x) (fun i => S.length - i) i Q Ex.normal) fr h1 := by
      clear g0 g3 g4 g5 g6 g7 fr
      rintro fr ⟨g0, g3, g4, g5, g6, g7⟩
      simp (disch := omega) only [f49_r9, loopK_n, x_nil, x_mv, x_as, x_bin, kx, rvP_ok, okv_some, ev_t, ev_c, getV_some, putD_some, bin_add, of1, getK_set, ↓reduceIte, g7, fw64]
      refine ⟨i + 1, by omega, rfl, hi', ?_⟩
      simp (disch := omega) only [getK_set, Nat.reduceEqDiff, ↓reduceIte, g0, g3, g4, g5, g6, hinS, Int.natCast_add, Int.natCast_one, and_self]
    cases bg
    · simp (disch := omega) only [f49_r8, w_reg, seqK_n, atK_n, okG_b, okG_u, asG_t, asG_u, true_and, x_nil, x_g, x_mv, x_as, x_pick, kx, rvP_ok, ev_t, ev_c, getV_some, putD_some, pick_b, getK_set, Nat.reduceEqDiff, ↓reduceIte, Bool.false_eq_true, g6]
      apply fin; simp (disch := omega) only [getK_set, Nat.reduceEqDiff, ↓reduceIte, g0, g3, g4, g5, g7, hgrS, Bool.false_and, and_self]
    · by_cases hd : S[i] = x
      · simp (disch := omega) only [f49_r8, w_reg, seqK_n, atK_n, okG_b, asG_t, asG_f, true_and, x_nil, x_g, x_mv, x_as, x_pick, x_ld, x_bin, x_iads, kx, rvP_ok, okv_some, ev_t, ev_c, getV_some, putD_some, bin_eql, pick_b, getK_set, Nat.reduceEqDiff, ↓reduceIte, Bool.false_eq_true, Bool.not_true, g0, g4, g6, g7, hp1, hp2, iE, hd, decide_true]
        apply fin; simp (disch := omega) only [getK_set, Nat.reduceEqDiff, ↓reduceIte, g0, g3, g4, g5, g7, hgrS, hd, decide_true, Bool.true_and, Bool.true_or, and_self]
      · simp (disch := omega) only [f49_r8, w_reg, seqK_n, atK_n, okG_b, asG_t, asG_f, true_and, x_nil, x_g, x_mv, x_as, x_pick, x_ld, x_bin, x_not, x_iads, x_call, kx, rvP_ok, okv_some, ev_t, ev_c, evs_nil, evs_cons, getV_some, putD_some, bin_eql, pick_b, onB_b, getK_set, Nat.reduceEqDiff, ↓reduceIte, Bool.false_eq_true, Bool.not_false, g0, g4, g6, g7, hp1, hp2, hp, iE, hd, decide_false]
        apply fin; simp (disch := omega) only [getK_set, Nat.reduceEqDiff, ↓reduceIte, g0, g3, g4, g5, g7, hgrS, hd, decide_false, Bool.true_and, Bool.false_or, and_self]
  · rename_i hlt
    have hi' : i = S.length := by omega
    subst hi'
    rw [List.take_length] at g5 g6
    apply hq; simp (disch := omega) only [getK_set, Nat.reduceEqDiff, ↓reduceIte, g0, g3, g4, g5, g6, and_self]

noncomputable def piecesTo (S : List Int) (i : Nat) : List Int := ((List.range i).filter fun (k : Nat) => inP S (k : Int) && grP S (k : Int)).map fun (k : Nat) => (k : Int)
theorem piecesTo_succ {S : List Int} {i : Nat} : piecesTo S (i + 1) = if (inP S (i : Int) && grP S (i : Int)) = true then piecesTo S i ++ [(i : Int)] else piecesTo S i := by
  unfold piecesTo
  rw [List.range_succ, List.filter_append, List.map_append]
  cases h : (inP S (i : Int) && grP S (i : Int)) <;> simp [h]
theorem piecesTo_len {S : List Int} {i : Nat} : (piecesTo S i).length ≤ i := by
  unfold piecesTo; rw [List.length_map]
  exact Nat.le_trans (List.length_filter_le _ _) (by simp)
def f49_I1 (h : H) (v : V) (S : List Int) (i : Nat) (fr : Fr) (h1 : H) : Prop := ∃ o, i ≤ 64 ∧ Sl iE h1 o (piecesTo S i) ∧ Own h.nx.nat o ∧ Grow h.nx.nat h h1 ∧ fr.get (K.ofNat 0) = some (v) ∧ fr.get (K.ofNat 3) = some (o) ∧ fr.get (K.ofNat 4) = some (.i .i64 (i : Int))
theorem f49_ret {h : H} {v : V} {S : List Int}
    (hp : ∀ a b h P, CallP fs (.fn (K.ofNat 53) []) [.i .i64 a, .i .i64 b] h P = P (.b (ptI a b)) h)
    (hv : Sl iE h v S) (hS : S.length ≤ 1000000) (hc : HC h) : Ret fs f49 [v] h fun u h' => Sl iE h' u (piecesTo S 64) ∧ Own h.nx.nat u ∧ Grow h.nx.nat h h' := by
  apply ret_of rfl
  show W fs none f49_c _ _ _
  unfold f49_c
  simp (disch := omega) only [f49_r0, f49_r1, f49_r2, w_reg, w_seq, w_block, seqK_n, x_nil, x_as, ev_c, putD_some, frame_1, of0]
  refine W_loop (f49_I1 h v S) (fun i => 64 - i) ?_ 0 ⟨.sn, by omega, Sl.nil, Own.sn, Grow.refl _ _, by simp (disch := omega) only [getK_set, Nat.reduceEqDiff, ↓reduceIte, and_self, Int.natCast_zero]⟩
  rintro i fr h1 ⟨o, hi, hso, hoo, hgr, g0, g3, g4⟩
  have hc1 := hgr.hc hc
  have hv1 := hv.grow hc hgr
  unfold f49_l1
  simp (disch := omega) only [f49_r3, w_skip, w_reg, w_seq, w_cond, w_block, w_exit, seqK_n, seqK_e, atK_e, loopK_e, ckB_b, cbB_b, true_and, x_nil, x_mv, x_bin, kx, rvP_ok, okv_some, ev_t, ev_c, getV_some, putD_some, bin_lss, of64, getK_set, ↓reduceIte, decide_eq_true_eq, g4]
  split
  · rename_i hlt
    simp (disch := omega) only [f49_r4, f49_r5, w_reg, w_seq, w_block, seqK_n, x_nil, x_as, ev_c, putD_some, of0]
    refine f49_inner hp hv1 hS (x := i) (o := o) ?_ (by simp (disch := omega) only [getK_set, Nat.reduceEqDiff, ↓reduceIte, g0, g3, g4, and_self])
    clear g0 g3 g4 fr
    rintro fr ⟨g0, g3, g4, g5, g6⟩
    have fin : ∀ fr h2 o2, Sl iE h2 o2 (piecesTo S (i + 1)) → Own h.nx.nat o2 → Grow h.nx.nat h h2 → fr.get (K.ofNat 0) = some (v) ∧ fr.get (K.ofNat 3) = some (o2) ∧ fr.get (K.ofNat 4) = some (.i .i64 (i : Int)) → X fs f49_r12 (loopK (f49_I1 h v S) (fun i => 64 - i) i (atK 0 (seqK (W fs none (EC.seq (EC.reg f49_r13) EC.ret)) (retK f49 fun u h' => Sl iE h' u (piecesTo S 64) ∧ Own h.nx.nat u ∧ Grow h.nx.nat h h'))) Ex.normal) fr h2 := by
      clear g0 g3 g4 g5 g6 fr
      rintro fr h2 o2 q1 q2 q3 ⟨g0, g3, g4⟩
      simp (disch := omega) only [f49_r12, loopK_n, x_nil, x_mv, x_as, x_bin, kx, rvP_ok, okv_some, ev_t, ev_c, getV_some, putD_some, bin_add, of1, getK_set, ↓reduceIte, g4, fw64]
      exact ⟨i + 1, by omega, o2, by omega, q1, q2, q3, by simp (disch := omega) only [getK_set, Nat.reduceEqDiff, ↓reduceIte, g0, g3, Int.natCast_add, Int.natCast_one, and_self]⟩
    cases hin : inP S i <;> cases hgd : grP S i <;> rw [hin] at g5 <;> rw [hgd] at g6
    · simp (disch := omega) only [f49_r10, w_skip, w_reg, w_seq, w_cond, seqK_n, atK_n, atK_e, ckB_b, cbB_b, okG_b, asG_t, true_and, x_nil, x_g, x_mv, x_pick, kx, rvP_ok, ev_t, ev_c, getV_some, putD_some, pick_b, getK_set, Nat.reduceEqDiff, ↓reduceIte, Bool.false_eq_true, g5]
      exact fin _ _ o (by rw [piecesTo_succ, hin]; exact hso) hoo hgr (by simp (disch := omega) only [getK_set, Nat.reduceEqDiff, ↓reduceIte, g0, g3, g4, and_self])
    · simp (disch := omega) only [f49_r10, w_skip, w_reg, w_seq, w_cond, seqK_n, atK_n, atK_e, ckB_b, cbB_b, okG_b, asG_t, true_and, x_nil, x_g, x_mv, x_pick, kx, rvP_ok, ev_t, ev_c, getV_some, putD_some, pick_b, getK_set, Nat.reduceEqDiff, ↓reduceIte, Bool.false_eq_true, g5]
      exact fin _ _ o (by rw [piecesTo_succ, hin]; exact hso) hoo hgr (by simp (disch := omega) only [getK_set, Nat.reduceEqDiff, ↓reduceIte, g0, g3, g4, and_self])
    · simp (disch := omega) only [f49_r10, w_skip, w_reg, w_seq, w_cond, seqK_n, atK_n, atK_e, ckB_b, cbB_b, okG_b, asG_t, true_and, x_nil, x_g, x_mv, x_pick, kx, rvP_ok, ev_t, ev_c, getV_some, putD_some, pick_b, getK_set, Nat.reduceEqDiff, ↓reduceIte, Bool.false_eq_true, g5, g6]
      exact fin _ _ o (by rw [piecesTo_succ, hgd, Bool.and_false]; exact hso) hoo hgr (by simp (disch := omega) only [getK_set, Nat.reduceEqDiff, ↓reduceIte, g0, g3, g4, and_self])
    · obtain ⟨v', h', p1, p2, p3, p4, p5⟩ := Sl.push (L := piecesTo S i) (x := (i : Int)) (c := .i .i64 i) rfl hso hoo hgr.nx hc1 (by have := piecesTo_len (S := S) (i := i); omega)
      simp (disch := omega) only [f49_r10, f49_r11, w_reg, w_seq, w_cond, seqK_n, atK_n, atK_e, ckB_b, cbB_b, okG_b, asG_t, true_and, x_nil, x_g, x_mv, x_as, x_pick, x_bslice, x_app, kx, rvP_ok, ev_t, ev_c, getV_some, putD_some, pick_b, oGet_s, cells1_i, fill_1, set_1, of0, getK_set, Nat.reduceEqDiff, ↓reduceIte, g3, g4, g5, g6, p1]
      exact fin _ _ v' (by rw [piecesTo_succ, hin, hgd]; exact p2) p3 (hgr.trans p4) (by simp (disch := omega) only [getK_set, Nat.reduceEqDiff, ↓reduceIte, g0, g4, and_self])
  · rename_i hlt
    obtain rfl : i = 64 := by omega
    simp (disch := omega) only [f49_r13, f49_rs, w_ret, seqK_n, retK_r, x_nil, x_mv, x_as, ev_t, getV_some, putD_some, oGet_s, readRs_nil, readRs_t, retV_1, Option.some.injEq, exists_eq_left', getK_set, Nat.reduceEqDiff, ↓reduceIte, g3]
    exact ⟨hso, hoo, hgr⟩
end
end Go.Ev
namespace Go.Ev
open Go Go.RowKit
noncomputable def f14_r0 : List EOper := [⟨(some (K.ofNat 4)), none, .as (.c .sn)⟩]
noncomputable def f14_r1 : List EOper := [⟨(some (K.ofNat 5)), none, .as (.c .sn)⟩]
noncomputable def f14_r2 : List EOper := [⟨(some (K.ofNat 6)), none, .mv (.t (K.ofNat 5))⟩, ⟨(some (K.ofNat 7)), none, .mv (.t (K.ofNat 0))⟩, ⟨(some (K.ofNat 8)), none, .mv (.t (K.ofNat 0))⟩, ⟨(some (K.ofNat 9)), none, .len (.t (K.ofNat 8))⟩, ⟨(some (K.ofNat 10)), none, .mv (.t (K.ofNat 1))⟩, ⟨(some (K.ofNat 11)), none, .min (.t (K.ofNat 9)) (.t (K.ofNat 10))⟩, ⟨(some (K.ofNat 12)), none, .slice 1 (.t (K.ofNat 7)) none (some (.t (K.ofNat 11))) none⟩, ⟨(some (K.ofNat 13)), none, .app 1 (.t (K.ofNat 6)) (.t (K.ofNat 12))⟩, ⟨(some (K.ofNat 4)), none, .as (.t (K.ofNat 13))⟩]
noncomputable def f14_c : EC := (.seq (.reg f14_r0) (.seq (.reg f14_r1) (.seq (.reg f14_r2) .ret)))
noncomputable def f14 : EF := ⟨14, [.tmp (K.ofNat 4)], f14_c, none⟩
theorem f14_rs : f14.rs = [.tmp (K.ofNat 4)] := of_eq_true (eq_self _)
noncomputable def f55_r0 : List EOper := [⟨(some (K.ofNat 2)), none, .alloc 64 (List.replicate 64 (.b false))⟩]
noncomputable def f55_r1 : List EOper := [⟨(some (K.ofNat 3)), none, .alloc 64 (List.replicate 64 (.b false))⟩]
noncomputable def f55_r2 : List EOper := [⟨(some (K.ofNat 7)), none, .mv (.c (.i .i64 (.ofNat 0)))⟩]
noncomputable def f55_r3 : List EOper := [⟨(some (K.ofNat 8)), none, .bin .lss (.t (K.ofNat 7)) (.c (.i .i64 (.ofNat 64)))⟩]
noncomputable def f55_r4 : List EOper := [⟨(some (K.ofNat 9)), none, .mv (.t (K.ofNat 7))⟩, ⟨(some (K.ofNat 4)), none, .as (.t (K.ofNat 9))⟩]
noncomputable def f55_r5 : List EOper := [⟨(some (K.ofNat 10)), none, .mv (.t (K.ofNat 0))⟩, ⟨(some (K.ofNat 11)), none, .len (.t (K.ofNat 10))⟩, ⟨(some (K.ofNat 12)), none, .mv (.c (.i .i64 (.ofNat 0)))⟩]
noncomputable def f55_r6 : List EOper := [⟨(some (K.ofNat 13)), none, .bin .lss (.t (K.ofNat 12)) (.t (K.ofNat 11))⟩]
noncomputable def f55_r7 : List EOper := [⟨(some (K.ofNat 14)), none, .iads 1 (.t (K.ofNat 10)) (.t (K.ofNat 12))⟩, ⟨(some (K.ofNat 15)), none, .ld (.t (K.ofNat 14))⟩, ⟨(some (K.ofNat 6)), none, .as (.t (K.ofNat 15))⟩]
noncomputable def f55_r8 : List EOper := [⟨(some (K.ofNat 16)), none, .mv (.t (K.ofNat 4))⟩, ⟨(some (K.ofNat 17)), none, .mv (.t (K.ofNat 4))⟩, ⟨(some (K.ofNat 18)), none, .iadr 64 1 (.t (K.ofNat 3)) (.t (K.ofNat 17))⟩, ⟨(some (K.ofNat 19)), none, .ld (.t (K.ofNat 18))⟩, ⟨(some (K.ofNat 20)), none, .mv (.t (K.ofNat 19))⟩, ⟨(some (K.ofNat 21)), (some ((K.ofNat 20), false)), .mv (.t (K.ofNat 4))⟩, ⟨(some (K.ofNat 22)), (some ((K.ofNat 20), false)), .mv (.t (K.ofNat 6))⟩, ⟨(some (K.ofNat 23)), (some ((K.ofNat 20), false)), .call (.c (.fn (K.ofNat 54) [])) [(.t (K.ofNat 21)), (.t (K.ofNat 22))]⟩, ⟨(some (K.ofNat 24)), none, .pick (.t (K.ofNat 20)) (.c (.b true)) (.t (K.ofNat 23))⟩, ⟨(some (K.ofNat 25)), none, .iadr 64 1 (.t (K.ofNat 3)) (.t (K.ofNat 16))⟩, ⟨none, none, .st 1 (.t (K.ofNat 25)) (.t (K.ofNat 24))⟩]
noncomputable def f55_r9 : List EOper := [⟨(some (K.ofNat 26)), none, .bin .add (.t (K.ofNat 12)) (.c (.i .i64 (.ofNat 1)))⟩, ⟨(some (K.ofNat 12)), none, .mv (.t (K.ofNat 26))⟩]
noncomputable def f55_l0 : EC := (.seq (.reg f55_r6) (.seq (.cond (.t (K.ofNat 13)) .skip (.exit 2)) (.seq (.block 3 (.seq (.reg f55_r7) (.reg f55_r8))) (.reg f55_r9))))
noncomputable def f55_r10 : List EOper := [⟨(some (K.ofNat 27)), none, .bin .add (.t (K.ofNat 7)) (.c (.i .i64 (.ofNat 1)))⟩, ⟨(some (K.ofNat 7)), none, .mv (.t (K.ofNat 27))⟩]
noncomputable def f55_l1 : EC := (.seq (.reg f55_r3) (.seq (.cond (.t (K.ofNat 8)) .skip (.exit 0)) (.seq (.block 1 (.seq (.reg f55_r4) (.seq (.reg f55_r5) (.block 2 (.loop f55_l0))))) (.reg f55_r10))))
noncomputable def f55_r11 : List EOper := [⟨(some (K.ofNat 28)), none, .ldn 64 (.t (K.ofNat 3))⟩, ⟨none, none, .st 64 (.t (K.ofNat 2)) (.t (K.ofNat 28))⟩]
noncomputable def f55_c : EC := (.seq (.reg f55_r0) (.seq (.reg f55_r1) (.seq (.seq (.reg f55_r2) (.block 0 (.loop f55_l1))) (.seq (.reg f55_r11) .ret))))
noncomputable def f55 : EF := ⟨29, [.celln (K.ofNat 2) 64], f55_c, none⟩
theorem f55_rs : f55.rs = [.celln (K.ofNat 2) 64] := of_eq_true (eq_self _)
section
variable {fs : T EF} {ro : Option K}
theorem f14_ret {h : H} {v : V} {L : List Int} {m : Nat} (hv : Sl iE h v L) (hc : HC h) (hm : m ≤ 1000000) : Ret fs f14 [v, .i .i64 (m : Int)] h fun u h' => Sl iE h' u (L.take m) ∧ Own h.nx.nat u ∧ Grow h.nx.nat h h' := by
  apply ret_of rfl
  show W fs none f14_c _ _ _
  unfold f14_c
  have hmin : min (L.length : Int) (m : Int) = ((min L.length m : Nat) : Int) := by omega
  obtain ⟨v', p1, p2, _⟩ := hv.cut (lo := none) (hi := some (.i .i64 ((min L.length m : Nat) : Int))) (l := 0) (u := min L.length m) bnd_none bnd_i (by omega) (by omega)
  rw [List.drop_zero, show L.take (min L.length m) = L.take m by rw [Nat.min_comm, List.take_eq_take_iff]; omega] at p2
  obtain ⟨v2, h2, q1, q2, q3, q4, _⟩ := Sl.app (e := iE) (b := h.nx.nat) (v := .sn) (L := []) Sl.nil Own.sn (Nat.le_refl _) p2 hc (by simp; omega)
  simp (disch := omega) only [f14_r0, f14_r1, f14_r2, f14_rs, w_reg, w_seq, w_ret, seqK_n, retK_r, x_nil, x_mv, x_as, x_slice, sliceV_eq, Option.map_none, Option.map_some, x_len, x_app, x_min, kx, rvP_ok, ev_t, ev_c, getV_some, putD_some, oGet_s, min_ii, readRs_nil, readRs_t, retV_1, frame_2, Option.some.injEq, exists_eq_left', getK_set, Nat.reduceEqDiff, ↓reduceIte, hv.len, hmin, p1, q1]
  exact ⟨by simpa using q2, q3, q4⟩

noncomputable def famB (S : List Int) (i : Nat) : Bool := S.any fun s => ptI (i : Int) s
theorem any_snoc {S : List Int} {p : Int → Bool} {j : Nat} (hj : j < S.length) : (S.take (j + 1)).any p = ((S.take j).any p || p S[j]) := by
  rw [List.take_succ_eq_append_getElem hj, List.any_append]; simp
/-- What has been filled in before the set i's j-th piece. -/
noncomputable def famF (S : List Int) (i j : Nat) (k : Nat) : Bool := if k = i then (S.take j).any (fun s => ptI (i : Int) s) else decide (k < i) && famB S k
def f55_I0 (h : H) (v : V) (S : List Int) (id2 id : K) (i : Nat) (j : Nat) (fr : Fr) (h1 : H) : Prop := j ≤ S.length ∧ Grow h.nx.nat h h1 ∧ Ar V.b h1 id (arr (famF S i j) 64) ∧ h1.get id2 = .cells 64 (List.replicate 64 (.b false)) ∧ id2.nat < h1.nx.nat ∧ id.nat < h1.nx.nat ∧ fr.get (K.ofNat 0) = some (v) ∧ fr.get (K.ofNat 2) = some (.p id2 0) ∧ fr.get (K.ofNat 3) = some (.p id 0) ∧ fr.get (K.ofNat 4) = some (.i .i64 (i : Int)) ∧ fr.get (K.ofNat 7) = some (.i .i64 (i : Int)) ∧ fr.get (K.ofNat 10) = some (v) ∧ fr.get (K.ofNat 11) = some (.i .i64 (S.length : Int)) ∧ fr.get (K.ofNat 12) = some (.i .i64 (j : Int))
def f55_I1 (h : H) (v : V) (S : List Int) (id2 id : K) (i : Nat) (fr : Fr) (h1 : H) : Prop := i ≤ 64 ∧ Grow h.nx.nat h h1 ∧ Ar V.b h1 id (arr (famF S i 0) 64) ∧ h1.get id2 = .cells 64 (List.replicate 64 (.b false)) ∧ id2.nat < h1.nx.nat ∧ id.nat < h1.nx.nat ∧ fr.get (K.ofNat 0) = some (v) ∧ fr.get (K.ofNat 2) = some (.p id2 0) ∧ fr.get (K.ofNat 3) = some (.p id 0) ∧ fr.get (K.ofNat 7) = some (.i .i64 (i : Int))
theorem f55_inner {Q : Ex → Fr → H → Prop} {h h1 : H} {v : V} {S : List Int} {id2 id : K} {i : Nat} {fr : Fr}
    (hp : ∀ a b h P, CallP fs (.fn (K.ofNat 54) []) [.i .i64 a, .i .i64 b] h P = P (.b (ptI a b)) h) (hv : Sl iE h v S) (hc : HC h) (hS : S.length ≤ 1000000)
    (hid : h.nx.nat ≤ id.nat) (hne : id2 ≠ id) (hi : i < 64)
    (hI : f55_I0 h v S id2 id i 0 fr h1) (hq : ∀ fr h1, f55_I0 h v S id2 id i S.length fr h1 → Q (.exit 2) fr h1) : W fs ro (.loop f55_l0) Q fr h1 := by
  refine W_loop (f55_I0 h v S id2 id i) (fun j => S.length - j) ?_ 0 hI
  clear hI fr h1
  rintro j fr h1 hI
  obtain ⟨hj, hgr, har, h2c, h2l, hl, g0, g2, g3, g4, g7, g10, g11, g12⟩ := hI
  have hv1 := hv.grow hc hgr
  unfold f55_l0
  simp (disch := omega) only [f55_r6, w_skip, w_reg, w_seq, w_cond, w_block, w_exit, seqK_n, seqK_e, loopK_e, ckB_b, cbB_b, true_and, x_nil, x_bin, kx, rvP_ok, okv_some, ev_t, getV_some, putD_some, bin_lss, getK_set, ↓reduceIte, decide_eq_true_eq, g11, g12]
  split
  · rename_i hlt
    have hj' : j < S.length := by omega
    obtain ⟨p, hp1, hp2⟩ := hv1.at j hj'
    have hld := har.ld (i := i) (by rw [arr_len]; exact hi)
    rw [arr_at, show famF S i j i = (S.take j).any (fun s => ptI (i : Int) s) by simp [famF]] at hld
    have hs := any_snoc (p := fun s => ptI (i : Int) s) hj'
    obtain ⟨st1, st2⟩ := har.st (i := i) (x := (S.take (j + 1)).any (fun s => ptI (i : Int) s)) (c := .b ((S.take (j + 1)).any (fun s => ptI (i : Int) s))) (by rw [arr_len]; exact hi) rfl rfl
    have hF : (arr (famF S i j) 64).set i ((S.take (j + 1)).any fun s => ptI (i : Int) s) = arr (famF S i (j + 1)) 64 := by
      rw [arr_set]; apply arr_congr; intro k _; unfold famF; by_cases e : k = i <;> simp [e]
    rw [hF, arr_len] at st1 st2
    generalize hb : (S.take j).any (fun s => ptI (i : Int) s) = b at hld hs
    have fin : ∀ fr h3, h3 = h1.put id (.cells 64 ((arr (famF S i (j + 1)) 64).map V.b)) → fr.get (K.ofNat 0) = some (v) ∧ fr.get (K.ofNat 2) = some (.p id2 0) ∧ fr.get (K.ofNat 3) = some (.p id 0) ∧ fr.get (K.ofNat 4) = some (.i .i64 (i : Int)) ∧ fr.get (K.ofNat 7) = some (.i .i64 (i : Int)) ∧ fr.get (K.ofNat 10) = some (v) ∧ fr.get (K.ofNat 11) = some (.i .i64 (S.length : Int)) ∧ fr.get (K.ofNat 12) = some (.i .i64 (j : Int)) →
        X fs f55_r9 (loopK (f55_I0 h v S id2 id i) (fun j => S.length - j) j Q Ex.normal) fr h3 := by
      clear g0 g2 g3 g4 g7 g10 g11 g12 fr
      rintro fr h3 rfl ⟨g0, g2, g3, g4, g7, g10, g11, g12⟩
      simp (disch := omega) only [f55_r9, loopK_n, x_nil, x_mv, x_bin, kx, rvP_ok, okv_some, ev_t, ev_c, getV_some, putD_some, bin_add, of1, getK_set, ↓reduceIte, g12, fw64]
      refine ⟨j + 1, by omega, hj', hgr.trans (Grow.put hid hl _), st2, by rw [get_put_other hne]; exact h2c, h2l, hl, ?_⟩
      simp (disch := omega) only [getK_set, Nat.reduceEqDiff, ↓reduceIte, g0, g2, g3, g4, g7, g10, g11, Int.natCast_add, Int.natCast_one, and_self]
    cases b
    · rw [Bool.false_or] at hs; rw [hs] at st1
      simp (disch := omega) only [f55_r7, f55_r8, w_reg, seqK_n, atK_n, okG_b, asG_f, true_and, x_nil, x_g, x_mv, x_as, x_pick, x_ld, x_st, x_iadr, x_iads, x_call, kx, rvP_ok, ev_t, ev_c, evs_nil, evs_cons, getV_some, putD_some, putD_none, pick_b, onP_p, idx_n, getK_set, Nat.reduceEqDiff, ↓reduceIte, Bool.false_eq_true, Bool.not_false, g3, g4, g10, g12, hp1, hp2, hp, hld, iE, st1]
      exact fin _ _ rfl (by simp (disch := omega) only [getK_set, Nat.reduceEqDiff, ↓reduceIte, g0, g2, g3, g4, g7, g10, g11, g12, and_self])
    · rw [Bool.true_or] at hs; rw [hs] at st1
      simp (disch := omega) only [f55_r7, f55_r8, w_reg, seqK_n, atK_n, okG_b, asG_f, true_and, x_nil, x_g, x_mv, x_as, x_pick, x_ld, x_st, x_iadr, x_iads, kx, rvP_ok, ev_t, ev_c, getV_some, putD_some, putD_none, pick_b, onP_p, idx_n, getK_set, Nat.reduceEqDiff, ↓reduceIte, Bool.false_eq_true, Bool.not_true, g3, g4, g10, g12, hp1, hp2, hld, iE, st1]
      exact fin _ _ rfl (by simp (disch := omega) only [getK_set, Nat.reduceEqDiff, ↓reduceIte, g0, g2, g3, g4, g7, g10, g11, g12, and_self])
  · rename_i hlt
    obtain rfl : j = S.length := by omega
    exact hq _ _ ⟨Nat.le_refl _, hgr, har, h2c, h2l, hl, by simp (disch := omega) only [getK_set, Nat.reduceEqDiff, ↓reduceIte, g0, g2, g3, g4, g7, g10, g11, g12, and_self]⟩
/-- The family of all parts of the sets. -/
theorem f55_ret {h : H} {v : V} {S : List Int} (hp : ∀ a b h P, CallP fs (.fn (K.ofNat 54) []) [.i .i64 a, .i .i64 b] h P = P (.b (ptI a b)) h) (hv : Sl iE h v S) (hc : HC h) (hS : S.length ≤ 1000000) :
    Ret fs f55 [v] h fun u h' => u = .agg ((arr (famB S) 64).map V.b) ∧ Grow h.nx.nat h h' := by
  apply ret_of rfl
  show W fs none f55_c _ _ _
  unfold f55_c
  simp (disch := omega) only [f55_r0, f55_r1, f55_r2, w_reg, w_seq, w_block, seqK_n, x_nil, x_mv, x_alloc, ev_c, putD_some, frame_1, of0]
  have n1 := nx_new h (.cells 64 (List.replicate 64 (.b false)))
  have n2 := nx_new (h.new (.cells 64 (List.replicate 64 (.b false)))) (.cells 64 (List.replicate 64 (.b false)))
  have hne : h.nx ≠ (h.new (.cells 64 (List.replicate 64 (.b false)))).nx := fun e => by rw [← e] at n1; omega
  have hg2 : Grow h.nx.nat h ((h.new (.cells 64 (List.replicate 64 (.b false)))).new (.cells 64 (List.replicate 64 (.b false)))) := (Grow.new (Nat.le_refl _) _).trans (Grow.new (by omega) _)
  refine W_loop (f55_I1 h v S h.nx (h.new (.cells 64 (List.replicate 64 (.b false)))).nx) (fun i => 64 - i) ?_ 0 ⟨by omega, hg2, ?_, ?_, by omega, by omega, by simp (disch := omega) only [getK_set, Nat.reduceEqDiff, ↓reduceIte, and_self, Int.natCast_zero]⟩
  · generalize hid : (h.new (.cells 64 (List.replicate 64 (.b false)))).nx = id at *
    rintro i fr h1 ⟨hi, hgr, har, h2c, h2l, hl, g0, g2, g3, g7⟩
    have hv1 := hv.grow hc hgr
    unfold f55_l1
    simp (disch := omega) only [f55_r3, w_skip, w_reg, w_seq, w_cond, w_block, w_exit, seqK_n, seqK_e, atK_e, loopK_e, ckB_b, cbB_b, true_and, x_nil, x_bin, kx, rvP_ok, okv_some, ev_t, ev_c, getV_some, putD_some, bin_lss, of64, getK_set, ↓reduceIte, decide_eq_true_eq, g7]
    split
    · rename_i hlt
      have hi' : i < 64 := by omega
      simp (disch := omega) only [f55_r4, f55_r5, w_reg, w_seq, w_block, seqK_n, x_nil, x_mv, x_as, x_len, kx, rvP_ok, ev_t, ev_c, getV_some, putD_some, of0, getK_set, Nat.reduceEqDiff, ↓reduceIte, g0, g7, hv1.len]
      refine f55_inner (i := i) (id2 := h.nx) (id := id) (h := h) hp hv hc hS (by omega) hne hi' ⟨by omega, hgr, har, h2c, h2l, hl, by simp (disch := omega) only [getK_set, Nat.reduceEqDiff, ↓reduceIte, g0, g2, g3, g7, and_self, Int.natCast_zero]⟩ ?_
      clear g0 g2 g3 g7 har hgr h2c h2l hl hv1 fr h1
      rintro fr h1 ⟨hj, hgr, har, h2c, h2l, hl, g0, g2, g3, g4, g7, g10, g11, g12⟩
      simp (disch := omega) only [f55_r10, w_reg, seqK_n, atK_n, atK_e, loopK_n, x_nil, x_mv, x_bin, kx, rvP_ok, okv_some, ev_t, ev_c, getV_some, putD_some, bin_add, of1, getK_set, ↓reduceIte, g7, fw64]
      refine ⟨i + 1, by omega, by omega, hgr, ?_, h2c, h2l, hl, by simp (disch := omega) only [getK_set, Nat.reduceEqDiff, ↓reduceIte, g0, g2, g3, and_self, Int.natCast_add, Int.natCast_one]⟩
      rw [show arr (famF S (i + 1) 0) 64 = arr (famF S i S.length) 64 from arr_congr fun k hk => ?_]
      · exact har
      · unfold famF
        rw [List.take_length, List.take_zero]
        by_cases e1 : k = i
        · subst e1; simp [famB]
        · by_cases e2 : k = i + 1
          · subst e2; simp; intro h; omega
          · have e3 : decide (k < i + 1) = decide (k < i) := by simp; omega
            simp [e1, e2, e3]
    · rename_i hlt
      obtain rfl : i = 64 := by omega
      have hA : arr (famF S 64 0) 64 = arr (famB S) 64 := arr_congr fun k hk => by
        unfold famF
        rw [if_neg (by omega)]; simp [hk]
      rw [hA] at har
      have hx : storeV h1 64 (.p h.nx 0) (.agg ((arr (famB S) 64).map V.b)) = .ok undefV (h1.put h.nx (.cells 64 (setMany (List.replicate 64 (.b false)) 0 ((arr (famB S) 64).map V.b)))) := by
        refine store_p h2c ?_ (by omega)
        show (bif Nat.beq (lenL ((arr (famB S) 64).map V.b)) 64 then some _ else none) = _
        rw [lenL_eq, List.length_map, arr_len]; rfl
      have hs : setMany (List.replicate 64 (V.b false)) 0 ((arr (famB S) 64).map V.b) = (arr (famB S) 64).map V.b := by
        rw [setMany_eq _ _ _ (by simp [arr_len])]
        simp [arr_len]
      rw [hs] at hx
      have hr : readP (h1.put h.nx (.cells 64 ((arr (famB S) 64).map V.b))) (.p h.nx 0) (many? 64) = some (.agg ((arr (famB S) 64).map V.b)) := by
        show ((h1.put h.nx (.cells 64 ((arr (famB S) 64).map V.b))).get h.nx).onC none (fun n cs => many? 64 cs n 0) = _
        rw [get_put_same]
        show (bif Nat.ble (0 + 64) 64 then some (V.agg (takeN 64 (dropN 0 ((arr (famB S) 64).map V.b)))) else none) = _
        rw [takeN_eq, dropN_eq, List.drop_zero, List.take_of_length_le (by simp [arr_len])]; rfl
      simp (disch := omega) only [f55_r11, f55_rs, w_ret, seqK_n, true_and, retK_r, x_nil, x_ldn, x_st, kx, rvP_ok, ev_t, getV_some, putD_some, putD_none, oGet_s, readRs_nil, readRs_n, retV_1, Option.some.injEq, exists_eq_left', getK_set, Nat.reduceEqDiff, ↓reduceIte, g2, g3, har.ldn (n := 64) (by rw [arr_len]), hx, hr]
      exact hgr.trans (Grow.put (Nat.le_refl _) h2l _)
  · show H.get _ _ = _
    rw [get_new_same, arr_len]
    congr 1
  · rw [get_new_old (by omega), get_new_same]
end
end Go.Ev
namespace Go.Ev
open Go Go.RowKit
noncomputable def f78_r0 : List EOper := [⟨(some (K.ofNat 1)), none, .box 64 (.t (K.ofNat 0))⟩, ⟨(some (K.ofNat 2)), none, .as (.c .fnil)⟩]
noncomputable def f78_r1 : List EOper := [⟨(some (K.ofNat 3)), none, .mkfn (K.ofNat 91) [(.t (K.ofNat 1))]⟩, ⟨(some (K.ofNat 2)), none, .as (.t (K.ofNat 3))⟩]
noncomputable def f78_c : EC := (.seq (.reg f78_r0) (.seq (.reg f78_r1) .ret))
noncomputable def f78 : EF := ⟨4, [.tmp (K.ofNat 2)], f78_c, none⟩
theorem f78_rs : f78.rs = [.tmp (K.ofNat 2)] := of_eq_true (eq_self _)
noncomputable def f66_r0 : List EOper := [⟨(some (K.ofNat 1)), none, .box 64 (.t (K.ofNat 0))⟩, ⟨(some (K.ofNat 2)), none, .as (.c .sn)⟩]
noncomputable def f66_r1 : List EOper := [⟨(some (K.ofNat 3)), none, .alloc 1 [.sn]⟩]
noncomputable def f66_r2 : List EOper := [⟨(some (K.ofNat 6)), none, .ldn 64 (.t (K.ofNat 1))⟩, ⟨(some (K.ofNat 7)), none, .call (.c (.fn (K.ofNat 78) [])) [(.t (K.ofNat 6))]⟩]
noncomputable def f66_r3 : List EOper := [⟨(some (K.ofNat 4)), none, .alloc 1 [(.i .i64 (.ofNat 0))]⟩, ⟨none, none, .st 1 (.t (K.ofNat 4)) (.t (K.ofNat 8))⟩]
noncomputable def f66_a0 : EC := (.reg f66_r3)
noncomputable def f66_r4 : List EOper := [⟨(some (K.ofNat 9)), none, .ldn 64 (.t (K.ofNat 1))⟩, ⟨(some (K.ofNat 10)), none, .call (.c (.fn (K.ofNat 78) [])) [(.t (K.ofNat 9))]⟩]
noncomputable def f66_r5 : List EOper := [⟨(some (K.ofNat 5)), none, .as (.t (K.ofNat 11))⟩]
noncomputable def f66_a1 : EC := (.reg f66_r5)
noncomputable def f66_r6 : List EOper := [⟨(some (K.ofNat 12)), none, .mv (.t (K.ofNat 5))⟩, ⟨(some (K.ofNat 13)), none, .ld (.t (K.ofNat 4))⟩, ⟨(some (K.ofNat 14)), none, .bin .neq (.t (K.ofNat 12)) (.t (K.ofNat 13))⟩, ⟨(some (K.ofNat 15)), none, .mv (.t (K.ofNat 14))⟩, ⟨(some (K.ofNat 16)), (some ((K.ofNat 15), true)), .ld (.t (K.ofNat 4))⟩, ⟨(some (K.ofNat 17)), (some ((K.ofNat 15), true)), .mv (.t (K.ofNat 5))⟩, ⟨(some (K.ofNat 18)), (some ((K.ofNat 15), true)), .call (.c (.fn (K.ofNat 54) [])) [(.t (K.ofNat 16)), (.t (K.ofNat 17))]⟩, ⟨(some (K.ofNat 19)), none, .pick (.t (K.ofNat 15)) (.t (K.ofNat 18)) (.c (.b false))⟩]
noncomputable def f66_b0 : EC := (.block 3 (.seq (.reg f66_r6) (.cond (.t (K.ofNat 19)) (.exit 1) .skip)))
noncomputable def f66_r7 : List EOper := [⟨(some (K.ofNat 20)), none, .ld (.t (K.ofNat 3))⟩, ⟨(some (K.ofNat 21)), none, .ld (.t (K.ofNat 4))⟩, ⟨(some (K.ofNat 22)), none, .bslice 1 1 [(.i .i64 (.ofNat 0))] [(0, 1, (.t (K.ofNat 21)))]⟩, ⟨(some (K.ofNat 23)), none, .app 1 (.t (K.ofNat 20)) (.t (K.ofNat 22))⟩, ⟨none, none, .st 1 (.t (K.ofNat 3)) (.t (K.ofNat 23))⟩]
noncomputable def f66_b1 : EC := (.block 1 (.seq (.seq (.reg f66_r4) (.block 2 (.rangeF (.t (K.ofNat 10)) [(K.ofNat 11)] f66_a1 f66_b0))) (.reg f66_r7)))
noncomputable def f66_r8 : List EOper := [⟨(some (K.ofNat 24)), none, .ld (.t (K.ofNat 3))⟩, ⟨(some (K.ofNat 2)), none, .as (.t (K.ofNat 24))⟩]
noncomputable def f66_c : EC := (.seq (.reg f66_r0) (.scope (.seq (.reg f66_r1) (.seq .skip (.seq (.seq (.reg f66_r2) (.block 0 (.rangeF (.t (K.ofNat 7)) [(K.ofNat 8)] f66_a0 f66_b1))) (.seq (.reg f66_r8) .ret))))))
noncomputable def f66 : EF := ⟨25, [.tmp (K.ofNat 2)], f66_c, none⟩
theorem f66_rs : f66.rs = [.tmp (K.ofNat 2)] := of_eq_true (eq_self _)
section
variable {fs : T EF} {ro : Option K}
theorem cells64 {cs : List V} (hl : cs.length = 64) : cellsN 64 (.agg cs) = some cs := by
  show (bif Nat.beq (lenL cs) 64 then some cs else none) = _
  rw [lenL_eq, hl]; rfl
theorem f78_ret {h : H} {cs : List V} (hl : cs.length = 64) : Ret fs f78 [.agg cs] h fun u h' => u = .fn (K.ofNat 91) [.p h.nx 0] ∧ h' = h.new (.cells 64 cs) := by
  apply ret_of rfl
  show W fs none f78_c _ _ _
  unfold f78_c
  simp (disch := omega) only [f78_r0, f78_r1, f78_rs, w_reg, w_seq, w_ret, seqK_n, retK_r, x_nil, x_as, x_box, x_mkfn, kx, rvP_ok, ev_t, ev_c, evs_nil, evs_cons, getV_some, putD_some, oGet_s, readRs_nil, readRs_t, retV_1, frame_1, Option.some.injEq, exists_eq_left', getK_set, Nat.reduceEqDiff, ↓reduceIte, cells64 hl, and_self]
def boolV (B : Nat → Bool) : List V := (arr B 64).map V.b
theorem boolV_len {B : Nat → Bool} : (boolV B).length = 64 := by unfold boolV; rw [List.length_map, arr_len]
theorem boolV_at {B : Nat → Bool} : ∀ i, i < 64 → nth (boolV B) i = some (.b (B i)) := fun i hi => by rw [nth_eq]; simp [boolV, arr, hi]
def mem64 (B : Nat → Bool) : List Nat := (List.range 64).filter B
noncomputable def isTop (B : Nat → Bool) (x : Nat) : Bool := (mem64 B).all fun y => !(decide ((y : Int) ≠ (x : Int)) && ptI (x : Int) (y : Int))
noncomputable def topsTo (B : Nat → Bool) (i : Nat) : List Int := (((mem64 B).take i).filter (isTop B)).map fun (k : Nat) => (k : Int)
theorem topsTo_succ {B : Nat → Bool} {i : Nat} (hi : i < (mem64 B).length) : topsTo B (i + 1) = if isTop B (mem64 B)[i] = true then topsTo B i ++ [((mem64 B)[i] : Int)] else topsTo B i := by
  unfold topsTo
  rw [List.take_succ_eq_append_getElem hi, List.filter_append, List.map_append]
  cases h : isTop B (mem64 B)[i] <;> simp [h]
theorem mem64_len {B : Nat → Bool} : (mem64 B).length ≤ 64 := Nat.le_trans (List.length_filter_le _ _) (by simp)
theorem topsTo_len {B : Nat → Bool} {i : Nat} : (topsTo B i).length ≤ 64 := by
  unfold topsTo; rw [List.length_map]
  exact Nat.le_trans (List.length_filter_le _ _) (Nat.le_trans (by rw [List.length_take]; exact Nat.min_le_right _ _) mem64_len)
def ysOf (B : Nat → Bool) : List V := (mem64 B).map fun (i : Nat) => V.i .i64 (i : Int)
theorem ysOf_len {B : Nat → Bool} : (ysOf B).length = (mem64 B).length := by simp [ysOf]
theorem ysOf_at {B : Nat → Bool} {i : Nat} (hi : i < (ysOf B).length) : (ysOf B)[i] = .i .i64 ((mem64 B)[i]'(by rw [← ysOf_len]; exact hi) : Int) := by simp [ysOf]

structure TopI (b : Nat) (h : H) (B : Nat → Bool) (id1 id3 idf idl : K) (o : V) (L : List Int) (lb : Blk) (h1 : H) : Prop where
  sl : Sl iE h1 o L
  own : Own (idl.nat + 1) o
  gr : Grow b h h1
  e3 : h1.get id3 = .cells 1 [o]
  e1 : h1.get id1 = .cells 64 (boolV B)
  ef : h1.get idf = .cells 64 (boolV B)
  el : h1.get idl = lb
  nx : idl.nat + 1 ≤ h1.nx.nat
  o1 : id1.nat < id3.nat
  o3 : id3.nat < idf.nat
  of : idf.nat < idl.nat
  ob : b ≤ id1.nat
section
variable {b : Nat} {h h1 h2 : H} {B : Nat → Bool} {id1 id3 idf idl : K} {o o' : V} {L L' : List Int} {lb : Blk}
theorem ne_of_lt {a b : K} (h : a.nat < b.nat) : a ≠ b := fun e => by rw [e] at h; omega
theorem TopI.grow (t : TopI b h B id1 id3 idf idl o L lb h1) (hc : HC h1) (g : Grow h1.nx.nat h1 h2) : TopI b h B id1 id3 idf idl o L lb h2 := by
  have := t.nx; have := t.o1; have := t.o3; have := t.of; have := t.ob; have := g.nx
  exact ⟨t.sl.grow hc g, t.own, t.gr.trans (g.low (by omega)), by rw [g.old _ (by omega)]; exact t.e3, by rw [g.old _ (by omega)]; exact t.e1, by rw [g.old _ (by omega)]; exact t.ef, by rw [g.old _ (by omega)]; exact t.el, by omega, t.o1, t.o3, t.of, t.ob⟩
theorem TopI.loop (t : TopI b h B id1 id3 idf idl o L lb h1) (lb' : Blk) : TopI b h B id1 id3 idf idl o L lb' (h1.put idl lb') := by
  have := t.nx; have := t.o1; have := t.o3; have := t.of; have := t.ob
  exact ⟨t.sl.put (t.own.notIn (by omega)) _, t.own, t.gr.trans (Grow.put (by omega) (by omega) _), by rw [get_put_other (ne_of_lt (by omega))]; exact t.e3, by rw [get_put_other (ne_of_lt (by omega))]; exact t.e1, by rw [get_put_other (ne_of_lt (by omega))]; exact t.ef, get_put_same, t.nx, t.o1, t.o3, t.of, t.ob⟩
theorem TopI.put (t : TopI b h B id1 id3 idf idl o L lb h1) (hs : Sl iE h2 o' L') (ho : Own (idl.nat + 1) o') (g : Grow (idl.nat + 1) h1 h2) : TopI b h B id1 id3 idf idl o' L' lb (h2.put id3 (.cells 1 [o'])) := by
  have := t.nx; have := t.o1; have := t.o3; have := t.of; have := t.ob; have := g.nx
  exact ⟨hs.put (ho.notIn (by omega)) _, ho, (t.gr.trans (g.low (by omega))).trans (Grow.put (by omega) (by omega) _), get_put_same, by rw [get_put_other (ne_of_lt (by omega)), g.old _ (by omega)]; exact t.e1,
    by rw [get_put_other (ne_of_lt (by omega)).symm, g.old _ (by omega)]; exact t.ef, by rw [get_put_other (ne_of_lt (by omega)).symm, g.old _ (by omega)]; exact t.el, by rw [nx_put]; omega, t.o1, t.o3, t.of, t.ob⟩
end
noncomputable def goodTo (B : Nat → Bool) (x : Nat) (j : Nat) : Bool := ((mem64 B).take j).all fun y => !(decide ((y : Int) ≠ (x : Int)) && ptI (x : Int) (y : Int))
theorem goodTo_succ {B : Nat → Bool} {x j : Nat} (hj : j < (mem64 B).length) : goodTo B x (j + 1) = (goodTo B x j && !(decide (((mem64 B)[j] : Int) ≠ (x : Int)) && ptI (x : Int) ((mem64 B)[j] : Int))) := by
  unfold goodTo; rw [List.take_succ_eq_append_getElem hj, List.all_append]; simp
theorem f66_inner {Q : Ex → Fr → H → Prop} {hb : H} {B : Nat → Bool} {x : Nat} {id1 id4 idl : K} {fr : Fr} {v3 : V} {lfr : Fr} {ps : List K} {la lc : EC}
    (hp : ∀ a b h P, CallP fs (.fn (K.ofNat 54) []) [.i .i64 a, .i .i64 b] h P = P (.b (ptI a b)) h) (h78 : fs.get (K.ofNat 78) = some f78) (h91 : fs.get (K.ofNat 91) = some alF)
    (hc : HC hb) (e1 : hb.get id1 = .cells 64 (boolV B)) (e4 : hb.get id4 = .cells 1 [.i .i64 (x : Int)]) (el : hb.get idl = bsyB lfr ps la lc)
    (hg : fr.get (K.ofNat 1) = some (.p id1 0) ∧ fr.get (K.ofNat 3) = some (v3) ∧ fr.get (K.ofNat 4) = some (.p id4 0))
    (hq1 : isTop B x = true → ∀ fr h', Grow hb.nx.nat hb h' → fr.get (K.ofNat 1) = some (.p id1 0) ∧ fr.get (K.ofNat 3) = some (v3) ∧ fr.get (K.ofNat 4) = some (.p id4 0) → Q .normal fr h')
    (hq2 : isTop B x = false → ∀ fr h', Grow hb.nx.nat hb h' → Q (.exit 1) fr h') :
    W fs (some idl) (.seq (.reg f66_r4) (.block 2 (.rangeF (.t (K.ofNat 10)) [(K.ofNat 11)] f66_a1 f66_b0))) Q fr hb := by
  obtain ⟨g1, g3, g4⟩ := hg
  have hA : Ar V.b hb id1 (arr B 64) := by unfold Ar; rw [arr_len]; exact e1
  have hl1 := hc.cells e1
  have hl4 := hc.cells e4
  have hll : idl.nat < hb.nx.nat := hc.lt (by rw [el]; simp [bsyB])
  simp (disch := omega) only [f66_r4, w_reg, w_seq, x_ldn, x_call, kx, rvP_ok, ev_t, ev_c, evs_nil, evs_cons, getV_some, putD_some, getK_set, ↓reduceIte, g1, hA.ldn (n := 64) (by rw [arr_len])]
  refine (callP_0 (ef := f78) h78 rfl (f78_ret (boolV_len (B := B)))).mono ?_
  rintro u h1 ⟨rfl, rfl⟩
  simp (disch := omega) only [w_block, seqK_n, x_nil, kx, putD_some]
  have n1 := nx_new hb (.cells 64 (boolV B))
  generalize hh1 : hb.new (.cells 64 (boolV B)) = h1 at *
  have old1 : ∀ id : K, id.nat < hb.nx.nat → h1.get id = hb.get id := fun id hi => by rw [← hh1, get_new_old hi]
  have same1 : h1.get hb.nx = .cells 64 (boolV B) := by rw [← hh1, get_new_same]
  have hc1 : HC h1 := by rw [← hh1]; exact (Grow.new (Nat.le_refl _) _).hc hc
  have gr1 : Grow hb.nx.nat hb h1 := by rw [← hh1]; exact Grow.new (Nat.le_refl _) _
  generalize hfr1 : T.set (K.ofNat 10) (V.fn (K.ofNat 91) [V.p hb.nx 0]) (T.set (K.ofNat 9) (V.agg (List.map V.b (arr B 64))) fr) = fr1
  have f10 : fr1.get (K.ofNat 10) = some (.fn (K.ofNat 91) [.p hb.nx 0]) := by rw [← hfr1]; simp (disch := omega) only [getK_set, ↓reduceIte]
  have f1 : fr1.get (K.ofNat 1) = some (.p id1 0) := by rw [← hfr1]; simp (disch := omega) only [getK_set, Nat.reduceEqDiff, ↓reduceIte, g1]
  have f3 : fr1.get (K.ofNat 3) = some v3 := by rw [← hfr1]; simp (disch := omega) only [getK_set, Nat.reduceEqDiff, ↓reduceIte, g3]
  have f4 : fr1.get (K.ofNat 4) = some (.p id4 0) := by rw [← hfr1]; simp (disch := omega) only [getK_set, Nat.reduceEqDiff, ↓reduceIte, g4]
  have n2 := nx_new h1 (rdyB fr1 [(K.ofNat 11)] f66_a1 f66_b0)
  have hlen := ysOf_len (B := B)
  refine W_range (k := (K.ofNat 91)) (caps := [.p hb.nx 0]) (N := fun h => h.get hb.nx = .cells 64 (boolV B)) (ys := ysOf B) ?_ (by simp (disch := omega) only [ev_t, getV_some, f10]) (all_yields h91 boolV_at)
    (fun j h2 => Same1 h1.nx (h1.new (rdyB fr1 [(K.ofNat 11)] f66_a1 f66_b0)) h2 ∧ goodTo B x j = true)
    (fun e h2 => e = .exit 1 ∧ Same1 h1.nx (h1.new (rdyB fr1 [(K.ofNat 11)] f66_a1 f66_b0)) h2 ∧ isTop B x = false) ?_ ⟨Same1.refl _ _, by simp [goodTo]⟩ ?_ ?_ ?_
  · show (h1.get idl).isL = true
    rw [old1 _ hll, el]; rfl
  · rintro i h2 ⟨hs, _⟩
    rw [hs.old _ (ne_of_lt (by omega)), get_new_old (by omega)]; exact same1
  · rintro j h2 hj ⟨hs, hgd⟩ hrd
    have hj' : j < (mem64 B).length := by omega
    rw [ysOf_at hj]
    have e4' : ∀ y, (h2.put h1.nx y).get id4 = .cells 1 [.i .i64 (x : Int)] := fun y => by rw [get_put_other (ne_of_lt (by omega)), hs.old _ (ne_of_lt (by omega)), get_new_old (by omega), old1 _ hl4]; exact e4
    have hld : ∀ y, loadV (h2.put h1.nx y) (.p id4 0) one? = .ok (.i .i64 (x : Int)) (h2.put h1.nx y) := fun y => load_p (e4' y) rfl
    have hsucc := goodTo_succ (x := x) hj'
    rw [hgd, Bool.true_and] at hsucc
    have htop : goodTo B x (j + 1) = false → isTop B x = false := fun hf => by
      unfold goodTo at hf
      unfold isTop
      rw [List.all_eq_false] at hf ⊢
      obtain ⟨y, hy, hy2⟩ := hf
      exact ⟨y, List.mem_of_mem_take hy, hy2⟩
    by_cases hyx : ((mem64 B)[j] : Int) = (x : Int)
    · simp only [hyx, ne_eq, not_true_eq_false, decide_false, Bool.false_and, Bool.not_false] at hsucc
      simp (disch := omega) only [f66_a1, f66_r5, f66_b0, f66_r6, w_skip, w_reg, w_seq, w_cond, w_block, seqK_n, atK_n, ckB_b, cbB_b, okG_b, asG_t, true_and, rndA_n, rndK_n, x_nil, x_g, x_mv, x_as, x_pick, x_ld, x_bin, kx, rvP_ok, okv_some, ev_t, ev_c, getV_some, putD_some, bin_neq, pick_b, getK_set, Nat.reduceEqDiff, ↓reduceIte, Bool.false_eq_true, hrd, f4, hld, hyx, ne_eq, not_true_eq_false, decide_false, get_put_same]
      exact ⟨by rw [H.put_put]; exact hs.put _, hsucc⟩
    · cases hpt : ptI (x : Int) ((mem64 B)[j] : Int)
      · simp only [hyx, hpt, ne_eq, not_false_eq_true, decide_true, Bool.and_false, Bool.not_false] at hsucc
        simp (disch := omega) only [f66_a1, f66_r5, f66_b0, f66_r6, w_skip, w_reg, w_seq, w_cond, w_block, seqK_n, atK_n, ckB_b, cbB_b, okG_b, asG_t, true_and, rndA_n, rndK_n, x_nil, x_g, x_mv, x_as, x_pick, x_ld, x_bin, x_call, kx, rvP_ok, okv_some, ev_t, ev_c, evs_nil, evs_cons, getV_some, putD_some, bin_neq, pick_b, getK_set, Nat.reduceEqDiff, ↓reduceIte, Bool.false_eq_true, hrd, f4, hld, hyx, hp, hpt, ne_eq, not_false_eq_true, decide_true, get_put_same]
        exact ⟨by rw [H.put_put]; exact hs.put _, hsucc⟩
      · simp only [hyx, hpt, ne_eq, not_false_eq_true, decide_true, Bool.and_true, Bool.not_true] at hsucc
        simp (disch := omega) only [f66_a1, f66_r5, f66_b0, f66_r6, w_reg, w_seq, w_cond, w_block, w_exit, seqK_n, atK_e, ckB_b, cbB_b, okG_b, asG_t, true_and, rndA_n, rndK_e, x_nil, x_g, x_mv, x_as, x_pick, x_ld, x_bin, x_call, kx, rvP_ok, okv_some, ev_t, ev_c, evs_nil, evs_cons, getV_some, putD_some, bin_neq, pick_b, getK_set, Nat.reduceEqDiff, ↓reduceIte, hrd, f4, hld, hyx, hp, hpt, ne_eq, not_false_eq_true, decide_true, get_put_same]
        exact ⟨by rw [H.put_put]; exact hs.put _, htop hsucc⟩
  · rintro h2 ⟨hs, hgd⟩
    have hgd : isTop B x = true := by rw [← hgd]; unfold isTop goodTo; rw [hlen, List.take_length]
    simp (disch := omega) only [atK_n]
    refine hq1 hgd _ _ (gr1.trans ((Grow.new (by omega) _).trans ((hs.put _).grow (by omega) (by omega)))) ⟨f1, f3, f4⟩
  · rintro e h2 hne ⟨rfl, hs, ht⟩
    simp (disch := omega) only [atK_e, Nat.reduceEqDiff, ↓reduceIte]
    exact hq2 ht _ _ (gr1.trans ((Grow.new (by omega) _).trans (hs.grow (by omega) (by omega))))
theorem f66_ret {h : H} {B : Nat → Bool}
    (hp : ∀ a b h P, CallP fs (.fn (K.ofNat 54) []) [.i .i64 a, .i .i64 b] h P = P (.b (ptI a b)) h) (h78 : fs.get (K.ofNat 78) = some f78) (h91 : fs.get (K.ofNat 91) = some alF) (hc : HC h) :
    Ret fs f66 [.agg (boolV B)] h fun u h' => Sl iE h' u (topsTo B 64) ∧ Own h.nx.nat u ∧ Grow h.nx.nat h h' := by
  apply ret_of rfl
  show W fs none f66_c _ _ _
  unfold f66_c
  have n1 := nx_new h (.cells 64 (boolV B))
  have n2 := nx_new (h.new (.cells 64 (boolV B))) (.cells 1 [.sn])
  have hA : Ar V.b ((h.new (.cells 64 (boolV B))).new (.cells 1 [.sn])) h.nx (arr B 64) := by
    unfold Ar; rw [arr_len, get_new_old (by omega), get_new_same]; rfl
  simp (disch := omega) only [f66_r0, f66_r1, f66_r2, w_skip, w_reg, w_seq, w_scope, seqK_n, x_nil, x_as, x_alloc, x_box, x_ldn, x_call, kx, rvP_ok, ev_t, ev_c, evs_nil, evs_cons, getV_some, putD_some, oGet_s, frame_1, getK_set, Nat.reduceEqDiff, ↓reduceIte, cells64 (boolV_len (B := B)), hA.ldn (n := 64) (by rw [arr_len])]
  refine (callP_0 (ef := f78) h78 rfl (f78_ret (boolV_len (B := B)))).mono ?_
  rintro u h1 ⟨rfl, rfl⟩
  simp (disch := omega) only [w_block, seqK_n, x_nil, kx, putD_some]
  have g0 : Grow h.nx.nat h ((h.new (.cells 64 (boolV B))).new (.cells 1 [.sn])) := (Grow.new (Nat.le_refl _) _).trans (Grow.new (by omega) _)
  have e3 : ((h.new (.cells 64 (boolV B))).new (.cells 1 [.sn])).get (h.new (.cells 64 (boolV B))).nx = .cells 1 [.sn] := get_new_same
  have e1 : ((h.new (.cells 64 (boolV B))).new (.cells 1 [.sn])).get h.nx = .cells 64 (boolV B) := by rw [get_new_old (by omega), get_new_same]
  generalize hid3 : (h.new (.cells 64 (boolV B))).nx = id3 at *
  generalize hh2 : (h.new (.cells 64 (boolV B))).new (.cells 1 [.sn]) = h2 at *
  have n3 := nx_new h2 (.cells 64 (boolV B))
  have hc2 := g0.hc hc
  have ga : Grow h2.nx.nat h2 (h2.new (.cells 64 (boolV B))) := Grow.new (Nat.le_refl _) _
  have ef : (h2.new (.cells 64 (boolV B))).get h2.nx = .cells 64 (boolV B) := get_new_same
  rw [← ga.old _ (by omega)] at e3 e1
  have g1 := g0.trans (ga.low (b := h.nx.nat) (by omega))
  generalize hh3 : h2.new (.cells 64 (boolV B)) = h3 at *
  have hc3 := g1.hc hc
  generalize hfr1 : T.set (K.ofNat 7) (V.fn (K.ofNat 91) [V.p h2.nx 0]) _ = fr1
  have f7 : fr1.get (K.ofNat 7) = some (.fn (K.ofNat 91) [.p h2.nx 0]) := by rw [← hfr1]; simp (disch := omega) only [getK_set, ↓reduceIte]
  have f1 : fr1.get (K.ofNat 1) = some (.p h.nx 0) := by rw [← hfr1]; simp (disch := omega) only [getK_set, Nat.reduceEqDiff, ↓reduceIte]
  have f3 : fr1.get (K.ofNat 3) = some (.p id3 0) := by rw [← hfr1]; simp (disch := omega) only [getK_set, Nat.reduceEqDiff, ↓reduceIte]
  clear hfr1
  have hlen := ysOf_len (B := B)
  have n4 := nx_new h3 (rdyB fr1 [(K.ofNat 8)] f66_a0 f66_b1)
  have hnew : Grow h3.nx.nat h3 (h3.new (rdyB fr1 [(K.ofNat 8)] f66_a0 f66_b1)) := Grow.new (Nat.le_refl _) _
  refine W_range (k := (K.ofNat 91)) (caps := [.p h2.nx 0]) (N := fun h => h.get h2.nx = .cells 64 (boolV B)) (ys := ysOf B) rfl (by simp (disch := omega) only [ev_t, getV_some, f7]) (all_yields h91 boolV_at)
    (fun j h5 => ∃ o lb, TopI h.nx.nat h B h.nx id3 h2.nx h3.nx o (topsTo B j) lb h5) (fun _ _ => False) (fun i h5 ⟨o, lb, ht⟩ => ht.ef)
    ⟨.sn, _, Sl.nil, Own.sn, g1.trans (hnew.low (by omega)), by rw [hnew.old _ (by omega)]; exact e3, by rw [hnew.old _ (by omega)]; exact e1, by rw [hnew.old _ (by omega)]; exact ef, get_new_same, by omega, by omega, by omega, by omega, Nat.le_refl _⟩ ?_ ?_ (fun _ _ _ hf => hf.elim)
  · rintro j h5 hj ⟨o, lb, ht⟩ hrd
    have hj' : j < (mem64 B).length := by omega
    rw [ysOf_at hj]
    obtain rfl : lb = rdyB fr1 [(K.ofNat 8)] f66_a0 f66_b1 := ht.el.symm.trans hrd
    have hc5 := ht.gr.hc hc
    have n5 := nx_new h5 (.cells 1 [.i .i64 0])
    -- the box of the set
    have st4 : storeV (h5.new (.cells 1 [.i .i64 0])) 1 (.p h5.nx 0) (.i .i64 ((mem64 B)[j] : Int)) = .ok undefV ((h5.new (.cells 1 [.i .i64 0])).put h5.nx (.cells 1 [.i .i64 ((mem64 B)[j] : Int)])) := by
      rw [store_p get_new_same rfl (by omega)]; rfl
    have gb : Grow h5.nx.nat h5 ((h5.new (.cells 1 [.i .i64 0])).put h5.nx (.cells 1 [.i .i64 ((mem64 B)[j] : Int)])) := (Grow.new (Nat.le_refl _) _).trans (Grow.put (Nat.le_refl _) (by omega) _)
    have e4 : ((h5.new (.cells 1 [.i .i64 0])).put h5.nx (.cells 1 [.i .i64 ((mem64 B)[j] : Int)])).get h5.nx = .cells 1 [.i .i64 ((mem64 B)[j] : Int)] := get_put_same
    have l4 : h5.nx.nat < ((h5.new (.cells 1 [.i .i64 0])).put h5.nx (.cells 1 [.i .i64 ((mem64 B)[j] : Int)])).nx.nat := by rw [nx_put]; omega
    have ht6 := ht.grow hc5 gb
    rw [show ∀ Q fr h, W fs (some h3.nx) f66_a0 Q fr h = X fs f66_r3 (Q .normal) fr h from fun _ _ _ => rfl]
    simp (disch := omega) only [f66_r3, rndA_n, x_nil, x_alloc, x_st, kx, rvP_ok, ev_t, getV_some, putD_some, putD_none, of0, getK_set, Nat.reduceEqDiff, ↓reduceIte, st4]
    generalize (h5.new (.cells 1 [.i .i64 0])).put h5.nx (.cells 1 [.i .i64 ((mem64 B)[j] : Int)]) = h6 at *
    refine ⟨ht6.el, ?_⟩
    have ht7 := ht6.loop (bsyB fr1 [(K.ofNat 8)] f66_a0 f66_b1)
    have hc7 := ht7.gr.hc hc
    have e47 : (h6.put h3.nx (bsyB fr1 [(K.ofNat 8)] f66_a0 f66_b1)).get h5.nx = .cells 1 [.i .i64 ((mem64 B)[j] : Int)] := by
      have := ht.nx
      rw [get_put_other (ne_of_lt (by omega)).symm]; exact e4
    generalize h6.put h3.nx (bsyB fr1 [(K.ofNat 8)] f66_a0 f66_b1) = h7 at *
    rw [show ∀ Q fr h, W fs (some h3.nx) f66_b1 Q fr h = W fs (some h3.nx) (.seq (.reg f66_r4) (.block 2 (.rangeF (.t (K.ofNat 10)) [(K.ofNat 11)] f66_a1 f66_b0))) (seqK (W fs (some h3.nx) (.reg f66_r7)) (atK 1 Q)) fr h from fun _ _ _ => rfl]
    refine f66_inner (x := (mem64 B)[j]) (id1 := h.nx) (id4 := h5.nx) (v3 := .p id3 0) hp h78 h91 hc7 ht7.e1 e47 ht7.el (by simp (disch := omega) only [getK_set, Nat.reduceEqDiff, ↓reduceIte, f1, f3, and_self]) ?_ ?_
    · rintro htop fr h8 gr8 ⟨g1, g3, g4⟩
      have ht8 := ht7.grow hc7 gr8
      have hc8 := ht8.gr.hc hc
      have e48 : h8.get h5.nx = .cells 1 [.i .i64 ((mem64 B)[j] : Int)] := by rw [gr8.old _ (hc7.cells e47)]; exact e47
      obtain ⟨v', h', p1, p2, p3, p4, p5⟩ := Sl.push (L := topsTo B j) (x := ((mem64 B)[j] : Int)) (c := .i .i64 ((mem64 B)[j] : Int)) rfl ht8.sl ht8.own ht8.nx hc8 (by have := topsTo_len (B := B) (i := j); omega)
      have hst : storeV h' 1 (.p id3 0) v' = .ok undefV (h'.put id3 (.cells 1 [v'])) := by
        have := ht8.o3; have := ht8.of
        have hcl : cellsN 1 v' = some [v'] := by rcases p2 with ⟨rfl, _⟩ | ⟨_, _, _, _, rfl, _⟩ <;> rfl
        rw [store_p (m := 1) (cs := [o]) (by rw [p4.old _ (by omega)]; exact ht8.e3) hcl (by omega)]; rfl
      have hld3 : loadV h8 (.p id3 0) one? = .ok o h8 := load_p ht8.e3 rfl
      have hld4 : loadV h8 (.p h5.nx 0) one? = .ok (.i .i64 ((mem64 B)[j] : Int)) h8 := load_p e48 rfl
      have hw := (ht8.put p2 p3 p4)
      simp (disch := omega) only [f66_r7, w_reg, seqK_n, atK_n, rndK_n, x_nil, x_bslice, x_ld, x_st, x_app, kx, rvP_ok, ev_t, getV_some, putD_some, putD_none, oGet_s, cells1_i, fill_1, set_1, of0, getK_set, Nat.reduceEqDiff, ↓reduceIte, g3, g4, hld3, hld4, p1, hst]
      refine ⟨hw.el, v', rdyB fr1 [(K.ofNat 8)] f66_a0 f66_b1, ?_⟩
      rw [topsTo_succ hj', if_pos htop]
      exact hw.loop _
    · rintro htop fr h8 gr8
      have ht8 := ht7.grow hc7 gr8
      simp (disch := omega) only [seqK_e, atK_e, rndK_n, ↓reduceIte]
      refine ⟨ht8.el, o, rdyB fr1 [(K.ofNat 8)] f66_a0 f66_b1, ?_⟩
      rw [topsTo_succ hj', if_neg (by rw [htop]; simp)]
      exact ht8.loop _
  · rintro h5 ⟨o, lb, ht⟩
    have ht2 := ht.loop .dead
    rw [hlen, show topsTo B (mem64 B).length = topsTo B 64 by unfold topsTo; rw [List.take_length, List.take_of_length_le mem64_len]] at ht2
    have hld3 : loadV (h5.put h3.nx .dead) (.p id3 0) one? = .ok o (h5.put h3.nx .dead) := load_p ht2.e3 rfl
    simp (disch := omega) only [f66_r8, f66_rs, w_reg, w_seq, w_ret, seqK_n, atK_n, retK_r, x_nil, x_as, x_ld, kx, rvP_ok, ev_t, getV_some, putD_some, oGet_s, readRs_nil, readRs_t, retV_1, Option.some.injEq, exists_eq_left', getK_set, ↓reduceIte, f3, hld3]
    exact ⟨ht2.sl, ht2.own.low (by omega), ht2.gr⟩
end
end Go.Ev
namespace Go.Ev
open Go Go.RowKit
noncomputable def f67_r0 : List EOper := [⟨(some (K.ofNat 1)), none, .box 64 (.t (K.ofNat 0))⟩, ⟨(some (K.ofNat 2)), none, .as (.c .sn)⟩, ⟨(some (K.ofNat 3)), none, .as (.c (.i .i64 (.ofNat 0)))⟩]
noncomputable def f67_r1 : List EOper := [⟨(some (K.ofNat 5)), none, .ldn 64 (.t (K.ofNat 1))⟩, ⟨(some (K.ofNat 6)), none, .call (.c (.fn (K.ofNat 66) [])) [(.t (K.ofNat 5))]⟩, ⟨(some (K.ofNat 4)), none, .as (.t (K.ofNat 6))⟩]
noncomputable def f67_r2 : List EOper := [⟨(some (K.ofNat 7)), none, .mv (.t (K.ofNat 4))⟩, ⟨(some (K.ofNat 8)), none, .len (.t (K.ofNat 7))⟩, ⟨(some (K.ofNat 9)), none, .bin .eql (.t (K.ofNat 8)) (.c (.i .i64 (.ofNat 0)))⟩, ⟨(some (K.ofNat 10)), none, .mv (.t (K.ofNat 9))⟩, ⟨(some (K.ofNat 11)), (some ((K.ofNat 10), false)), .mv (.t (K.ofNat 4))⟩, ⟨(some (K.ofNat 12)), (some ((K.ofNat 10), false)), .iads 1 (.t (K.ofNat 11)) (.c (.i .i64 (.ofNat 0)))⟩, ⟨(some (K.ofNat 13)), (some ((K.ofNat 10), false)), .ld (.t (K.ofNat 12))⟩, ⟨(some (K.ofNat 14)), (some ((K.ofNat 10), false)), .bin .eql (.t (K.ofNat 13)) (.c (.i .i64 (.ofNat 0)))⟩, ⟨(some (K.ofNat 15)), none, .pick (.t (K.ofNat 10)) (.c (.b true)) (.t (K.ofNat 14))⟩]
noncomputable def f67_r3 : List EOper := [⟨(some (K.ofNat 2)), none, .as (.c .sn)⟩, ⟨(some (K.ofNat 3)), none, .as (.c (.i .i64 (.ofNat 4)))⟩]
noncomputable def f67_r4 : List EOper := [⟨(some (K.ofNat 16)), none, .mv (.t (K.ofNat 4))⟩, ⟨(some (K.ofNat 17)), none, .len (.t (K.ofNat 16))⟩, ⟨(some (K.ofNat 18)), none, .bin .gtr (.t (K.ofNat 17)) (.c (.i .i64 (.ofNat 10)))⟩]
noncomputable def f67_r5 : List EOper := [⟨(some (K.ofNat 2)), none, .as (.c .sn)⟩, ⟨(some (K.ofNat 3)), none, .as (.c (.i .i64 (.ofNat 8)))⟩]
noncomputable def f67_r6 : List EOper := [⟨(some (K.ofNat 19)), none, .mv (.t (K.ofNat 4))⟩, ⟨(some (K.ofNat 2)), none, .as (.t (K.ofNat 19))⟩, ⟨(some (K.ofNat 3)), none, .as (.c (.i .i64 (.ofNat 0)))⟩]
noncomputable def f67_c : EC := (.seq (.reg f67_r0) (.seq (.reg f67_r1) (.seq (.seq (.reg f67_r2) (.cond (.t (K.ofNat 15)) (.seq (.reg f67_r3) .ret) .skip)) (.seq (.seq (.reg f67_r4) (.cond (.t (K.ofNat 18)) (.seq (.reg f67_r5) .ret) .skip)) (.seq (.reg f67_r6) .ret)))))
noncomputable def f67 : EF := ⟨20, [.tmp (K.ofNat 2), .tmp (K.ofNat 3)], f67_c, none⟩
theorem f67_rs : f67.rs = [.tmp (K.ofNat 2), .tmp (K.ofNat 3)] := of_eq_true (eq_self _)
noncomputable def f48_r0 : List EOper := [⟨(some (K.ofNat 4)), none, .as (.c .sn)⟩, ⟨(some (K.ofNat 5)), none, .as (.c (.i .i64 (.ofNat 0)))⟩]
noncomputable def f48_r1 : List EOper := [⟨(some (K.ofNat 8)), none, .mv (.t (K.ofNat 0))⟩, ⟨(some (K.ofNat 9)), none, .bin .lss (.t (K.ofNat 8)) (.c (.i .i64 (.ofNat 1)))⟩, ⟨(some (K.ofNat 10)), none, .mv (.t (K.ofNat 9))⟩, ⟨(some (K.ofNat 11)), (some ((K.ofNat 10), false)), .mv (.t (K.ofNat 0))⟩, ⟨(some (K.ofNat 12)), (some ((K.ofNat 10), false)), .bin .gtr (.t (K.ofNat 11)) (.c (.i .i64 (.ofNat 6)))⟩, ⟨(some (K.ofNat 13)), none, .pick (.t (K.ofNat 10)) (.c (.b true)) (.t (K.ofNat 12))⟩, ⟨(some (K.ofNat 14)), none, .mv (.t (K.ofNat 13))⟩, ⟨(some (K.ofNat 15)), (some ((K.ofNat 14), false)), .mv (.t (K.ofNat 1))⟩, ⟨(some (K.ofNat 16)), (some ((K.ofNat 14), false)), .len (.t (K.ofNat 15))⟩, ⟨(some (K.ofNat 17)), (some ((K.ofNat 14), false)), .bin .gtr (.t (K.ofNat 16)) (.c (.i .i64 (.ofNat 64)))⟩, ⟨(some (K.ofNat 18)), none, .pick (.t (K.ofNat 14)) (.c (.b true)) (.t (K.ofNat 17))⟩]
noncomputable def f48_r2 : List EOper := [⟨(some (K.ofNat 4)), none, .as (.c .sn)⟩, ⟨(some (K.ofNat 5)), none, .as (.c (.i .i64 (.ofNat 1)))⟩]
noncomputable def f48_r3 : List EOper := [⟨(some (K.ofNat 19)), none, .mv (.t (K.ofNat 1))⟩, ⟨(some (K.ofNat 20)), none, .len (.t (K.ofNat 19))⟩, ⟨(some (K.ofNat 21)), none, .mv (.c (.i .i64 (.ofNat 0)))⟩]
noncomputable def f48_r4 : List EOper := [⟨(some (K.ofNat 22)), none, .bin .lss (.t (K.ofNat 21)) (.t (K.ofNat 20))⟩]
noncomputable def f48_r5 : List EOper := [⟨(some (K.ofNat 23)), none, .iads 1 (.t (K.ofNat 19)) (.t (K.ofNat 21))⟩, ⟨(some (K.ofNat 24)), none, .ld (.t (K.ofNat 23))⟩, ⟨(some (K.ofNat 7)), none, .as (.t (K.ofNat 24))⟩]
noncomputable def f48_r6 : List EOper := [⟨(some (K.ofNat 25)), none, .mv (.t (K.ofNat 7))⟩, ⟨(some (K.ofNat 26)), none, .bin .lss (.t (K.ofNat 25)) (.c (.i .i64 (.ofNat 0)))⟩, ⟨(some (K.ofNat 27)), none, .mv (.t (K.ofNat 26))⟩, ⟨(some (K.ofNat 28)), (some ((K.ofNat 27), false)), .mv (.t (K.ofNat 7))⟩, ⟨(some (K.ofNat 29)), (some ((K.ofNat 27), false)), .mv (.t (K.ofNat 0))⟩, ⟨(some (K.ofNat 30)), (some ((K.ofNat 27), false)), .bin .shl (.c (.i .i64 (.ofNat 1))) (.t (K.ofNat 29))⟩, ⟨(some (K.ofNat 31)), (some ((K.ofNat 27), false)), .bin .geq (.t (K.ofNat 28)) (.t (K.ofNat 30))⟩, ⟨(some (K.ofNat 32)), none, .pick (.t (K.ofNat 27)) (.c (.b true)) (.t (K.ofNat 31))⟩]
noncomputable def f48_r7 : List EOper := [⟨(some (K.ofNat 4)), none, .as (.c .sn)⟩, ⟨(some (K.ofNat 5)), none, .as (.c (.i .i64 (.ofNat 1)))⟩]
noncomputable def f48_r8 : List EOper := [⟨(some (K.ofNat 33)), none, .bin .add (.t (K.ofNat 21)) (.c (.i .i64 (.ofNat 1)))⟩, ⟨(some (K.ofNat 21)), none, .mv (.t (K.ofNat 33))⟩]
noncomputable def f48_l0 : EC := (.seq (.reg f48_r4) (.seq (.cond (.t (K.ofNat 22)) .skip (.exit 0)) (.seq (.block 1 (.seq (.reg f48_r5) (.seq (.reg f48_r6) (.cond (.t (K.ofNat 32)) (.seq (.reg f48_r7) .ret) .skip)))) (.reg f48_r8))))
noncomputable def f48_r9 : List EOper := [⟨(some (K.ofNat 34)), none, .mv (.t (K.ofNat 1))⟩, ⟨(some (K.ofNat 35)), none, .call (.c (.fn (K.ofNat 55) [])) [(.t (K.ofNat 34))]⟩, ⟨(some (K.ofNat 36)), none, .call (.c (.fn (K.ofNat 67) [])) [(.t (K.ofNat 35))]⟩, ⟨(some (K.ofNat 37)), none, .ext (.t (K.ofNat 36)) 0⟩, ⟨(some (K.ofNat 38)), none, .ext (.t (K.ofNat 36)) 1⟩, ⟨(some (K.ofNat 4)), none, .as (.t (K.ofNat 37))⟩, ⟨(some (K.ofNat 5)), none, .as (.t (K.ofNat 38))⟩]
noncomputable def f48_c : EC := (.seq (.reg f48_r0) (.seq (.seq (.reg f48_r1) (.cond (.t (K.ofNat 18)) (.seq (.reg f48_r2) .ret) .skip)) (.seq (.seq (.reg f48_r3) (.block 0 (.loop f48_l0))) (.seq (.reg f48_r9) .ret))))
noncomputable def f48 : EF := ⟨39, [.tmp (K.ofNat 4), .tmp (K.ofNat 5)], f48_c, none⟩
theorem f48_rs : f48.rs = [.tmp (K.ofNat 4), .tmp (K.ofNat 5)] := of_eq_true (eq_self _)
section
variable {fs : T EF} {ro : Option K}
/-- What piecesOf makes of the greatest sets. -/
noncomputable def madeOf (L : List Int) : List Int × Int := if L.length = 0 then ([], 4) else if L[0]? = some 0 then ([], 4) else if 10 < L.length then ([], 8) else (L, 0)
theorem f67_ret {h : H} {B : Nat → Bool}
    (hp : ∀ a b h P, CallP fs (.fn (K.ofNat 54) []) [.i .i64 a, .i .i64 b] h P = P (.b (ptI a b)) h) (h66 : fs.get (K.ofNat 66) = some f66) (h78 : fs.get (K.ofNat 78) = some f78) (h91 : fs.get (K.ofNat 91) = some alF) (hc : HC h) :
    Ret fs f67 [.agg (boolV B)] h fun r h' => ∃ u, r = .tup [u, .i .i64 (madeOf (topsTo B 64)).2] ∧ Sl iE h' u (madeOf (topsTo B 64)).1 ∧ Grow h.nx.nat h h' := by
  apply ret_of rfl
  show W fs none f67_c _ _ _
  unfold f67_c
  have n1 := nx_new h (.cells 64 (boolV B))
  have g1 : Grow h.nx.nat h (h.new (.cells 64 (boolV B))) := Grow.new (Nat.le_refl _) _
  have hA : Ar V.b (h.new (.cells 64 (boolV B))) h.nx (arr B 64) := by
    unfold Ar; rw [arr_len, get_new_same]; rfl
  simp (disch := omega) only [f67_r0, f67_r1, w_reg, w_seq, seqK_n, x_nil, x_as, x_box, x_ldn, x_call, kx, rvP_ok, ev_t, ev_c, evs_nil, evs_cons, getV_some, putD_some, oGet_s, frame_1, of0, getK_set, Nat.reduceEqDiff, ↓reduceIte, cells64 (boolV_len (B := B)), hA.ldn (n := 64) (by rw [arr_len])]
  refine (callP_0 (ef := f66) h66 rfl (f66_ret (B := B) hp h78 h91 (g1.hc hc))).mono ?_
  rintro u h2 ⟨hs, ho, g2⟩
  have g3 := g1.trans (g2.low (b := h.nx.nat) (by omega))
  generalize topsTo B 64 = L at *
  by_cases h0 : L.length = 0
  · simp (disch := omega) only [f67_r2, f67_r3, f67_rs, w_reg, w_seq, w_cond, w_ret, seqK_n, seqK_r, ckB_b, cbB_b, okG_b, asG_f, true_and, retK_r, x_nil, x_g, x_mv, x_as, x_pick, x_bin, x_len, kx, rvP_ok, okv_some, ev_t, ev_c, getV_some, putD_some, bin_eql, pick_b, oGet_s, readRs_nil, readRs_t, retV_2, of0, of4, Option.some.injEq, exists_eq_left', getK_set, Nat.reduceEqDiff, ↓reduceIte, Bool.false_eq_true, Bool.not_true, hs.len, h0, Int.natCast_zero, eq_self, decide_true]
    exact ⟨.sn, by simp [madeOf, h0], by simp [madeOf, h0]; exact Sl.nil, g3⟩
  · have h0' : ¬ ((L.length : Int) = 0) := by omega
    obtain ⟨p, hp1, hp2⟩ := hs.at 0 (by omega)
    have hp1' : ∀ k h1, iadsV 1 u (.i k 0) h1 = .ok p h1 := fun k h1 => hp1 k h1
    have hz : L[0]? = some L[0] := by rw [List.getElem?_eq_getElem]
    by_cases h1 : L[0] = 0
    · simp (disch := omega) only [f67_r2, f67_r3, f67_rs, w_reg, w_seq, w_cond, w_ret, seqK_n, seqK_r, ckB_b, cbB_b, okG_b, asG_f, true_and, retK_r, x_nil, x_g, x_mv, x_as, x_pick, x_ld, x_bin, x_iads, x_len, kx, rvP_ok, okv_some, ev_t, ev_c, getV_some, putD_some, bin_eql, pick_b, oGet_s, readRs_nil, readRs_t, retV_2, of0, of4, Option.some.injEq, exists_eq_left', getK_set, Nat.reduceEqDiff, ↓reduceIte, Bool.false_eq_true, Bool.not_false, hs.len, h0', decide_false, decide_true, hp1', hp2, iE, h1]
      exact ⟨.sn, by simp [madeOf, h0, hz, h1], by simp [madeOf, h0, hz, h1]; exact Sl.nil, g3⟩
    · by_cases h2 : 10 < L.length
      · have h2' : (10 : Int) < (L.length : Int) := by omega
        simp (disch := omega) only [f67_r2, f67_r3, f67_r4, f67_r5, f67_rs, w_skip, w_reg, w_seq, w_cond, w_ret, seqK_n, seqK_r, ckB_b, cbB_b, okG_b, asG_f, true_and, retK_r, x_nil, x_g, x_mv, x_as, x_pick, x_ld, x_bin, x_iads, x_len, kx, rvP_ok, okv_some, ev_t, ev_c, getV_some, putD_some, bin_eql, bin_gtr, pick_b, oGet_s, readRs_nil, readRs_t, retV_2, of0, of4, of8, of10, Option.some.injEq, exists_eq_left', getK_set, Nat.reduceEqDiff, ↓reduceIte, Bool.false_eq_true, Bool.not_false, hs.len, h0', decide_false, decide_true, hp1', hp2, iE, h1, h2', of4]
        exact ⟨.sn, by simp [madeOf, h0, hz, h1, h2], by simp [madeOf, h0, hz, h1, h2]; exact Sl.nil, g3⟩
      · have h2' : ¬ ((10 : Int) < (L.length : Int)) := by omega
        simp (disch := omega) only [f67_r2, f67_r3, f67_r4, f67_r5, f67_r6, f67_rs, w_skip, w_reg, w_seq, w_cond, w_ret, seqK_n, ckB_b, cbB_b, okG_b, asG_f, true_and, retK_r, x_nil, x_g, x_mv, x_as, x_pick, x_ld, x_bin, x_iads, x_len, kx, rvP_ok, okv_some, ev_t, ev_c, getV_some, putD_some, bin_eql, bin_gtr, pick_b, oGet_s, readRs_nil, readRs_t, retV_2, of0, of4, of8, of10, Option.some.injEq, exists_eq_left', getK_set, Nat.reduceEqDiff, ↓reduceIte, Bool.false_eq_true, Bool.not_false, hs.len, h0', decide_false, hp1', hp2, iE, h1, h2', of4]
        exact ⟨u, by simp [madeOf, h0, hz, h1, h2], by simp [madeOf, h0, hz, h1, h2]; exact hs, g3⟩

/-- The error that Made returns, and the pieces. -/
noncomputable def inSet (n : Int) (s : Int) : Bool := decide (0 ≤ s) && decide (s < 2 ^ n.toNat)
noncomputable def badMade (n : Int) (S : List Int) : Bool := decide (n < 1) || decide (6 < n) || decide (64 < S.length) || !(S.all (inSet n))
noncomputable def madeS (n : Int) (S : List Int) : List Int × Int := if badMade n S = true then ([], 1) else madeOf (topsTo (famB S) 64)
theorem shl_n {n : Int} (h1 : 1 ≤ n) (h6 : n ≤ 6) : fw .i64 (1 * 2 ^ (min n.toNat IntKind.i64.bits)) = 2 ^ n.toNat := by
  have : n = 1 ∨ n = 2 ∨ n = 3 ∨ n = 4 ∨ n = 5 ∨ n = 6 := by omega
  rcases this with rfl | rfl | rfl | rfl | rfl | rfl <;> rfl
theorem all_snoc {S : List Int} {p : Int → Bool} {j : Nat} (hj : j < S.length) : (S.take (j + 1)).all p = ((S.take j).all p && p S[j]) := by
  rw [List.take_succ_eq_append_getElem hj, List.all_append]; simp
def f48_I (h : H) (v : V) (S : List Int) (n : Int) (j : Nat) (fr : Fr) (h1 : H) : Prop := j ≤ S.length ∧ h1 = h ∧ (S.take j).all (inSet n) = true ∧ fr.get (K.ofNat 0) = some (.i .i64 n) ∧ fr.get (K.ofNat 1) = some (v) ∧ fr.get (K.ofNat 19) = some (v) ∧ fr.get (K.ofNat 20) = some (.i .i64 (S.length : Int)) ∧ fr.get (K.ofNat 21) = some (.i .i64 (j : Int))
theorem f48_ret {h : H} {v : V} {S : List Int} {n : Int}
    (hp : ∀ a b h P, CallP fs (.fn (K.ofNat 54) []) [.i .i64 a, .i .i64 b] h P = P (.b (ptI a b)) h) (h55 : fs.get (K.ofNat 55) = some f55) (h67 : fs.get (K.ofNat 67) = some f67) (h66 : fs.get (K.ofNat 66) = some f66) (h78 : fs.get (K.ofNat 78) = some f78) (h91 : fs.get (K.ofNat 91) = some alF)
    (hv : Sl iE h v S) (hc : HC h) :
    Ret fs f48 [.i .i64 n, v] h fun r h' => ∃ u, r = .tup [u, .i .i64 (madeS n S).2] ∧ Sl iE h' u (madeS n S).1 ∧ Grow h.nx.nat h h' := by
  apply ret_of rfl
  show W fs none f48_c _ _ _
  unfold f48_c
  by_cases hbad : n < 1 ∨ 6 < n ∨ 64 < S.length
  · have hb : badMade n S = true := by
      unfold badMade
      rcases hbad with e | e | e <;> simp [e]
    have hfin : madeS n S = ([], 1) := by unfold madeS; rw [if_pos hb]
    rw [hfin]
    by_cases h1 : n < 1
    · simp (disch := omega) only [f48_r0, f48_r1, f48_r2, f48_rs, w_reg, w_seq, w_cond, w_ret, seqK_n, seqK_r, ckB_b, cbB_b, okG_b, asG_f, true_and, retK_r, x_nil, x_g, x_mv, x_as, x_pick, x_bin, kx, rvP_ok, okv_some, ev_t, ev_c, getV_some, putD_some, bin_lss, pick_b, oGet_s, readRs_nil, readRs_t, retV_2, frame_2, of0, of1, of6, of64, Option.some.injEq, exists_eq_left', getK_set, Nat.reduceEqDiff, ↓reduceIte, Bool.false_eq_true, Bool.not_true, h1, decide_true]
      exact ⟨.sn, rfl, Sl.nil, Grow.refl _ _⟩
    · by_cases h2 : 6 < n
      · simp (disch := omega) only [f48_r0, f48_r1, f48_r2, f48_rs, w_reg, w_seq, w_cond, w_ret, seqK_n, seqK_r, ckB_b, cbB_b, okG_b, asG_f, true_and, retK_r, x_nil, x_g, x_mv, x_as, x_pick, x_bin, kx, rvP_ok, okv_some, ev_t, ev_c, getV_some, putD_some, bin_lss, bin_gtr, pick_b, oGet_s, readRs_nil, readRs_t, retV_2, frame_2, of0, of1, of6, of64, Option.some.injEq, exists_eq_left', getK_set, Nat.reduceEqDiff, ↓reduceIte, Bool.false_eq_true, Bool.not_true, Bool.not_false, h1, h2, decide_true, decide_false]
        exact ⟨.sn, rfl, Sl.nil, Grow.refl _ _⟩
      · have h3 : (64 : Int) < (S.length : Int) := by omega
        simp (disch := omega) only [f48_r0, f48_r1, f48_r2, f48_rs, w_reg, w_seq, w_cond, w_ret, seqK_n, seqK_r, ckB_b, cbB_b, okG_b, asG_f, true_and, retK_r, x_nil, x_g, x_mv, x_as, x_pick, x_bin, x_len, kx, rvP_ok, okv_some, ev_t, ev_c, getV_some, putD_some, bin_lss, bin_gtr, pick_b, oGet_s, readRs_nil, readRs_t, retV_2, frame_2, of0, of1, of6, of64, Option.some.injEq, exists_eq_left', getK_set, Nat.reduceEqDiff, ↓reduceIte, Bool.false_eq_true, Bool.not_false, hv.len, h1, h2, h3, decide_true, decide_false]
        exact ⟨.sn, rfl, Sl.nil, Grow.refl _ _⟩
  · have h1 : ¬ n < 1 := by omega
    have h2 : ¬ 6 < n := by omega
    have h3 : ¬ (64 : Int) < (S.length : Int) := by omega
    simp (disch := omega) only [f48_r0, f48_r1, f48_r3, w_skip, w_reg, w_seq, w_cond, w_block, seqK_n, ckB_b, cbB_b, okG_b, asG_f, true_and, x_nil, x_g, x_mv, x_as, x_pick, x_bin, x_len, kx, rvP_ok, okv_some, ev_t, ev_c, getV_some, putD_some, bin_lss, bin_gtr, pick_b, frame_2, of0, of1, of6, of64, getK_set, Nat.reduceEqDiff, ↓reduceIte, Bool.false_eq_true, Bool.not_false, hv.len, h1, h2, h3, decide_false]
    refine W_loop (f48_I h v S n) (fun j => S.length - j) ?_ 0 ⟨by omega, rfl, by simp, by simp (disch := omega) only [getK_set, Nat.reduceEqDiff, ↓reduceIte, Int.natCast_zero, and_self]⟩
    rintro j fr h1 ⟨hj, rfl, hal, g0, g1, g19, g20, g21⟩
    unfold f48_l0
    simp (disch := omega) only [f48_r4, w_skip, w_reg, w_seq, w_cond, w_block, w_exit, seqK_n, seqK_e, atK_e, loopK_e, ckB_b, cbB_b, true_and, x_nil, x_bin, kx, rvP_ok, okv_some, ev_t, getV_some, putD_some, bin_lss, getK_set, ↓reduceIte, decide_eq_true_eq, g20, g21]
    split
    · rename_i hlt
      have hj' : j < S.length := by omega
      obtain ⟨p, hp1, hp2⟩ := hv.at j hj'
      have hs := all_snoc (p := inSet n) hj'
      rw [hal, Bool.true_and] at hs
      have bad : inSet n S[j] = false → madeS n S = ([], 1) := fun hf => by
        unfold madeS; rw [if_pos]
        unfold badMade
        have : S.all (inSet n) = false := by rw [List.all_eq_false]; exact ⟨S[j], List.getElem_mem _, by rw [hf]; simp⟩
        rw [this]; simp
      by_cases e1 : S[j] < 0
      · have hb : inSet n S[j] = false := by unfold inSet; rw [decide_eq_false (by omega)]; rfl
        rw [bad hb]
        simp (disch := omega) only [f48_r5, f48_r6, f48_r7, f48_rs, w_reg, w_seq, w_cond, w_ret, seqK_n, seqK_r, atK_r, loopK_r, ckB_b, cbB_b, okG_b, asG_f, true_and, retK_r, x_nil, x_g, x_mv, x_as, x_pick, x_ld, x_bin, x_iads, kx, rvP_ok, okv_some, ev_t, ev_c, getV_some, putD_some, bin_lss, pick_b, oGet_s, readRs_nil, readRs_t, retV_2, of0, of1, Option.some.injEq, exists_eq_left', getK_set, Nat.reduceEqDiff, ↓reduceIte, Bool.false_eq_true, Bool.not_true, g19, g21, hp1, hp2, iE, e1, decide_true]
        exact ⟨.sn, rfl, Sl.nil, Grow.refl _ _⟩
      · by_cases e2 : (2 : Int) ^ n.toNat ≤ S[j]
        · have hb : inSet n S[j] = false := by unfold inSet; rw [decide_eq_false (show ¬ S[j] < 2 ^ n.toNat by omega), Bool.and_false]
          rw [bad hb]
          simp (disch := omega) only [f48_r5, f48_r6, f48_r7, f48_rs, w_reg, w_seq, w_cond, w_ret, seqK_n, seqK_r, atK_r, loopK_r, ckB_b, cbB_b, okG_b, asG_f, true_and, retK_r, x_nil, x_g, x_mv, x_as, x_pick, x_ld, x_bin, x_iads, kx, rvP_ok, okv_some, ev_t, ev_c, getV_some, putD_some, bin_lss, bin_geq, pick_b, oGet_s, readRs_nil, readRs_t, retV_2, of0, of1, Option.some.injEq, exists_eq_left', getK_set, Nat.reduceEqDiff, ↓reduceIte, Bool.false_eq_true, Bool.not_false, g0, g19, g21, hp1, hp2, iE, e1, e2, decide_true, decide_false, bin_shl, shl_n]
          exact ⟨.sn, rfl, Sl.nil, Grow.refl _ _⟩
        · have hg : inSet n S[j] = true := by unfold inSet; rw [decide_eq_true (show S[j] < 2 ^ n.toNat by omega), decide_eq_true (show 0 ≤ S[j] by omega)]; rfl
          simp (disch := omega) only [f48_r5, f48_r6, f48_r8, w_skip, w_reg, w_seq, w_cond, seqK_n, atK_n, loopK_n, ckB_b, cbB_b, okG_b, asG_f, true_and, x_nil, x_g, x_mv, x_as, x_pick, x_ld, x_bin, x_iads, kx, rvP_ok, okv_some, ev_t, ev_c, getV_some, putD_some, bin_add, bin_lss, bin_geq, pick_b, of0, of1, getK_set, Nat.reduceEqDiff, ↓reduceIte, Bool.false_eq_true, Bool.not_false, g0, g19, g21, hp1, hp2, iE, e1, e2, decide_false, bin_shl, shl_n, fw64]
          refine ⟨j + 1, by omega, hj', rfl, by rw [hs, hg], ?_⟩
          simp (disch := omega) only [getK_set, Nat.reduceEqDiff, ↓reduceIte, g0, g1, g19, g20, Int.natCast_add, Int.natCast_one, and_self]
    · rename_i hlt
      obtain rfl : j = S.length := by omega
      rw [List.take_length] at hal
      have hfin : madeS n S = madeOf (topsTo (famB S) 64) := by
        unfold madeS; rw [if_neg]
        unfold badMade
        rw [hal, decide_eq_false (by omega), decide_eq_false (by omega), decide_eq_false (by omega)]; simp
      rw [hfin]
      simp (disch := omega) only [f48_r9, x_mv, x_call, ev_t, ev_c, evs_nil, evs_cons, getV_some, putD_some, getK_set, Nat.reduceEqDiff, ↓reduceIte, g1]
      refine (callP_0 (ef := f55) h55 rfl (f55_ret (S := S) hp hv hc (by omega))).mono ?_
      rintro u h2 ⟨rfl, g2⟩
      simp (disch := omega) only [x_call, kx, ev_t, ev_c, evs_nil, evs_cons, getV_some, putD_some, getK_set, ↓reduceIte]
      refine (callP_0 (ef := f67) h67 rfl (f67_ret (B := famB S) hp h66 h78 h91 (g2.hc hc))).mono ?_
      rintro r h3 ⟨u, rfl, hs, g3⟩
      simp (disch := omega) only [f48_rs, w_ret, seqK_n, retK_r, x_nil, x_as, x_ext, kx, rvP_ok, okv_some, ev_t, getV_some, putD_some, onTup_t, oGet_s, nth0, nth1, readRs_nil, readRs_t, retV_2, Option.some.injEq, exists_eq_left', getK_set, Nat.reduceEqDiff, ↓reduceIte]
      exact ⟨u, rfl, hs, g2.trans (g3.low g2.nx)⟩
end
end Go.Ev
