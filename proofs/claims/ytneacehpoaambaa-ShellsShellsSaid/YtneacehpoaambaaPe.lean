/-
  The pieces of Pieces of the reference, and what they make.
  Functions of the seat: few, partsOf.
  Functions of the seat: family.all, family.tops.
  Functions of the seat: piecesOf, Made.
  The law ShellsMakes.
  Functions of the seat: Check.
  Functions of the seat: tame.
-/
import Derived.Test.YtneacehpoaambaaPd
namespace Go.Ev
open Go Go.RowKit
noncomputable def f49_r0 : List EOper := [⟨(some (K.ofNat 2)), none, .as (.c .sn)⟩]
noncomputable def f49_r1 : List EOper := [⟨(some (K.ofNat 3)), none, .as (.c .sn)⟩]
noncomputable def f49_r2 : List EOper := [⟨(some (K.ofNat 4)), none, .as (.c (.i .i64 (.ofNat 0)))⟩]
noncomputable def f49_r3 : List EOper := [⟨(some (K.ofNat 8)), none, .mv (.t (K.ofNat 4))⟩, ⟨(some (K.ofNat 9)), none, .bin .lss (.t (K.ofNat 8)) (.c (.i .i64 (.ofNat 64)))⟩]
noncomputable def f49_r4 : List EOper := [⟨(some (K.ofNat 5)), none, .as (.c (.b false))⟩, ⟨(some (K.ofNat 6)), none, .as (.c (.b true))⟩]
noncomputable def f49_r5 : List EOper := [⟨(some (K.ofNat 7)), none, .as (.c (.i .i64 (.ofNat 0)))⟩]
noncomputable def f49_r6 : List EOper := [⟨(some (K.ofNat 12)), none, .mv (.t (K.ofNat 7))⟩, ⟨(some (K.ofNat 13)), none, .mv (.t (K.ofNat 0))⟩, ⟨(some (K.ofNat 14)), none, .len (.t (K.ofNat 13))⟩, ⟨(some (K.ofNat 15)), none, .bin .lss (.t (K.ofNat 12)) (.t (K.ofNat 14))⟩]
noncomputable def f49_r7 : List EOper := [⟨(some (K.ofNat 18)), none, .mv (.t (K.ofNat 5))⟩, ⟨(some (K.ofNat 19)), none, .mv (.t (K.ofNat 18))⟩, ⟨(some (K.ofNat 20)), (some ((K.ofNat 19), false)), .mv (.t (K.ofNat 0))⟩, ⟨(some (K.ofNat 21)), (some ((K.ofNat 19), false)), .mv (.t (K.ofNat 7))⟩, ⟨(some (K.ofNat 22)), (some ((K.ofNat 19), false)), .iads 1 (.t (K.ofNat 20)) (.t (K.ofNat 21))⟩, ⟨(some (K.ofNat 23)), (some ((K.ofNat 19), false)), .ld (.t (K.ofNat 22))⟩, ⟨(some (K.ofNat 24)), (some ((K.ofNat 19), false)), .mv (.t (K.ofNat 4))⟩, ⟨(some (K.ofNat 25)), (some ((K.ofNat 19), false)), .bin .eql (.t (K.ofNat 23)) (.t (K.ofNat 24))⟩, ⟨(some (K.ofNat 26)), none, .pick (.t (K.ofNat 19)) (.c (.b true)) (.t (K.ofNat 25))⟩, ⟨(some (K.ofNat 5)), none, .as (.t (K.ofNat 26))⟩]
noncomputable def f49_r8 : List EOper := [⟨(some (K.ofNat 27)), none, .mv (.t (K.ofNat 6))⟩, ⟨(some (K.ofNat 28)), none, .mv (.t (K.ofNat 27))⟩, ⟨(some (K.ofNat 29)), (some ((K.ofNat 28), true)), .mv (.t (K.ofNat 0))⟩, ⟨(some (K.ofNat 30)), (some ((K.ofNat 28), true)), .mv (.t (K.ofNat 7))⟩, ⟨(some (K.ofNat 31)), (some ((K.ofNat 28), true)), .iads 1 (.t (K.ofNat 29)) (.t (K.ofNat 30))⟩, ⟨(some (K.ofNat 32)), (some ((K.ofNat 28), true)), .ld (.t (K.ofNat 31))⟩, ⟨(some (K.ofNat 33)), (some ((K.ofNat 28), true)), .mv (.t (K.ofNat 4))⟩, ⟨(some (K.ofNat 34)), (some ((K.ofNat 28), true)), .bin .eql (.t (K.ofNat 32)) (.t (K.ofNat 33))⟩, ⟨(some (K.ofNat 35)), (some ((K.ofNat 28), true)), .mv (.t (K.ofNat 34))⟩, ⟨(some (K.ofNat 36)), (some ((K.ofNat 35), false)), .mv (.t (K.ofNat 4))⟩, ⟨(some (K.ofNat 37)), (some ((K.ofNat 35), false)), .mv (.t (K.ofNat 0))⟩, ⟨(some (K.ofNat 38)), (some ((K.ofNat 35), false)), .mv (.t (K.ofNat 7))⟩, ⟨(some (K.ofNat 39)), (some ((K.ofNat 35), false)), .iads 1 (.t (K.ofNat 37)) (.t (K.ofNat 38))⟩, ⟨(some (K.ofNat 40)), (some ((K.ofNat 35), false)), .ld (.t (K.ofNat 39))⟩, ⟨(some (K.ofNat 41)), (some ((K.ofNat 35), false)), .call (.c (.fn (K.ofNat 53) [])) [(.t (K.ofNat 36)), (.t (K.ofNat 40))]⟩, ⟨(some (K.ofNat 42)), (some ((K.ofNat 35), false)), .not (.t (K.ofNat 41))⟩, ⟨(some (K.ofNat 43)), (some ((K.ofNat 28), true)), .pick (.t (K.ofNat 35)) (.c (.b true)) (.t (K.ofNat 42))⟩, ⟨(some (K.ofNat 44)), none, .pick (.t (K.ofNat 28)) (.t (K.ofNat 43)) (.c (.b false))⟩, ⟨(some (K.ofNat 6)), none, .as (.t (K.ofNat 44))⟩]
noncomputable def f49_r9 : List EOper := [⟨(some (K.ofNat 16)), none, .mv (.t (K.ofNat 7))⟩, ⟨(some (K.ofNat 17)), none, .bin .add (.t (K.ofNat 16)) (.c (.i .i64 (.ofNat 1)))⟩, ⟨(some (K.ofNat 7)), none, .as (.t (K.ofNat 17))⟩]
noncomputable def f49_l0 : EC := (.seq (.seq (.reg f49_r6) (.cond (.t (K.ofNat 15)) .skip (.exit 2))) (.seq (.block 3 (.seq (.reg f49_r7) (.reg f49_r8))) (.reg f49_r9)))
noncomputable def f49_r10 : List EOper := [⟨(some (K.ofNat 45)), none, .mv (.t (K.ofNat 5))⟩, ⟨(some (K.ofNat 46)), none, .mv (.t (K.ofNat 45))⟩, ⟨(some (K.ofNat 47)), (some ((K.ofNat 46), true)), .mv (.t (K.ofNat 6))⟩, ⟨(some (K.ofNat 48)), none, .pick (.t (K.ofNat 46)) (.t (K.ofNat 47)) (.c (.b false))⟩]
noncomputable def f49_r11 : List EOper := [⟨(some (K.ofNat 49)), none, .mv (.t (K.ofNat 3))⟩, ⟨(some (K.ofNat 50)), none, .mv (.t (K.ofNat 4))⟩, ⟨(some (K.ofNat 51)), none, .bslice 1 1 [(.i .i64 (.ofNat 0))] [(0, 1, (.t (K.ofNat 50)))]⟩, ⟨(some (K.ofNat 52)), none, .app 1 (.t (K.ofNat 49)) (.t (K.ofNat 51))⟩, ⟨(some (K.ofNat 3)), none, .as (.t (K.ofNat 52))⟩]
noncomputable def f49_r12 : List EOper := [⟨(some (K.ofNat 10)), none, .mv (.t (K.ofNat 4))⟩, ⟨(some (K.ofNat 11)), none, .bin .add (.t (K.ofNat 10)) (.c (.i .i64 (.ofNat 1)))⟩, ⟨(some (K.ofNat 4)), none, .as (.t (K.ofNat 11))⟩]
noncomputable def f49_l1 : EC := (.seq (.seq (.reg f49_r3) (.cond (.t (K.ofNat 9)) .skip (.exit 0))) (.seq (.block 1 (.seq (.reg f49_r4) (.seq (.seq (.reg f49_r5) (.block 2 (.loop f49_l0))) (.seq (.reg f49_r10) (.cond (.t (K.ofNat 48)) (.reg f49_r11) .skip))))) (.reg f49_r12)))
noncomputable def f49_r13 : List EOper := [⟨(some (K.ofNat 53)), none, .mv (.t (K.ofNat 3))⟩, ⟨(some (K.ofNat 2)), none, .as (.t (K.ofNat 53))⟩]
noncomputable def f49_c : EC := (.seq (.reg f49_r0) (.seq (.reg f49_r1) (.seq (.seq (.reg f49_r2) (.block 0 (.loop f49_l1))) (.seq (.reg f49_r13) .ret))))
noncomputable def f49 : EF := ⟨54, [.tmp (K.ofNat 2)], f49_c, none⟩
theorem f49_rs : f49.rs = [.tmp (K.ofNat 2)] := of_eq_true (eq_self _)
noncomputable def ptI (a b : Int) : Bool := ieq (ibits (fun m n => Nat.xor m (Nat.land m n)) (fun _ x y => x &&& ~~~y) .i64 a b) (.ofNat 0)
noncomputable def inP (S : List Int) (x : Int) : Bool := S.any fun y => decide (y = x)
noncomputable def grP (S : List Int) (x : Int) : Bool := S.all fun y => decide (y = x) || !ptI x y
section
variable {fs : T EF} {ro : Option K}
theorem inP_snoc {S : List Int} {x : Int} {i : Nat} (hi : i < S.length) : inP (S.take (i + 1)) x = (inP (S.take i) x || decide (S[i] = x)) := by
  unfold inP; rw [List.take_succ_eq_append_getElem hi, List.any_append]; simp
theorem grP_snoc {S : List Int} {x : Int} {i : Nat} (hi : i < S.length) : grP (S.take (i + 1)) x = (grP (S.take i) x && (decide (S[i] = x) || !ptI x S[i])) := by
  unfold grP; rw [List.take_succ_eq_append_getElem hi, List.all_append]; simp
def f49_I0 (h : H) (v o : V) (S : List Int) (x : Int) (i : Nat) (fr : Fr) (h1 : H) : Prop := h1 = h ∧ i ≤ S.length ∧ fr.get (K.ofNat 0) = some (v) ∧ fr.get (K.ofNat 3) = some (o) ∧ fr.get (K.ofNat 4) = some (.i .i64 x) ∧ fr.get (K.ofNat 5) = some (.b (inP (S.take i) x)) ∧ fr.get (K.ofNat 6) = some (.b (grP (S.take i) x)) ∧ fr.get (K.ofNat 7) = some (.i .i64 (i : Int))
theorem f49_inner {Q : Ex → Fr → H → Prop} {h : H} {v : V} {S : List Int} {x : Int} {o : V}
    (hp : ∀ a b h P, CallP fs (.fn (K.ofNat 53) []) [.i .i64 a, .i .i64 b] h P = P (.b (ptI a b)) h)
    (hv : Sl iE h v S) (hS : S.length ≤ 1000000)
    (hq : ∀ fr, fr.get (K.ofNat 0) = some (v) ∧ fr.get (K.ofNat 3) = some (o) ∧ fr.get (K.ofNat 4) = some (.i .i64 x) ∧ fr.get (K.ofNat 5) = some (.b (inP S x)) ∧ fr.get (K.ofNat 6) = some (.b (grP S x)) → Q (.exit 2) fr h)
    {fr : Fr} (hg : fr.get (K.ofNat 0) = some (v) ∧ fr.get (K.ofNat 3) = some (o) ∧ fr.get (K.ofNat 4) = some (.i .i64 x) ∧ fr.get (K.ofNat 5) = some (.b false) ∧ fr.get (K.ofNat 6) = some (.b true) ∧ fr.get (K.ofNat 7) = some (.i .i64 0)) :
    W fs ro (.loop f49_l0) Q fr h := by
  refine W_loop (f49_I0 h v o S x) (fun i => S.length - i) ?_ 0 ⟨rfl, by omega, hg⟩
  clear hg fr
  rintro i fr h1 ⟨rfl, hi, g0, g3, g4, g5, g6, g7⟩
  unfold f49_l0
  simp (disch := omega) only [f49_r6, w_skip, w_reg, w_seq, w_cond, w_block, w_exit, seqK_n, seqK_e, loopK_e, ckB_b, cbB_b, true_and, x_nil, x_mv, x_bin, x_len, kx, rvP_ok, okv_some, ev_t, getV_some, putD_some, bin_lss, getK_set, Nat.reduceEqDiff, ↓reduceIte, decide_eq_true_eq, g0, g7, hv.len]
  split
  · rename_i hlt
    have hi' : i < S.length := by omega
    obtain ⟨p, hp1, hp2⟩ := hv.at i hi'
    have hinS := inP_snoc (x := x) hi'
    have hgrS := grP_snoc (x := x) hi'
    generalize inP (S.take i) x = bi at *
    generalize grP (S.take i) x = bg at *
    suffices ∀ fr, fr.get (K.ofNat 0) = some (v) ∧ fr.get (K.ofNat 3) = some (o) ∧ fr.get (K.ofNat 4) = some (.i .i64 x) ∧ fr.get (K.ofNat 5) = some (.b (inP (S.take (i + 1)) x)) ∧ fr.get (K.ofNat 6) = some (.b bg) ∧ fr.get (K.ofNat 7) = some (.i .i64 (i : Int)) → X fs f49_r8 (atK 3 (seqK (W fs ro (EC.reg f49_r9)) (loopK (f49_I0 h1 v o S x) (fun i => S.length - i) i Q)) Ex.normal) fr h1 by
      cases bi
      · simp (disch := omega) only [f49_r7, w_reg, seqK_n, okG_b, asG_f, true_and, x_nil, x_g, x_mv, x_as, x_pick, x_ld, x_bin, x_iads, kx, rvP_ok, okv_some, ev_t, ev_c, getV_some, putD_some, bin_eql, pick_b, getK_set, Nat.reduceEqDiff, ↓reduceIte, Bool.false_eq_true, Bool.not_false, g0, g4, g5, g7, hp1, hp2, iE]
        apply this; simp (disch := omega) only [getK_set, Nat.reduceEqDiff, ↓reduceIte, g0, g3, g4, g6, g7, hinS, Bool.false_or, and_self]
      · simp (disch := omega) only [f49_r7, w_reg, seqK_n, okG_b, asG_f, true_and, x_nil, x_g, x_mv, x_as, x_pick, kx, rvP_ok, ev_t, ev_c, getV_some, putD_some, pick_b, getK_set, Nat.reduceEqDiff, ↓reduceIte, Bool.false_eq_true, Bool.not_true, g5]
        apply this; simp (disch := omega) only [getK_set, Nat.reduceEqDiff, ↓reduceIte, g0, g3, g4, g6, g7, hinS, Bool.true_or, and_self]
    clear g0 g3 g4 g5 g6 g7 fr
    rintro fr ⟨g0, g3, g4, g5, g6, g7⟩
    have fin : ∀ fr, fr.get (K.ofNat 0) = some (v) ∧ fr.get (K.ofNat 3) = some (o) ∧ fr.get (K.ofNat 4) = some (.i .i64 x) ∧ fr.get (K.ofNat 5) = some (.b (inP (S.take (i + 1)) x)) ∧ fr.get (K.ofNat 6) = some (.b (grP (S.take (i + 1)) x)) ∧ fr.get (K.ofNat 7) = some (.i .i64 (i : Int)) → X fs f49_r9 (loopK (f49_I0 h1 v o S x) (fun i => S.length - i) i Q Ex.normal) fr h1 := by
      clear g0 g3 g4 g5 g6 g7 fr
      rintro fr ⟨g0, g3, g4, g5, g6, g7⟩
      simp (disch := omega) only [f49_r9, loopK_n, x_nil, x_mv, x_as, x_bin, kx, rvP_ok, okv_some, ev_t, ev_c, getV_some, putD_some, bin_add, of1, getK_set, ↓reduceIte, g7, fw64]
      refine ⟨i + 1, by omega, rfl, hi', ?_⟩
      simp (disch := omega) only [getK_set, Nat.reduceEqDiff, ↓reduceIte, g0, g3, g4, g5, g6, hinS, Int.natCast_add, Int.natCast_one, and_self]
    cases bg
    · simp (disch := omega) only [f49_r8, w_reg, seqK_n, atK_n, okG_b, okG_u, asG_t, asG_u, true_and, x_nil, x_g, x_mv, x_as, x_pick, kx, rvP_ok, ev_t, ev_c, getV_some, putD_some, pick_b, getK_set, Nat.reduceEqDiff, ↓reduceIte, Bool.false_eq_true, g6]
      apply fin; simp (disch := omega) only [getK_set, Nat.reduceEqDiff, ↓reduceIte, g0, g3, g4, g5, g7, hgrS, Bool.false_and, and_self]
    · by_cases hd : S[i] = x
      · simp (disch := omega) only [f49_r8, w_reg, seqK_n, atK_n, okG_b, asG_t, asG_f, true_and, x_nil, x_g, x_mv, x_as, x_pick, x_ld, x_bin, x_iads, kx, rvP_ok, okv_some, ev_t, ev_c, getV_some, putD_some, bin_eql, pick_b, getK_set, Nat.reduceEqDiff, ↓reduceIte, Bool.false_eq_true, Bool.not_true, g0, g4, g6, g7, hp1, hp2, iE, hd, decide_true]
        apply fin; simp (disch := omega) only [getK_set, Nat.reduceEqDiff, ↓reduceIte, g0, g3, g4, g5, g7, hgrS, hd, decide_true, Bool.true_and, Bool.true_or, and_self]
      · simp (disch := omega) only [f49_r8, w_reg, seqK_n, atK_n, okG_b, asG_t, asG_f, true_and, x_nil, x_g, x_mv, x_as, x_pick, x_ld, x_bin, x_not, x_iads, x_call, kx, rvP_ok, okv_some, ev_t, ev_c, evs_nil, evs_cons, getV_some, putD_some, bin_eql, pick_b, onB_b, getK_set, Nat.reduceEqDiff, ↓reduceIte, Bool.false_eq_true, Bool.not_false, g0, g4, g6, g7, hp1, hp2, hp, iE, hd, decide_false]
        apply fin; simp (disch := omega) only [getK_set, Nat.reduceEqDiff, ↓reduceIte, g0, g3, g4, g5, g7, hgrS, hd, decide_false, Bool.true_and, Bool.false_or, and_self]
  · rename_i hlt
    have hi' : i = S.length := by omega
    subst hi'
    rw [List.take_length] at g5 g6
    apply hq; simp (disch := omega) only [getK_set, Nat.reduceEqDiff, ↓reduceIte, g0, g3, g4, g5, g6, and_self]

noncomputable def piecesTo (S : List Int) (i : Nat) : List Int := ((List.range i).filter fun (k : Nat) => inP S (k : Int) && grP S (k : Int)).map fun (k : Nat) => (k : Int)
theorem piecesTo_succ {S : List Int} {i : Nat} : piecesTo S (i + 1) = if (inP S (i : Int) && grP S (i : Int)) = true then piecesTo S i ++ [(i : Int)] else piecesTo S i := by
  unfold piecesTo
  rw [List.range_succ, List.filter_append, List.map_append]
  cases h : (inP S (i : Int) && grP S (i : Int)) <;> simp [h]
theorem piecesTo_len {S : List Int} {i : Nat} : (piecesTo S i).length ≤ i := by
  unfold piecesTo; rw [List.length_map]
  exact Nat.le_trans (List.length_filter_le _ _) (by simp)
def f49_I1 (h : H) (v : V) (S : List Int) (i : Nat) (fr : Fr) (h1 : H) : Prop := ∃ o, i ≤ 64 ∧ Sl iE h1 o (piecesTo S i) ∧ Own h.nx.nat o ∧ Grow h.nx.nat h h1 ∧ fr.get (K.ofNat 0) = some (v) ∧ fr.get (K.ofNat 3) = some (o) ∧ fr.get (K.ofNat 4) = some (.i .i64 (i : Int))
theorem f49_ret {h : H} {v : V} {S : List Int}
    (hp : ∀ a b h P, CallP fs (.fn (K.ofNat 53) []) [.i .i64 a, .i .i64 b] h P = P (.b (ptI a b)) h)
    (hv : Sl iE h v S) (hS : S.length ≤ 1000000) (hc : HC h) : Ret fs f49 [v] h fun u h' => Sl iE h' u (piecesTo S 64) ∧ Own h.nx.nat u ∧ Grow h.nx.nat h h' := by
  apply ret_of rfl
  show W fs none f49_c _ _ _
  unfold f49_c
  simp (disch := omega) only [f49_r0, f49_r1, f49_r2, w_reg, w_seq, w_block, seqK_n, x_nil, x_as, ev_c, putD_some, frame_1, of0]
  refine W_loop (f49_I1 h v S) (fun i => 64 - i) ?_ 0 ⟨.sn, by omega, Sl.nil, Own.sn, Grow.refl _ _, by simp (disch := omega) only [getK_set, Nat.reduceEqDiff, ↓reduceIte, and_self, Int.natCast_zero]⟩
  rintro i fr h1 ⟨o, hi, hso, hoo, hgr, g0, g3, g4⟩
  have hc1 := hgr.hc hc
  have hv1 := hv.grow hc hgr
  unfold f49_l1
  simp (disch := omega) only [f49_r3, w_skip, w_reg, w_seq, w_cond, w_block, w_exit, seqK_n, seqK_e, atK_e, loopK_e, ckB_b, cbB_b, true_and, x_nil, x_mv, x_bin, kx, rvP_ok, okv_some, ev_t, ev_c, getV_some, putD_some, bin_lss, of64, getK_set, ↓reduceIte, decide_eq_true_eq, g4]
  split
  · rename_i hlt
    simp (disch := omega) only [f49_r4, f49_r5, w_reg, w_seq, w_block, seqK_n, x_nil, x_as, ev_c, putD_some, of0]
    refine f49_inner hp hv1 hS (x := i) (o := o) ?_ (by simp (disch := omega) only [getK_set, Nat.reduceEqDiff, ↓reduceIte, g0, g3, g4, and_self])
    clear g0 g3 g4 fr
    rintro fr ⟨g0, g3, g4, g5, g6⟩
    have fin : ∀ fr h2 o2, Sl iE h2 o2 (piecesTo S (i + 1)) → Own h.nx.nat o2 → Grow h.nx.nat h h2 → fr.get (K.ofNat 0) = some (v) ∧ fr.get (K.ofNat 3) = some (o2) ∧ fr.get (K.ofNat 4) = some (.i .i64 (i : Int)) → X fs f49_r12 (loopK (f49_I1 h v S) (fun i => 64 - i) i (atK 0 (seqK (W fs none (EC.seq (EC.reg f49_r13) EC.ret)) (retK f49 fun u h' => Sl iE h' u (piecesTo S 64) ∧ Own h.nx.nat u ∧ Grow h.nx.nat h h'))) Ex.normal) fr h2 := by
      clear g0 g3 g4 g5 g6 fr
      rintro fr h2 o2 q1 q2 q3 ⟨g0, g3, g4⟩
      simp (disch := omega) only [f49_r12, loopK_n, x_nil, x_mv, x_as, x_bin, kx, rvP_ok, okv_some, ev_t, ev_c, getV_some, putD_some, bin_add, of1, getK_set, ↓reduceIte, g4, fw64]
      exact ⟨i + 1, by omega, o2, by omega, q1, q2, q3, by simp (disch := omega) only [getK_set, Nat.reduceEqDiff, ↓reduceIte, g0, g3, Int.natCast_add, Int.natCast_one, and_self]⟩
    cases hin : inP S i <;> cases hgd : grP S i <;> rw [hin] at g5 <;> rw [hgd] at g6
    · simp (disch := omega) only [f49_r10, w_skip, w_reg, w_seq, w_cond, seqK_n, atK_n, atK_e, ckB_b, cbB_b, okG_b, asG_t, true_and, x_nil, x_g, x_mv, x_pick, kx, rvP_ok, ev_t, ev_c, getV_some, putD_some, pick_b, getK_set, Nat.reduceEqDiff, ↓reduceIte, Bool.false_eq_true, g5]
      exact fin _ _ o (by rw [piecesTo_succ, hin]; exact hso) hoo hgr (by simp (disch := omega) only [getK_set, Nat.reduceEqDiff, ↓reduceIte, g0, g3, g4, and_self])
    · simp (disch := omega) only [f49_r10, w_skip, w_reg, w_seq, w_cond, seqK_n, atK_n, atK_e, ckB_b, cbB_b, okG_b, asG_t, true_and, x_nil, x_g, x_mv, x_pick, kx, rvP_ok, ev_t, ev_c, getV_some, putD_some, pick_b, getK_set, Nat.reduceEqDiff, ↓reduceIte, Bool.false_eq_true, g5]
      exact fin _ _ o (by rw [piecesTo_succ, hin]; exact hso) hoo hgr (by simp (disch := omega) only [getK_set, Nat.reduceEqDiff, ↓reduceIte, g0, g3, g4, and_self])
    · simp (disch := omega) only [f49_r10, w_skip, w_reg, w_seq, w_cond, seqK_n, atK_n, atK_e, ckB_b, cbB_b, okG_b, asG_t, true_and, x_nil, x_g, x_mv, x_pick, kx, rvP_ok, ev_t, ev_c, getV_some, putD_some, pick_b, getK_set, Nat.reduceEqDiff, ↓reduceIte, Bool.false_eq_true, g5, g6]
      exact fin _ _ o (by rw [piecesTo_succ, hgd, Bool.and_false]; exact hso) hoo hgr (by simp (disch := omega) only [getK_set, Nat.reduceEqDiff, ↓reduceIte, g0, g3, g4, and_self])
    · obtain ⟨v', h', p1, p2, p3, p4, p5⟩ := Sl.push (L := piecesTo S i) (x := (i : Int)) (c := .i .i64 i) rfl hso hoo hgr.nx hc1 (by have := piecesTo_len (S := S) (i := i); omega)
      simp (disch := omega) only [f49_r10, f49_r11, w_reg, w_seq, w_cond, seqK_n, atK_n, atK_e, ckB_b, cbB_b, okG_b, asG_t, true_and, x_nil, x_g, x_mv, x_as, x_pick, x_bslice, x_app, kx, rvP_ok, ev_t, ev_c, getV_some, putD_some, pick_b, oGet_s, cells1_i, fill_1, set_1, of0, getK_set, Nat.reduceEqDiff, ↓reduceIte, g3, g4, g5, g6, p1]
      exact fin _ _ v' (by rw [piecesTo_succ, hin, hgd]; exact p2) p3 (hgr.trans p4) (by simp (disch := omega) only [getK_set, Nat.reduceEqDiff, ↓reduceIte, g0, g4, and_self])
  · rename_i hlt
    obtain rfl : i = 64 := by omega
    simp (disch := omega) only [f49_r13, f49_rs, w_ret, seqK_n, retK_r, x_nil, x_mv, x_as, ev_t, getV_some, putD_some, oGet_s, readRs_nil, readRs_t, retV_1, Option.some.injEq, exists_eq_left', getK_set, Nat.reduceEqDiff, ↓reduceIte, g3]
    exact ⟨hso, hoo, hgr⟩
end
end Go.Ev
namespace Go.Ev
open Go Go.RowKit
noncomputable def f14_r0 : List EOper := [⟨(some (K.ofNat 4)), none, .as (.c .sn)⟩]
noncomputable def f14_r1 : List EOper := [⟨(some (K.ofNat 5)), none, .as (.c .sn)⟩]
noncomputable def f14_r2 : List EOper := [⟨(some (K.ofNat 6)), none, .mv (.t (K.ofNat 5))⟩, ⟨(some (K.ofNat 7)), none, .mv (.t (K.ofNat 0))⟩, ⟨(some (K.ofNat 8)), none, .mv (.t (K.ofNat 0))⟩, ⟨(some (K.ofNat 9)), none, .len (.t (K.ofNat 8))⟩, ⟨(some (K.ofNat 10)), none, .mv (.t (K.ofNat 1))⟩, ⟨(some (K.ofNat 11)), none, .min (.t (K.ofNat 9)) (.t (K.ofNat 10))⟩, ⟨(some (K.ofNat 12)), none, .slice 1 (.t (K.ofNat 7)) none (some (.t (K.ofNat 11))) none⟩, ⟨(some (K.ofNat 13)), none, .app 1 (.t (K.ofNat 6)) (.t (K.ofNat 12))⟩, ⟨(some (K.ofNat 4)), none, .as (.t (K.ofNat 13))⟩]
noncomputable def f14_c : EC := (.seq (.reg f14_r0) (.seq (.reg f14_r1) (.seq (.reg f14_r2) .ret)))
noncomputable def f14 : EF := ⟨14, [.tmp (K.ofNat 4)], f14_c, none⟩
noncomputable def f55_r0 : List EOper := [⟨(some (K.ofNat 2)), none, .alloc 64 (List.replicate 64 (.b false))⟩]
noncomputable def f55_r1 : List EOper := [⟨(some (K.ofNat 3)), none, .alloc 64 (List.replicate 64 (.b false))⟩]
noncomputable def f55_r2 : List EOper := [⟨(some (K.ofNat 7)), none, .mv (.c (.i .i64 (.ofNat 0)))⟩]
noncomputable def f55_r3 : List EOper := [⟨(some (K.ofNat 8)), none, .bin .lss (.t (K.ofNat 7)) (.c (.i .i64 (.ofNat 64)))⟩]
noncomputable def f55_r4 : List EOper := [⟨(some (K.ofNat 9)), none, .mv (.t (K.ofNat 7))⟩, ⟨(some (K.ofNat 4)), none, .as (.t (K.ofNat 9))⟩]
noncomputable def f55_r5 : List EOper := [⟨(some (K.ofNat 10)), none, .mv (.t (K.ofNat 0))⟩, ⟨(some (K.ofNat 11)), none, .len (.t (K.ofNat 10))⟩, ⟨(some (K.ofNat 12)), none, .mv (.c (.i .i64 (.ofNat 0)))⟩]
noncomputable def f55_r6 : List EOper := [⟨(some (K.ofNat 13)), none, .bin .lss (.t (K.ofNat 12)) (.t (K.ofNat 11))⟩]
noncomputable def f55_r7 : List EOper := [⟨(some (K.ofNat 14)), none, .iads 1 (.t (K.ofNat 10)) (.t (K.ofNat 12))⟩, ⟨(some (K.ofNat 15)), none, .ld (.t (K.ofNat 14))⟩, ⟨(some (K.ofNat 6)), none, .as (.t (K.ofNat 15))⟩]
noncomputable def f55_r8 : List EOper := [⟨(some (K.ofNat 16)), none, .mv (.t (K.ofNat 4))⟩, ⟨(some (K.ofNat 17)), none, .mv (.t (K.ofNat 4))⟩, ⟨(some (K.ofNat 18)), none, .iadr 64 1 (.t (K.ofNat 3)) (.t (K.ofNat 17))⟩, ⟨(some (K.ofNat 19)), none, .ld (.t (K.ofNat 18))⟩, ⟨(some (K.ofNat 20)), none, .mv (.t (K.ofNat 19))⟩, ⟨(some (K.ofNat 21)), (some ((K.ofNat 20), false)), .mv (.t (K.ofNat 4))⟩, ⟨(some (K.ofNat 22)), (some ((K.ofNat 20), false)), .mv (.t (K.ofNat 6))⟩, ⟨(some (K.ofNat 23)), (some ((K.ofNat 20), false)), .call (.c (.fn (K.ofNat 54) [])) [(.t (K.ofNat 21)), (.t (K.ofNat 22))]⟩, ⟨(some (K.ofNat 24)), none, .pick (.t (K.ofNat 20)) (.c (.b true)) (.t (K.ofNat 23))⟩, ⟨(some (K.ofNat 25)), none, .iadr 64 1 (.t (K.ofNat 3)) (.t (K.ofNat 16))⟩, ⟨none, none, .st 1 (.t (K.ofNat 25)) (.t (K.ofNat 24))⟩]
noncomputable def f55_r9 : List EOper := [⟨(some (K.ofNat 26)), none, .bin .add (.t (K.ofNat 12)) (.c (.i .i64 (.ofNat 1)))⟩, ⟨(some (K.ofNat 12)), none, .mv (.t (K.ofNat 26))⟩]
noncomputable def f55_l0 : EC := (.seq (.reg f55_r6) (.seq (.cond (.t (K.ofNat 13)) .skip (.exit 2)) (.seq (.block 3 (.seq (.reg f55_r7) (.reg f55_r8))) (.reg f55_r9))))
noncomputable def f55_r10 : List EOper := [⟨(some (K.ofNat 27)), none, .bin .add (.t (K.ofNat 7)) (.c (.i .i64 (.ofNat 1)))⟩, ⟨(some (K.ofNat 7)), none, .mv (.t (K.ofNat 27))⟩]
noncomputable def f55_l1 : EC := (.seq (.reg f55_r3) (.seq (.cond (.t (K.ofNat 8)) .skip (.exit 0)) (.seq (.block 1 (.seq (.reg f55_r4) (.seq (.reg f55_r5) (.block 2 (.loop f55_l0))))) (.reg f55_r10))))
noncomputable def f55_r11 : List EOper := [⟨(some (K.ofNat 28)), none, .ldn 64 (.t (K.ofNat 3))⟩, ⟨none, none, .st 64 (.t (K.ofNat 2)) (.t (K.ofNat 28))⟩]
noncomputable def f55_c : EC := (.seq (.reg f55_r0) (.seq (.reg f55_r1) (.seq (.seq (.reg f55_r2) (.block 0 (.loop f55_l1))) (.seq (.reg f55_r11) .ret))))
noncomputable def f55 : EF := ⟨29, [.celln (K.ofNat 2) 64], f55_c, none⟩
section
variable {fs : T EF} {ro : Option K}
noncomputable def famB (S : List Int) (i : Nat) : Bool := S.any fun s => ptI (i : Int) s
theorem any_snoc {S : List Int} {p : Int → Bool} {j : Nat} (hj : j < S.length) : (S.take (j + 1)).any p = ((S.take j).any p || p S[j]) := by
  rw [List.take_succ_eq_append_getElem hj, List.any_append]; simp
end
end Go.Ev
namespace Go.Ev
open Go Go.RowKit
noncomputable def f78_r0 : List EOper := [⟨(some (K.ofNat 1)), none, .box 64 (.t (K.ofNat 0))⟩, ⟨(some (K.ofNat 2)), none, .as (.c .fnil)⟩]
noncomputable def f78_r1 : List EOper := [⟨(some (K.ofNat 3)), none, .mkfn (K.ofNat 91) [(.t (K.ofNat 1))]⟩, ⟨(some (K.ofNat 2)), none, .as (.t (K.ofNat 3))⟩]
noncomputable def f78_c : EC := (.seq (.reg f78_r0) (.seq (.reg f78_r1) .ret))
noncomputable def f78 : EF := ⟨4, [.tmp (K.ofNat 2)], f78_c, none⟩
noncomputable def f66_r0 : List EOper := [⟨(some (K.ofNat 1)), none, .box 64 (.t (K.ofNat 0))⟩, ⟨(some (K.ofNat 2)), none, .as (.c .sn)⟩]
noncomputable def f66_r1 : List EOper := [⟨(some (K.ofNat 3)), none, .alloc 1 [.sn]⟩]
noncomputable def f66_r2 : List EOper := [⟨(some (K.ofNat 6)), none, .ldn 64 (.t (K.ofNat 1))⟩, ⟨(some (K.ofNat 7)), none, .call (.c (.fn (K.ofNat 78) [])) [(.t (K.ofNat 6))]⟩]
noncomputable def f66_r3 : List EOper := [⟨(some (K.ofNat 4)), none, .alloc 1 [(.i .i64 (.ofNat 0))]⟩, ⟨none, none, .st 1 (.t (K.ofNat 4)) (.t (K.ofNat 8))⟩]
noncomputable def f66_a0 : EC := (.reg f66_r3)
noncomputable def f66_r4 : List EOper := [⟨(some (K.ofNat 9)), none, .ldn 64 (.t (K.ofNat 1))⟩, ⟨(some (K.ofNat 10)), none, .call (.c (.fn (K.ofNat 78) [])) [(.t (K.ofNat 9))]⟩]
noncomputable def f66_r5 : List EOper := [⟨(some (K.ofNat 5)), none, .as (.t (K.ofNat 11))⟩]
noncomputable def f66_a1 : EC := (.reg f66_r5)
noncomputable def f66_r6 : List EOper := [⟨(some (K.ofNat 12)), none, .mv (.t (K.ofNat 5))⟩, ⟨(some (K.ofNat 13)), none, .ld (.t (K.ofNat 4))⟩, ⟨(some (K.ofNat 14)), none, .bin .neq (.t (K.ofNat 12)) (.t (K.ofNat 13))⟩, ⟨(some (K.ofNat 15)), none, .mv (.t (K.ofNat 14))⟩, ⟨(some (K.ofNat 16)), (some ((K.ofNat 15), true)), .ld (.t (K.ofNat 4))⟩, ⟨(some (K.ofNat 17)), (some ((K.ofNat 15), true)), .mv (.t (K.ofNat 5))⟩, ⟨(some (K.ofNat 18)), (some ((K.ofNat 15), true)), .call (.c (.fn (K.ofNat 54) [])) [(.t (K.ofNat 16)), (.t (K.ofNat 17))]⟩, ⟨(some (K.ofNat 19)), none, .pick (.t (K.ofNat 15)) (.t (K.ofNat 18)) (.c (.b false))⟩]
noncomputable def f66_b0 : EC := (.block 3 (.seq (.reg f66_r6) (.cond (.t (K.ofNat 19)) (.exit 1) .skip)))
noncomputable def f66_r7 : List EOper := [⟨(some (K.ofNat 20)), none, .ld (.t (K.ofNat 3))⟩, ⟨(some (K.ofNat 21)), none, .ld (.t (K.ofNat 4))⟩, ⟨(some (K.ofNat 22)), none, .bslice 1 1 [(.i .i64 (.ofNat 0))] [(0, 1, (.t (K.ofNat 21)))]⟩, ⟨(some (K.ofNat 23)), none, .app 1 (.t (K.ofNat 20)) (.t (K.ofNat 22))⟩, ⟨none, none, .st 1 (.t (K.ofNat 3)) (.t (K.ofNat 23))⟩]
noncomputable def f66_b1 : EC := (.block 1 (.seq (.seq (.reg f66_r4) (.block 2 (.rangeF (.t (K.ofNat 10)) [(K.ofNat 11)] f66_a1 f66_b0))) (.reg f66_r7)))
noncomputable def f66_r8 : List EOper := [⟨(some (K.ofNat 24)), none, .ld (.t (K.ofNat 3))⟩, ⟨(some (K.ofNat 2)), none, .as (.t (K.ofNat 24))⟩]
noncomputable def f66_c : EC := (.seq (.reg f66_r0) (.scope (.seq (.reg f66_r1) (.seq .skip (.seq (.seq (.reg f66_r2) (.block 0 (.rangeF (.t (K.ofNat 7)) [(K.ofNat 8)] f66_a0 f66_b1))) (.seq (.reg f66_r8) .ret))))))
noncomputable def f66 : EF := ⟨25, [.tmp (K.ofNat 2)], f66_c, none⟩
section
variable {fs : T EF} {ro : Option K}
def boolV (B : Nat → Bool) : List V := (arr B 64).map V.b
def mem64 (B : Nat → Bool) : List Nat := (List.range 64).filter B
noncomputable def isTop (B : Nat → Bool) (x : Nat) : Bool := (mem64 B).all fun y => !(decide ((y : Int) ≠ (x : Int)) && ptI (x : Int) (y : Int))
noncomputable def topsTo (B : Nat → Bool) (i : Nat) : List Int := (((mem64 B).take i).filter (isTop B)).map fun (k : Nat) => (k : Int)
structure TopI (b : Nat) (h : H) (B : Nat → Bool) (id1 id3 idf idl : K) (o : V) (L : List Int) (lb : Blk) (h1 : H) : Prop where
  sl : Sl iE h1 o L
  own : Own (idl.nat + 1) o
  gr : Grow b h h1
  e3 : h1.get id3 = .cells 1 [o]
  e1 : h1.get id1 = .cells 64 (boolV B)
  ef : h1.get idf = .cells 64 (boolV B)
  el : h1.get idl = lb
  nx : idl.nat + 1 ≤ h1.nx.nat
  o1 : id1.nat < id3.nat
  o3 : id3.nat < idf.nat
  of : idf.nat < idl.nat
  ob : b ≤ id1.nat
section
variable {b : Nat} {h h1 h2 : H} {B : Nat → Bool} {id1 id3 idf idl : K} {o o' : V} {L L' : List Int} {lb : Blk}
theorem ne_of_lt {a b : K} (h : a.nat < b.nat) : a ≠ b := fun e => by rw [e] at h; omega
theorem TopI.grow (t : TopI b h B id1 id3 idf idl o L lb h1) (hc : HC h1) (g : Grow h1.nx.nat h1 h2) : TopI b h B id1 id3 idf idl o L lb h2 := by
  have := t.nx; have := t.o1; have := t.o3; have := t.of; have := t.ob; have := g.nx
  exact ⟨t.sl.grow hc g, t.own, t.gr.trans (g.low (by omega)), by rw [g.old _ (by omega)]; exact t.e3, by rw [g.old _ (by omega)]; exact t.e1, by rw [g.old _ (by omega)]; exact t.ef, by rw [g.old _ (by omega)]; exact t.el, by omega, t.o1, t.o3, t.of, t.ob⟩
theorem TopI.loop (t : TopI b h B id1 id3 idf idl o L lb h1) (lb' : Blk) : TopI b h B id1 id3 idf idl o L lb' (h1.put idl lb') := by
  have := t.nx; have := t.o1; have := t.o3; have := t.of; have := t.ob
  exact ⟨t.sl.put (t.own.notIn (by omega)) _, t.own, t.gr.trans (Grow.put (by omega) (by omega) _), by rw [get_put_other (ne_of_lt (by omega))]; exact t.e3, by rw [get_put_other (ne_of_lt (by omega))]; exact t.e1, by rw [get_put_other (ne_of_lt (by omega))]; exact t.ef, get_put_same, t.nx, t.o1, t.o3, t.of, t.ob⟩
theorem TopI.put (t : TopI b h B id1 id3 idf idl o L lb h1) (hs : Sl iE h2 o' L') (ho : Own (idl.nat + 1) o') (g : Grow (idl.nat + 1) h1 h2) : TopI b h B id1 id3 idf idl o' L' lb (h2.put id3 (.cells 1 [o'])) := by
  have := t.nx; have := t.o1; have := t.o3; have := t.of; have := t.ob; have := g.nx
  exact ⟨hs.put (ho.notIn (by omega)) _, ho, (t.gr.trans (g.low (by omega))).trans (Grow.put (by omega) (by omega) _), get_put_same, by rw [get_put_other (ne_of_lt (by omega)), g.old _ (by omega)]; exact t.e1,
    by rw [get_put_other (ne_of_lt (by omega)).symm, g.old _ (by omega)]; exact t.ef, by rw [get_put_other (ne_of_lt (by omega)).symm, g.old _ (by omega)]; exact t.el, by rw [nx_put]; omega, t.o1, t.o3, t.of, t.ob⟩
end
end
end Go.Ev
namespace Go.Ev
open Go Go.RowKit
noncomputable def f67_r0 : List EOper := [⟨(some (K.ofNat 1)), none, .box 64 (.t (K.ofNat 0))⟩, ⟨(some (K.ofNat 2)), none, .as (.c .sn)⟩, ⟨(some (K.ofNat 3)), none, .as (.c (.i .i64 (.ofNat 0)))⟩]
noncomputable def f67_r1 : List EOper := [⟨(some (K.ofNat 5)), none, .ldn 64 (.t (K.ofNat 1))⟩, ⟨(some (K.ofNat 6)), none, .call (.c (.fn (K.ofNat 66) [])) [(.t (K.ofNat 5))]⟩, ⟨(some (K.ofNat 4)), none, .as (.t (K.ofNat 6))⟩]
noncomputable def f67_r2 : List EOper := [⟨(some (K.ofNat 7)), none, .mv (.t (K.ofNat 4))⟩, ⟨(some (K.ofNat 8)), none, .len (.t (K.ofNat 7))⟩, ⟨(some (K.ofNat 9)), none, .bin .eql (.t (K.ofNat 8)) (.c (.i .i64 (.ofNat 0)))⟩, ⟨(some (K.ofNat 10)), none, .mv (.t (K.ofNat 9))⟩, ⟨(some (K.ofNat 11)), (some ((K.ofNat 10), false)), .mv (.t (K.ofNat 4))⟩, ⟨(some (K.ofNat 12)), (some ((K.ofNat 10), false)), .iads 1 (.t (K.ofNat 11)) (.c (.i .i64 (.ofNat 0)))⟩, ⟨(some (K.ofNat 13)), (some ((K.ofNat 10), false)), .ld (.t (K.ofNat 12))⟩, ⟨(some (K.ofNat 14)), (some ((K.ofNat 10), false)), .bin .eql (.t (K.ofNat 13)) (.c (.i .i64 (.ofNat 0)))⟩, ⟨(some (K.ofNat 15)), none, .pick (.t (K.ofNat 10)) (.c (.b true)) (.t (K.ofNat 14))⟩]
noncomputable def f67_r3 : List EOper := [⟨(some (K.ofNat 2)), none, .as (.c .sn)⟩, ⟨(some (K.ofNat 3)), none, .as (.c (.i .i64 (.ofNat 4)))⟩]
noncomputable def f67_r4 : List EOper := [⟨(some (K.ofNat 16)), none, .mv (.t (K.ofNat 4))⟩, ⟨(some (K.ofNat 17)), none, .len (.t (K.ofNat 16))⟩, ⟨(some (K.ofNat 18)), none, .bin .gtr (.t (K.ofNat 17)) (.c (.i .i64 (.ofNat 10)))⟩]
noncomputable def f67_r5 : List EOper := [⟨(some (K.ofNat 2)), none, .as (.c .sn)⟩, ⟨(some (K.ofNat 3)), none, .as (.c (.i .i64 (.ofNat 8)))⟩]
noncomputable def f67_r6 : List EOper := [⟨(some (K.ofNat 19)), none, .mv (.t (K.ofNat 4))⟩, ⟨(some (K.ofNat 2)), none, .as (.t (K.ofNat 19))⟩, ⟨(some (K.ofNat 3)), none, .as (.c (.i .i64 (.ofNat 0)))⟩]
noncomputable def f67_c : EC := (.seq (.reg f67_r0) (.seq (.reg f67_r1) (.seq (.seq (.reg f67_r2) (.cond (.t (K.ofNat 15)) (.seq (.reg f67_r3) .ret) .skip)) (.seq (.seq (.reg f67_r4) (.cond (.t (K.ofNat 18)) (.seq (.reg f67_r5) .ret) .skip)) (.seq (.reg f67_r6) .ret)))))
noncomputable def f67 : EF := ⟨20, [.tmp (K.ofNat 2), .tmp (K.ofNat 3)], f67_c, none⟩
noncomputable def f48_r0 : List EOper := [⟨(some (K.ofNat 4)), none, .as (.c .sn)⟩, ⟨(some (K.ofNat 5)), none, .as (.c (.i .i64 (.ofNat 0)))⟩]
noncomputable def f48_r1 : List EOper := [⟨(some (K.ofNat 8)), none, .mv (.t (K.ofNat 0))⟩, ⟨(some (K.ofNat 9)), none, .bin .lss (.t (K.ofNat 8)) (.c (.i .i64 (.ofNat 1)))⟩, ⟨(some (K.ofNat 10)), none, .mv (.t (K.ofNat 9))⟩, ⟨(some (K.ofNat 11)), (some ((K.ofNat 10), false)), .mv (.t (K.ofNat 0))⟩, ⟨(some (K.ofNat 12)), (some ((K.ofNat 10), false)), .bin .gtr (.t (K.ofNat 11)) (.c (.i .i64 (.ofNat 6)))⟩, ⟨(some (K.ofNat 13)), none, .pick (.t (K.ofNat 10)) (.c (.b true)) (.t (K.ofNat 12))⟩, ⟨(some (K.ofNat 14)), none, .mv (.t (K.ofNat 13))⟩, ⟨(some (K.ofNat 15)), (some ((K.ofNat 14), false)), .mv (.t (K.ofNat 1))⟩, ⟨(some (K.ofNat 16)), (some ((K.ofNat 14), false)), .len (.t (K.ofNat 15))⟩, ⟨(some (K.ofNat 17)), (some ((K.ofNat 14), false)), .bin .gtr (.t (K.ofNat 16)) (.c (.i .i64 (.ofNat 64)))⟩, ⟨(some (K.ofNat 18)), none, .pick (.t (K.ofNat 14)) (.c (.b true)) (.t (K.ofNat 17))⟩]
noncomputable def f48_r2 : List EOper := [⟨(some (K.ofNat 4)), none, .as (.c .sn)⟩, ⟨(some (K.ofNat 5)), none, .as (.c (.i .i64 (.ofNat 1)))⟩]
noncomputable def f48_r3 : List EOper := [⟨(some (K.ofNat 19)), none, .mv (.t (K.ofNat 1))⟩, ⟨(some (K.ofNat 20)), none, .len (.t (K.ofNat 19))⟩, ⟨(some (K.ofNat 21)), none, .mv (.c (.i .i64 (.ofNat 0)))⟩]
noncomputable def f48_r4 : List EOper := [⟨(some (K.ofNat 22)), none, .bin .lss (.t (K.ofNat 21)) (.t (K.ofNat 20))⟩]
noncomputable def f48_r5 : List EOper := [⟨(some (K.ofNat 23)), none, .iads 1 (.t (K.ofNat 19)) (.t (K.ofNat 21))⟩, ⟨(some (K.ofNat 24)), none, .ld (.t (K.ofNat 23))⟩, ⟨(some (K.ofNat 7)), none, .as (.t (K.ofNat 24))⟩]
noncomputable def f48_r6 : List EOper := [⟨(some (K.ofNat 25)), none, .mv (.t (K.ofNat 7))⟩, ⟨(some (K.ofNat 26)), none, .bin .lss (.t (K.ofNat 25)) (.c (.i .i64 (.ofNat 0)))⟩, ⟨(some (K.ofNat 27)), none, .mv (.t (K.ofNat 26))⟩, ⟨(some (K.ofNat 28)), (some ((K.ofNat 27), false)), .mv (.t (K.ofNat 7))⟩, ⟨(some (K.ofNat 29)), (some ((K.ofNat 27), false)), .mv (.t (K.ofNat 0))⟩, ⟨(some (K.ofNat 30)), (some ((K.ofNat 27), false)), .bin .shl (.c (.i .i64 (.ofNat 1))) (.t (K.ofNat 29))⟩, ⟨(some (K.ofNat 31)), (some ((K.ofNat 27), false)), .bin .geq (.t (K.ofNat 28)) (.t (K.ofNat 30))⟩, ⟨(some (K.ofNat 32)), none, .pick (.t (K.ofNat 27)) (.c (.b true)) (.t (K.ofNat 31))⟩]
noncomputable def f48_r7 : List EOper := [⟨(some (K.ofNat 4)), none, .as (.c .sn)⟩, ⟨(some (K.ofNat 5)), none, .as (.c (.i .i64 (.ofNat 1)))⟩]
noncomputable def f48_r8 : List EOper := [⟨(some (K.ofNat 33)), none, .bin .add (.t (K.ofNat 21)) (.c (.i .i64 (.ofNat 1)))⟩, ⟨(some (K.ofNat 21)), none, .mv (.t (K.ofNat 33))⟩]
noncomputable def f48_l0 : EC := (.seq (.reg f48_r4) (.seq (.cond (.t (K.ofNat 22)) .skip (.exit 0)) (.seq (.block 1 (.seq (.reg f48_r5) (.seq (.reg f48_r6) (.cond (.t (K.ofNat 32)) (.seq (.reg f48_r7) .ret) .skip)))) (.reg f48_r8))))
noncomputable def f48_r9 : List EOper := [⟨(some (K.ofNat 34)), none, .mv (.t (K.ofNat 1))⟩, ⟨(some (K.ofNat 35)), none, .call (.c (.fn (K.ofNat 55) [])) [(.t (K.ofNat 34))]⟩, ⟨(some (K.ofNat 36)), none, .call (.c (.fn (K.ofNat 67) [])) [(.t (K.ofNat 35))]⟩, ⟨(some (K.ofNat 37)), none, .ext (.t (K.ofNat 36)) 0⟩, ⟨(some (K.ofNat 38)), none, .ext (.t (K.ofNat 36)) 1⟩, ⟨(some (K.ofNat 4)), none, .as (.t (K.ofNat 37))⟩, ⟨(some (K.ofNat 5)), none, .as (.t (K.ofNat 38))⟩]
noncomputable def f48_c : EC := (.seq (.reg f48_r0) (.seq (.seq (.reg f48_r1) (.cond (.t (K.ofNat 18)) (.seq (.reg f48_r2) .ret) .skip)) (.seq (.seq (.reg f48_r3) (.block 0 (.loop f48_l0))) (.seq (.reg f48_r9) .ret))))
noncomputable def f48 : EF := ⟨39, [.tmp (K.ofNat 4), .tmp (K.ofNat 5)], f48_c, none⟩
section
variable {fs : T EF} {ro : Option K}
/-- What piecesOf makes of the greatest sets. -/
noncomputable def madeOf (L : List Int) : List Int × Int := if L.length = 0 then ([], 4) else if L[0]? = some 0 then ([], 4) else if 10 < L.length then ([], 8) else (L, 0)
/-- The error that Made returns, and the pieces. -/
noncomputable def inSet (n : Int) (s : Int) : Bool := decide (0 ≤ s) && decide (s < 2 ^ n.toNat)
noncomputable def badMade (n : Int) (S : List Int) : Bool := decide (n < 1) || decide (6 < n) || decide (64 < S.length) || !(S.all (inSet n))
noncomputable def madeS (n : Int) (S : List Int) : List Int × Int := if badMade n S = true then ([], 1) else madeOf (topsTo (famB S) 64)
theorem shl_n {n : Int} (h1 : 1 ≤ n) (h6 : n ≤ 6) : fw .i64 (1 * 2 ^ (min n.toNat IntKind.i64.bits)) = 2 ^ n.toNat := by
  have : n = 1 ∨ n = 2 ∨ n = 3 ∨ n = 4 ∨ n = 5 ∨ n = 6 := by omega
  rcases this with rfl | rfl | rfl | rfl | rfl | rfl <;> rfl
theorem all_snoc {S : List Int} {p : Int → Bool} {j : Nat} (hj : j < S.length) : (S.take (j + 1)).all p = ((S.take j).all p && p S[j]) := by
  rw [List.take_succ_eq_append_getElem hj, List.all_append]; simp
end
end Go.Ev
namespace Go.Ev
open Go Go.RowKit
noncomputable def f9_r0 : List EOper := [⟨(some (K.ofNat 6)), none, .as (.c (.b false))⟩]
noncomputable def f9_r1 : List EOper := [⟨(some (K.ofNat 20)), none, .mv (.t (K.ofNat 1))⟩, ⟨(some (K.ofNat 21)), none, .call (.c (.fn (K.ofNat 14) [])) [(.t (K.ofNat 20)), (.c (.i .i64 (.ofNat 66)))]⟩, ⟨(some (K.ofNat 7)), none, .as (.t (K.ofNat 21))⟩]
noncomputable def f9_r2 : List EOper := [⟨(some (K.ofNat 8)), none, .as (.c (.i .i64 (.ofNat 0)))⟩]
noncomputable def f9_r3 : List EOper := [⟨(some (K.ofNat 22)), none, .mv (.t (K.ofNat 8))⟩, ⟨(some (K.ofNat 23)), none, .bin .lss (.t (K.ofNat 22)) (.c (.i .i64 (.ofNat 2)))⟩]
noncomputable def f9_r4 : List EOper := [⟨(some (K.ofNat 27)), none, .mv (.t (K.ofNat 0))⟩, ⟨(some (K.ofNat 28)), none, .mv (.t (K.ofNat 7))⟩, ⟨(some (K.ofNat 29)), none, .call (.c (.fn (K.ofNat 48) [])) [(.t (K.ofNat 27)), (.t (K.ofNat 28))]⟩, ⟨(some (K.ofNat 26)), none, .mv (.t (K.ofNat 29))⟩, ⟨(some (K.ofNat 30)), none, .ext (.t (K.ofNat 26)) 0⟩, ⟨(some (K.ofNat 31)), none, .ext (.t (K.ofNat 26)) 1⟩, ⟨(some (K.ofNat 9)), none, .as (.t (K.ofNat 30))⟩, ⟨(some (K.ofNat 10)), none, .as (.t (K.ofNat 31))⟩]
noncomputable def f9_r5 : List EOper := [⟨(some (K.ofNat 32)), none, .mv (.t (K.ofNat 0))⟩, ⟨(some (K.ofNat 33)), none, .bin .lss (.t (K.ofNat 32)) (.c (.i .i64 (.ofNat 1)))⟩, ⟨(some (K.ofNat 34)), none, .mv (.t (K.ofNat 33))⟩, ⟨(some (K.ofNat 35)), (some ((K.ofNat 34), false)), .mv (.t (K.ofNat 0))⟩, ⟨(some (K.ofNat 36)), (some ((K.ofNat 34), false)), .bin .gtr (.t (K.ofNat 35)) (.c (.i .i64 (.ofNat 6)))⟩, ⟨(some (K.ofNat 37)), none, .pick (.t (K.ofNat 34)) (.c (.b true)) (.t (K.ofNat 36))⟩, ⟨(some (K.ofNat 38)), none, .mv (.t (K.ofNat 37))⟩, ⟨(some (K.ofNat 39)), (some ((K.ofNat 38), false)), .mv (.t (K.ofNat 7))⟩, ⟨(some (K.ofNat 40)), (some ((K.ofNat 38), false)), .len (.t (K.ofNat 39))⟩, ⟨(some (K.ofNat 41)), (some ((K.ofNat 38), false)), .bin .gtr (.t (K.ofNat 40)) (.c (.i .i64 (.ofNat 64)))⟩, ⟨(some (K.ofNat 42)), none, .pick (.t (K.ofNat 38)) (.c (.b true)) (.t (K.ofNat 41))⟩, ⟨(some (K.ofNat 11)), none, .as (.t (K.ofNat 42))⟩]
noncomputable def f9_r6 : List EOper := [⟨(some (K.ofNat 12)), none, .as (.c (.b false))⟩]
noncomputable def f9_r7 : List EOper := [⟨(some (K.ofNat 13)), none, .as (.c (.i .i64 (.ofNat 0)))⟩]
noncomputable def f9_r8 : List EOper := [⟨(some (K.ofNat 43)), none, .mv (.t (K.ofNat 13))⟩, ⟨(some (K.ofNat 44)), none, .mv (.t (K.ofNat 7))⟩, ⟨(some (K.ofNat 45)), none, .len (.t (K.ofNat 44))⟩, ⟨(some (K.ofNat 46)), none, .bin .lss (.t (K.ofNat 43)) (.t (K.ofNat 45))⟩, ⟨(some (K.ofNat 47)), none, .mv (.t (K.ofNat 46))⟩, ⟨(some (K.ofNat 48)), (some ((K.ofNat 47), true)), .mv (.t (K.ofNat 11))⟩, ⟨(some (K.ofNat 49)), (some ((K.ofNat 47), true)), .not (.t (K.ofNat 48))⟩, ⟨(some (K.ofNat 50)), none, .pick (.t (K.ofNat 47)) (.t (K.ofNat 49)) (.c (.b false))⟩]
noncomputable def f9_r9 : List Stage := [⟨[⟨(some (K.ofNat 53)), none, .mv (.t (K.ofNat 7))⟩, ⟨(some (K.ofNat 54)), none, .mv (.t (K.ofNat 13))⟩, ⟨(some (K.ofNat 55)), none, .iads 1 (.t (K.ofNat 53)) (.t (K.ofNat 54))⟩, ⟨(some (K.ofNat 56)), none, .ld (.t (K.ofNat 55))⟩, ⟨(some (K.ofNat 57)), none, .bin .lss (.t (K.ofNat 56)) (.c (.i .i64 (.ofNat 0)))⟩, ⟨(some (K.ofNat 58)), none, .mv (.t (K.ofNat 57))⟩, ⟨(some (K.ofNat 59)), (some ((K.ofNat 58), false)), .mv (.t (K.ofNat 7))⟩, ⟨(some (K.ofNat 60)), (some ((K.ofNat 58), false)), .mv (.t (K.ofNat 13))⟩, ⟨(some (K.ofNat 61)), (some ((K.ofNat 58), false)), .iads 1 (.t (K.ofNat 59)) (.t (K.ofNat 60))⟩, ⟨(some (K.ofNat 62)), (some ((K.ofNat 58), false)), .ld (.t (K.ofNat 61))⟩, ⟨(some (K.ofNat 63)), (some ((K.ofNat 58), false)), .mv (.t (K.ofNat 0))⟩, ⟨(some (K.ofNat 64)), (some ((K.ofNat 58), false)), .bin .shl (.c (.i .i64 (.ofNat 1))) (.t (K.ofNat 63))⟩, ⟨(some (K.ofNat 65)), (some ((K.ofNat 58), false)), .bin .geq (.t (K.ofNat 62)) (.t (K.ofNat 64))⟩, ⟨(some (K.ofNat 66)), none, .pick (.t (K.ofNat 58)) (.c (.b true)) (.t (K.ofNat 65))⟩], [], (some ⟨(some (K.ofNat 11)), none, .as (.t (K.ofNat 66))⟩), []⟩, ⟨[], [], none, []⟩]
noncomputable def f9_r10 : List EOper := [⟨(some (K.ofNat 67)), none, .mv (.t (K.ofNat 12))⟩, ⟨(some (K.ofNat 68)), none, .mv (.t (K.ofNat 67))⟩, ⟨(some (K.ofNat 69)), (some ((K.ofNat 68), false)), .mv (.t (K.ofNat 7))⟩, ⟨(some (K.ofNat 70)), (some ((K.ofNat 68), false)), .mv (.t (K.ofNat 13))⟩, ⟨(some (K.ofNat 71)), (some ((K.ofNat 68), false)), .iads 1 (.t (K.ofNat 69)) (.t (K.ofNat 70))⟩, ⟨(some (K.ofNat 72)), (some ((K.ofNat 68), false)), .ld (.t (K.ofNat 71))⟩, ⟨(some (K.ofNat 73)), (some ((K.ofNat 68), false)), .bin .gtr (.t (K.ofNat 72)) (.c (.i .i64 (.ofNat 0)))⟩, ⟨(some (K.ofNat 74)), none, .pick (.t (K.ofNat 68)) (.c (.b true)) (.t (K.ofNat 73))⟩, ⟨(some (K.ofNat 12)), none, .as (.t (K.ofNat 74))⟩]
noncomputable def f9_r11 : List EOper := [⟨(some (K.ofNat 51)), none, .mv (.t (K.ofNat 13))⟩, ⟨(some (K.ofNat 52)), none, .bin .add (.t (K.ofNat 51)) (.c (.i .i64 (.ofNat 1)))⟩, ⟨(some (K.ofNat 13)), none, .as (.t (K.ofNat 52))⟩]
noncomputable def f9_l0 : EC := (.seq (.seq (.reg f9_r8) (.cond (.t (K.ofNat 50)) .skip (.exit 2))) (.seq (.block 3 (.seq (.draw f9_r9) (.reg f9_r10))) (.reg f9_r11)))
noncomputable def f9_r12 : List EOper := [⟨(some (K.ofNat 14)), none, .as (.c (.i .i64 (.ofNat 0)))⟩]
noncomputable def f9_r13 : List EOper := [⟨(some (K.ofNat 15)), none, .as (.c .sn)⟩]
noncomputable def f9_r14 : List EOper := [⟨(some (K.ofNat 81)), none, .mv (.t (K.ofNat 11))⟩, ⟨(some (K.ofNat 80)), none, .as (.t (K.ofNat 81))⟩]
noncomputable def f9_r15 : List EOper := [⟨(some (K.ofNat 14)), none, .as (.c (.i .i64 (.ofNat 1)))⟩]
noncomputable def f9_r16 : List EOper := [⟨(some (K.ofNat 83)), none, .mv (.t (K.ofNat 12))⟩, ⟨(some (K.ofNat 84)), none, .not (.t (K.ofNat 83))⟩, ⟨(some (K.ofNat 82)), none, .as (.t (K.ofNat 84))⟩]
noncomputable def f9_r17 : List EOper := [⟨(some (K.ofNat 14)), none, .as (.c (.i .i64 (.ofNat 4)))⟩]
noncomputable def f9_r18 : List EOper := [⟨(some (K.ofNat 75)), none, .mv (.t (K.ofNat 7))⟩, ⟨(some (K.ofNat 76)), none, .call (.c (.fn (K.ofNat 49) [])) [(.t (K.ofNat 75))]⟩, ⟨(some (K.ofNat 15)), none, .as (.t (K.ofNat 76))⟩]
noncomputable def f9_r19 : List EOper := [⟨(some (K.ofNat 77)), none, .mv (.t (K.ofNat 15))⟩, ⟨(some (K.ofNat 78)), none, .len (.t (K.ofNat 77))⟩, ⟨(some (K.ofNat 79)), none, .bin .gtr (.t (K.ofNat 78)) (.c (.i .i64 (.ofNat 10)))⟩]
noncomputable def f9_r20 : List EOper := [⟨(some (K.ofNat 14)), none, .as (.c (.i .i64 (.ofNat 8)))⟩]
noncomputable def f9_r21 : List EOper := [⟨(some (K.ofNat 85)), none, .mv (.t (K.ofNat 10))⟩, ⟨(some (K.ofNat 86)), none, .mv (.t (K.ofNat 14))⟩, ⟨(some (K.ofNat 87)), none, .bin .neq (.t (K.ofNat 85)) (.t (K.ofNat 86))⟩, ⟨(some (K.ofNat 88)), none, .mv (.t (K.ofNat 87))⟩, ⟨(some (K.ofNat 89)), (some ((K.ofNat 88), false)), .mv (.t (K.ofNat 14))⟩, ⟨(some (K.ofNat 90)), (some ((K.ofNat 88), false)), .bin .neq (.t (K.ofNat 89)) (.c (.i .i64 (.ofNat 0)))⟩, ⟨(some (K.ofNat 91)), (some ((K.ofNat 88), false)), .mv (.t (K.ofNat 90))⟩, ⟨(some (K.ofNat 92)), (some ((K.ofNat 91), true)), .mv (.t (K.ofNat 9))⟩, ⟨(some (K.ofNat 93)), (some ((K.ofNat 91), true)), .len (.t (K.ofNat 92))⟩, ⟨(some (K.ofNat 94)), (some ((K.ofNat 91), true)), .bin .neq (.t (K.ofNat 93)) (.c (.i .i64 (.ofNat 0)))⟩, ⟨(some (K.ofNat 95)), (some ((K.ofNat 88), false)), .pick (.t (K.ofNat 91)) (.t (K.ofNat 94)) (.c (.b false))⟩, ⟨(some (K.ofNat 96)), none, .pick (.t (K.ofNat 88)) (.c (.b true)) (.t (K.ofNat 95))⟩, ⟨(some (K.ofNat 97)), none, .mv (.t (K.ofNat 96))⟩, ⟨(some (K.ofNat 98)), (some ((K.ofNat 97), false)), .mv (.t (K.ofNat 14))⟩, ⟨(some (K.ofNat 99)), (some ((K.ofNat 97), false)), .bin .eql (.t (K.ofNat 98)) (.c (.i .i64 (.ofNat 0)))⟩, ⟨(some (K.ofNat 100)), (some ((K.ofNat 97), false)), .mv (.t (K.ofNat 99))⟩, ⟨(some (K.ofNat 101)), (some ((K.ofNat 100), true)), .mv (.t (K.ofNat 9))⟩, ⟨(some (K.ofNat 102)), (some ((K.ofNat 100), true)), .mv (.t (K.ofNat 15))⟩, ⟨(some (K.ofNat 103)), (some ((K.ofNat 100), true)), .call (.c (.fn (K.ofNat 32) [])) [(.t (K.ofNat 101)), (.t (K.ofNat 102))]⟩, ⟨(some (K.ofNat 104)), (some ((K.ofNat 100), true)), .not (.t (K.ofNat 103))⟩, ⟨(some (K.ofNat 105)), (some ((K.ofNat 97), false)), .pick (.t (K.ofNat 100)) (.t (K.ofNat 104)) (.c (.b false))⟩, ⟨(some (K.ofNat 106)), none, .pick (.t (K.ofNat 97)) (.c (.b true)) (.t (K.ofNat 105))⟩]
noncomputable def f9_r22 : List EOper := [⟨(some (K.ofNat 6)), none, .as (.c (.b false))⟩]
noncomputable def f9_r23 : List EOper := [⟨(some (K.ofNat 108)), none, .mv (.t (K.ofNat 0))⟩, ⟨(some (K.ofNat 109)), none, .mv (.t (K.ofNat 2))⟩, ⟨(some (K.ofNat 110)), none, .call (.c (.fn (K.ofNat 50) [])) [(.t (K.ofNat 108)), (.t (K.ofNat 109))]⟩, ⟨(some (K.ofNat 107)), none, .mv (.t (K.ofNat 110))⟩, ⟨(some (K.ofNat 111)), none, .ext (.t (K.ofNat 107)) 0⟩, ⟨(some (K.ofNat 112)), none, .ext (.t (K.ofNat 107)) 1⟩, ⟨(some (K.ofNat 16)), none, .as (.t (K.ofNat 111))⟩, ⟨(some (K.ofNat 17)), none, .as (.t (K.ofNat 112))⟩]
noncomputable def f9_r24 : List EOper := [⟨(some (K.ofNat 113)), none, .mv (.t (K.ofNat 2))⟩, ⟨(some (K.ofNat 114)), none, .bin .lss (.t (K.ofNat 113)) (.c (.i .i64 (.ofNat 2)))⟩, ⟨(some (K.ofNat 115)), none, .mv (.t (K.ofNat 114))⟩, ⟨(some (K.ofNat 116)), (some ((K.ofNat 115), false)), .mv (.t (K.ofNat 2))⟩, ⟨(some (K.ofNat 117)), (some ((K.ofNat 115), false)), .mv (.t (K.ofNat 0))⟩, ⟨(some (K.ofNat 118)), (some ((K.ofNat 115), false)), .bin .geq (.t (K.ofNat 116)) (.t (K.ofNat 117))⟩, ⟨(some (K.ofNat 119)), none, .pick (.t (K.ofNat 115)) (.c (.b true)) (.t (K.ofNat 118))⟩, ⟨(some (K.ofNat 120)), none, .mv (.t (K.ofNat 119))⟩, ⟨(some (K.ofNat 121)), (some ((K.ofNat 120), false)), .mv (.t (K.ofNat 0))⟩, ⟨(some (K.ofNat 122)), (some ((K.ofNat 120), false)), .bin .gtr (.t (K.ofNat 121)) (.c (.i .i64 (.ofNat 6)))⟩, ⟨(some (K.ofNat 123)), none, .pick (.t (K.ofNat 120)) (.c (.b true)) (.t (K.ofNat 122))⟩]
noncomputable def f9_r25 : List EOper := [⟨(some (K.ofNat 124)), none, .mv (.t (K.ofNat 17))⟩, ⟨(some (K.ofNat 125)), none, .bin .neq (.t (K.ofNat 124)) (.c (.i .i64 (.ofNat 1)))⟩, ⟨(some (K.ofNat 126)), none, .mv (.t (K.ofNat 125))⟩, ⟨(some (K.ofNat 127)), (some ((K.ofNat 126), false)), .mv (.t (K.ofNat 16))⟩, ⟨(some (K.ofNat 128)), (some ((K.ofNat 126), false)), .len (.t (K.ofNat 127))⟩, ⟨(some (K.ofNat 129)), (some ((K.ofNat 126), false)), .bin .neq (.t (K.ofNat 128)) (.c (.i .i64 (.ofNat 0)))⟩, ⟨(some (K.ofNat 130)), none, .pick (.t (K.ofNat 126)) (.c (.b true)) (.t (K.ofNat 129))⟩]
noncomputable def f9_r26 : List EOper := [⟨(some (K.ofNat 6)), none, .as (.c (.b false))⟩]
noncomputable def f9_r27 : List EOper := [⟨(some (K.ofNat 131)), none, .mv (.t (K.ofNat 17))⟩, ⟨(some (K.ofNat 132)), none, .bin .neq (.t (K.ofNat 131)) (.c (.i .i64 (.ofNat 0)))⟩, ⟨(some (K.ofNat 133)), none, .mv (.t (K.ofNat 132))⟩, ⟨(some (K.ofNat 134)), (some ((K.ofNat 133), false)), .mv (.t (K.ofNat 16))⟩, ⟨(some (K.ofNat 135)), (some ((K.ofNat 133), false)), .mv (.t (K.ofNat 0))⟩, ⟨(some (K.ofNat 136)), (some ((K.ofNat 133), false)), .mv (.t (K.ofNat 2))⟩, ⟨(some (K.ofNat 137)), (some ((K.ofNat 133), false)), .call (.c (.fn (K.ofNat 51) [])) [(.t (K.ofNat 135)), (.t (K.ofNat 136))]⟩, ⟨(some (K.ofNat 138)), (some ((K.ofNat 133), false)), .call (.c (.fn (K.ofNat 32) [])) [(.t (K.ofNat 134)), (.t (K.ofNat 137))]⟩, ⟨(some (K.ofNat 139)), (some ((K.ofNat 133), false)), .not (.t (K.ofNat 138))⟩, ⟨(some (K.ofNat 140)), none, .pick (.t (K.ofNat 133)) (.c (.b true)) (.t (K.ofNat 139))⟩]
noncomputable def f9_r28 : List EOper := [⟨(some (K.ofNat 6)), none, .as (.c (.b false))⟩]
noncomputable def f9_r29 : List EOper := [⟨(some (K.ofNat 141)), none, .mv (.t (K.ofNat 0))⟩, ⟨(some (K.ofNat 142)), none, .conv .u64 (.t (K.ofNat 141))⟩, ⟨(some (K.ofNat 143)), none, .bin .rem (.t (K.ofNat 142)) (.c (.i .u64 (.ofNat 4)))⟩, ⟨(some (K.ofNat 144)), none, .conv .i64 (.t (K.ofNat 143))⟩, ⟨(some (K.ofNat 145)), none, .bin .add (.c (.i .i64 (.ofNat 3))) (.t (K.ofNat 144))⟩, ⟨(some (K.ofNat 0)), none, .as (.t (K.ofNat 145))⟩]
noncomputable def f9_r30 : List EOper := [⟨(some (K.ofNat 146)), none, .mv (.t (K.ofNat 2))⟩, ⟨(some (K.ofNat 147)), none, .conv .u64 (.t (K.ofNat 146))⟩, ⟨(some (K.ofNat 148)), none, .mv (.t (K.ofNat 0))⟩, ⟨(some (K.ofNat 149)), none, .bin .sub (.t (K.ofNat 148)) (.c (.i .i64 (.ofNat 2)))⟩, ⟨(some (K.ofNat 150)), none, .conv .u64 (.t (K.ofNat 149))⟩, ⟨(some (K.ofNat 151)), none, .bin .rem (.t (K.ofNat 147)) (.t (K.ofNat 150))⟩, ⟨(some (K.ofNat 152)), none, .conv .i64 (.t (K.ofNat 151))⟩, ⟨(some (K.ofNat 153)), none, .bin .add (.c (.i .i64 (.ofNat 2))) (.t (K.ofNat 152))⟩, ⟨(some (K.ofNat 2)), none, .as (.t (K.ofNat 153))⟩]
noncomputable def f9_r31 : List EOper := [⟨(some (K.ofNat 18)), none, .as (.c .sn)⟩]
noncomputable def f9_r32 : List EOper := [⟨(some (K.ofNat 19)), none, .as (.c (.i .i64 (.ofNat 0)))⟩]
noncomputable def f9_r33 : List EOper := [⟨(some (K.ofNat 154)), none, .mv (.t (K.ofNat 19))⟩, ⟨(some (K.ofNat 155)), none, .mv (.t (K.ofNat 7))⟩, ⟨(some (K.ofNat 156)), none, .len (.t (K.ofNat 155))⟩, ⟨(some (K.ofNat 157)), none, .bin .lss (.t (K.ofNat 154)) (.t (K.ofNat 156))⟩, ⟨(some (K.ofNat 158)), none, .mv (.t (K.ofNat 157))⟩, ⟨(some (K.ofNat 159)), (some ((K.ofNat 158), true)), .mv (.t (K.ofNat 19))⟩, ⟨(some (K.ofNat 160)), (some ((K.ofNat 158), true)), .bin .lss (.t (K.ofNat 159)) (.c (.i .i64 (.ofNat 12)))⟩, ⟨(some (K.ofNat 161)), none, .pick (.t (K.ofNat 158)) (.t (K.ofNat 160)) (.c (.b false))⟩]
noncomputable def f9_r34 : List Stage := [⟨[⟨(some (K.ofNat 164)), none, .mv (.t (K.ofNat 18))⟩, ⟨(some (K.ofNat 165)), none, .mv (.t (K.ofNat 7))⟩, ⟨(some (K.ofNat 166)), none, .mv (.t (K.ofNat 19))⟩, ⟨(some (K.ofNat 167)), none, .iads 1 (.t (K.ofNat 165)) (.t (K.ofNat 166))⟩, ⟨(some (K.ofNat 168)), none, .ld (.t (K.ofNat 167))⟩, ⟨(some (K.ofNat 169)), none, .conv .u64 (.t (K.ofNat 168))⟩, ⟨(some (K.ofNat 170)), none, .mv (.t (K.ofNat 0))⟩, ⟨(some (K.ofNat 171)), none, .bin .shl (.c (.i .u64 (.ofNat 1))) (.t (K.ofNat 170))⟩, ⟨(some (K.ofNat 172)), none, .bin .rem (.t (K.ofNat 169)) (.t (K.ofNat 171))⟩, ⟨(some (K.ofNat 173)), none, .conv .i64 (.t (K.ofNat 172))⟩, ⟨(some (K.ofNat 174)), none, .bslice 1 1 [(.i .i64 (.ofNat 0))] [(0, 1, (.t (K.ofNat 173)))]⟩], [], (some ⟨(some (K.ofNat 175)), none, .app 1 (.t (K.ofNat 164)) (.t (K.ofNat 174))⟩), [(K.ofNat 174)]⟩, ⟨[], [], (some ⟨(some (K.ofNat 18)), none, .as (.t (K.ofNat 175))⟩), []⟩, ⟨[], [], none, []⟩]
noncomputable def f9_r35 : List EOper := [⟨(some (K.ofNat 162)), none, .mv (.t (K.ofNat 19))⟩, ⟨(some (K.ofNat 163)), none, .bin .add (.t (K.ofNat 162)) (.c (.i .i64 (.ofNat 1)))⟩, ⟨(some (K.ofNat 19)), none, .as (.t (K.ofNat 163))⟩]
noncomputable def f9_l1 : EC := (.seq (.seq (.reg f9_r33) (.cond (.t (K.ofNat 161)) .skip (.exit 5))) (.seq (.block 6 (.draw f9_r34)) (.reg f9_r35)))
noncomputable def f9_r36 : List EOper := [⟨(some (K.ofNat 176)), none, .mv (.t (K.ofNat 18))⟩, ⟨(some (K.ofNat 7)), none, .as (.t (K.ofNat 176))⟩]
noncomputable def f9_r37 : List EOper := [⟨(some (K.ofNat 24)), none, .mv (.t (K.ofNat 8))⟩, ⟨(some (K.ofNat 25)), none, .bin .add (.t (K.ofNat 24)) (.c (.i .i64 (.ofNat 1)))⟩, ⟨(some (K.ofNat 8)), none, .as (.t (K.ofNat 25))⟩]
noncomputable def f9_l2 : EC := (.seq (.seq (.reg f9_r3) (.cond (.t (K.ofNat 23)) .skip (.exit 0))) (.seq (.block 1 (.seq (.reg f9_r4) (.seq (.reg f9_r5) (.seq (.reg f9_r6) (.seq (.seq (.reg f9_r7) (.block 2 (.loop f9_l0))) (.seq (.reg f9_r12) (.seq (.reg f9_r13) (.seq (.block 4 (.seq (.reg f9_r14) (.cond (.t (K.ofNat 80)) (.reg f9_r15) (.seq (.reg f9_r16) (.cond (.t (K.ofNat 82)) (.reg f9_r17) (.seq (.reg f9_r18) (.seq (.reg f9_r19) (.cond (.t (K.ofNat 79)) (.reg f9_r20) .skip)))))))) (.seq (.seq (.reg f9_r21) (.cond (.t (K.ofNat 106)) (.seq (.reg f9_r22) .ret) .skip)) (.seq (.reg f9_r23) (.seq (.seq (.reg f9_r24) (.cond (.t (K.ofNat 123)) (.seq (.reg f9_r25) (.cond (.t (K.ofNat 130)) (.seq (.reg f9_r26) .ret) .skip)) (.seq (.reg f9_r27) (.cond (.t (K.ofNat 140)) (.seq (.reg f9_r28) .ret) .skip)))) (.seq (.reg f9_r29) (.seq (.reg f9_r30) (.seq (.reg f9_r31) (.seq (.seq (.reg f9_r32) (.block 5 (.loop f9_l1))) (.reg f9_r36)))))))))))))))) (.reg f9_r37)))
noncomputable def f9_r38 : List EOper := [⟨(some (K.ofNat 177)), none, .call (.c (.fn (K.ofNat 29) [])) []⟩, ⟨(some (K.ofNat 6)), none, .as (.t (K.ofNat 177))⟩]
noncomputable def f9_c : EC := (.seq (.reg f9_r0) (.seq (.reg f9_r1) (.seq (.seq (.reg f9_r2) (.block 0 (.loop f9_l2))) (.seq (.reg f9_r38) .ret))))
noncomputable def f9 : EF := ⟨178, [.tmp (K.ofNat 6)], f9_c, none⟩
section
variable {fs : T EF} {ro : Option K}
noncomputable def anyPos (S : List Int) : Bool := S.any fun s => decide (0 < s)
theorem shlu_n {n : Int} (h1 : 1 ≤ n) (h6 : n ≤ 6) : fw .u64 (1 * 2 ^ (min n.toNat IntKind.u64.bits)) = 2 ^ n.toNat := by
  have : n = 1 ∨ n = 2 ∨ n = 3 ∨ n = 4 ∨ n = 5 ∨ n = 6 := by omega
  rcases this with rfl | rfl | rfl | rfl | rfl | rfl <;> rfl
noncomputable def okM (n d : Int) : Bool := decide (2 ≤ d) && decide (d < n) && decide (n ≤ 6)
structure Calls9 (fs : T EF) (momL : Int → Int → List Int) : Prop where
  p53 : ∀ a b h P, CallP fs (.fn (K.ofNat 53) []) [.i .i64 a, .i .i64 b] h P = P (.b (ptI a b)) h
  p54 : ∀ a b h P, CallP fs (.fn (K.ofNat 54) []) [.i .i64 a, .i .i64 b] h P = P (.b (ptI a b)) h
  aw : ∀ h P, CallP fs (.fn (K.ofNat 29) []) [] h P = P (.b true) h
  c14 : fs.get (K.ofNat 14) = some f14
  c32 : ∀ h v u L M P, Sl iE h v L → Sl iE h u M → L.length ≤ 1000000 → P (.b (decide (L = M))) h → CallP fs (.fn (K.ofNat 32) []) [v, u] h P
  c48 : fs.get (K.ofNat 48) = some f48
  c49 : fs.get (K.ofNat 49) = some f49
  c55 : fs.get (K.ofNat 55) = some f55
  c66 : fs.get (K.ofNat 66) = some f66
  c67 : fs.get (K.ofNat 67) = some f67
  c78 : fs.get (K.ofNat 78) = some f78
  c91 : fs.get (K.ofNat 91) = some alF
  m0 : ∀ n d h P, okM n d = false → P (.tup [.sn, .i .i64 1]) h → CallP fs (.fn (K.ofNat 50) []) [.i .i64 n, .i .i64 d] h P
  m1 : ∀ n d h P, HC h → okM n d = true → (∀ u h', Sl iE h' u (momL n d) → Grow h.nx.nat h h' → P (.tup [u, .i .i64 0]) h') → CallP fs (.fn (K.ofNat 50) []) [.i .i64 n, .i .i64 d] h P
  r1 : ∀ n d h P, HC h → okM n d = true → (∀ u h', Sl iE h' u (momL n d) → Grow h.nx.nat h h' → P u h') → CallP fs (.fn (K.ofNat 51) []) [.i .i64 n, .i .i64 d] h P
  ml : ∀ n d, (momL n d).length ≤ 64
end
end Go.Ev
namespace Go.Ev
open Go Go.RowKit
noncomputable def f16_r0 : List EOper := [⟨(some (K.ofNat 4)), none, .as (.c (.i .i64 (.ofNat 0)))⟩]
noncomputable def f16_r1 : List EOper := [⟨(some (K.ofNat 9)), none, .mv (.t (K.ofNat 0))⟩, ⟨(some (K.ofNat 10)), none, .bin .lss (.t (K.ofNat 9)) (.c (.i .i64 (.ofNat 1)))⟩, ⟨(some (K.ofNat 11)), none, .mv (.t (K.ofNat 10))⟩, ⟨(some (K.ofNat 12)), (some ((K.ofNat 11), false)), .mv (.t (K.ofNat 0))⟩, ⟨(some (K.ofNat 13)), (some ((K.ofNat 11), false)), .bin .gtr (.t (K.ofNat 12)) (.c (.i .i64 (.ofNat 6)))⟩, ⟨(some (K.ofNat 14)), none, .pick (.t (K.ofNat 11)) (.c (.b true)) (.t (K.ofNat 13))⟩]
noncomputable def f16_r2 : List EOper := [⟨(some (K.ofNat 4)), none, .as (.c (.i .i64 (.ofNat 1)))⟩]
noncomputable def f16_r3 : List EOper := [⟨(some (K.ofNat 15)), none, .mv (.t (K.ofNat 1))⟩, ⟨(some (K.ofNat 16)), none, .len (.t (K.ofNat 15))⟩, ⟨(some (K.ofNat 17)), none, .bin .lss (.t (K.ofNat 16)) (.c (.i .i64 (.ofNat 1)))⟩, ⟨(some (K.ofNat 18)), none, .mv (.t (K.ofNat 17))⟩, ⟨(some (K.ofNat 19)), (some ((K.ofNat 18), false)), .mv (.t (K.ofNat 1))⟩, ⟨(some (K.ofNat 20)), (some ((K.ofNat 18), false)), .len (.t (K.ofNat 19))⟩, ⟨(some (K.ofNat 21)), (some ((K.ofNat 18), false)), .bin .gtr (.t (K.ofNat 20)) (.c (.i .i64 (.ofNat 10)))⟩, ⟨(some (K.ofNat 22)), none, .pick (.t (K.ofNat 18)) (.c (.b true)) (.t (K.ofNat 21))⟩]
noncomputable def f16_r4 : List EOper := [⟨(some (K.ofNat 4)), none, .as (.c (.i .i64 (.ofNat 10)))⟩]
noncomputable def f16_r5 : List EOper := [⟨(some (K.ofNat 23)), none, .mv (.t (K.ofNat 1))⟩, ⟨(some (K.ofNat 24)), none, .len (.t (K.ofNat 23))⟩, ⟨(some (K.ofNat 25)), none, .mv (.c (.i .i64 (.ofNat 0)))⟩]
noncomputable def f16_r6 : List EOper := [⟨(some (K.ofNat 26)), none, .bin .lss (.t (K.ofNat 25)) (.t (K.ofNat 24))⟩]
noncomputable def f16_r7 : List EOper := [⟨(some (K.ofNat 27)), none, .mv (.t (K.ofNat 25))⟩, ⟨(some (K.ofNat 28)), none, .iads 1 (.t (K.ofNat 23)) (.t (K.ofNat 25))⟩, ⟨(some (K.ofNat 29)), none, .ld (.t (K.ofNat 28))⟩, ⟨(some (K.ofNat 5)), none, .as (.t (K.ofNat 27))⟩, ⟨(some (K.ofNat 6)), none, .as (.t (K.ofNat 29))⟩]
noncomputable def f16_r8 : List EOper := [⟨(some (K.ofNat 30)), none, .mv (.t (K.ofNat 6))⟩, ⟨(some (K.ofNat 31)), none, .bin .lss (.t (K.ofNat 30)) (.c (.i .i64 (.ofNat 1)))⟩, ⟨(some (K.ofNat 32)), none, .mv (.t (K.ofNat 31))⟩, ⟨(some (K.ofNat 33)), (some ((K.ofNat 32), false)), .mv (.t (K.ofNat 6))⟩, ⟨(some (K.ofNat 34)), (some ((K.ofNat 32), false)), .mv (.t (K.ofNat 0))⟩, ⟨(some (K.ofNat 35)), (some ((K.ofNat 32), false)), .bin .shl (.c (.i .i64 (.ofNat 1))) (.t (K.ofNat 34))⟩, ⟨(some (K.ofNat 36)), (some ((K.ofNat 32), false)), .bin .geq (.t (K.ofNat 33)) (.t (K.ofNat 35))⟩, ⟨(some (K.ofNat 37)), none, .pick (.t (K.ofNat 32)) (.c (.b true)) (.t (K.ofNat 36))⟩]
noncomputable def f16_r9 : List EOper := [⟨(some (K.ofNat 4)), none, .as (.c (.i .i64 (.ofNat 10)))⟩]
noncomputable def f16_r10 : List EOper := [⟨(some (K.ofNat 38)), none, .mv (.t (K.ofNat 1))⟩, ⟨(some (K.ofNat 39)), none, .mv (.t (K.ofNat 5))⟩, ⟨(some (K.ofNat 40)), none, .slice 1 (.t (K.ofNat 38)) none (some (.t (K.ofNat 39))) none⟩, ⟨(some (K.ofNat 41)), none, .len (.t (K.ofNat 40))⟩, ⟨(some (K.ofNat 42)), none, .mv (.c (.i .i64 (.ofNat 0)))⟩]
noncomputable def f16_r11 : List EOper := [⟨(some (K.ofNat 43)), none, .bin .lss (.t (K.ofNat 42)) (.t (K.ofNat 41))⟩]
noncomputable def f16_r12 : List EOper := [⟨(some (K.ofNat 44)), none, .iads 1 (.t (K.ofNat 40)) (.t (K.ofNat 42))⟩, ⟨(some (K.ofNat 45)), none, .ld (.t (K.ofNat 44))⟩, ⟨(some (K.ofNat 8)), none, .as (.t (K.ofNat 45))⟩]
noncomputable def f16_r13 : List EOper := [⟨(some (K.ofNat 46)), none, .mv (.t (K.ofNat 8))⟩, ⟨(some (K.ofNat 47)), none, .mv (.t (K.ofNat 6))⟩, ⟨(some (K.ofNat 48)), none, .bin .geq (.t (K.ofNat 46)) (.t (K.ofNat 47))⟩, ⟨(some (K.ofNat 49)), none, .mv (.t (K.ofNat 48))⟩, ⟨(some (K.ofNat 50)), (some ((K.ofNat 49), false)), .mv (.t (K.ofNat 8))⟩, ⟨(some (K.ofNat 51)), (some ((K.ofNat 49), false)), .mv (.t (K.ofNat 6))⟩, ⟨(some (K.ofNat 52)), (some ((K.ofNat 49), false)), .call (.c (.fn (K.ofNat 54) [])) [(.t (K.ofNat 50)), (.t (K.ofNat 51))]⟩, ⟨(some (K.ofNat 53)), none, .pick (.t (K.ofNat 49)) (.c (.b true)) (.t (K.ofNat 52))⟩]
noncomputable def f16_r14 : List EOper := [⟨(some (K.ofNat 4)), none, .as (.c (.i .i64 (.ofNat 10)))⟩]
noncomputable def f16_r15 : List EOper := [⟨(some (K.ofNat 54)), none, .bin .add (.t (K.ofNat 42)) (.c (.i .i64 (.ofNat 1)))⟩, ⟨(some (K.ofNat 42)), none, .mv (.t (K.ofNat 54))⟩]
noncomputable def f16_l0 : EC := (.seq (.reg f16_r11) (.seq (.cond (.t (K.ofNat 43)) .skip (.exit 2)) (.seq (.block 3 (.seq (.reg f16_r12) (.seq (.reg f16_r13) (.cond (.t (K.ofNat 53)) (.seq (.reg f16_r14) .ret) .skip)))) (.reg f16_r15))))
noncomputable def f16_r16 : List EOper := [⟨(some (K.ofNat 55)), none, .bin .add (.t (K.ofNat 25)) (.c (.i .i64 (.ofNat 1)))⟩, ⟨(some (K.ofNat 25)), none, .mv (.t (K.ofNat 55))⟩]
noncomputable def f16_l1 : EC := (.seq (.reg f16_r6) (.seq (.cond (.t (K.ofNat 26)) .skip (.exit 0)) (.seq (.block 1 (.seq (.reg f16_r7) (.seq (.seq (.reg f16_r8) (.cond (.t (K.ofNat 37)) (.seq (.reg f16_r9) .ret) .skip)) (.seq (.reg f16_r10) (.block 2 (.loop f16_l0)))))) (.reg f16_r16))))
noncomputable def f16_r17 : List EOper := [⟨(some (K.ofNat 4)), none, .as (.c (.i .i64 (.ofNat 0)))⟩]
noncomputable def f16_c : EC := (.seq (.reg f16_r0) (.seq (.seq (.reg f16_r1) (.cond (.t (K.ofNat 14)) (.seq (.reg f16_r2) .ret) .skip)) (.seq (.seq (.reg f16_r3) (.cond (.t (K.ofNat 22)) (.seq (.reg f16_r4) .ret) .skip)) (.seq (.seq (.reg f16_r5) (.block 0 (.loop f16_l1))) (.seq (.reg f16_r17) .ret)))))
noncomputable def f16 : EF := ⟨56, [.tmp (K.ofNat 4)], f16_c, none⟩
theorem f16_rs : f16.rs = [.tmp (K.ofNat 4)] := of_eq_true (eq_self _)
section
variable {fs : T EF} {ro : Option K}
noncomputable def pairOk (x y : Int) : Bool := decide (y < x) && !ptI y x
noncomputable def okAt (n : Int) (S : List Int) (i : Nat) : Bool := decide (1 ≤ S.getD i 0) && decide (S.getD i 0 < 2 ^ n.toNat) && (S.take i).all (pairOk (S.getD i 0))
noncomputable def goodS (n : Int) (S : List Int) : Bool := decide (1 ≤ S.length) && decide (S.length ≤ 10) && (List.range S.length).all (okAt n S)
noncomputable def chkS (n : Int) (S : List Int) : Int := if n < 1 ∨ 6 < n then 1 else if goodS n S = true then 0 else 10
def f16_I0 (h : H) (v u : V) (S T : List Int) (n x : Int) (i : Nat) (j : Nat) (fr : Fr) (h1 : H) : Prop := h1 = h ∧ j ≤ T.length ∧ (T.take j).all (pairOk x) = true ∧ fr.get (K.ofNat 0) = some (.i .i64 n) ∧ fr.get (K.ofNat 1) = some (v) ∧ fr.get (K.ofNat 6) = some (.i .i64 x) ∧ fr.get (K.ofNat 23) = some (v) ∧ fr.get (K.ofNat 24) = some (.i .i64 (S.length : Int)) ∧ fr.get (K.ofNat 25) = some (.i .i64 (i : Int)) ∧ fr.get (K.ofNat 40) = some (u) ∧ fr.get (K.ofNat 41) = some (.i .i64 (T.length : Int)) ∧ fr.get (K.ofNat 42) = some (.i .i64 (j : Int))
theorem f16_inner {Q : Ex → Fr → H → Prop} {h : H} {v u : V} {S T : List Int} {n x : Int} {i : Nat} {fr : Fr}
    (hp : ∀ a b h P, CallP fs (.fn (K.ofNat 54) []) [.i .i64 a, .i .i64 b] h P = P (.b (ptI a b)) h) (hu : Sl iE h u T) (hT : T.length ≤ 10)
    (hg : fr.get (K.ofNat 0) = some (.i .i64 n) ∧ fr.get (K.ofNat 1) = some (v) ∧ fr.get (K.ofNat 6) = some (.i .i64 x) ∧ fr.get (K.ofNat 23) = some (v) ∧ fr.get (K.ofNat 24) = some (.i .i64 (S.length : Int)) ∧ fr.get (K.ofNat 25) = some (.i .i64 (i : Int)) ∧ fr.get (K.ofNat 40) = some (u) ∧ fr.get (K.ofNat 41) = some (.i .i64 (T.length : Int)) ∧ fr.get (K.ofNat 42) = some (.i .i64 0))
    (hq1 : T.all (pairOk x) = true → ∀ fr, fr.get (K.ofNat 0) = some (.i .i64 n) ∧ fr.get (K.ofNat 1) = some (v) ∧ fr.get (K.ofNat 23) = some (v) ∧ fr.get (K.ofNat 24) = some (.i .i64 (S.length : Int)) ∧ fr.get (K.ofNat 25) = some (.i .i64 (i : Int)) → Q (.exit 2) fr h)
    (hq2 : T.all (pairOk x) = false → ∀ fr, fr.get (K.ofNat 4) = some (.i .i64 10) → Q .ret fr h) :
    W fs ro (.loop f16_l0) Q fr h := by
  refine W_loop (f16_I0 h v u S T n x i) (fun j => T.length - j) ?_ 0 ⟨rfl, by omega, by simp, hg⟩
  clear hg fr
  rintro j fr h1 ⟨rfl, hj, hal, g0, g1, g6, g23, g24, g25, g40, g41, g42⟩
  unfold f16_l0
  by_cases hlt : j < T.length
  · have hlt' : (j : Int) < (T.length : Int) := by omega
    obtain ⟨p, hp1, hp2⟩ := hu.at j hlt
    have hs := all_snoc (p := pairOk x) hlt
    rw [hal, Bool.true_and] at hs
    have bad : pairOk x T[j] = false → T.all (pairOk x) = false := fun hf => by
      rw [List.all_eq_false]; exact ⟨T[j], List.getElem_mem _, by rw [hf]; simp⟩
    by_cases e1 : x ≤ T[j]
    · have hb := bad (by unfold pairOk; rw [decide_eq_false (by omega)]; rfl)
      simp (disch := omega) only [f16_r11, f16_r12, f16_r13, f16_r14, w_skip, w_reg, w_seq, w_cond, w_block, w_ret, seqK_n, seqK_r, atK_r, loopK_r, ckB_b, cbB_b, okG_b, asG_f, true_and, x_nil, x_g, x_mv, x_as, x_pick, x_ld, x_bin, x_iads, kx, rvP_ok, okv_some, ev_t, ev_c, getV_some, putD_some, bin_lss, bin_geq, pick_b, of10, getK_set, Nat.reduceEqDiff, ↓reduceIte, Bool.false_eq_true, Bool.not_true, g6, g40, g41, g42, hlt', decide_true, hp1, hp2, iE, e1]
      exact hq2 hb _ (by simp (disch := omega) only [getK_set, ↓reduceIte])
    · cases e2 : ptI T[j] x
      · simp (disch := omega) only [f16_r11, f16_r12, f16_r13, f16_r15, w_skip, w_reg, w_seq, w_cond, w_block, seqK_n, atK_n, loopK_n, ckB_b, cbB_b, okG_b, asG_f, true_and, x_nil, x_g, x_mv, x_as, x_pick, x_ld, x_bin, x_iads, x_call, kx, rvP_ok, okv_some, ev_t, ev_c, evs_nil, evs_cons, getV_some, putD_some, bin_add, bin_lss, bin_geq, pick_b, of1, getK_set, Nat.reduceEqDiff, ↓reduceIte, Bool.false_eq_true, Bool.not_false, g6, g40, g41, g42, hlt', decide_true, decide_false, hp1, hp2, iE, e1, hp, e2, fw64]
        refine ⟨j + 1, by omega, rfl, hlt, by rw [hs]; unfold pairOk; rw [decide_eq_true (by omega), e2]; rfl, by simp (disch := omega) only [getK_set, Nat.reduceEqDiff, ↓reduceIte, g0, g1, g6, g23, g24, g25, g40, g41, and_self, Int.natCast_add, Int.natCast_one]⟩
      · have hb := bad (by unfold pairOk; rw [e2, Bool.not_true, Bool.and_false])
        simp (disch := omega) only [f16_r11, f16_r12, f16_r13, f16_r14, w_skip, w_reg, w_seq, w_cond, w_block, w_ret, seqK_n, seqK_r, atK_r, loopK_r, ckB_b, cbB_b, okG_b, asG_f, true_and, x_nil, x_g, x_mv, x_as, x_pick, x_ld, x_bin, x_iads, x_call, kx, rvP_ok, okv_some, ev_t, ev_c, evs_nil, evs_cons, getV_some, putD_some, bin_lss, bin_geq, pick_b, of10, getK_set, Nat.reduceEqDiff, ↓reduceIte, Bool.false_eq_true, Bool.not_false, g6, g40, g41, g42, hlt', decide_true, decide_false, hp1, hp2, iE, e1, hp, e2]
        exact hq2 hb _ (by simp (disch := omega) only [getK_set, ↓reduceIte])
  · obtain rfl : j = T.length := by omega
    rw [List.take_length] at hal
    have hlt' : ¬ (T.length : Int) < (T.length : Int) := by omega
    simp (disch := omega) only [f16_r11, w_reg, w_seq, w_cond, w_exit, seqK_n, seqK_e, loopK_e, ckB_b, cbB_b, true_and, x_nil, x_bin, kx, rvP_ok, okv_some, ev_t, getV_some, putD_some, bin_lss, getK_set, ↓reduceIte, Bool.false_eq_true, g41, g42, hlt', decide_false]
    exact hq1 hal _ (by simp (disch := omega) only [getK_set, Nat.reduceEqDiff, ↓reduceIte, g0, g1, g23, g24, g25, and_self])

theorem okAt_bad {n : Int} {S : List Int} {i : Nat} (hi : i < S.length) (h : okAt n S i = false) : goodS n S = false := by
  unfold goodS
  have : (List.range S.length).all (okAt n S) = false := by rw [List.all_eq_false]; exact ⟨i, by simpa using hi, by rw [h]; simp⟩
  rw [this, Bool.and_false]
def f16_I1 (h : H) (v : V) (S : List Int) (n : Int) (i : Nat) (fr : Fr) (h1 : H) : Prop := h1 = h ∧ i ≤ S.length ∧ (List.range i).all (okAt n S) = true ∧ fr.get (K.ofNat 0) = some (.i .i64 n) ∧ fr.get (K.ofNat 1) = some (v) ∧ fr.get (K.ofNat 23) = some (v) ∧ fr.get (K.ofNat 24) = some (.i .i64 (S.length : Int)) ∧ fr.get (K.ofNat 25) = some (.i .i64 (i : Int))
theorem f16_ret {h : H} {v : V} {S : List Int} {n : Int}
    (hp : ∀ a b h P, CallP fs (.fn (K.ofNat 54) []) [.i .i64 a, .i .i64 b] h P = P (.b (ptI a b)) h) (hv : Sl iE h v S) : Ret fs f16 [.i .i64 n, v] h fun u h' => u = .i .i64 (chkS n S) ∧ h' = h := by
  apply ret_of rfl
  show W fs none f16_c _ _ _
  unfold f16_c
  by_cases h1 : n < 1
  · have : chkS n S = 1 := by unfold chkS; rw [if_pos (.inl h1)]
    simp (disch := omega) only [f16_r0, f16_r1, f16_r2, f16_rs, w_reg, w_seq, w_cond, w_ret, seqK_n, seqK_r, ckB_b, cbB_b, okG_b, asG_f, retK_r, x_nil, x_g, x_mv, x_as, x_pick, x_bin, kx, rvP_ok, okv_some, ev_t, ev_c, getV_some, putD_some, bin_lss, pick_b, oGet_s, readRs_nil, readRs_t, retV_1, frame_2, of0, of1, of6, Option.some.injEq, exists_eq_left', getK_set, Nat.reduceEqDiff, ↓reduceIte, Bool.false_eq_true, Bool.not_true, h1, decide_true, this, and_self]
  by_cases h6 : 6 < n
  · have : chkS n S = 1 := by unfold chkS; rw [if_pos (.inr h6)]
    simp (disch := omega) only [f16_r0, f16_r1, f16_r2, f16_rs, w_reg, w_seq, w_cond, w_ret, seqK_n, seqK_r, ckB_b, cbB_b, okG_b, asG_f, retK_r, x_nil, x_g, x_mv, x_as, x_pick, x_bin, kx, rvP_ok, okv_some, ev_t, ev_c, getV_some, putD_some, bin_lss, bin_gtr, pick_b, oGet_s, readRs_nil, readRs_t, retV_1, frame_2, of0, of1, of6, Option.some.injEq, exists_eq_left', getK_set, Nat.reduceEqDiff, ↓reduceIte, Bool.false_eq_true, Bool.not_false, h1, h6, decide_true, decide_false, this, and_self]
  have hc10 : goodS n S = false → chkS n S = 10 := fun hf => by unfold chkS; rw [if_neg (by omega), hf]; rfl
  by_cases l1 : S.length < 1
  · have l1' : (S.length : Int) < 1 := by omega
    have := hc10 (by unfold goodS; rw [decide_eq_false (by omega)]; rfl)
    simp (disch := omega) only [f16_r0, f16_r1, f16_r3, f16_r4, f16_rs, w_skip, w_reg, w_seq, w_cond, w_ret, seqK_n, seqK_r, ckB_b, cbB_b, okG_b, asG_f, retK_r, x_nil, x_g, x_mv, x_as, x_pick, x_bin, x_len, kx, rvP_ok, okv_some, ev_t, ev_c, getV_some, putD_some, bin_lss, bin_gtr, pick_b, oGet_s, readRs_nil, readRs_t, retV_1, frame_2, of0, of1, of6, of10, Option.some.injEq, exists_eq_left', getK_set, Nat.reduceEqDiff, ↓reduceIte, Bool.false_eq_true, Bool.not_true, Bool.not_false, h1, h6, l1', hv.len, decide_true, decide_false, this, and_self]
  have l1' : ¬ (S.length : Int) < 1 := by omega
  by_cases l2 : 10 < S.length
  · have l2' : (10 : Int) < (S.length : Int) := by omega
    have := hc10 (by unfold goodS; rw [decide_eq_false (show ¬ S.length ≤ 10 by omega), Bool.and_false]; rfl)
    simp (disch := omega) only [f16_r0, f16_r1, f16_r3, f16_r4, f16_rs, w_skip, w_reg, w_seq, w_cond, w_ret, seqK_n, seqK_r, ckB_b, cbB_b, okG_b, asG_f, retK_r, x_nil, x_g, x_mv, x_as, x_pick, x_bin, x_len, kx, rvP_ok, okv_some, ev_t, ev_c, getV_some, putD_some, bin_lss, bin_gtr, pick_b, oGet_s, readRs_nil, readRs_t, retV_1, frame_2, of0, of1, of6, of10, Option.some.injEq, exists_eq_left', getK_set, Nat.reduceEqDiff, ↓reduceIte, Bool.false_eq_true, Bool.not_false, h1, h6, l1', l2', hv.len, decide_true, decide_false, this, and_self]
  have l2' : ¬ (10 : Int) < (S.length : Int) := by omega
  simp (disch := omega) only [f16_r0, f16_r1, f16_r3, f16_r5, w_skip, w_reg, w_seq, w_cond, w_block, seqK_n, ckB_b, cbB_b, okG_b, asG_f, true_and, x_nil, x_g, x_mv, x_as, x_pick, x_bin, x_len, kx, rvP_ok, okv_some, ev_t, ev_c, getV_some, putD_some, bin_lss, bin_gtr, pick_b, frame_2, of0, of1, of6, of10, getK_set, Nat.reduceEqDiff, ↓reduceIte, Bool.false_eq_true, Bool.not_false, h1, h6, l1', l2', hv.len, decide_false]
  refine W_loop (f16_I1 h v S n) (fun i => S.length - i) ?_ 0 ⟨rfl, by omega, by simp, by simp (disch := omega) only [getK_set, Nat.reduceEqDiff, ↓reduceIte, and_self, Int.natCast_zero]⟩
  rintro i fr h2 ⟨rfl, hi, hal, g0, g1, g23, g24, g25⟩
  unfold f16_l1
  by_cases hlt : i < S.length
  · have hlt' : (i : Int) < (S.length : Int) := by omega
    obtain ⟨p, hp1, hp2⟩ := hv.at i hlt
    have hgd : S.getD i 0 = S[i] := by simp [List.getD, hlt]
    by_cases e1 : S[i] < 1
    · have := hc10 (okAt_bad hlt (by unfold okAt; rw [hgd, decide_eq_false (by omega)]; rfl))
      simp (disch := omega) only [f16_r6, f16_r7, f16_r8, f16_r9, f16_rs, w_skip, w_reg, w_seq, w_cond, w_block, w_ret, seqK_n, seqK_r, atK_r, loopK_r, ckB_b, cbB_b, okG_b, asG_f, retK_r, x_nil, x_g, x_mv, x_as, x_pick, x_ld, x_bin, x_iads, kx, rvP_ok, okv_some, ev_t, ev_c, getV_some, putD_some, bin_lss, pick_b, oGet_s, readRs_nil, readRs_t, retV_1, of1, of10, Option.some.injEq, exists_eq_left', getK_set, Nat.reduceEqDiff, ↓reduceIte, Bool.false_eq_true, Bool.not_true, g23, g24, g25, hlt', decide_true, hp1, hp2, iE, e1, this, and_self]
    · by_cases e2 : (2 : Int) ^ n.toNat ≤ S[i]
      · have := hc10 (okAt_bad hlt (by unfold okAt; rw [hgd, decide_eq_false (show ¬ S[i] < 2 ^ n.toNat by omega), Bool.and_false]; rfl))
        simp (disch := omega) only [f16_r6, f16_r7, f16_r8, f16_r9, f16_rs, w_skip, w_reg, w_seq, w_cond, w_block, w_ret, seqK_n, seqK_r, atK_r, loopK_r, ckB_b, cbB_b, okG_b, asG_f, retK_r, x_nil, x_g, x_mv, x_as, x_pick, x_ld, x_bin, x_iads, kx, rvP_ok, okv_some, ev_t, ev_c, getV_some, putD_some, bin_lss, bin_geq, pick_b, oGet_s, readRs_nil, readRs_t, retV_1, of1, of10, Option.some.injEq, exists_eq_left', getK_set, Nat.reduceEqDiff, ↓reduceIte, Bool.false_eq_true, Bool.not_false, g0, g23, g24, g25, hlt', decide_true, decide_false, hp1, hp2, iE, e1, e2, bin_shl, shl_n, this, and_self]
      · obtain ⟨u, q1, q2, _⟩ := hv.cut (lo := none) (hi := some (.i .i64 (i : Int))) (l := 0) (u := i) bnd_none bnd_i (by omega) (by omega)
        rw [List.drop_zero] at q2
        have hlen : (S.take i).length = i := by rw [List.length_take]; omega
        simp (disch := omega) only [f16_r6, f16_r7, f16_r8, f16_r10, w_skip, w_reg, w_seq, w_cond, w_block, seqK_n, ckB_b, cbB_b, okG_b, asG_f, true_and, x_nil, x_g, x_mv, x_as, x_pick, x_ld, x_bin, x_slice, sliceV_eq, Option.map_none, Option.map_some, x_iads, x_len, kx, rvP_ok, okv_some, ev_t, ev_c, getV_some, putD_some, bin_lss, bin_geq, pick_b, of0, of1, getK_set, Nat.reduceEqDiff, ↓reduceIte, Bool.false_eq_true, Bool.not_false, g0, g1, g23, g24, g25, hlt', decide_true, decide_false, hp1, hp2, iE, e1, e2, bin_shl, shl_n, q1, q2.len]
        refine f16_inner (v := v) (u := u) (S := S) (T := S.take i) (n := n) (x := S[i]) (i := i) hp q2 (by omega) (by simp (disch := omega) only [getK_set, Nat.reduceEqDiff, ↓reduceIte, g0, g1, g23, g24, g25, and_self]) ?_ ?_
        · clear g0 g1 g23 g24 g25
          rintro hall fr ⟨g0, g1, g23, g24, g25⟩
          simp (disch := omega) only [f16_r16, w_reg, seqK_n, atK_n, atK_e, loopK_n, x_nil, x_mv, x_bin, kx, rvP_ok, okv_some, ev_t, ev_c, getV_some, putD_some, bin_add, of1, getK_set, ↓reduceIte, g25, fw64]
          refine ⟨i + 1, by omega, rfl, hlt, ?_, by simp (disch := omega) only [getK_set, Nat.reduceEqDiff, ↓reduceIte, g0, g1, g23, g24, and_self, Int.natCast_add, Int.natCast_one]⟩
          rw [List.range_succ, List.all_append, hal, Bool.true_and]
          simp only [List.all_cons, List.all_nil, Bool.and_true]
          unfold okAt
          rw [hgd, decide_eq_true (by omega), decide_eq_true (by omega), hall]; rfl
        · rintro hall fr g4
          have := hc10 (okAt_bad hlt (by unfold okAt; rw [hgd, hall, Bool.and_false]))
          simp (disch := omega) only [f16_rs, seqK_r, atK_r, loopK_r, retK_r, getV_some, oGet_s, readRs_nil, readRs_t, retV_1, Option.some.injEq, exists_eq_left', g4, this, and_self]
  · obtain rfl : i = S.length := by omega
    have hlt' : ¬ (S.length : Int) < (S.length : Int) := by omega
    have : chkS n S = 0 := by
      unfold chkS goodS
      rw [if_neg (by omega), hal, decide_eq_true (by omega), decide_eq_true (by omega)]; rfl
    simp (disch := omega) only [f16_r6, f16_r17, f16_rs, w_reg, w_seq, w_cond, w_exit, w_ret, seqK_n, seqK_e, atK_e, loopK_e, ckB_b, cbB_b, retK_r, x_nil, x_as, x_bin, kx, rvP_ok, okv_some, ev_t, ev_c, getV_some, putD_some, bin_lss, oGet_s, readRs_nil, readRs_t, retV_1, of0, Option.some.injEq, exists_eq_left', getK_set, ↓reduceIte, Bool.false_eq_true, g24, g25, hlt', decide_false, this, and_self]
end
end Go.Ev
namespace Go.Ev
open Go Go.RowKit
noncomputable def f30_r0 : List EOper := [⟨(some (K.ofNat 4)), none, .as (.c (.i .i64 (.ofNat 0)))⟩, ⟨(some (K.ofNat 5)), none, .as (.c .sn)⟩]
noncomputable def f30_r1 : List EOper := [⟨(some (K.ofNat 9)), none, .mv (.t (K.ofNat 0))⟩, ⟨(some (K.ofNat 10)), none, .conv .u64 (.t (K.ofNat 9))⟩, ⟨(some (K.ofNat 11)), none, .bin .rem (.t (K.ofNat 10)) (.c (.i .u64 (.ofNat 6)))⟩, ⟨(some (K.ofNat 12)), none, .conv .i64 (.t (K.ofNat 11))⟩, ⟨(some (K.ofNat 13)), none, .bin .add (.c (.i .i64 (.ofNat 1))) (.t (K.ofNat 12))⟩, ⟨(some (K.ofNat 0)), none, .as (.t (K.ofNat 13))⟩]
noncomputable def f30_r2 : List EOper := [⟨(some (K.ofNat 14)), none, .bslice 1 1 [(.i .i64 (.ofNat 0))] [(0, 1, (.c (.i .i64 (.ofNat 1))))]⟩, ⟨(some (K.ofNat 6)), none, .as (.t (K.ofNat 14))⟩]
noncomputable def f30_r3 : List EOper := [⟨(some (K.ofNat 7)), none, .as (.c (.i .i64 (.ofNat 0)))⟩]
noncomputable def f30_r4 : List EOper := [⟨(some (K.ofNat 15)), none, .mv (.t (K.ofNat 7))⟩, ⟨(some (K.ofNat 16)), none, .mv (.t (K.ofNat 1))⟩, ⟨(some (K.ofNat 17)), none, .len (.t (K.ofNat 16))⟩, ⟨(some (K.ofNat 18)), none, .bin .lss (.t (K.ofNat 15)) (.t (K.ofNat 17))⟩, ⟨(some (K.ofNat 19)), none, .mv (.t (K.ofNat 18))⟩, ⟨(some (K.ofNat 20)), (some ((K.ofNat 19), true)), .mv (.t (K.ofNat 7))⟩, ⟨(some (K.ofNat 21)), (some ((K.ofNat 19), true)), .bin .lss (.t (K.ofNat 20)) (.c (.i .i64 (.ofNat 10)))⟩, ⟨(some (K.ofNat 22)), none, .pick (.t (K.ofNat 19)) (.t (K.ofNat 21)) (.c (.b false))⟩]
noncomputable def f30_r5 : List Stage := [⟨[⟨(some (K.ofNat 25)), none, .mv (.t (K.ofNat 6))⟩, ⟨(some (K.ofNat 26)), none, .mv (.t (K.ofNat 1))⟩, ⟨(some (K.ofNat 27)), none, .mv (.t (K.ofNat 7))⟩, ⟨(some (K.ofNat 28)), none, .iads 1 (.t (K.ofNat 26)) (.t (K.ofNat 27))⟩, ⟨(some (K.ofNat 29)), none, .ld (.t (K.ofNat 28))⟩, ⟨(some (K.ofNat 30)), none, .conv .u64 (.t (K.ofNat 29))⟩, ⟨(some (K.ofNat 31)), none, .mv (.t (K.ofNat 0))⟩, ⟨(some (K.ofNat 32)), none, .bin .shl (.c (.i .u64 (.ofNat 1))) (.t (K.ofNat 31))⟩, ⟨(some (K.ofNat 33)), none, .bin .rem (.t (K.ofNat 30)) (.t (K.ofNat 32))⟩, ⟨(some (K.ofNat 34)), none, .conv .i64 (.t (K.ofNat 33))⟩, ⟨(some (K.ofNat 35)), none, .bslice 1 1 [(.i .i64 (.ofNat 0))] [(0, 1, (.t (K.ofNat 34)))]⟩], [], (some ⟨(some (K.ofNat 36)), none, .app 1 (.t (K.ofNat 25)) (.t (K.ofNat 35))⟩), [(K.ofNat 35)]⟩, ⟨[], [], (some ⟨(some (K.ofNat 6)), none, .as (.t (K.ofNat 36))⟩), []⟩, ⟨[], [], none, []⟩]
noncomputable def f30_r6 : List EOper := [⟨(some (K.ofNat 23)), none, .mv (.t (K.ofNat 7))⟩, ⟨(some (K.ofNat 24)), none, .bin .add (.t (K.ofNat 23)) (.c (.i .i64 (.ofNat 1)))⟩, ⟨(some (K.ofNat 7)), none, .as (.t (K.ofNat 24))⟩]
noncomputable def f30_l0 : EC := (.seq (.seq (.reg f30_r4) (.cond (.t (K.ofNat 22)) .skip (.exit 0))) (.seq (.block 1 (.draw f30_r5)) (.reg f30_r6)))
noncomputable def f30_r7 : List EOper := [⟨(some (K.ofNat 37)), none, .mv (.t (K.ofNat 6))⟩, ⟨(some (K.ofNat 38)), none, .call (.c (.fn (K.ofNat 49) [])) [(.t (K.ofNat 37))]⟩, ⟨(some (K.ofNat 8)), none, .as (.t (K.ofNat 38))⟩]
noncomputable def f30_r8 : List EOper := [⟨(some (K.ofNat 39)), none, .mv (.t (K.ofNat 8))⟩, ⟨(some (K.ofNat 40)), none, .len (.t (K.ofNat 39))⟩, ⟨(some (K.ofNat 41)), none, .bin .gtr (.t (K.ofNat 40)) (.c (.i .i64 (.ofNat 1)))⟩, ⟨(some (K.ofNat 42)), none, .mv (.t (K.ofNat 41))⟩, ⟨(some (K.ofNat 43)), (some ((K.ofNat 42), true)), .mv (.t (K.ofNat 8))⟩, ⟨(some (K.ofNat 44)), (some ((K.ofNat 42), true)), .iads 1 (.t (K.ofNat 43)) (.c (.i .i64 (.ofNat 0)))⟩, ⟨(some (K.ofNat 45)), (some ((K.ofNat 42), true)), .ld (.t (K.ofNat 44))⟩, ⟨(some (K.ofNat 46)), (some ((K.ofNat 42), true)), .bin .eql (.t (K.ofNat 45)) (.c (.i .i64 (.ofNat 0)))⟩, ⟨(some (K.ofNat 47)), none, .pick (.t (K.ofNat 42)) (.t (K.ofNat 46)) (.c (.b false))⟩]
noncomputable def f30_r9 : List EOper := [⟨(some (K.ofNat 48)), none, .mv (.t (K.ofNat 8))⟩, ⟨(some (K.ofNat 49)), none, .slice 1 (.t (K.ofNat 48)) (some (.c (.i .i64 (.ofNat 1)))) none none⟩, ⟨(some (K.ofNat 8)), none, .as (.t (K.ofNat 49))⟩]
noncomputable def f30_r10 : List Stage := [⟨[⟨(some (K.ofNat 50)), none, .mv (.t (K.ofNat 0))⟩, ⟨(some (K.ofNat 51)), none, .mv (.t (K.ofNat 8))⟩, ⟨(some (K.ofNat 52)), none, .mv (.t (K.ofNat 8))⟩, ⟨(some (K.ofNat 53)), none, .len (.t (K.ofNat 52))⟩, ⟨(some (K.ofNat 54)), none, .min (.t (K.ofNat 53)) (.c (.i .i64 (.ofNat 10)))⟩, ⟨(some (K.ofNat 55)), none, .mv (.t (K.ofNat 8))⟩, ⟨(some (K.ofNat 56)), none, .len (.t (K.ofNat 55))⟩, ⟨(some (K.ofNat 57)), none, .min (.t (K.ofNat 56)) (.c (.i .i64 (.ofNat 10)))⟩, ⟨(some (K.ofNat 58)), none, .slice 1 (.t (K.ofNat 51)) none (some (.t (K.ofNat 54))) (some (.t (K.ofNat 57)))⟩], [], (some ⟨(some (K.ofNat 4)), none, .as (.t (K.ofNat 50))⟩), []⟩, ⟨[], [⟨(some (K.ofNat 51)), none, .mv (.t (K.ofNat 8))⟩, ⟨(some (K.ofNat 52)), none, .mv (.t (K.ofNat 8))⟩, ⟨(some (K.ofNat 53)), none, .len (.t (K.ofNat 52))⟩, ⟨(some (K.ofNat 54)), none, .min (.t (K.ofNat 53)) (.c (.i .i64 (.ofNat 10)))⟩, ⟨(some (K.ofNat 55)), none, .mv (.t (K.ofNat 8))⟩, ⟨(some (K.ofNat 56)), none, .len (.t (K.ofNat 55))⟩, ⟨(some (K.ofNat 57)), none, .min (.t (K.ofNat 56)) (.c (.i .i64 (.ofNat 10)))⟩, ⟨(some (K.ofNat 58)), none, .slice 1 (.t (K.ofNat 51)) none (some (.t (K.ofNat 54))) (some (.t (K.ofNat 57)))⟩], (some ⟨(some (K.ofNat 5)), none, .as (.t (K.ofNat 58))⟩), []⟩, ⟨[], [], none, []⟩]
noncomputable def f30_c : EC := (.seq (.reg f30_r0) (.seq (.reg f30_r1) (.seq (.reg f30_r2) (.seq (.seq (.reg f30_r3) (.block 0 (.loop f30_l0))) (.seq (.reg f30_r7) (.seq (.seq (.reg f30_r8) (.cond (.t (K.ofNat 47)) (.reg f30_r9) .skip)) (.seq (.draw f30_r10) .ret)))))))
noncomputable def f30 : EF := ⟨59, [.tmp (K.ofNat 4), .tmp (K.ofNat 5)], f30_c, none⟩
theorem f30_rs : f30.rs = [.tmp (K.ofNat 4), .tmp (K.ofNat 5)] := of_eq_true (eq_self _)
section
variable {fs : T EF} {ro : Option K}
noncomputable def tameN (n : Int) : Int := fw .i64 (1 + fw .i64 ((fw .u64 n).tmod 6))
theorem tameN_in (n : Int) : 1 ≤ tameN n ∧ tameN n ≤ 6 := by
  have h0 : 0 ≤ fw .u64 n := by rw [fw_eq]; exact Int.emod_nonneg _ (by decide)
  obtain ⟨m, hm⟩ := Int.eq_ofNat_of_zero_le h0
  have h1 : (fw .u64 n).tmod 6 = ((m % 6 : Nat) : Int) := by rw [hm]; rfl
  unfold tameN
  have e1 : fw .i64 ((m % 6 : Nat) : Int) = ((m % 6 : Nat) : Int) := fw64 (by omega) (by omega)
  rw [h1, e1, fw64 (by omega) (by omega)]
  omega
noncomputable def tameX (N x : Int) : Int := fw .i64 ((fw .u64 x).tmod (2 ^ N.toNat))
noncomputable def tameS (N : Int) (L : List Int) (i : Nat) : List Int := 1 :: (L.take i).map (tameX N)
noncomputable def tameP (N : Int) (L : List Int) : List Int := (fun p : List Int => if 1 < p.length ∧ p[0]? = some 0 then p.drop 1 else p) (piecesTo (tameS N L 10) 64)
theorem tameS_succ {N : Int} {L : List Int} {i : Nat} (hi : i < L.length) : tameS N L (i + 1) = tameS N L i ++ [tameX N L[i]] := by
  unfold tameS; rw [List.take_succ_eq_append_getElem hi, List.map_append]; rfl
theorem tameS_len {N : Int} {L : List Int} {i : Nat} : (tameS N L i).length ≤ i + 1 := by
  unfold tameS; rw [List.length_cons, List.length_map, List.length_take]; omega
def f30_I (h : H) (v : V) (L : List Int) (N : Int) (i : Nat) (fr : Fr) (h1 : H) : Prop := ∃ o, i ≤ L.length ∧ i ≤ 10 ∧ Sl iE h1 o (tameS N L i) ∧ Own h.nx.nat o ∧ Grow h.nx.nat h h1 ∧ fr.get (K.ofNat 0) = some (.i .i64 N) ∧ fr.get (K.ofNat 1) = some (v) ∧ fr.get (K.ofNat 6) = some (o) ∧ fr.get (K.ofNat 7) = some (.i .i64 (i : Int))
theorem f30_loop {Q : Ex → Fr → H → Prop} {h h0 : H} {v : V} {L : List Int} {N : Int} {fr : Fr} (hv : Sl iE h v L) (hc : HC h) (hn1 : 1 ≤ N) (hn6 : N ≤ 6)
    (hi0 : f30_I h v L N 0 fr h0)
    (hq : ∀ fr h1 o, Sl iE h1 o (tameS N L 10) → Own h.nx.nat o → Grow h.nx.nat h h1 → fr.get (K.ofNat 0) = some (.i .i64 N) ∧ fr.get (K.ofNat 1) = some (v) ∧ fr.get (K.ofNat 6) = some (o) → Q (.exit 0) fr h1) :
    W fs ro (.loop f30_l0) Q fr h0 := by
  refine W_loop (f30_I h v L N) (fun i => L.length - i) ?_ 0 hi0
  clear hi0 fr
  rintro i fr h1 ⟨o, hi, hi2, hso, hoo, hgr, g0, g1, g6, g7⟩
  have hv1 := hv.grow hc hgr
  have hc1 := hgr.hc hc
  unfold f30_l0
  by_cases hlt : i < L.length
  · have hlt' : (i : Int) < (L.length : Int) := by omega
    by_cases h12 : i < 10
    · have h12' : (i : Int) < 10 := by omega
      obtain ⟨p, hp1, hp2⟩ := hv1.at i hlt
      have hpw : (2 : Int) ^ N.toNat ≠ 0 := by
        have : N = 1 ∨ N = 2 ∨ N = 3 ∨ N = 4 ∨ N = 5 ∨ N = 6 := by omega
        rcases this with rfl | rfl | rfl | rfl | rfl | rfl <;> decide
      have hrem : ∀ a, binV .rem (.i .u64 a) (.i .u64 (2 ^ N.toNat)) = some (.i .u64 (a.tmod (2 ^ N.toNat))) := fun a => bin_rem hpw
      obtain ⟨v', h', q1, q2, q3, q4, q5⟩ := Sl.push (e := iE) (L := tameS N L i) (x := tameX N L[i]) (c := .i .i64 (fw .i64 ((fw .u64 L[i]).tmod (2 ^ N.toNat)))) rfl hso hoo hgr.nx hc1 (by have := tameS_len (N := N) (L := L) (i := i); omega)
      simp (disch := omega) only [f30_r4, f30_r5, w_skip, w_reg, w_draw, w_seq, w_cond, w_block, seqK_n, atK_n, ckB_b, cbB_b, okG_b, asG_t, true_and, x_nil, x_g, x_mv, x_as, x_pick, x_bin, x_len, x_app, kx, kg, xg_nil, xg_mv, xg_ld, xg_bin, xg_conv, xg_iads, xg_bslice, xd_cons, fresh_nil, stK_n, stK_s, stay_nil, rvP_ok, okv_some, ev_t, ev_c, getV_some, putD_some, bin_lss, pick_b, onI_i, oGet_s, cells1_i, fill_1, set_1, of0, of1, of10, Option.some.injEq, exists_eq_left', getK_set, Nat.reduceEqDiff, ↓reduceIte, g0, g1, g6, g7, hv1.len, hlt', h12', decide_true, hp1, hp2, iE, bin_shl, shlu_n, hrem, hc1.dead, q1]
      refine ⟨fresh_one (n := 1) (sz := 1) (by simp (disch := omega) only [getK_set, ↓reduceIte]), ?_⟩
      simp (disch := omega) only [f30_r6, loopK_n, x_nil, x_mv, x_as, x_bin, kx, rvP_ok, okv_some, ev_t, ev_c, getV_some, putD_some, bin_add, of1, getK_set, Nat.reduceEqDiff, ↓reduceIte, g7, fw64]
      exact ⟨i + 1, by omega, v', hlt, h12, by rw [tameS_succ hlt]; exact q2, q3, hgr.trans q4, by simp (disch := omega) only [getK_set, Nat.reduceEqDiff, ↓reduceIte, g0, g1, and_self, Int.natCast_add, Int.natCast_one]⟩
    · have h12' : ¬ (i : Int) < 10 := by omega
      obtain rfl : i = 10 := by omega
      simp (disch := omega) only [f30_r4, w_reg, w_seq, w_cond, w_exit, seqK_n, seqK_e, loopK_e, ckB_b, cbB_b, okG_b, asG_t, true_and, x_nil, x_g, x_mv, x_pick, x_bin, x_len, kx, rvP_ok, okv_some, ev_t, ev_c, getV_some, putD_some, bin_lss, pick_b, of10, getK_set, Nat.reduceEqDiff, ↓reduceIte, Bool.false_eq_true, g1, g7, hv1.len, hlt', h12', decide_true, decide_false]
      exact hq _ _ o hso hoo hgr (by simp (disch := omega) only [getK_set, Nat.reduceEqDiff, ↓reduceIte, g0, g1, g6, and_self])
  · have hlt' : ¬ (i : Int) < (L.length : Int) := by omega
    simp (disch := omega) only [f30_r4, w_reg, w_seq, w_cond, w_exit, seqK_n, seqK_e, loopK_e, ckB_b, cbB_b, okG_b, asG_t, true_and, x_nil, x_g, x_mv, x_pick, x_bin, x_len, kx, rvP_ok, okv_some, ev_t, ev_c, getV_some, putD_some, bin_lss, pick_b, of10, getK_set, Nat.reduceEqDiff, ↓reduceIte, Bool.false_eq_true, g1, g7, hv1.len, hlt', decide_false]
    refine hq _ _ o ?_ hoo hgr (by simp (disch := omega) only [getK_set, Nat.reduceEqDiff, ↓reduceIte, g0, g1, g6, and_self])
    have : tameS N L 10 = tameS N L i := by
      unfold tameS
      rw [List.take_of_length_le (show L.length ≤ 10 by omega), List.take_of_length_le (show L.length ≤ i by omega)]
    rw [this]; exact hso
theorem f30_ret {h : H} {v : V} {L : List Int} {n : Int}
    (hp : ∀ a b h P, CallP fs (.fn (K.ofNat 53) []) [.i .i64 a, .i .i64 b] h P = P (.b (ptI a b)) h) (h49 : fs.get (K.ofNat 49) = some f49) (hv : Sl iE h v L) (hc : HC h) :
    Ret fs f30 [.i .i64 n, v] h fun r h' => ∃ u, r = .tup [.i .i64 (tameN n), u] ∧ Sl iE h' u ((tameP (tameN n) L).take 10) ∧ Own h.nx.nat u ∧ Grow h.nx.nat h h' := by
  apply ret_of rfl
  show W fs none f30_c _ _ _
  unfold f30_c
  obtain ⟨n1, n6⟩ := tameN_in n
  have hnn : fw .i64 (1 + fw .i64 ((fw .u64 n).tmod 6)) = tameN n := rfl
  simp (disch := omega) only [f30_r0, f30_r1, f30_r2, f30_r3, w_reg, w_seq, w_block, seqK_n, x_nil, x_mv, x_as, x_bslice, x_bin, x_conv, kx, rvP_ok, okv_some, ev_t, ev_c, getV_some, putD_some, bin_add, bin_rem, onI_i, oGet_s, frame_2, cells1_i, fill_1, set_1, of0, of1, of6, getK_set, Nat.reduceEqDiff, ↓reduceIte, hnn]
  refine f30_loop (h := h) (v := v) (L := L) (N := tameN n) hv hc n1 n6 ⟨.sl h.nx 0 1 1, by omega, by omega, Sl.lit (e := iE) (x := 1), fun _ _ _ _ e => by cases e; exact Nat.le_refl _, Grow.new (Nat.le_refl _) _, by simp (disch := omega) only [getK_set, Nat.reduceEqDiff, ↓reduceIte, and_self, Int.natCast_zero]⟩ ?_
  rintro fr h1 o hso hoo hgr ⟨g0, g1, g6⟩
  have hc1 := hgr.hc hc
  simp (disch := omega) only [f30_r7, w_reg, w_seq, seqK_n, atK_e, x_mv, x_call, ev_t, ev_c, evs_nil, evs_cons, getV_some, putD_some, getK_set, ↓reduceIte, g6]
  refine (callP_0 (ef := f49) h49 rfl (f49_ret hp hso (by have := tameS_len (N := tameN n) (L := L) (i := 10); omega) hc1)).mono ?_
  rintro w h2 ⟨hsw, how, gr2⟩
  have gr := hgr.trans (gr2.low hgr.nx)
  have how' : Own h.nx.nat w := how.low hgr.nx
  generalize hP : piecesTo (tameS (tameN n) L 10) 64 = P at *
  have hlenP : P.length ≤ 64 := by rw [← hP]; exact piecesTo_len
  -- the end
  have fin : ∀ (w : V) (M : List Int) (fr : Fr), Sl iE h2 w M → Own h.nx.nat w → M = tameP (tameN n) L → fr.get (K.ofNat 0) = some (.i .i64 (tameN n)) ∧ fr.get (K.ofNat 8) = some (w) →
      W fs none (.seq (.draw f30_r10) .ret) (retK f30 fun r h' => ∃ u, r = .tup [.i .i64 (tameN n), u] ∧ Sl iE h' u ((tameP (tameN n) L).take 10) ∧ Own h.nx.nat u ∧ Grow h.nx.nat h h') fr h2 := by
    clear g0 g1 g6 fr
    rintro w M fr hsw how hM ⟨g0, g8⟩
    have hmin : min (M.length : Int) 10 = ((min M.length 10 : Nat) : Int) := by omega
    obtain ⟨x, x1, x2, x3, _⟩ := Sl.cut3 (k := .i64) (k' := .i64) (m := min M.length 10) hsw (by omega)
    rw [show M.take (min M.length 10) = M.take 10 by rw [Nat.min_comm, List.take_eq_take_iff]; omega] at x2
    simp (disch := omega) only [f30_r10, f30_rs, w_draw, w_seq, w_ret, seqK_n, true_and, retK_r, x_nil, x_as, sliceV_eq, Option.map_none, Option.map_some, kg, xg_nil, xg_mv, xg_slice, xg_len, xg_min, xd_cons, fresh_nil, stK_n, stK_s, stay_nil, stay_cons, again_ok, stay_mv, stay_len, stay_min, stay_slice, beq_i, rvP_ok, ev_t, ev_c, getV_some, putD_some, oGet_s, min_ii, readRs_nil, readRs_t, retV_2, of10, Option.some.injEq, exists_eq_left', getK_set, Nat.reduceEqDiff, ↓reduceIte, g0, g8, hsw.len, hmin, x1, hsw.beq, x2.beq, and_self]
    exact ⟨x, rfl, by rw [← hM]; exact x2, x3 _ how, gr⟩
  by_cases h1 : 1 < P.length
  · have h1' : (1 : Int) < (P.length : Int) := by omega
    obtain ⟨p, hp1, hp2⟩ := hsw.at 0 (by omega)
    have hp1' : ∀ k h1, iadsV 1 w (.i k 0) h1 = .ok p h1 := fun k h1 => hp1 k h1
    have hz : P[0]? = some P[0] := by rw [List.getElem?_eq_getElem]
    by_cases e0 : P[0] = 0
    · obtain ⟨x, x1, x2, x3, _⟩ := hsw.cut (lo := some (.i .i64 1)) (hi := none) (l := 1) (u := P.length) rfl bnd_none (by omega) (Nat.le_refl _)
      rw [List.take_length] at x2
      simp (disch := omega) only [f30_r8, f30_r9, w_reg, w_draw, w_seq, w_cond, seqK_n, ckB_b, cbB_b, okG_b, asG_t, true_and, x_nil, x_g, x_mv, x_as, x_pick, x_ld, x_bin, x_slice, sliceV_eq, Option.map_none, Option.map_some, x_iads, x_len, kx, rvP_ok, okv_some, ev_t, ev_c, getV_some, putD_some, bin_eql, bin_gtr, pick_b, of0, of1, getK_set, Nat.reduceEqDiff, ↓reduceIte, hsw.len, h1', decide_true, hp1', hp2, iE, e0, x1]
      exact fin x (P.drop 1) _ x2 (x3 _ how') (by unfold tameP; rw [hP]; simp only []; rw [if_pos ⟨h1, by rw [hz, e0]⟩]) (by simp (disch := omega) only [getK_set, Nat.reduceEqDiff, ↓reduceIte, g0, and_self])
    · simp (disch := omega) only [f30_r8, f30_r9, w_skip, w_reg, w_draw, w_seq, w_cond, seqK_n, ckB_b, cbB_b, okG_b, asG_t, true_and, x_nil, x_g, x_mv, x_as, x_pick, x_ld, x_bin, x_iads, x_len, kx, rvP_ok, okv_some, ev_t, ev_c, getV_some, putD_some, bin_eql, bin_gtr, pick_b, of0, of1, getK_set, Nat.reduceEqDiff, ↓reduceIte, Bool.false_eq_true, hsw.len, h1', decide_true, decide_false, hp1', hp2, iE, e0]
      exact fin w P _ hsw how' (by unfold tameP; rw [hP]; simp only []; rw [if_neg (fun h => e0 (by rw [hz] at h; exact Option.some.inj h.2))]) (by simp (disch := omega) only [getK_set, Nat.reduceEqDiff, ↓reduceIte, g0, and_self])
  · have h1' : ¬ (1 : Int) < (P.length : Int) := by omega
    simp (disch := omega) only [f30_r8, f30_r9, w_skip, w_reg, w_draw, w_seq, w_cond, seqK_n, ckB_b, cbB_b, okG_b, asG_t, true_and, x_nil, x_g, x_mv, x_as, x_pick, x_bin, x_len, kx, rvP_ok, okv_some, ev_t, ev_c, getV_some, putD_some, bin_gtr, pick_b, of0, of1, getK_set, Nat.reduceEqDiff, ↓reduceIte, Bool.false_eq_true, hsw.len, h1', decide_false]
    exact fin w P _ hsw how' (by unfold tameP; rw [hP]; simp only []; rw [if_neg (fun h => h1 h.1)]) (by simp (disch := omega) only [getK_set, Nat.reduceEqDiff, ↓reduceIte, g0, and_self])
end
end Go.Ev
