/-
  Labels: the reference's search, whole.
  Labels: the first labels that part; the law LabelsFirst.
  The evaluator, weakest preconditions: what follows may be weakened.
  The evaluator, weakest preconditions: a store into a slice of pairs; slices of slices of pairs.
  Labels: the copies.
  Labels: the copies, gathered.
  Labels: the law LabelsCopies.
-/
import Derived.Test.YtmnojcnimncbpaaPf
import Derived.Test.YtmnojcnimncbpaaPd
namespace Go.Ev
open Go Go.RowKit
theorem fitB_eq {E : List (Int × Int)} {L : List Int} {x : Int} {b : Bool} (h : b = true ↔ PwK E (L ++ [x]) ((L.length : Int) + 1) ∧ x ∉ L) : b = fitB E L x := by
  rw [Bool.eq_iff_iff, fitB_iff]; exact h
section
variable {fs : T EF} {ro : Option K} {h h' : H} {v w : V} {n : Nat} {E : List (Int × Int)} {L : List Int} {x : Int}
def MetK (E : List (Int × Int)) (M : List Int) (k : Int) (B : List Bool) : Prop := ∀ d (h : d < B.length), B[d] = true ↔ ∃ e ∈ E, e.2 < k ∧ dfE M e = (d : Int)
def f109_J2 (h : H) (v w : V) (x : Int) (E : List (Int × Int)) (L : List Int) (j : Nat) (fr : Fr) (h1 : H) : Prop := j ≤ E.length ∧ Grow h.nx.nat h h1 ∧ h.nx.nat < h1.nx.nat ∧ (∃ B : List Bool, B.length = 11 ∧ Ar V.b h1 h.nx B ∧ MetK (E.take j) (L ++ [x]) ((L.length : Int) + 1) B) ∧ PwK (E.take j) (L ++ [x]) ((L.length : Int) + 1) ∧ fr.get (K.ofNat 0) = some (v) ∧ fr.get (K.ofNat 1) = some (w) ∧ fr.get (K.ofNat 2) = some (.i .i64 x) ∧ fr.get (K.ofNat 7) = some (.p h.nx 0) ∧ fr.get (K.ofNat 8) = some (.i .i64 (j : Int))
def f109_I2 (h : H) (w : V) (x : Int) (L : List Int) (i : Nat) (fr : Fr) (h1 : H) : Prop := i ≤ L.length ∧ Grow h.nx.nat h h1 ∧ x ∉ L.take i ∧ fr.get (K.ofNat 1) = some (w) ∧ fr.get (K.ofNat 2) = some (.i .i64 x) ∧ fr.get (K.ofNat 13) = some (.i .i64 (i : Int))
theorem f109_ret (hv : Srp h v E) (hw : Sr iE h w L) (hc : HC h) (hE : EdgesOk n E) (hlin : LabOk E L) (hL : L.length ≤ 7) (hx : 0 ≤ x ∧ x ≤ (E.length : Int)) : Ret fs f109 [v, w, .i .i64 x] h fun r h' => r = .b (fitB E L x) ∧ Grow h.nx.nat h h' := by
  have hE0 := hE
  obtain ⟨hE10, _, hE3⟩ := hE
  apply ret_of rfl
  show W fs none f109_c _ _ _
  unfold f109_c
  have hfl : (List.replicate 11 (V.b false)) = (List.replicate 11 false).map V.b := rfl
  have g0 := Grow.new (Nat.le_refl h.nx.nat) (.cells 11 ((List.replicate 11 false).map V.b))
  have n0 := nx_new h (.cells 11 ((List.replicate 11 false).map V.b))
  have eA : Ar V.b (h.new (.cells 11 ((List.replicate 11 false).map V.b))) h.nx (List.replicate 11 false) := get_new_same
  simp (disch := omega) only [f109_r0, f109_r1, f109_r2, w_reg, w_seq, w_block, seqK_n, x_nil, x_as, x_alloc, ev_c, putD_some, frame_3, of0, hfl]
  refine W_loop (f109_J2 h v w x E L) (fun j => E.length - j) ?_ 0 ⟨by omega, g0, by omega, ⟨_, by simp, eA, fun d hd => by rw [List.getElem_replicate]; simp⟩, by rw [List.take_zero]; exact List.Pairwise.nil, by simp (disch := omega) only [getK_set, Nat.reduceEqDiff, ↓reduceIte, and_self, Int.natCast_zero]⟩
  clear g0 n0 eA
  rintro j fr h1 ⟨hj, hG, hnx, ⟨B, hB, hA, hM⟩, hP, g0, g1, g2, g7, g8⟩
  have hc1 := hG.hc hc
  have hv1 := hv.grow hc hG
  have hw1 := hw.grow hc hG
  unfold f109_l0
  by_cases hlt : j < E.length
  · have d0 : decide ((j : Int) < (E.length : Int)) = true := by simpa using hlt
    obtain ⟨ide, q, hp1, _, hp2, hp3⟩ := hv1.at2 hlt
    obtain ⟨e0, e1, e2⟩ := hE3 E[j] (List.getElem_mem hlt)
    have hvb := hv.beq
    have hwb := hw.beq
    have hsn := pwk_snoc (M := L ++ [x]) (k := (L.length : Int) + 1) hlt
    have htk := List.take_succ_eq_append_getElem hlt
    have hmemE := List.getElem_mem hlt
    generalize hEj : E[j] = ej at *
    obtain ⟨ea0, eb0⟩ := ej
    obtain ⟨a, rfl⟩ : ∃ a : Nat, ea0 = (a : Int) := ⟨ea0.toNat, by simp only at e0; omega⟩
    obtain ⟨b, rfl⟩ : ∃ b : Nat, eb0 = (b : Int) := ⟨eb0.toNat, by simp only at e0 e1; omega⟩
    simp only at e0 e1 e2 hp2 hp3 hsn
    by_cases hbl : b > L.length
    · have d1 : decide ((b : Int) > (L.length : Int)) = true := by simp; omega
      simp (disch := omega) only [f109_r3, f109_r4, f109_r5, f109_r6, w_skip, w_reg, w_draw, w_seq, w_cond, w_block, w_exit, seqK_n, seqK_e, atK_e, ckB_b, cbB_b, true_and, x_nil, x_mv, x_as, x_bin, x_len, kx, kg, xg_nil, xg_mv, xg_ld, xg_iadr, xg_iads, xd_cons, fresh_nil, stK_n, stK_s, stay_nil, stay_cons, again_ok, stay_mv, beq_i, stay_iads, stay_ld, beq_p, rvP_ok, okv_some, ev_t, ev_c, getV_some, putD_some, bin_lss, bin_gtr, onP_p, of0, of1, getK_set, Nat.reduceEqDiff, ↓reduceIte, stay_iadr, ix2_0, ix2_1, g0, g1, g8, hv1.len, d0, hp1, hp2, hp3, hvb, hw1.len, d1]
      simp (disch := omega) only [f109_r13, loopK_n, x_nil, x_mv, x_as, x_bin, kx, rvP_ok, okv_some, ev_t, ev_c, getV_some, putD_some, bin_add, of1, getK_set, Nat.reduceEqDiff, ↓reduceIte, g8, fw64]
      refine ⟨j + 1, by omega, by omega, hG, hnx, ⟨B, hB, hA, fun d hd => ?_⟩, hsn.2 ⟨hP, fun e he _ h => by omega⟩, by simp (disch := omega) only [getK_set, Nat.reduceEqDiff, ↓reduceIte, g0, g1, g2, g7, and_self, Int.natCast_add, Int.natCast_one]⟩
      rw [hM d hd, htk]
      constructor
      · rintro ⟨e, he, h1⟩
        exact ⟨e, List.mem_append_left _ he, h1⟩
      · rintro ⟨e, he, h1, h2⟩
        rcases List.mem_append.1 he with he | he
        · exact ⟨e, he, h1, h2⟩
        · rw [List.mem_singleton.1 he] at h1
          simp only at h1; omega
    · have d1 : decide ((b : Int) > (L.length : Int)) = false := by simp; omega
      simp (disch := omega) only [f109_r3, f109_r4, f109_r5, f109_r6, f109_r7, w_skip, w_reg, w_draw, w_seq, w_cond, w_block, seqK_n, ckB_b, cbB_b, true_and, x_nil, x_mv, x_as, x_bin, x_len, kx, kg, xg_nil, xg_mv, xg_ld, xg_iadr, xg_iads, xd_cons, fresh_nil, stK_n, stK_s, stay_nil, stay_cons, again_ok, stay_mv, beq_i, stay_iads, stay_ld, beq_p, rvP_ok, okv_some, ev_t, ev_c, getV_some, putD_some, bin_lss, bin_gtr, onP_p, of0, of1, getK_set, Nat.reduceEqDiff, ↓reduceIte, Bool.false_eq_true, decide_eq_true_eq, stay_iadr, ix2_0, ix2_1, g0, g1, g2, g8, hv1.len, d0, hp1, hp2, hp3, hvb, hw1.len, d1]
      have tail : ∀ (y : Int) (fr : Fr), 0 ≤ y → y ≤ 10 → dfE (L ++ [x]) ((a : Int), (b : Int)) = max (L.getD a 0 - y) (y - L.getD a 0) → fr.get (K.ofNat 0) = some (v) ∧ fr.get (K.ofNat 1) = some (w) ∧ fr.get (K.ofNat 2) = some (.i .i64 x) ∧ fr.get (K.ofNat 7) = some (.p h.nx 0) ∧ fr.get (K.ofNat 8) = some (.i .i64 (j : Int)) ∧ fr.get (K.ofNat 9) = some (.i .i64 (a : Int)) ∧ fr.get (K.ofNat 11) = some (.i .i64 y) → W fs none f109_t (atK 1 (seqK (W fs none (.reg f109_r13)) (loopK (f109_J2 h v w x E L) (fun j => E.length - j) j (atK 0 (seqK (W fs none (.seq (.seq (.reg f109_r14) (.block 2 (.loop f109_l1))) (.seq (.reg f109_r19) .ret))) (retK f109 fun r h' => r = .b (fitB E L x) ∧ Grow h.nx.nat h h')))))) fr h1 := by
        clear g0 g1 g2 g7 g8 fr
        rintro y fr hy0 hy1 hdf ⟨g0, g1, g2, g7, g8, g9, g11⟩
        unfold f109_t
        have hal : a < L.length := by omega
        obtain ⟨s, hs1, hs2, hs3⟩ := hw1.atb a hal
        obtain ⟨q1, q2⟩ := hlin _ (List.getElem_mem (l := L) (n := a) hal)
        obtain ⟨d, hd⟩ : ∃ d : Nat, max (L[a] - y) (y - L[a]) = (d : Int) := ⟨(max (L[a] - y) (y - L[a])).toNat, by omega⟩
        have hd11 : d < 11 := by omega
        rw [List.getD_eq_getElem?_getD, List.getElem?_eq_getElem hal, Option.getD_some, hd] at hdf
        have ix : ∀ f : Nat → RV, idxV (.i .i64 (d : Int)) 11 f = f d := fun f => idx_n hd11
        have hld := hA.ld (i := d) (by omega)
        have hst := (hA.st (i := d) (x := true) (c := .b true) (by omega) rfl rfl).1
        rw [hB] at hst
        cases hbd : B[d]'(by omega) with
        | true =>
          rw [hbd] at hld
          have hno : false = fitB E L x := fitB_eq ⟨fun h => (by cases h), fun h => by
            obtain ⟨e, he, h1, h2⟩ := (hM d (by omega)).1 hbd
            exact absurd (by rw [h2, hdf]) ((hsn.1 (pwk_take h.1)).2 e he h1 (by omega))⟩
          simp (disch := omega) only [f109_r9, f109_r10, f109_r11, f109_rs, w_reg, w_draw, w_seq, w_cond, w_ret, seqK_n, seqK_r, atK_r, loopK_r, ckB_b, cbB_b, true_and, retK_r, x_nil, x_mv, x_as, x_ld, x_iadr, kx, kg, xg_nil, xg_mv, xg_ld, xg_bin, xg_iads, xg_max, xd_cons, fresh_nil, stK_n, stK_s, stay_nil, rvP_ok, okv_some, ev_t, ev_c, getV_some, putD_some, bin_sub, onP_p, oGet_s, max_ii, readRs_nil, readRs_t, retV_1, Option.some.injEq, exists_eq_left', getK_set, Nat.reduceEqDiff, ↓reduceIte, g1, g7, g9, g11, hs1, hs2, iE, fw64, hd, ix, hld]
          exact ⟨by rw [← hno], hG⟩
        | false =>
          rw [hbd] at hld
          simp (disch := omega) only [f109_r9, f109_r10, f109_r12, f109_r13, w_skip, w_reg, w_draw, w_seq, w_cond, seqK_n, atK_n, loopK_n, ckB_b, cbB_b, true_and, x_nil, x_mv, x_as, x_ld, x_st, x_bin, x_iadr, kx, kg, xg_nil, xg_mv, xg_ld, xg_bin, xg_iads, xg_max, xd_cons, fresh_nil, stK_n, stK_s, stay_nil, rvP_ok, okv_some, ev_t, ev_c, getV_some, putD_some, putD_none, bin_add, bin_sub, onP_p, max_ii, of1, getK_set, Nat.reduceEqDiff, ↓reduceIte, Bool.false_eq_true, g1, g7, g8, g9, g11, hs1, hs2, iE, fw64, hd, ix, hld, hst]
          refine ⟨j + 1, by omega, by omega, hG.trans (Grow.put (Nat.le_refl _) hnx _), hnx, ⟨B.set d true, by simpa using hB, ?_, fun k hk => ?_⟩, hsn.2 ⟨hP, fun e he h1 _ h2 => ?_⟩, by simp (disch := omega) only [getK_set, Nat.reduceEqDiff, ↓reduceIte, g0, g1, g2, g7, and_self, Int.natCast_add, Int.natCast_one]⟩
          · show (h1.put _ _).get _ = .cells (B.set d true).length _
            rw [get_put_same, List.length_set, hB]
          · have hk' : k < B.length := by simpa using hk
            rw [List.getElem_set, htk]
            by_cases e : d = k
            · subst e
              rw [if_pos rfl]
              exact ⟨fun _ => ⟨_, List.mem_append_right _ (by simp), by simp only; omega, hdf⟩, fun _ => rfl⟩
            · rw [if_neg e, hM k hk']
              constructor
              · rintro ⟨e, he, h1⟩
                exact ⟨e, List.mem_append_left _ he, h1⟩
              · rintro ⟨e', he, h1, h2⟩
                rcases List.mem_append.1 he with he | he
                · exact ⟨e', he, h1, h2⟩
                · rw [List.mem_singleton.1 he, hdf] at h2
                  exact absurd (by omega) e
          · rw [hdf] at h2
            rw [(hM d (by omega)).2 ⟨e, he, h1, h2⟩] at hbd; cases hbd
      by_cases hbl2 : b < L.length
      · have hlt2 : (b : Int) < (L.length : Int) := by omega
        obtain ⟨t, ht1, ht2, ht3⟩ := hw1.atb b hbl2
        obtain ⟨q1, q2⟩ := hlin _ (List.getElem_mem hbl2)
        simp (disch := omega) only [f109_r8, w_draw, w_seq, seqK_n, x_nil, x_mv, x_as, x_ld, x_iads, kx, rvP_ok, ev_t, getV_some, putD_some, getK_set, Nat.reduceEqDiff, ↓reduceIte, g1, hlt2, ht1, ht2, iE]
        show W fs none f109_t _ _ _
        refine tail L[b] _ q1 (by omega) ?_ (by simp (disch := omega) only [getK_set, Nat.reduceEqDiff, ↓reduceIte, g0, g1, g2, g7, g8, and_self])
        rw [dfE_low hE0 hmemE (by simp only; omega)]
        unfold dfE absD
        simp only [Int.toNat_natCast, List.getD_eq_getElem?_getD, List.getElem?_eq_getElem hbl2, Option.getD_some]
        split <;> omega
      · have hlt2 : ¬ (b : Int) < (L.length : Int) := by omega
        simp (disch := omega) only [↓reduceIte, hlt2]
        show W fs none f109_t _ _ _
        refine tail x _ hx.1 (by omega) ?_ (by simp (disch := omega) only [getK_set, Nat.reduceEqDiff, ↓reduceIte, g0, g1, g2, g7, g8, and_self])
        rw [dfE_top hE0 hmemE (by simp only; omega)]
        unfold dxE absD
        simp only [Int.toNat_natCast]
        split <;> omega
  · have d0 : decide ((j : Int) < (E.length : Int)) = false := by simpa using hlt
    have ej : j = E.length := by omega
    rw [ej, List.take_length] at hP
    simp (disch := omega) only [f109_r3, f109_r14, w_reg, w_seq, w_cond, w_block, w_exit, seqK_n, seqK_e, atK_e, loopK_e, ckB_b, cbB_b, true_and, x_nil, x_mv, x_as, x_bin, x_len, kx, rvP_ok, okv_some, ev_t, ev_c, getV_some, putD_some, bin_lss, of0, getK_set, Nat.reduceEqDiff, ↓reduceIte, Bool.false_eq_true, g0, g8, hv1.len, d0]
    refine W_loop (f109_I2 h w x L) (fun i => L.length - i) ?_ 0 ⟨by omega, hG, by simp, by simp (disch := omega) only [getK_set, Nat.reduceEqDiff, ↓reduceIte, g1, g2, and_self, Int.natCast_zero]⟩
    clear hG hnx hA hM hv1 hw1 hc1 g0 g1 g2 g7 g8
    rintro i fr h2 ⟨hi, hG, hni, g1, g2, g13⟩
    have hw2 := hw.grow hc hG
    unfold f109_l1
    by_cases hil : i < L.length
    · have d1 : decide ((i : Int) < (L.length : Int)) = true := by simpa using hil
      obtain ⟨t, ht1, ht2⟩ := hw2.at i hil
      cases d2 : decide (L[i] = x) with
      | true =>
        have hno : false = fitB E L x := fitB_eq ⟨fun h => (by cases h), fun h => absurd (by rw [← of_decide_eq_true d2]; exact List.getElem_mem hil) h.2⟩
        simp (disch := omega) only [f109_r15, f109_r16, f109_r17, f109_rs, w_skip, w_reg, w_seq, w_cond, w_block, w_ret, seqK_n, seqK_r, atK_r, loopK_r, ckB_b, cbB_b, true_and, retK_r, x_nil, x_mv, x_as, x_ld, x_bin, x_iads, x_len, kx, rvP_ok, okv_some, ev_t, ev_c, getV_some, putD_some, bin_eql, bin_lss, oGet_s, readRs_nil, readRs_t, retV_1, Option.some.injEq, exists_eq_left', getK_set, Nat.reduceEqDiff, ↓reduceIte, g1, g2, g13, hw2.len, d1, ht1, ht2, iE, d2]
        exact ⟨by rw [← hno], hG⟩
      | false =>
        simp (disch := omega) only [f109_r15, f109_r16, f109_r18, w_skip, w_reg, w_seq, w_cond, w_block, seqK_n, atK_n, loopK_n, ckB_b, cbB_b, true_and, x_nil, x_mv, x_as, x_ld, x_bin, x_iads, x_len, kx, rvP_ok, okv_some, ev_t, ev_c, getV_some, putD_some, bin_add, bin_eql, bin_lss, of1, getK_set, Nat.reduceEqDiff, ↓reduceIte, Bool.false_eq_true, g1, g2, g13, hw2.len, d1, ht1, ht2, iE, d2, fw64]
        refine ⟨i + 1, by omega, by omega, hG, ?_, by simp (disch := omega) only [getK_set, Nat.reduceEqDiff, ↓reduceIte, g1, g2, and_self, Int.natCast_add, Int.natCast_one]⟩
        rw [List.take_succ_eq_append_getElem hil, List.mem_append, not_or]
        exact ⟨hni, fun h => of_decide_eq_false d2 (List.mem_singleton.1 h).symm⟩
    · have d1 : decide ((i : Int) < (L.length : Int)) = false := by simpa using hil
      have ei : i = L.length := by omega
      rw [ei, List.take_length] at hni
      have hyes : true = fitB E L x := fitB_eq ⟨fun _ => ⟨hP, hni⟩, fun _ => rfl⟩
      simp (disch := omega) only [f109_r15, f109_r19, f109_rs, w_reg, w_seq, w_cond, w_exit, w_ret, seqK_n, seqK_e, atK_e, loopK_e, ckB_b, cbB_b, true_and, retK_r, x_nil, x_mv, x_as, x_bin, x_len, kx, rvP_ok, okv_some, ev_t, ev_c, getV_some, putD_some, bin_lss, oGet_s, readRs_nil, readRs_t, retV_1, Option.some.injEq, exists_eq_left', getK_set, Nat.reduceEqDiff, ↓reduceIte, Bool.false_eq_true, g1, g13, hw2.len, d1]
      exact ⟨by rw [← hyes], hG⟩
/-! ### The search -/
theorem OSr.grow {u : V} {o : Option (List Int)} (hs : OSr h u o) (hc : HC h) (hg : Grow h.nx.nat h h') : OSr h' u o := by
  cases o with
  | none => exact hs
  | some R => exact ⟨hs.1.grow hc hg, hs.2⟩
theorem OSr.isn {u : V} {o : Option (List Int)} (hs : OSr h u o) (h1 : H) : isnilV false u h1 = .ok (.b o.isNone) h1 := by
  cases o with
  | none => have : u = .sn := hs
            subst this; rfl
  | some R =>
    rcases hs with ⟨⟨_, h2⟩ | ⟨_, _, _, _, rfl, _⟩, h3⟩
    · exact absurd h2 h3
    · rfl
def cntF (bf : Bool) (R : List (List Int)) : Nat := if bf = true then min 1 R.length else R.length
def SeF (bf : Bool) (R : List (List Int)) (h : H) (r : V) : Prop := ∃ u, r = .tup [u, .i .i64 (cntF bf R : Int)] ∧ OSr h u R.head?
def subR (n : Nat) (E : List (Int × Int)) (bp : Bool) (f : Nat) (L : List Int) (x : Nat) : List (List Int) := if fitB E L (x : Int) = true then renL n E bp f (L ++ [(x : Int)]) else []
def uptoR (n : Nat) (E : List (Int × Int)) (bp : Bool) (f : Nat) (L : List Int) (x : Nat) : List (List Int) := (List.range x).flatMap (subR n E bp f L)
theorem uptoR_succ {bp : Bool} {f y : Nat} : uptoR n E bp f L (y + 1) = uptoR n E bp f L y ++ subR n E bp f L y := by
  unfold uptoR; rw [List.range_succ, List.flatMap_append]; simp
theorem renL_succ {bp : Bool} {f : Nat} : renL n E bp (f + 1) L = uptoR n E bp f L (E.length + 1) := rfl
theorem uptoR_split {bp : Bool} {f y : Nat} : ∀ m : Nat, y ≤ m → ∃ R, uptoR n E bp f L m = uptoR n E bp f L y ++ R
  | 0, h => ⟨[], by rw [show y = 0 by omega]; simp⟩
  | m + 1, h => by
    by_cases e : y = m + 1
    · subst e; exact ⟨[], by simp⟩
    · obtain ⟨R, hR⟩ := uptoR_split (bp := bp) (f := f) (y := y) m (by omega)
      exact ⟨R ++ subR n E bp f L m, by rw [uptoR_succ, hR]; simp⟩
theorem uptoR_le {bp : Bool} {f y : Nat} (hE : E.length ≤ 10) : (uptoR n E bp f L y).length ≤ y * 11 ^ f := by
  refine Nat.le_trans (flat_le (k := 11 ^ f) _ fun x _ => ?_) (by rw [List.length_range]; exact Nat.le_refl _)
  unfold subR
  split
  · exact Nat.le_trans (renL_le f _) (Nat.pow_le_pow_left (by omega) f)
  · simp
theorem head_app {α : Type} {A B : List α} : (A ++ B).head? = if A = [] then B.head? else A.head? := by
  cases A <;> simp
def f70_I2 (h : H) (n f : Nat) (v w : V) (E : List (Int × Int)) (L : List Int) (bp bf : Bool) (x : Nat) (fr : Fr) (h1 : H) : Prop := x ≤ E.length + 1 ∧ Grow h.nx.nat h h1 ∧ (bf = true → uptoR n E bp f L x = []) ∧ ∃ u, OSr h1 u (uptoR n E bp f L x).head? ∧ fr.get (K.ofNat 0) = some (.i .i64 (n : Int)) ∧ fr.get (K.ofNat 1) = some (v) ∧ fr.get (K.ofNat 2) = some (w) ∧ fr.get (K.ofNat 3) = some (.b bp) ∧ fr.get (K.ofNat 4) = some (.b bf) ∧ fr.get (K.ofNat 14) = some (u) ∧ fr.get (K.ofNat 15) = some (.i .i64 ((uptoR n E bp f L x).length : Int)) ∧ fr.get (K.ofNat 16) = some (.i .i64 (x : Int))
theorem f70_ret (k : CallsSe fs) (hE : EdgesOk n E) (hn0 : 0 < n) {bp bf : Bool} : ∀ (f : Nat) {h : H} {v w : V} {L : List Int}, HC h → Srp h v E → Sr iE h w L → LabOk E L → L.length + f = n → Ret fs f70 [.i .i64 (n : Int), v, w, .b bp, .b bf] h fun r h' => SeF bf (renL n E bp f L) h' r ∧ Grow h.nx.nat h h' := by
  intro f
  have hE10 : E.length ≤ 10 := hE.1
  have hn7 : n ≤ 7 := hE.2.1
  induction f with
  | zero =>
    intro h v w L hc hv hw hlin hf
    apply ret_of rfl
    show W fs none f70_c _ _ _
    unfold f70_c
    have d0 : decide ((L.length : Int) = (n : Int)) = true := by simp; omega
    simp (disch := omega) only [f70_r0, f70_r1, f70_r2, w_reg, w_seq, w_cond, seqK_n, ckB_b, cbB_b, true_and, x_nil, x_mv, x_as, x_bin, x_call, x_len, kx, rvP_ok, okv_some, ev_t, ev_c, evs_nil, evs_cons, getV_some, putD_some, bin_eql, of0, getK_set, Nat.reduceEqDiff, ↓reduceIte, frame_5, hw.len, d0]
    refine (callP_0 (ef := f33) k.c33 rfl (f33_ret hv hw hE (by omega))).mono ?_
    rintro r h1 ⟨rfl, rfl⟩
    simp (disch := omega) only [f70_r3, w_reg, w_seq, seqK_n, x_nil, x_mv, x_as, x_ext, x_call, kx, rvP_ok, okv_some, ev_t, ev_c, evs_nil, evs_cons, getV_some, putD_some, onTup_t, nth0, nth1, getK_set, Nat.reduceEqDiff, ↓reduceIte]
    refine (callP_0 (ef := f32) k.c32 rfl (f32_ret hv hw hc hE (by omega))).mono ?_
    rintro r h2 ⟨rfl, hG⟩
    have hLne : L ≠ [] := fun e => by rw [e] at hf; simp at hf; omega
    have e0 : renL n E bp 0 L = leafL n E bp L := rfl
    have no : leafL n E bp L = [] → SeF bf (renL n E bp 0 L) h2 (.tup [.sn, .i .i64 0]) := fun h => ⟨.sn, by rw [e0, h]; cases bf <;> rfl, by rw [e0, h]; rfl⟩
    have yes : leafL n E bp L = [L] → SeF bf (renL n E bp 0 L) h2 (.tup [w, .i .i64 1]) := fun h => ⟨w, by rw [e0, h]; cases bf <;> rfl, by rw [e0, h]; exact ⟨hw.grow hc hG, hLne⟩⟩
    unfold leafL at no yes
    cases hg : grB (n : Int) E L <;> cases hp : (prtO E L).isSome <;> cases bp
    all_goals (rw [hg, hp] at no yes; simp (disch := omega) only [f70_r4, f70_r5, f70_rs, w_skip, w_reg, w_seq, w_cond, w_ret, seqK_n, seqK_r, ckB_b, cbB_b, okG_b, okG_u, asG_t, asG_f, asG_u, true_and, retK_r, x_nil, x_g, x_mv, x_as, x_pick, x_not, kx, rvP_ok, ev_t, ev_c, getV_some, putD_some, pick_b, onB_b, oGet_s, readRs_nil, readRs_t, retV_2, of0, of1, Option.some.injEq, exists_eq_left', getK_set, Nat.reduceEqDiff, ↓reduceIte, Bool.false_eq_true, Bool.not_true, Bool.not_false, Bool.not_true, Bool.not_false]; first | exact ⟨no rfl, hG⟩ | exact ⟨yes rfl, hG⟩)
  | succ f ih =>
    intro h v w L hc hv hw hlin hf
    apply ret_of rfl
    show W fs none f70_c _ _ _
    unfold f70_c
    have d0 : decide ((L.length : Int) = (n : Int)) = false := by simp; omega
    simp (disch := omega) only [f70_r0, f70_r1, f70_r6, f70_r7, f70_r8, w_skip, w_reg, w_seq, w_cond, w_block, seqK_n, ckB_b, cbB_b, true_and, x_nil, x_mv, x_as, x_bin, x_len, kx, rvP_ok, okv_some, ev_t, ev_c, getV_some, putD_some, bin_eql, of0, getK_set, Nat.reduceEqDiff, ↓reduceIte, Bool.false_eq_true, frame_5, hw.len, d0]
    refine W_loop (f70_I2 h n f v w E L bp bf) (fun x => E.length + 1 - x) ?_ 0 ⟨by omega, Grow.refl _ _, fun _ => rfl, .sn, rfl, by simp (disch := omega) only [getK_set, Nat.reduceEqDiff, ↓reduceIte, and_self, Int.natCast_zero, uptoR, List.range_zero, List.flatMap_nil, List.length_nil]⟩
    rintro x fr h1 ⟨hx, hG, hbf, u, hsu, g0, g1, g2, g3, g4, g14, g15, g16⟩
    have hc1 := hG.hc hc
    have hv1 := hv.grow hc hG
    have hw1 := hw.grow hc hG
    have hp : 11 ^ f ≤ 11 ^ 7 := Nat.pow_le_pow_right (by omega) (by omega)
    have hp7 : 11 ^ 7 = 19487171 := by decide
    have hle1 := uptoR_le (n := n) (L := L) (bp := bp) (f := f) (y := x + 1) hE10
    have hpx2 : (x + 1) * 11 ^ f ≤ 12 * 11 ^ f := Nat.mul_le_mul_right _ (by omega)
    have hsx := uptoR_succ (n := n) (E := E) (L := L) (bp := bp) (f := f) (y := x)
    rw [hsx, List.length_append] at hle1
    unfold f70_l0
    by_cases hlt : x ≤ E.length
    · have d1 : decide ((x : Int) ≤ (E.length : Int)) = true := by simp; omega
      simp (disch := omega) only [f70_r9, f70_r10, w_skip, w_reg, w_seq, w_cond, w_block, seqK_n, ckB_b, cbB_b, true_and, x_nil, x_mv, x_bin, x_call, x_len, kx, rvP_ok, okv_some, ev_t, ev_c, evs_nil, evs_cons, getV_some, putD_some, bin_leq, getK_set, Nat.reduceEqDiff, ↓reduceIte, g1, g2, g16, hv1.len, d1]
      refine (callP_0 (ef := f109) k.c109 rfl (f109_ret hv1 hw1 hc1 hE hlin (by omega) ⟨by omega, by omega⟩)).mono ?_
      rintro r h2 ⟨rfl, hG2⟩
      have hGb := hG.trans (hG2.low hG.nx)
      have hc2 := hG2.hc hc1
      have hv2 := hv1.grow hc1 hG2
      have hw2 := hw1.grow hc1 hG2
      have hsu2 := hsu.grow hc1 hG2
      cases hfit : fitB E L (x : Int) with
      | false =>
        have hsub : subR n E bp f L x = [] := by unfold subR; rw [hfit]; rfl
        rw [hsub, List.append_nil] at hsx
        simp (disch := omega) only [f70_r20, w_reg, w_cond, w_exit, seqK_n, seqK_e, atK_e, loopK_n, ckB_b, cbB_b, true_and, x_nil, x_mv, x_as, x_bin, x_not, kx, rvP_ok, okv_some, ev_t, ev_c, getV_some, putD_some, bin_add, onB_b, of1, getK_set, Nat.reduceEqDiff, ↓reduceIte, Bool.not_false, g16, Bool.not_false, fw64]
        exact ⟨x + 1, by omega, by omega, hGb, by rw [hsx]; exact hbf, u, by rw [hsx]; exact hsu2, by simp (disch := omega) only [getK_set, Nat.reduceEqDiff, ↓reduceIte, g0, g1, g2, g3, g4, g14, g15, hsx, and_self, Int.natCast_add, Int.natCast_one]⟩
      | true =>
        have hsub : subR n E bp f L x = renL n E bp f (L ++ [(x : Int)]) := by unfold subR; rw [hfit]; rfl
        obtain ⟨v1, h3, a1, s1, o1, gr1, _⟩ := Sl.appR (e := iE) (b := h2.nx.nat) (h := h2) (v := .sn) (L := []) Sl.nil Own.sn (Nat.le_refl _) hw2 hc2 (by simp; omega)
        rw [List.nil_append] at s1
        have hc3 := gr1.hc hc2
        obtain ⟨v3, h4, a3, s3, o3, gr3, _⟩ := Sl.push (e := iE) (x := (x : Int)) (c := .i .i64 (x : Int)) rfl s1 o1 gr1.nx hc3 (by omega)
        have gg := gr1.trans gr3
        have hc4 := gr3.hc hc3
        have hlin2 : LabOk E (L ++ [(x : Int)]) := fun y hy => by
          rcases List.mem_append.1 hy with hy | hy
          · exact hlin y hy
          · have : y = (x : Int) := by simpa using hy
            omega
        simp (disch := omega) only [f70_r11, f70_r12, f70_r13, f70_r14, w_skip, w_reg, w_seq, w_cond, seqK_n, ckB_b, cbB_b, true_and, x_nil, x_mv, x_as, x_bslice, x_not, x_call, x_app, kx, rvP_ok, ev_t, ev_c, evs_nil, evs_cons, getV_some, putD_some, onB_b, oGet_s, cells1_i, fill_1, set_1, of0, getK_set, Nat.reduceEqDiff, ↓reduceIte, Bool.false_eq_true, Bool.not_true, g0, g1, g2, g3, g4, g16, Bool.not_true, a1, fill_1, set_1, a3]
        refine (callP_0 (ef := f70) k.c70 rfl (ih hc4 (hv2.grow hc2 gg) s3.sr hlin2 (by simp; omega))).mono ?_
        rintro r h5 ⟨⟨u5, rfl, hs5⟩, hG5⟩
        rw [← hsub] at hs5 ⊢
        have hGe := hGb.trans ((gg.trans (hG5.low gg.nx)).low hGb.nx)
        have hsu5 := (hsu2.grow hc2 gg).grow hc4 hG5
        have isn : ∀ h1, isnilV false u h1 = .ok (.b (uptoR n E bp f L x).head?.isNone) h1 := hsu.isn
        have hcl : cntF bf (subR n E bp f L x) ≤ (subR n E bp f L x).length := by unfold cntF; split <;> omega
        have hcq : bf = false → cntF bf (subR n E bp f L x) = (subR n E bp f L x).length := fun h => by unfold cntF; rw [h]; rfl
        have fin : ∀ fr (u6 : V), OSr h5 u6 (uptoR n E bp f L (x + 1)).head? → fr.get (K.ofNat 0) = some (.i .i64 (n : Int)) ∧ fr.get (K.ofNat 1) = some (v) ∧ fr.get (K.ofNat 2) = some (w) ∧ fr.get (K.ofNat 3) = some (.b bp) ∧ fr.get (K.ofNat 4) = some (.b bf) ∧ fr.get (K.ofNat 14) = some (u6) ∧ fr.get (K.ofNat 15) = some (.i .i64 ((uptoR n E bp f L x).length : Int)) ∧ fr.get (K.ofNat 16) = some (.i .i64 (x : Int)) ∧ fr.get (K.ofNat 19) = some (.i .i64 (cntF bf (subR n E bp f L x) : Int)) → W fs none f70_t (atK 1 (seqK (W fs none (.reg f70_r20)) (loopK (f70_I2 h n f v w E L bp bf) (fun x => E.length + 1 - x) x (atK 0 (seqK (W fs none (.seq (.reg f70_r21) .ret)) (retK f70 fun r h' => SeF bf (renL n E bp (f + 1) L) h' r ∧ Grow h.nx.nat h h')))))) fr h5 := by
          clear g0 g1 g2 g3 g4 g14 g15 g16 fr
          rintro fr u6 hs6 ⟨g0, g1, g2, g3, g4, g14, g15, g16, g19⟩
          unfold f70_t
          have hqk : (((uptoR n E bp f L x).length : Int) + (cntF bf (subR n E bp f L x) : Int)) = (((uptoR n E bp f L x).length + cntF bf (subR n E bp f L x) : Nat) : Int) := by omega
          have next : ∀ fr, (uptoR n E bp f L x).length + cntF bf (subR n E bp f L x) = (uptoR n E bp f L (x + 1)).length → (bf = true → uptoR n E bp f L (x + 1) = []) → fr.get (K.ofNat 0) = some (.i .i64 (n : Int)) ∧ fr.get (K.ofNat 1) = some (v) ∧ fr.get (K.ofNat 2) = some (w) ∧ fr.get (K.ofNat 3) = some (.b bp) ∧ fr.get (K.ofNat 4) = some (.b bf) ∧ fr.get (K.ofNat 14) = some (u6) ∧ fr.get (K.ofNat 15) = some (.i .i64 (((uptoR n E bp f L x).length + cntF bf (subR n E bp f L x) : Nat) : Int)) ∧ fr.get (K.ofNat 16) = some (.i .i64 (x : Int)) → Go.Ev.X fs f70_r20 (loopK (f70_I2 h n f v w E L bp bf) (fun x => E.length + 1 - x) x (atK 0 (seqK (W fs none (.seq (.reg f70_r21) .ret)) (retK f70 fun r h' => SeF bf (renL n E bp (f + 1) L) h' r ∧ Grow h.nx.nat h h'))) .normal) fr h5 := by
            clear g0 g1 g2 g3 g4 g14 g15 g16 g19 fr
            rintro fr hlen hem ⟨g0, g1, g2, g3, g4, g14, g15, g16⟩
            rw [hlen] at g15
            simp (disch := omega) only [f70_r20, loopK_n, x_nil, x_mv, x_as, x_bin, kx, rvP_ok, okv_some, ev_t, ev_c, getV_some, putD_some, bin_add, of1, getK_set, ↓reduceIte, g16, fw64]
            exact ⟨x + 1, by omega, by omega, hGe, hem, u6, hs6, by simp (disch := omega) only [getK_set, Nat.reduceEqDiff, ↓reduceIte, g0, g1, g2, g3, g4, g14, g15, and_self, Int.natCast_add, Int.natCast_one]⟩
          cases hbfc : bf with
          | false =>
            subst hbfc
            simp (disch := omega) only [f70_r17, f70_r18, w_skip, w_reg, w_seq, w_cond, seqK_n, atK_n, ckB_b, cbB_b, okG_b, asG_t, true_and, x_nil, x_g, x_mv, x_as, x_pick, x_bin, kx, rvP_ok, okv_some, ev_t, ev_c, getV_some, putD_some, bin_add, pick_b, of0, getK_set, Nat.reduceEqDiff, ↓reduceIte, Bool.false_eq_true, g4, g15, g19, fw64, hqk]
            exact next _ (by rw [hcq rfl, hsx, List.length_append]) (fun h => by cases h) (by simp (disch := omega) only [getK_set, Nat.reduceEqDiff, ↓reduceIte, g0, g1, g2, g3, g4, g14, g16, and_self])
          | true =>
            subst hbfc
            have hup := hbf rfl
            cases dq : decide ((((uptoR n E bp f L x).length + cntF true (subR n E bp f L x) : Nat) : Int) > 0) with
            | false =>
              have hz : subR n E bp f L x = [] := by
                have := of_decide_eq_false dq
                have h0 : cntF true (subR n E bp f L x) = 0 := by omega
                unfold cntF at h0
                rw [if_pos rfl] at h0
                exact List.length_eq_zero_iff.1 (by omega)
              simp (disch := omega) only [f70_r17, f70_r18, w_skip, w_reg, w_seq, w_cond, seqK_n, atK_n, ckB_b, cbB_b, okG_b, asG_t, true_and, x_nil, x_g, x_mv, x_as, x_pick, x_bin, kx, rvP_ok, okv_some, ev_t, ev_c, getV_some, putD_some, bin_add, bin_gtr, pick_b, of0, getK_set, Nat.reduceEqDiff, ↓reduceIte, Bool.false_eq_true, g4, g15, g19, fw64, hqk, dq]
              exact next _ (by rw [hsx, hz, List.append_nil]; rfl) (fun _ => by rw [hsx, hz, hup]; rfl) (by simp (disch := omega) only [getK_set, Nat.reduceEqDiff, ↓reduceIte, g0, g1, g2, g3, g4, g14, g16, and_self])
            | true =>
              have hpos : 0 < (subR n E bp f L x).length := by
                have := of_decide_eq_true dq
                rw [hup] at this
                have h0 : 0 < cntF true (subR n E bp f L x) := by simpa using this
                unfold cntF at h0
                rw [if_pos rfl] at h0
                omega
              obtain ⟨R, hR⟩ := uptoR_split (n := n) (E := E) (L := L) (bp := bp) (f := f) (y := x + 1) (E.length + 1) (by omega)
              have hne : uptoR n E bp f L (x + 1) ≠ [] := fun e => by rw [hsx, hup, List.nil_append] at e; rw [e] at hpos; simp at hpos
              simp (disch := omega) only [f70_r17, f70_r18, f70_r19, f70_rs, w_reg, w_seq, w_cond, w_ret, seqK_n, seqK_r, atK_r, loopK_r, ckB_b, cbB_b, okG_b, asG_t, true_and, retK_r, x_nil, x_g, x_mv, x_as, x_pick, x_bin, kx, rvP_ok, okv_some, ev_t, ev_c, getV_some, putD_some, bin_add, bin_gtr, pick_b, oGet_s, readRs_nil, readRs_t, retV_2, of0, Option.some.injEq, exists_eq_left', getK_set, Nat.reduceEqDiff, ↓reduceIte, g4, g14, g15, g19, fw64, hqk, dq]
              refine ⟨⟨u6, ?_, ?_⟩, hGe⟩
              · have e1 : (uptoR n E bp f L x).length + cntF true (subR n E bp f L x) = 1 := by
                  rw [hup]; unfold cntF; rw [if_pos rfl]; simp; omega
                have e2 : cntF true (renL n E bp (f + 1) L) = 1 := by
                  rw [renL_succ, hR, hsx, hup]; unfold cntF; rw [if_pos rfl]; simp; omega
                rw [e1, e2]
              · rw [renL_succ, hR, head_app, if_neg hne]; exact hs6
        cases hu : (uptoR n E bp f L x).head?.isNone with
        | true =>
          rw [hu] at isn
          have hem : uptoR n E bp f L x = [] := by
            cases hq : uptoR n E bp f L x with
            | nil => rfl
            | cons a l => rw [hq] at hu; cases hu
          simp (disch := omega) only [f70_r15, f70_r16, w_reg, w_seq, w_cond, seqK_n, ckB_b, cbB_b, true_and, x_nil, x_mv, x_as, x_ext, x_isnil, kx, rvP_ok, okv_some, ev_t, getV_some, putD_some, onTup_t, nth0, nth1, getK_set, Nat.reduceEqDiff, ↓reduceIte, g14, isn]
          show W fs none f70_t _ _ _
          exact fin _ u5 (by rw [hsx, hem, List.nil_append]; exact hs5) (by simp (disch := omega) only [getK_set, Nat.reduceEqDiff, ↓reduceIte, g0, g1, g2, g3, g4, g15, g16, and_self])
        | false =>
          rw [hu] at isn
          have hem : uptoR n E bp f L x ≠ [] := fun e => by rw [e] at hu; cases hu
          simp (disch := omega) only [f70_r15, w_skip, w_reg, w_seq, w_cond, seqK_n, ckB_b, cbB_b, true_and, x_nil, x_mv, x_as, x_ext, x_isnil, kx, rvP_ok, okv_some, ev_t, getV_some, putD_some, onTup_t, nth0, nth1, getK_set, Nat.reduceEqDiff, ↓reduceIte, Bool.false_eq_true, g14, isn]
          show W fs none f70_t _ _ _
          exact fin _ u (by rw [hsx, head_app, if_neg hem]; exact hsu5) (by simp (disch := omega) only [getK_set, Nat.reduceEqDiff, ↓reduceIte, g0, g1, g2, g3, g4, g14, g15, g16, and_self])
    · have d1 : decide ((x : Int) ≤ (E.length : Int)) = false := by simp; omega
      obtain rfl : x = E.length + 1 := by omega
      simp (disch := omega) only [f70_r9, f70_r21, f70_rs, w_reg, w_seq, w_cond, w_exit, w_ret, seqK_n, seqK_e, atK_e, loopK_e, ckB_b, cbB_b, true_and, retK_r, x_nil, x_mv, x_as, x_bin, x_len, kx, rvP_ok, okv_some, ev_t, getV_some, putD_some, bin_leq, oGet_s, readRs_nil, readRs_t, retV_2, Option.some.injEq, exists_eq_left', getK_set, Nat.reduceEqDiff, ↓reduceIte, Bool.false_eq_true, g1, g14, g15, g16, hv1.len, d1]
      refine ⟨⟨u, ?_, hsu⟩, hG⟩
      rw [renL_succ]
      cases hbfc : bf with
      | false => rfl
      | true => rw [hbf hbfc]; rfl
end
end Go.Ev
namespace Go.Ev
open Go Go.RowKit
noncomputable def f4_r0 : List EOper := [⟨(some (K.ofNat 4)), none, .as (.c (.b false))⟩]
noncomputable def f4_r1 : List EOper := [⟨(some (K.ofNat 18)), none, .mv (.t (K.ofNat 0))⟩, ⟨(some (K.ofNat 19)), none, .mv (.t (K.ofNat 1))⟩, ⟨(some (K.ofNat 20)), none, .call (.c (.fn (K.ofNat 28) [])) [(.t (K.ofNat 18)), (.t (K.ofNat 19)), (.c (.i .i64 (.ofNat 10)))]⟩, ⟨(some (K.ofNat 17)), none, .mv (.t (K.ofNat 20))⟩, ⟨(some (K.ofNat 21)), none, .ext (.t (K.ofNat 17)) 0⟩, ⟨(some (K.ofNat 22)), none, .ext (.t (K.ofNat 17)) 1⟩, ⟨(some (K.ofNat 5)), none, .as (.t (K.ofNat 21))⟩, ⟨(some (K.ofNat 6)), none, .as (.t (K.ofNat 22))⟩]
noncomputable def f4_r2 : List EOper := [⟨(some (K.ofNat 24)), none, .mv (.t (K.ofNat 5))⟩, ⟨(some (K.ofNat 25)), none, .mv (.t (K.ofNat 6))⟩, ⟨(some (K.ofNat 26)), none, .call (.c (.fn (K.ofNat 24) [])) [(.t (K.ofNat 24)), (.t (K.ofNat 25))]⟩, ⟨(some (K.ofNat 23)), none, .mv (.t (K.ofNat 26))⟩, ⟨(some (K.ofNat 27)), none, .ext (.t (K.ofNat 23)) 0⟩, ⟨(some (K.ofNat 28)), none, .ext (.t (K.ofNat 23)) 1⟩, ⟨(some (K.ofNat 29)), none, .ext (.t (K.ofNat 23)) 2⟩, ⟨(some (K.ofNat 7)), none, .as (.t (K.ofNat 27))⟩, ⟨(some (K.ofNat 8)), none, .as (.t (K.ofNat 28))⟩, ⟨(some (K.ofNat 9)), none, .as (.t (K.ofNat 29))⟩]
noncomputable def f4_r3 : List EOper := [⟨(some (K.ofNat 31)), none, .mv (.t (K.ofNat 5))⟩, ⟨(some (K.ofNat 32)), none, .mv (.t (K.ofNat 6))⟩, ⟨(some (K.ofNat 33)), none, .call (.c (.fn (K.ofNat 25) [])) [(.t (K.ofNat 31)), (.t (K.ofNat 32))]⟩, ⟨(some (K.ofNat 30)), none, .mv (.t (K.ofNat 33))⟩, ⟨(some (K.ofNat 34)), none, .ext (.t (K.ofNat 30)) 0⟩, ⟨(some (K.ofNat 35)), none, .ext (.t (K.ofNat 30)) 1⟩, ⟨(some (K.ofNat 10)), none, .as (.t (K.ofNat 34))⟩, ⟨(some (K.ofNat 11)), none, .as (.t (K.ofNat 35))⟩]
noncomputable def f4_r4 : List EOper := [⟨(some (K.ofNat 37)), none, .mv (.t (K.ofNat 5))⟩, ⟨(some (K.ofNat 38)), none, .mv (.t (K.ofNat 6))⟩, ⟨(some (K.ofNat 39)), none, .call (.c (.fn (K.ofNat 26) [])) [(.t (K.ofNat 37)), (.t (K.ofNat 38))]⟩, ⟨(some (K.ofNat 36)), none, .mv (.t (K.ofNat 39))⟩, ⟨(some (K.ofNat 40)), none, .ext (.t (K.ofNat 36)) 0⟩, ⟨(some (K.ofNat 41)), none, .ext (.t (K.ofNat 36)) 1⟩, ⟨(some (K.ofNat 42)), none, .ext (.t (K.ofNat 36)) 2⟩, ⟨(some (K.ofNat 12)), none, .as (.t (K.ofNat 40))⟩, ⟨(some (K.ofNat 13)), none, .as (.t (K.ofNat 41))⟩, ⟨(some (K.ofNat 14)), none, .as (.t (K.ofNat 42))⟩]
noncomputable def f4_r5 : List EOper := [⟨(some (K.ofNat 43)), none, .mv (.t (K.ofNat 5))⟩, ⟨(some (K.ofNat 44)), none, .mv (.t (K.ofNat 6))⟩, ⟨(some (K.ofNat 45)), none, .call (.c (.fn (K.ofNat 29) [])) [(.t (K.ofNat 43)), (.t (K.ofNat 44)), (.c (.b false))]⟩, ⟨(some (K.ofNat 46)), none, .mv (.t (K.ofNat 5))⟩, ⟨(some (K.ofNat 47)), none, .mv (.t (K.ofNat 6))⟩, ⟨(some (K.ofNat 48)), none, .call (.c (.fn (K.ofNat 29) [])) [(.t (K.ofNat 46)), (.t (K.ofNat 47)), (.c (.b true))]⟩, ⟨(some (K.ofNat 15)), none, .as (.t (K.ofNat 45))⟩, ⟨(some (K.ofNat 16)), none, .as (.t (K.ofNat 48))⟩]
noncomputable def f4_r6 : List EOper := [⟨(some (K.ofNat 49)), none, .mv (.t (K.ofNat 9))⟩, ⟨(some (K.ofNat 50)), none, .bin .eql (.t (K.ofNat 49)) (.c (.i .i64 (.ofNat 0)))⟩, ⟨(some (K.ofNat 51)), none, .mv (.t (K.ofNat 50))⟩, ⟨(some (K.ofNat 52)), (some ((K.ofNat 51), true)), .mv (.t (K.ofNat 8))⟩, ⟨(some (K.ofNat 53)), (some ((K.ofNat 51), true)), .mv (.t (K.ofNat 15))⟩, ⟨(some (K.ofNat 54)), (some ((K.ofNat 51), true)), .isnil true (.t (K.ofNat 53))⟩, ⟨(some (K.ofNat 55)), (some ((K.ofNat 51), true)), .eqk (.one none) false (.t (K.ofNat 52)) (.t (K.ofNat 54))⟩, ⟨(some (K.ofNat 56)), none, .pick (.t (K.ofNat 51)) (.t (K.ofNat 55)) (.c (.b false))⟩, ⟨(some (K.ofNat 57)), none, .mv (.t (K.ofNat 56))⟩, ⟨(some (K.ofNat 58)), (some ((K.ofNat 57), true)), .mv (.t (K.ofNat 7))⟩, ⟨(some (K.ofNat 59)), (some ((K.ofNat 57), true)), .mv (.t (K.ofNat 15))⟩, ⟨(some (K.ofNat 60)), (some ((K.ofNat 57), true)), .call (.c (.fn (K.ofNat 30) [])) [(.t (K.ofNat 58)), (.t (K.ofNat 59))]⟩, ⟨(some (K.ofNat 61)), none, .pick (.t (K.ofNat 57)) (.t (K.ofNat 60)) (.c (.b false))⟩, ⟨(some (K.ofNat 62)), none, .mv (.t (K.ofNat 61))⟩, ⟨(some (K.ofNat 63)), (some ((K.ofNat 62), true)), .mv (.t (K.ofNat 11))⟩, ⟨(some (K.ofNat 64)), (some ((K.ofNat 62), true)), .bin .eql (.t (K.ofNat 63)) (.c (.i .i64 (.ofNat 0)))⟩, ⟨(some (K.ofNat 65)), none, .pick (.t (K.ofNat 62)) (.t (K.ofNat 64)) (.c (.b false))⟩, ⟨(some (K.ofNat 66)), none, .mv (.t (K.ofNat 65))⟩, ⟨(some (K.ofNat 67)), (some ((K.ofNat 66), true)), .mv (.t (K.ofNat 10))⟩, ⟨(some (K.ofNat 68)), (some ((K.ofNat 66), true)), .mv (.t (K.ofNat 5))⟩, ⟨(some (K.ofNat 69)), (some ((K.ofNat 66), true)), .mv (.t (K.ofNat 6))⟩, ⟨(some (K.ofNat 70)), (some ((K.ofNat 66), true)), .call (.c (.fn (K.ofNat 31) [])) [(.t (K.ofNat 68)), (.t (K.ofNat 69))]⟩, ⟨(some (K.ofNat 71)), (some ((K.ofNat 66), true)), .bin .eql (.t (K.ofNat 67)) (.t (K.ofNat 70))⟩, ⟨(some (K.ofNat 72)), none, .pick (.t (K.ofNat 66)) (.t (K.ofNat 71)) (.c (.b false))⟩, ⟨(some (K.ofNat 73)), none, .mv (.t (K.ofNat 72))⟩, ⟨(some (K.ofNat 74)), (some ((K.ofNat 73), true)), .mv (.t (K.ofNat 14))⟩, ⟨(some (K.ofNat 75)), (some ((K.ofNat 73), true)), .bin .eql (.t (K.ofNat 74)) (.c (.i .i64 (.ofNat 0)))⟩, ⟨(some (K.ofNat 76)), none, .pick (.t (K.ofNat 73)) (.t (K.ofNat 75)) (.c (.b false))⟩, ⟨(some (K.ofNat 77)), none, .mv (.t (K.ofNat 76))⟩, ⟨(some (K.ofNat 78)), (some ((K.ofNat 77), true)), .mv (.t (K.ofNat 13))⟩, ⟨(some (K.ofNat 79)), (some ((K.ofNat 77), true)), .mv (.t (K.ofNat 16))⟩, ⟨(some (K.ofNat 80)), (some ((K.ofNat 77), true)), .isnil true (.t (K.ofNat 79))⟩, ⟨(some (K.ofNat 81)), (some ((K.ofNat 77), true)), .eqk (.one none) false (.t (K.ofNat 78)) (.t (K.ofNat 80))⟩, ⟨(some (K.ofNat 82)), none, .pick (.t (K.ofNat 77)) (.t (K.ofNat 81)) (.c (.b false))⟩, ⟨(some (K.ofNat 83)), none, .mv (.t (K.ofNat 82))⟩, ⟨(some (K.ofNat 84)), (some ((K.ofNat 83), true)), .mv (.t (K.ofNat 12))⟩, ⟨(some (K.ofNat 85)), (some ((K.ofNat 83), true)), .mv (.t (K.ofNat 16))⟩, ⟨(some (K.ofNat 86)), (some ((K.ofNat 83), true)), .call (.c (.fn (K.ofNat 30) [])) [(.t (K.ofNat 84)), (.t (K.ofNat 85))]⟩, ⟨(some (K.ofNat 87)), none, .pick (.t (K.ofNat 83)) (.t (K.ofNat 86)) (.c (.b false))⟩, ⟨(some (K.ofNat 88)), none, .mv (.t (K.ofNat 87))⟩, ⟨(some (K.ofNat 89)), (some ((K.ofNat 88), true)), .call (.c (.fn (K.ofNat 23) [])) []⟩, ⟨(some (K.ofNat 90)), none, .pick (.t (K.ofNat 88)) (.t (K.ofNat 89)) (.c (.b false))⟩, ⟨(some (K.ofNat 4)), none, .as (.t (K.ofNat 90))⟩]
noncomputable def f4_c : EC := (.seq (.reg f4_r0) (.seq (.reg f4_r1) (.seq (.reg f4_r2) (.seq (.reg f4_r3) (.seq (.reg f4_r4) (.seq (.reg f4_r5) (.seq (.reg f4_r6) .ret)))))))
noncomputable def f4 : EF := ⟨91, [.tmp (K.ofNat 4)], f4_c, none⟩
section
variable {fs : T EF} {ro : Option K} {h : H} {v : V} {m : Nat} {E : List (Int × Int)}
theorem f29_ret (k : CallsSe fs) (hE : EdgesOk m E) (hm : 0 < m) {bp : Bool} (hc : HC h) (hv : Srp h v E) : Ret fs f29 [.i .i64 (m : Int), v, .b bp] h fun r h' => OSr h' r (renL m E bp m []).head? ∧ Grow h.nx.nat h h' := by
  apply ret_of rfl
  show W fs none f29_c _ _ _
  unfold f29_c
  simp (disch := omega) only [f29_r0, f29_r1, w_reg, w_seq, seqK_n, x_nil, x_mv, x_as, x_call, ev_t, ev_c, evs_nil, evs_cons, getV_some, putD_some, frame_3, getK_set, Nat.reduceEqDiff, ↓reduceIte]
  refine (callP_0 (ef := f70) k.c70 rfl (f70_ret k hE hm m hc hv Sr.nil (fun x hx => by cases hx) (by simp))).mono ?_
  rintro r h1 ⟨⟨u, rfl, hs⟩, hG⟩
  simp (disch := omega) only [f29_r2, f29_rs, w_reg, w_seq, w_ret, seqK_n, retK_r, x_nil, x_mv, x_as, x_ext, kx, rvP_ok, okv_some, ev_t, getV_some, putD_some, onTup_t, oGet_s, nth0, nth1, readRs_nil, readRs_t, retV_1, Option.some.injEq, exists_eq_left', getK_set, Nat.reduceEqDiff, ↓reduceIte]
  exact ⟨hs, hG⟩
end
section
variable {fs : T EF} {ro : Option K}
end
end Go.Ev
namespace Go.Ev
open Go Go.RowKit
section
variable {fs : T EF}
end
end Go.Ev
namespace Go.Ev
open Go Go.RowKit
section
variable {h h' : H} {v u : V} {L : List (Int × Int)} {b : Nat}
theorem flat_get : ∀ {L : List (Int × Int)} {t : Nat}, (L.flatMap qE)[t]? = (L[t / 2]?).map fun p => if t % 2 = 0 then iE p.1 else iE p.2
  | [], t => by simp
  | x :: L, 0 => rfl
  | x :: L, 1 => rfl
  | x :: L, t + 2 => by
    rw [List.flatMap_cons]
    show (V.i .i64 x.1 :: V.i .i64 x.2 :: L.flatMap qE)[t + 2]? = _
    rw [List.getElem?_cons_succ, List.getElem?_cons_succ, flat_get (L := L) (t := t), show (t + 2) / 2 = t / 2 + 1 by omega, List.getElem?_cons_succ, show (t + 2) % 2 = t % 2 by omega]
theorem set_get {cs : List V} {p : Nat} {a b : V} (hp : p + 2 ≤ cs.length) {q : Nat} : (setMany cs p [a, b])[q]? = if q = p then some a else if q = p + 1 then some b else cs[q]? := by
  rw [setMany_eq _ _ _ (by simpa using hp)]
  rcases Nat.lt_trichotomy q p with h1 | h1 | h1
  · rw [List.append_assoc, List.getElem?_append_left (by simp; omega), List.getElem?_take, if_pos h1, if_neg (by omega), if_neg (by omega)]
  · subst h1
    rw [List.append_assoc, List.getElem?_append_right (by simp; omega), if_pos rfl]; simp
    have : min q cs.length = q := by omega
    rw [this]; simp
  · rw [if_neg (by omega)]
    by_cases h2 : q = p + 1
    · subst h2
      rw [if_pos rfl, List.append_assoc, List.getElem?_append_right (by simp; omega)]; simp
      have : p + 1 - min p cs.length = 1 := by omega
      rw [this]; simp
    · rw [if_neg h2, List.getElem?_append_right (by simp; omega)]
      simp
      rw [show p + 2 + (q - (min p cs.length + 2)) = q by omega]
/-- A store into a slice of pairs. -/
theorem Sk.st2 (hs : Sk 2 qE h v L) {i : Nat} (hi : i < L.length) {x : Int × Int} (hhc : HC h) :
    ∃ p id m cs', (∀ k h1, iadsV 2 v (.i k (i : Int)) h1 = .ok p h1) ∧ storeV h 2 p (.agg [.i .i64 x.1, .i .i64 x.2]) = .ok undefV (h.put id (.cells m cs')) ∧ Sk 2 qE (h.put id (.cells m cs')) v (L.set i x) ∧ (∃ off n sz, v = .sl id off n sz) ∧ id.nat < h.nx.nat := by
  rcases hs with ⟨rfl, rfl⟩ | ⟨id, off, m, cs, rfl, hb, hl, hm, hx⟩
  · simp at hi
  · have hin : i * 2 + 2 ≤ L.length * 2 := by omega
    refine ⟨.p id (off + i * 2), id, m, setMany cs (off + i * 2) [.i .i64 x.1, .i .i64 x.2], fun k h1 => ?_, ?_, ?_, ⟨off, L.length, 2, rfl⟩, hhc.cells hb⟩
    · rw [iads_sl, idx_n hi]
    · exact store_p hb cells2 (by omega)
    · refine .inr ⟨id, off, m, _, by rw [List.length_set], get_put_same, ?_, by rw [List.length_set]; exact hm, ?_⟩
      · rw [setMany_eq _ _ _ (by simp; omega)]; simp; omega
      · rw [List.length_set]
        apply List.ext_getElem?
        intro t
        rw [List.getElem?_take, flat_get]
        by_cases ht : t < L.length * 2
        · have h0 := congrArg (fun l => l[t]?) hx
          simp only [List.getElem?_take, if_pos ht, List.getElem?_drop, flat_get] at h0
          rw [if_pos ht, List.getElem?_drop, set_get (by omega), List.getElem?_set]
          by_cases e1 : t = i * 2
          · subst e1
            rw [if_pos rfl, show i * 2 / 2 = i by omega, if_pos rfl, if_pos hi]
            simp [iE]
          · by_cases e2 : t = i * 2 + 1
            · subst e2
              rw [if_neg (by omega), if_pos (by omega), show (i * 2 + 1) / 2 = i by omega, if_pos rfl, if_pos hi]
              simp [iE]
            · rw [if_neg (by omega), if_neg (by omega), if_neg (by omega), h0]
        · rw [if_neg ht, List.getElem?_eq_none (by simp; omega)]; rfl
theorem rep_flat {x : Int × Int} : ∀ n, rep (qE x) n = (List.replicate n x).flatMap qE
  | 0 => rfl
  | n + 1 => by
    show cat (qE x) (rep (qE x) n) = _
    rw [cat_eq, rep_flat n, List.replicate_succ, List.flatMap_cons]
theorem mks_p {k : IntKind} {n : Nat} (hn : n ≤ 1000000) : mksV 2 [.i .i64 0, .i .i64 0] h (.i k (n : Int)) = .ok (.sl h.nx 0 n 2) (h.new (.cells (n * 2) (rep (qE (0, 0)) n))) := by
  show (bif Nat.ble n 1000000 then RV.ok (.sl h.nx 0 n 2) (h.new (.cells (n * 2) (rep (qE (0, 0)) n))) else .no) = _
  rw [Nat.ble_eq_true_of_le hn]; rfl
theorem mksp_sl {n : Nat} : Sk 2 qE (h.new (.cells (n * 2) (rep (qE (0, 0)) n))) (.sl h.nx 0 n 2) (List.replicate n (0, 0)) :=
  .inr ⟨h.nx, 0, n * 2, _, by simp, get_new_same, by rw [rep_flat, flat_len qE_len]; simp, by simp, by rw [rep_flat, List.drop_zero, List.take_of_length_le (by rw [flat_len qE_len]; simp)]⟩
/-! ### Slices of slices of pairs -/
def vE (u : V) : V := u
structure Sll (h : H) (v : V) (us : List V) (Ls : List (List (Int × Int))) : Prop where
  len : us.length = Ls.length
  out : Sl vE h v us
  inn : ∀ i (h1 : i < us.length) (h2 : i < Ls.length), Srp h us[i] Ls[i]
  sep : ∀ u ∈ us, ∀ id off n sz, u = .sl id off n sz → NotIn id v
section
variable {us : List V} {Ls : List (List (Int × Int))}
theorem Sll.nil : Sll h .sn [] [] := ⟨rfl, Sl.nil, fun i h1 => absurd h1 (by simp), fun u hu => absurd hu (by simp)⟩
theorem Sll.grow (s : Sll h v us Ls) (hc : HC h) (hg : Grow h.nx.nat h h') : Sll h' v us Ls := ⟨s.len, s.out.grow hc hg, fun i h1 h2 => (s.inn i h1 h2).grow hc hg, s.sep⟩
theorem Srp.cell {L : List (Int × Int)} (hs : Srp h v L) : cellsN 1 v = some [v] := by rcases hs with ⟨rfl, _⟩ | ⟨_, _, _, _, rfl, _⟩ <;> rfl
theorem Srp.old {L : List (Int × Int)} (hs : Srp h v L) (hg : ∀ id off n sz, v = .sl id off n sz → h'.get id = h.get id) : Srp h' v L := by
  rcases hs with hs | ⟨id, off, m, cs, rfl, hb, hx⟩
  · exact .inl hs
  · exact .inr ⟨id, off, m, cs, rfl, by rw [hg _ _ _ _ rfl]; exact hb, hx⟩
/-- append(v, u): a slice more. -/
theorem Sll.push (s : Sll h v us Ls) (ho : Own b v) (hb : b ≤ h.nx.nat) (hc : HC h) (hn : Ls.length < 16777216) (hu : Srp h u L) (hsep : ∀ id off n sz, u = .sl id off n sz → NotIn id v) :
    ∃ v' h', appV 1 (h.new (.cells (1 * 1) [u])) v (.sl h.nx 0 1 1) = .ok v' h' ∧ Sll h' v' (us ++ [u]) (Ls ++ [L]) ∧ Own b v' ∧ Grow b h h' ∧ ∀ id : K, id.nat < h.nx.nat → NotIn id v → h'.get id = h.get id ∧ NotIn id v' := by
  obtain ⟨v', h', e1, e2, e3, e4, e5⟩ := Sl.push (e := vE) (x := u) (c := u) rfl s.out ho hb hc (by rw [s.len]; exact hn)
  have hul : ∀ id off n sz, u = .sl id off n sz → id.nat < h.nx.nat := Srk.lt hu hc
  have hil : ∀ w ∈ us, ∀ id off n sz, w = .sl id off n sz → id.nat < h.nx.nat := fun w hw => by
    obtain ⟨i, hi, rfl⟩ := List.getElem_of_mem hw
    exact Srk.lt (s.inn i hi (by rw [← s.len]; exact hi)) hc
  refine ⟨v', h', e1, ⟨by rw [List.length_append, List.length_append, s.len]; rfl, e2, fun i h1 h2 => ?_, fun w hw id off n sz ew => ?_⟩, e3, e4, e5⟩
  · by_cases hi : i < us.length
    · have hi2 : i < Ls.length := by rw [← s.len]; exact hi
      rw [List.getElem_append_left hi, List.getElem_append_left hi2]
      exact (s.inn i hi hi2).old fun id off n sz ew => (e5 id (hil _ (List.getElem_mem hi) _ _ _ _ ew) (s.sep _ (List.getElem_mem hi) _ _ _ _ ew)).1
    · have hl : i = us.length := by rw [List.length_append] at h1; simp at h1; omega
      subst hl
      rw [List.getElem_append_right (Nat.le_refl _), List.getElem_append_right (by rw [s.len]; exact Nat.le_refl _)]
      simp only [Nat.sub_self, List.getElem_cons_zero, s.len]
      exact hu.old fun id off n sz ew => (e5 id (hul _ _ _ _ ew) (hsep _ _ _ _ ew)).1
  · rcases List.mem_append.1 hw with hw | hw
    · exact (e5 id (hil w hw _ _ _ _ ew) (s.sep w hw _ _ _ _ ew)).2
    · rw [List.mem_singleton.1 hw] at ew
      exact (e5 id (hul _ _ _ _ ew) (hsep _ _ _ _ ew)).2
end
end
end Go.Ev
namespace Go.Ev
section
variable {h h' : H} {v u : V} {L M : List (Int × Int)}
end
end Go.Ev
namespace Go.Ev
open Go Go.RowKit
noncomputable def f104_r0 : List EOper := [⟨(some (K.ofNat 11)), none, .ld (.t (K.ofNat 1))⟩, ⟨(some (K.ofNat 12)), none, .len (.t (K.ofNat 11))⟩, ⟨(some (K.ofNat 13)), none, .bin .mul (.c (.i .i64 (.ofNat 2))) (.t (K.ofNat 12))⟩, ⟨(some (K.ofNat 14)), none, .bin .add (.t (K.ofNat 13)) (.c (.i .i64 (.ofNat 1)))⟩, ⟨(some (K.ofNat 4)), none, .as (.t (K.ofNat 14))⟩]
noncomputable def f104_r1 : List EOper := [⟨(some (K.ofNat 15)), none, .mv (.t (K.ofNat 4))⟩, ⟨(some (K.ofNat 16)), none, .mv (.c (.i .i64 (.ofNat 0)))⟩]
noncomputable def f104_r2 : List EOper := [⟨(some (K.ofNat 17)), none, .bin .lss (.t (K.ofNat 16)) (.t (K.ofNat 15))⟩]
noncomputable def f104_r3 : List EOper := [⟨(some (K.ofNat 18)), none, .mv (.t (K.ofNat 16))⟩, ⟨(some (K.ofNat 5)), none, .as (.t (K.ofNat 18))⟩]
noncomputable def f104_r4 : List EOper := [⟨(some (K.ofNat 19)), none, .ld (.t (K.ofNat 1))⟩, ⟨(some (K.ofNat 20)), none, .len (.t (K.ofNat 19))⟩, ⟨(some (K.ofNat 21)), none, .mkslice 2 [(.i .i64 (.ofNat 0)), (.i .i64 (.ofNat 0))] (.t (K.ofNat 20))⟩, ⟨(some (K.ofNat 6)), none, .as (.t (K.ofNat 21))⟩]
noncomputable def f104_r5 : List EOper := [⟨(some (K.ofNat 22)), none, .ld (.t (K.ofNat 1))⟩, ⟨(some (K.ofNat 23)), none, .len (.t (K.ofNat 22))⟩, ⟨(some (K.ofNat 24)), none, .mv (.c (.i .i64 (.ofNat 0)))⟩]
noncomputable def f104_r6 : List EOper := [⟨(some (K.ofNat 25)), none, .bin .lss (.t (K.ofNat 24)) (.t (K.ofNat 23))⟩]
noncomputable def f104_r7 : List EOper := [⟨(some (K.ofNat 26)), none, .mv (.t (K.ofNat 24))⟩, ⟨(some (K.ofNat 27)), none, .iads 2 (.t (K.ofNat 22)) (.t (K.ofNat 24))⟩, ⟨(some (K.ofNat 28)), none, .ldn 2 (.t (K.ofNat 27))⟩, ⟨(some (K.ofNat 8)), none, .alloc 2 [(.i .i64 (.ofNat 0)), (.i .i64 (.ofNat 0))]⟩, ⟨(some (K.ofNat 7)), none, .as (.t (K.ofNat 26))⟩, ⟨none, none, .st 2 (.t (K.ofNat 8)) (.t (K.ofNat 28))⟩]
noncomputable def f104_r8 : List Stage := [⟨[⟨(some (K.ofNat 30)), none, .ld (.t (K.ofNat 2))⟩, ⟨(some (K.ofNat 31)), none, .iadr 2 1 (.t (K.ofNat 8)) (.c (.i .i64 (.ofNat 0)))⟩, ⟨(some (K.ofNat 32)), none, .ld (.t (K.ofNat 31))⟩, ⟨(some (K.ofNat 33)), none, .iads 1 (.t (K.ofNat 30)) (.t (K.ofNat 32))⟩, ⟨(some (K.ofNat 34)), none, .ld (.t (K.ofNat 33))⟩, ⟨(some (K.ofNat 35)), none, .mv (.t (K.ofNat 5))⟩, ⟨(some (K.ofNat 36)), none, .bin .add (.t (K.ofNat 34)) (.t (K.ofNat 35))⟩, ⟨(some (K.ofNat 37)), none, .mv (.t (K.ofNat 4))⟩, ⟨(some (K.ofNat 38)), none, .bin .rem (.t (K.ofNat 36)) (.t (K.ofNat 37))⟩, ⟨(some (K.ofNat 39)), none, .ld (.t (K.ofNat 2))⟩, ⟨(some (K.ofNat 40)), none, .iadr 2 1 (.t (K.ofNat 8)) (.c (.i .i64 (.ofNat 1)))⟩, ⟨(some (K.ofNat 41)), none, .ld (.t (K.ofNat 40))⟩, ⟨(some (K.ofNat 42)), none, .iads 1 (.t (K.ofNat 39)) (.t (K.ofNat 41))⟩, ⟨(some (K.ofNat 43)), none, .ld (.t (K.ofNat 42))⟩, ⟨(some (K.ofNat 44)), none, .mv (.t (K.ofNat 5))⟩, ⟨(some (K.ofNat 45)), none, .bin .add (.t (K.ofNat 43)) (.t (K.ofNat 44))⟩, ⟨(some (K.ofNat 46)), none, .mv (.t (K.ofNat 4))⟩, ⟨(some (K.ofNat 47)), none, .bin .rem (.t (K.ofNat 45)) (.t (K.ofNat 46))⟩, ⟨(some (K.ofNat 48)), none, .bslice 1 1 [(.i .i64 (.ofNat 0))] [(0, 1, (.t (K.ofNat 47)))]⟩], [], (some ⟨(some (K.ofNat 49)), none, .call (.c (.fn (K.ofNat 102) [])) [(.t (K.ofNat 38)), (.t (K.ofNat 48))]⟩), [(K.ofNat 48)]⟩, ⟨[⟨(some (K.ofNat 29)), none, .mv (.t (K.ofNat 49))⟩, ⟨(some (K.ofNat 50)), none, .ext (.t (K.ofNat 29)) 0⟩, ⟨(some (K.ofNat 51)), none, .ext (.t (K.ofNat 29)) 1⟩], [], (some ⟨(some (K.ofNat 9)), none, .as (.t (K.ofNat 50))⟩), []⟩, ⟨[], [⟨(some (K.ofNat 51)), none, .ext (.t (K.ofNat 29)) 1⟩], (some ⟨(some (K.ofNat 10)), none, .as (.t (K.ofNat 51))⟩), []⟩, ⟨[], [], none, []⟩]
noncomputable def f104_r9 : List EOper := [⟨(some (K.ofNat 52)), none, .mv (.t (K.ofNat 6))⟩, ⟨(some (K.ofNat 53)), none, .mv (.t (K.ofNat 7))⟩, ⟨(some (K.ofNat 54)), none, .mv (.t (K.ofNat 9))⟩, ⟨(some (K.ofNat 55)), none, .mv (.t (K.ofNat 10))⟩, ⟨(some (K.ofNat 56)), none, .build [(.i .i64 (.ofNat 0)), (.i .i64 (.ofNat 0))] [(0, 1, (.t (K.ofNat 54))), (1, 1, (.t (K.ofNat 55)))]⟩, ⟨(some (K.ofNat 57)), none, .iads 2 (.t (K.ofNat 52)) (.t (K.ofNat 53))⟩, ⟨none, none, .st 2 (.t (K.ofNat 57)) (.t (K.ofNat 56))⟩]
noncomputable def f104_r10 : List EOper := [⟨(some (K.ofNat 58)), none, .bin .add (.t (K.ofNat 24)) (.c (.i .i64 (.ofNat 1)))⟩, ⟨(some (K.ofNat 24)), none, .mv (.t (K.ofNat 58))⟩]
noncomputable def f104_l0 : EC := (.seq (.reg f104_r6) (.seq (.cond (.t (K.ofNat 25)) .skip (.exit 2)) (.seq (.block 3 (.seq (.reg f104_r7) (.seq (.draw f104_r8) (.reg f104_r9)))) (.reg f104_r10))))
noncomputable def f104_r11 : List EOper := [⟨(some (K.ofNat 59)), none, .mv (.t (K.ofNat 0))⟩, ⟨(some (K.ofNat 60)), none, .mv (.t (K.ofNat 6))⟩, ⟨(some (K.ofNat 61)), none, .call (.t (K.ofNat 59)) [(.t (K.ofNat 60))]⟩, ⟨(some (K.ofNat 62)), none, .not (.t (K.ofNat 61))⟩]
noncomputable def f104_r12 : List EOper := [⟨(some (K.ofNat 63)), none, .bin .add (.t (K.ofNat 16)) (.c (.i .i64 (.ofNat 1)))⟩, ⟨(some (K.ofNat 16)), none, .mv (.t (K.ofNat 63))⟩]
noncomputable def f104_l1 : EC := (.seq (.reg f104_r2) (.seq (.cond (.t (K.ofNat 17)) .skip (.exit 0)) (.seq (.block 1 (.seq (.reg f104_r3) (.seq (.reg f104_r4) (.seq (.seq (.reg f104_r5) (.block 2 (.loop f104_l0))) (.seq (.reg f104_r11) (.cond (.t (K.ofNat 62)) .ret .skip)))))) (.reg f104_r12))))
noncomputable def f104_c : EC := (.seq (.reg f104_r0) (.seq (.reg f104_r1) (.block 0 (.loop f104_l1))))
noncomputable def f104 : EF := ⟨64, [], f104_c, none⟩
theorem f104_rs : f104.rs = [] := of_eq_true (eq_self _)
noncomputable def f103_r0 : List EOper := [⟨(some (K.ofNat 2)), none, .box 1 (.t (K.ofNat 0))⟩, ⟨(some (K.ofNat 4)), none, .as (.c .sn)⟩]
noncomputable def f103_r1 : List EOper := [⟨(some (K.ofNat 6)), none, .mv (.t (K.ofNat 1))⟩]
noncomputable def f103_r2 : List EOper := [⟨(some (K.ofNat 5)), none, .as (.t (K.ofNat 7))⟩]
noncomputable def f103_a0 : EC := (.reg f103_r2)
noncomputable def f103_r3 : List EOper := [⟨(some (K.ofNat 8)), none, .ld (.t (K.ofNat 2))⟩, ⟨(some (K.ofNat 9)), none, .mv (.t (K.ofNat 5))⟩, ⟨(some (K.ofNat 10)), none, .bslice 1 1 [.sn] [(0, 1, (.t (K.ofNat 9)))]⟩, ⟨(some (K.ofNat 11)), none, .app 1 (.t (K.ofNat 8)) (.t (K.ofNat 10))⟩, ⟨none, none, .st 1 (.t (K.ofNat 2)) (.t (K.ofNat 11))⟩]
noncomputable def f103_b0 : EC := (.block 1 (.reg f103_r3))
noncomputable def f103_r4 : List EOper := [⟨(some (K.ofNat 12)), none, .ld (.t (K.ofNat 2))⟩, ⟨(some (K.ofNat 4)), none, .as (.t (K.ofNat 12))⟩]
noncomputable def f103_c : EC := (.seq (.reg f103_r0) (.seq (.seq (.reg f103_r1) (.block 0 (.rangeF (.t (K.ofNat 6)) [(K.ofNat 7)] f103_a0 f103_b0))) (.seq (.reg f103_r4) .ret)))
noncomputable def f103 : EF := ⟨13, [.tmp (K.ofNat 4)], f103_c, none⟩
theorem f103_rs : f103.rs = [.tmp (K.ofNat 4)] := of_eq_true (eq_self _)
noncomputable def f65_r0 : List EOper := [⟨(some (K.ofNat 2)), none, .as (.c .sn)⟩]
noncomputable def f65_r1 : List EOper := [⟨(some (K.ofNat 3)), none, .mv (.t (K.ofNat 0))⟩, ⟨(some (K.ofNat 4)), none, .call (.c (.fn (K.ofNat 103) [])) [(.c .sn), (.t (K.ofNat 3))]⟩, ⟨(some (K.ofNat 2)), none, .as (.t (K.ofNat 4))⟩]
noncomputable def f65_c : EC := (.seq (.reg f65_r0) (.seq (.reg f65_r1) .ret))
noncomputable def f65 : EF := ⟨5, [.tmp (K.ofNat 2)], f65_c, none⟩
theorem f65_rs : f65.rs = [.tmp (K.ofNat 2)] := of_eq_true (eq_self _)
noncomputable def f66_r0 : List EOper := [⟨(some (K.ofNat 2)), none, .box 1 (.t (K.ofNat 0))⟩, ⟨(some (K.ofNat 3)), none, .box 1 (.t (K.ofNat 1))⟩, ⟨(some (K.ofNat 4)), none, .as (.c .fnil)⟩]
noncomputable def f66_r1 : List EOper := [⟨(some (K.ofNat 5)), none, .mkfn (K.ofNat 104) [(.t (K.ofNat 2)), (.t (K.ofNat 3))]⟩, ⟨(some (K.ofNat 4)), none, .as (.t (K.ofNat 5))⟩]
noncomputable def f66_c : EC := (.seq (.reg f66_r0) (.seq (.reg f66_r1) .ret))
noncomputable def f66 : EF := ⟨6, [.tmp (K.ofNat 4)], f66_c, none⟩
theorem f66_rs : f66.rs = [.tmp (K.ofNat 4)] := of_eq_true (eq_self _)
noncomputable def f21_r0 : List EOper := [⟨(some (K.ofNat 6)), none, .as (.c .sn)⟩, ⟨(some (K.ofNat 7)), none, .as (.c (.i .i64 (.ofNat 0)))⟩]
noncomputable def f21_r1 : List EOper := [⟨(some (K.ofNat 9)), none, .mv (.t (K.ofNat 0))⟩, ⟨(some (K.ofNat 10)), none, .mv (.t (K.ofNat 1))⟩, ⟨(some (K.ofNat 11)), none, .mv (.t (K.ofNat 2))⟩, ⟨(some (K.ofNat 12)), none, .call (.c (.fn (K.ofNat 64) [])) [(.t (K.ofNat 9)), (.t (K.ofNat 10)), (.t (K.ofNat 11))]⟩, ⟨(some (K.ofNat 8)), none, .as (.t (K.ofNat 12))⟩]
noncomputable def f21_r2 : List EOper := [⟨(some (K.ofNat 13)), none, .mv (.t (K.ofNat 8))⟩, ⟨(some (K.ofNat 14)), none, .bin .neq (.t (K.ofNat 13)) (.c (.i .i64 (.ofNat 0)))⟩]
noncomputable def f21_r3 : List EOper := [⟨(some (K.ofNat 15)), none, .mv (.t (K.ofNat 8))⟩, ⟨(some (K.ofNat 6)), none, .as (.c .sn)⟩, ⟨(some (K.ofNat 7)), none, .as (.t (K.ofNat 15))⟩]
noncomputable def f21_r4 : List EOper := [⟨(some (K.ofNat 16)), none, .mv (.t (K.ofNat 1))⟩, ⟨(some (K.ofNat 17)), none, .mv (.t (K.ofNat 2))⟩, ⟨(some (K.ofNat 18)), none, .call (.c (.fn (K.ofNat 66) [])) [(.t (K.ofNat 16)), (.t (K.ofNat 17))]⟩, ⟨(some (K.ofNat 19)), none, .call (.c (.fn (K.ofNat 65) [])) [(.t (K.ofNat 18))]⟩, ⟨(some (K.ofNat 6)), none, .as (.t (K.ofNat 19))⟩, ⟨(some (K.ofNat 7)), none, .as (.c (.i .i64 (.ofNat 0)))⟩]
noncomputable def f21_c : EC := (.seq (.reg f21_r0) (.seq (.seq (.reg f21_r1) (.seq (.reg f21_r2) (.cond (.t (K.ofNat 14)) (.seq (.reg f21_r3) .ret) .skip))) (.seq (.reg f21_r4) .ret)))
noncomputable def f21 : EF := ⟨20, [.tmp (K.ofNat 6), .tmp (K.ofNat 7)], f21_c, none⟩
theorem f21_rs : f21.rs = [.tmp (K.ofNat 6), .tmp (K.ofNat 7)] := of_eq_true (eq_self _)
/-- An edge of copy t. -/
def cpE (L : List Int) (s t : Nat) (e : Int × Int) : Int × Int := (min (((L.getD e.1.toNat 0 + t).tmod s)) ((L.getD e.2.toNat 0 + t).tmod s), max (((L.getD e.1.toNat 0 + t).tmod s)) ((L.getD e.2.toNat 0 + t).tmod s))
def cpRow (E : List (Int × Int)) (L : List Int) (t : Nat) : List (Int × Int) := E.map (cpE L (2 * E.length + 1) t)
def cpAll (E : List (Int × Int)) (L : List Int) : List (List (Int × Int)) := (List.range (2 * E.length + 1)).map (cpRow E L)
theorem cpAll_at {E : List (Int × Int)} {L : List Int} {t : Nat} (h : t < (cpAll E L).length) : (cpAll E L)[t] = E.map (cpE L (2 * E.length + 1) t) := by simp [cpAll, cpRow]
/-- What the closure holds. -/
structure NC (ide idl : K) (w v : V) (E : List (Int × Int)) (L : List Int) (h : H) : Prop where
  he : h.get ide = .cells 1 [w]
  hl : h.get idl = .cells 1 [v]
  es : Srp h w E
  ls : Sr iE h v L
section
variable {fs : T EF} {ro : Option K} {h h' : H} {v w : V} {E : List (Int × Int)} {L : List Int} {ide idl : K}
theorem NC.grow (n : NC ide idl w v E L h) (hc : HC h) (hg : Grow h.nx.nat h h') : NC ide idl w v E L h' :=
  ⟨by rw [hg.old _ (hc.cells n.he)]; exact n.he, by rw [hg.old _ (hc.cells n.hl)]; exact n.hl, n.es.grow hc hg, n.ls.grow hc hg⟩
/-- The function, called with a body, goes through these lists of pairs: each is a new slice. -/
def YieldsQ (fs : T EF) (k : K) (caps : List V) (N : H → Prop) (Y : List (List (Int × Int))) : Prop :=
  ∀ (id : K) (I : Nat → H → Prop) (D : H → Prop) (h : H), (∀ i h1, I i h1 → N h1 ∧ HC h1) → I 0 h →
    (∀ i h1 h2 v (hi : i < Y.length), I i h1 → Grow h1.nx.nat h1 h2 → Srp h2 v Y[i] → Own h1.nx.nat v → ∃ r h', Round fs id v h2 r h' ∧ (r = true → I (i + 1) h') ∧ (r = false → D h')) →
    CallP fs (.fn k caps) [.yl id] h fun r h' => r = .tup [] ∧ ((∃ h1, I Y.length h1 ∧ Grow h1.nx.nat h1 h') ∨ D h')
def f104_I (id ide idl : K) (E : List (Int × Int)) (I : Nat → H → Prop) (t : Nat) (fr : Fr) (h1 : H) : Prop := t ≤ 2 * E.length + 1 ∧ I t h1 ∧ fr.get (K.ofNat 0) = some (.yl id) ∧ fr.get (K.ofNat 1) = some (.p ide 0) ∧ fr.get (K.ofNat 2) = some (.p idl 0) ∧ fr.get (K.ofNat 4) = some (.i .i64 ((2 * E.length + 1 : Nat) : Int)) ∧ fr.get (K.ofNat 15) = some (.i .i64 ((2 * E.length + 1 : Nat) : Int)) ∧ fr.get (K.ofNat 16) = some (.i .i64 (t : Int))
def f104_J (id ide idl : K) (w : V) (E : List (Int × Int)) (L : List Int) (h0 : H) (t : Nat) (j : Nat) (fr : Fr) (h1 : H) : Prop := j ≤ E.length ∧ Grow h0.nx.nat h0 h1 ∧ ∃ c, Sk 2 qE h1 c ((E.take j).map (cpE L (2 * E.length + 1) t) ++ List.replicate (E.length - j) (0, 0)) ∧ Own h0.nx.nat c ∧
  fr.get (K.ofNat 0) = some (.yl id) ∧ fr.get (K.ofNat 1) = some (.p ide 0) ∧ fr.get (K.ofNat 2) = some (.p idl 0) ∧ fr.get (K.ofNat 4) = some (.i .i64 ((2 * E.length + 1 : Nat) : Int)) ∧ fr.get (K.ofNat 5) = some (.i .i64 (t : Int)) ∧ fr.get (K.ofNat 6) = some (c) ∧ fr.get (K.ofNat 15) = some (.i .i64 ((2 * E.length + 1 : Nat) : Int)) ∧ fr.get (K.ofNat 16) = some (.i .i64 (t : Int)) ∧ fr.get (K.ofNat 22) = some (w) ∧ fr.get (K.ofNat 23) = some (.i .i64 (E.length : Int)) ∧ fr.get (K.ofNat 24) = some (.i .i64 (j : Int))
theorem copies_yield {n : Nat} (h104 : fs.get (K.ofNat 104) = some f104) (h102 : fs.get (K.ofNat 102) = some f102) (hE : EdgesOk n E) (hlab : LabOk E L) (hn : L.length = n) : YieldsQ fs (K.ofNat 104) [.p ide 0, .p idl 0] (NC ide idl w v E L) (cpAll E L) := by
  intro id I D h hN hI round
  have hE10 := hE.1
  have hYl : (cpAll E L).length = 2 * E.length + 1 := by simp [cpAll]
  refine callP_of (ef := f104) h104 rfl ?_
  show Ret fs f104 [.yl id, .p ide 0, .p idl 0] h _
  apply ret_of rfl
  show W fs none f104_c _ _ _
  unfold f104_c
  obtain ⟨N0, _⟩ := hN _ _ hI
  have l1 := load_p N0.he (show nth [w] 0 = some w from rfl)
  have es : (2 * (E.length : Int) + 1) = ((2 * E.length + 1 : Nat) : Int) := by omega
  have e2 : ((2 * E.length : Nat) : Int) = 2 * (E.length : Int) := by omega
  simp (disch := omega) only [f104_r0, f104_r1, w_reg, w_seq, w_block, seqK_n, x_nil, x_mv, x_as, x_ld, x_bin, x_len, kx, rvP_ok, okv_some, ev_t, ev_c, getV_some, putD_some, bin_add, bin_mul, frame_3, of0, of1, of2, getK_set, Nat.reduceEqDiff, ↓reduceIte, l1, N0.es.len, fw64, es]
  refine W_loop (f104_I id ide idl E I) (fun t => 2 * E.length + 1 - t) ?_ 0 ⟨by omega, hI, by simp (disch := omega) only [getK_set, Nat.reduceEqDiff, ↓reduceIte, and_self, Int.natCast_zero]⟩
  clear l1 N0 hI
  rintro t fr h0 ⟨ht, hIt, g0, g1, g2, g4, g15, g16⟩
  obtain ⟨N0, hc0⟩ := hN _ _ hIt
  unfold f104_l1
  by_cases hlt : t < 2 * E.length + 1
  · have d0 : decide ((t : Int) < ((2 * E.length + 1 : Nat) : Int)) = true := by simp only [decide_eq_true_eq]; omega
    have l1 := load_p N0.he (show nth [w] 0 = some w from rfl)
    have hmk := mks_p (h := h0) (k := .i64) (n := E.length) (by omega)
    have hsl0 := mksp_sl (h := h0) (n := E.length)
    have gD := Grow.new (Nat.le_refl h0.nx.nat) (.cells (E.length * 2) (rep (qE (0, 0)) E.length))
    simp (disch := omega) only [f104_r2, f104_r3, f104_r4, w_skip, w_reg, w_seq, w_cond, w_block, seqK_n, ckB_b, cbB_b, true_and, x_nil, x_mv, x_as, x_ld, x_bin, x_mks, x_len, kx, rvP_ok, okv_some, ev_t, getV_some, putD_some, bin_lss, of0, getK_set, Nat.reduceEqDiff, ↓reduceIte, g1, g15, g16, d0, l1, N0.es.len, hmk]
    have own0 : Own h0.nx.nat (.sl h0.nx 0 E.length 2) := fun _ _ _ _ e => by cases e; exact Nat.le_refl _
    generalize h0.new (.cells (E.length * 2) (rep (qE (0, 0)) E.length)) = h1 at *
    have N1 := N0.grow hc0 gD
    have l2 := load_p N1.he (show nth [w] 0 = some w from rfl)
    simp (disch := omega) only [f104_r5, w_block, seqK_n, x_nil, x_mv, x_ld, x_len, kx, rvP_ok, ev_t, ev_c, getV_some, putD_some, of0, getK_set, Nat.reduceEqDiff, ↓reduceIte, g1, l2, N1.es.len]
    refine W_loop (f104_J id ide idl w E L h0 t) (fun j => E.length - j) ?_ 0 ⟨by omega, gD, .sl h0.nx 0 E.length 2, by simpa using hsl0, own0, by simp (disch := omega) only [getK_set, Nat.reduceEqDiff, ↓reduceIte, g0, g1, g2, g4, g15, g16, and_self, Int.natCast_zero]⟩
    clear l1 l2 hmk hsl0 N1 gD own0 g0 g1 g2 g4 g15 g16 fr
    rintro j fr hx ⟨hj, hGx, c, hsk, hown, g0, g1, g2, g4, g5, g6, g15, g16, g22, g23, g24⟩
    have hcx := hGx.hc hc0
    have Nx := N0.grow hc0 hGx
    unfold f104_l0
    by_cases hlt2 : j < E.length
    · have d1 : decide ((j : Int) < (E.length : Int)) = true := by simpa using hlt2
      obtain ⟨ida, q, hp1, hp2, _, _⟩ := Nx.es.at2 hlt2
      obtain ⟨e0, e1, e3⟩ := hE.2.2 E[j] (List.getElem_mem hlt2)
      obtain ⟨a, ea⟩ : ∃ a : Nat, E[j].1 = (a : Int) := ⟨E[j].1.toNat, by omega⟩
      obtain ⟨b, eb⟩ : ∃ b : Nat, E[j].2 = (b : Int) := ⟨E[j].2.toNat, by omega⟩
      have ha : a < L.length := by omega
      have hb : b < L.length := by omega
      obtain ⟨x, hx'⟩ : ∃ x : Nat, L[a] = (x : Int) := ⟨L[a].toNat, by have := (hlab _ (List.getElem_mem ha)).1; omega⟩
      obtain ⟨y, hy'⟩ : ∃ y : Nat, L[b] = (y : Int) := ⟨L[b].toNat, by have := (hlab _ (List.getElem_mem hb)).1; omega⟩
      have hxb := (hlab _ (List.getElem_mem ha)).2
      have hyb := (hlab _ (List.getElem_mem hb)).2
      have hst2 : storeV (hx.new (.cells 2 zz)) 2 (.p hx.nx 0) (.agg [.i .i64 E[j].1, .i .i64 E[j].2]) = .ok undefV ((hx.new (.cells 2 zz)).put hx.nx (.cells 2 [.i .i64 E[j].1, .i .i64 E[j].2])) := st2 (a := .i .i64 (.ofNat 0)) (b := .i .i64 (.ofNat 0)) get_new_same
      have nx1 := nx_new hx (.cells 2 zz)
      have gA : Grow hx.nx.nat hx ((hx.new (.cells 2 zz)).put hx.nx (.cells 2 [.i .i64 E[j].1, .i .i64 E[j].2])) := (Grow.new (Nat.le_refl _) _).trans (Grow.put (Nat.le_refl _) (by omega) _)
      have c8 : ((hx.new (.cells 2 zz)).put hx.nx (.cells 2 [.i .i64 E[j].1, .i .i64 E[j].2])).get hx.nx = .cells 2 [.i .i64 E[j].1, .i .i64 E[j].2] := get_put_same
      have hzz : ([.i .i64 0, .i .i64 0] : List V) = zz := rfl
      generalize (hx.new (.cells 2 zz)).put hx.nx (.cells 2 [.i .i64 E[j].1, .i .i64 E[j].2]) = h3 at *
      have hG3 := hGx.trans (gA.low hGx.nx)
      have hc3 := hG3.hc hc0
      have N3 := N0.grow hc0 hG3
      have l0 : loadV h3 (.p hx.nx (0 + 0 * 1)) one? = .ok (.i .i64 E[j].1) h3 := load_p c8 rfl
      have l1 : loadV h3 (.p hx.nx (0 + 1 * 1)) one? = .ok (.i .i64 E[j].2) h3 := load_p c8 rfl
      have ll := load_p N3.hl (show nth [v] 0 = some v from rfl)
      obtain ⟨s1, hx1, hx2, hx3⟩ := N3.ls.atb a ha
      obtain ⟨s2, ht1, ht2, ht3⟩ := N3.ls.atb b hb
      have hwb := N3.ls.beq
      rw [ea] at l0
      rw [eb] at l1
      rw [ea, eb] at hst2 hp2
      have hrem : ∀ a, binV .rem (.i .i64 a) (.i .i64 ((2 * E.length + 1 : Nat) : Int)) = some (.i .i64 (a.tmod ((2 * E.length + 1 : Nat) : Int))) := fun a => bin_rem (by omega)
      have hcp : cpE L (2 * E.length + 1) t E[j] = (min ((L[a] + t).tmod ((2 * E.length + 1 : Nat) : Int)) ((L[b] + t).tmod ((2 * E.length + 1 : Nat) : Int)), max ((L[a] + t).tmod ((2 * E.length + 1 : Nat) : Int)) ((L[b] + t).tmod ((2 * E.length + 1 : Nat) : Int))) := by
        unfold cpE
        rw [ea, eb]
        simp only [Int.toNat_natCast, List.getD_eq_getElem?_getD, List.getElem?_eq_getElem ha, List.getElem?_eq_getElem hb, Option.getD_some]
      obtain ⟨A, hA⟩ : ∃ A, A = (L[a] + t).tmod ((2 * E.length + 1 : Nat) : Int) := ⟨_, rfl⟩
      obtain ⟨B, hB⟩ : ∃ B, B = (L[b] + t).tmod ((2 * E.length + 1 : Nat) : Int) := ⟨_, rfl⟩
      rw [← hA, ← hB] at hcp
      have hlit := Sl.lit (e := iE) (x := B) (h := h3)
      have gl := Grow.new (Nat.le_refl h3.nx.nat) (.cells (1 * 1) [iE B])
      simp (disch := omega) only [f104_r6, f104_r7, f104_r8, w_skip, w_reg, w_draw, w_seq, w_cond, w_block, seqK_n, ckB_b, cbB_b, true_and, x_nil, x_mv, x_as, x_alloc, x_ldn, x_st, x_bin, x_iads, x_call, kx, kg, xg_nil, xg_mv, xg_ld, xg_bin, xg_iadr, xg_iads, xg_bslice, xd_cons, stK_s, stay_nil, rvP_ok, okv_some, ev_t, ev_c, evs_nil, evs_cons, getV_some, putD_some, putD_none, bin_add, bin_lss, onP_p, oGet_s, cells1_i, fill_1, set_1, of0, of1, Option.some.injEq, exists_eq_left', getK_set, Nat.reduceEqDiff, ↓reduceIte, ix2_0, ix2_1, g2, g4, g5, g22, g23, g24, d1, hp1, hp2, hzz, hst2, l0, l1, ll, hx1, hx2, ht1, ht2, iE, hc3.dead, fill_1, set_1, hrem, ← hA, ← hB, fw64]
      refine ⟨fresh_one (n := 1) (sz := 1) (by simp (disch := omega) only [getK_set, ↓reduceIte]), ?_⟩
      refine (callP_0 (ef := f102) h102 rfl (f102_ret (a := A) hlit.sr (by simp))).mono ?_
      rintro r h4 ⟨rfl, rfl⟩
      have gAl := gA.trans (gl.low gA.nx)
      have hGl := hGx.trans (gAl.low hGx.nx)
      have hcl := hGl.hc hc0
      have em : minL A [B] = min A B := rfl
      have eM : maxL A [B] = max A B := rfl
      rw [em, eM]
      have hskl : Sk 2 qE (h3.new (.cells (1 * 1) [iE B])) c _ := hsk.grow hcx gAl
      generalize h3.new (.cells (1 * 1) [iE B]) = h5 at *
      have hil : j < ((E.take j).map (cpE L (2 * E.length + 1) t) ++ List.replicate (E.length - j) (0, 0)).length := by simp; omega
      obtain ⟨p, idz, m, cs', w1, w2, w3, ⟨off', n', sz', w4⟩, w5⟩ := hskl.st2 hil (x := (min A B, max A B)) hcl
      have gP := Grow.put (hown _ _ _ _ w4) w5 (.cells m cs')
      have hset : ((E.take j).map (cpE L (2 * E.length + 1) t) ++ List.replicate (E.length - j) (0, 0)).set j (min A B, max A B) = (E.take (j + 1)).map (cpE L (2 * E.length + 1) t) ++ List.replicate (E.length - (j + 1)) (0, 0) := by
        have hlen : ((E.take j).map (cpE L (2 * E.length + 1) t)).length = j := by simp; omega
        rw [List.set_append_right _ _ (by omega), hlen, Nat.sub_self, show E.length - j = (E.length - (j + 1)) + 1 by omega, List.replicate_succ, List.set_cons_zero, List.take_succ_eq_append_getElem hlt2, List.map_append, List.append_assoc]
        simp only [List.map_cons, List.map_nil, hcp, List.singleton_append]
      rw [hset] at w3
      simp (disch := omega) only [f104_r9, f104_r10, w_reg, seqK_n, atK_n, loopK_n, true_and, x_nil, x_mv, x_as, x_build, x_st, x_bin, x_iads, kx, kg, xg_nil, xg_mv, xg_ext, xd_cons, fresh_nil, stK_n, stK_s, stay_nil, stay_cons, again_ok, beq_i, rvP_ok, okv_some, ev_t, ev_c, getV_some, putD_some, putD_none, bin_add, onTup_t, oGet_s, nth0, nth1, cells1_i, of0, of1, getK_set, Nat.reduceEqDiff, ↓reduceIte, fill_2, set_2, g6, g24, stay_ext, again_ok, beq_i, fill_2, set_2, w1, w2, fw64]
      exact ⟨j + 1, by omega, by omega, hGl.trans gP, c, w3, hown, by simp (disch := omega) only [getK_set, Nat.reduceEqDiff, ↓reduceIte, g0, g1, g2, g4, g5, g6, g15, g16, g22, g23, and_self, Int.natCast_add, Int.natCast_one]⟩
    · have d1 : decide ((j : Int) < (E.length : Int)) = false := by simpa using hlt2
      have ej : j = E.length := by omega
      rw [ej, List.take_length, Nat.sub_self, List.replicate_zero, List.append_nil] at hsk
      have hi : t < (cpAll E L).length := by rw [hYl]; exact hlt
      have hYi := cpAll_at hi
      obtain ⟨r, h6, hr, r1, r2⟩ := round t h0 hx c hi hIt hGx (by rw [hYi]; exact hsk.srp) hown
      simp (disch := omega) only [f104_r6, f104_r11, w_reg, w_seq, w_cond, w_exit, seqK_n, seqK_e, atK_e, loopK_e, ckB_b, cbB_b, true_and, x_nil, x_mv, x_bin, x_call, kx, rvP_ok, okv_some, ev_t, evs_nil, evs_cons, getV_some, putD_some, bin_lss, getK_set, Nat.reduceEqDiff, ↓reduceIte, Bool.false_eq_true, g0, g6, g23, g24, d1]
      obtain ⟨m, hm⟩ := hr
      refine ⟨m, _, _, hm, ?_⟩
      cases r with
      | false =>
        simp (disch := omega) only [f104_rs, w_cond, w_ret, seqK_n, seqK_r, atK_r, loopK_r, ckB_b, cbB_b, true_and, retK_r, x_nil, x_not, kx, rvP_ok, ev_t, getV_some, putD_some, onB_b, readRs_nil, retV_0, Option.some.injEq, exists_eq_left', getK_set, ↓reduceIte, Bool.not_false, Bool.not_false, true_and]
        exact .inr (r2 rfl)
      | true =>
        simp (disch := omega) only [f104_r12, w_skip, w_reg, w_cond, seqK_n, atK_n, loopK_n, ckB_b, cbB_b, true_and, x_nil, x_mv, x_bin, x_not, kx, rvP_ok, okv_some, ev_t, ev_c, getV_some, putD_some, bin_add, onB_b, of1, getK_set, Nat.reduceEqDiff, ↓reduceIte, Bool.false_eq_true, Bool.not_true, g16, Bool.not_true, fw64]
        exact ⟨t + 1, by omega, by omega, r1 rfl, by simp (disch := omega) only [getK_set, Nat.reduceEqDiff, ↓reduceIte, g0, g1, g2, g4, g15, and_self, Int.natCast_add, Int.natCast_one]⟩
  · have d0 : decide ((t : Int) < ((2 * E.length + 1 : Nat) : Int)) = false := by simp only [decide_eq_false_iff_not]; omega
    have et : t = 2 * E.length + 1 := by omega
    simp (disch := omega) only [f104_r2, f104_rs, w_reg, w_seq, w_cond, w_exit, seqK_n, seqK_e, atK_e, loopK_e, ckB_b, cbB_b, true_and, retK_n, x_nil, x_bin, kx, rvP_ok, okv_some, ev_t, getV_some, putD_some, bin_lss, readRs_nil, retV_0, Option.some.injEq, exists_eq_left', getK_set, ↓reduceIte, Bool.false_eq_true, g15, g16, d0, true_and]
    exact .inl ⟨h0, by rw [hYl, ← et]; exact hIt, Grow.refl _ _⟩
end
end Go.Ev
namespace Go.Ev
open Go Go.RowKit
section
variable {fs : T EF}
/-- A loop over such a function. -/
theorem W_rangeQ {ro : Option K} {f : EO} {k : K} {caps : List V} {p : K} {a c : EC} {fr : Fr} {h : H} {Q : Ex → Fr → H → Prop} {N : H → Prop} {Y : List (List (Int × Int))} (hro : roOk ro h = true) (hf : ev fr f = .fn k caps) (hy : YieldsQ fs k caps N Y)
    (I : Nat → H → Prop) (D : Ex → H → Prop) (hN : ∀ i h1, I i h1 → N h1 ∧ HC h1 ∧ h.nx.nat < h1.nx.nat) (hI0 : I 0 (h.new (rdyB fr [p] a c)))
    (step : ∀ i h1 h2 v (hi : i < Y.length), I i h1 → Grow h1.nx.nat h1 h2 → h2.get h.nx = rdyB fr [p] a c → Srp h2 v Y[i] → Own h1.nx.nat v → W fs (some h.nx) a (rndA fs h.nx fr [p] a c (I (i + 1)) D) (fr.set p v) h2)
    (fin : ∀ h1 h2, I Y.length h1 → Grow h1.nx.nat h1 h2 → Q .normal fr (h2.put h.nx .dead)) (brk : ∀ e h1, e ≠ .normal → D e h1 → Q e fr h1) : W fs ro (.rangeF f [p] a c) Q fr h := by
  have key := hy h.nx (fun i h1 => I i h1 ∧ h1.get h.nx = rdyB fr [p] a c) (fun h1 => ∃ e, e ≠ .normal ∧ D e (h1.put h.nx .dead) ∧ h1.get h.nx = .loop .done (some e) fr [p] a c) (h.new (rdyB fr [p] a c)) (fun i h1 hi => ⟨(hN i h1 hi.1).1, (hN i h1 hi.1).2.1⟩) ⟨hI0, get_new_same⟩ ?_
  · obtain ⟨n, r, h1, hc, rfl, hq⟩ := key
    rcases hq with ⟨h0, ⟨hI, hb⟩, hG⟩ | ⟨e, hne, hD, hb⟩
    · have hb1 : h1.get h.nx = rdyB fr [p] a c := (hG.old _ (hN _ _ hI).2.2).trans hb
      exact ⟨.normal, fr, _, Runs.range hro hf ⟨n, hc⟩ hb1 (.inl ⟨rfl, rfl, rfl⟩), fin h0 h1 hI hG⟩
    · exact ⟨e, fr, _, Runs.range hro hf ⟨n, hc⟩ hb (.inr ⟨rfl, rfl⟩), brk e _ hne hD⟩
  · rintro i h1 h2 v hi ⟨hI, hb⟩ hG hs ho
    have hb2 : h2.get h.nx = rdyB fr [p] a c := (hG.old _ (hN _ _ hI).2.2).trans hb
    obtain ⟨e1, fr1, h3, r1, rfl, hb3, hw⟩ := W_ok _ _ _ _ (step i h1 h2 v hi hI hG hb2 hs ho)
    obtain ⟨e2, fr2, h4, r2, hb4, hq⟩ := W_ok _ _ _ _ hw
    refine ⟨isNo e2, h4.put h.nx (afterR e2 fr [p] a c), round_of hb2 rfl r1 hb3 r2 hb4, fun he => ?_, fun he => ?_⟩
    · cases e2 <;> first | exact ⟨hq, get_put_same⟩ | cases he
    · cases e2 with
      | normal => cases he
      | exit j => exact ⟨.exit j, by simp, by rw [H.put_put]; exact hq, get_put_same⟩
      | ret => exact ⟨.ret, by simp, by rw [H.put_put]; exact hq, get_put_same⟩
/-- What is gathered. -/
structure Gat (b : Nat) (h : H) (idb idl : K) (Ls : List (List (Int × Int))) (h1 : H) : Prop where
  ex : ∃ o us, h1.get idb = .cells 1 [o] ∧ Sll h1 o us Ls ∧ Own (idl.nat + 1) o ∧ ∀ u ∈ us, Own (idl.nat + 1) u
  gr : Grow b h h1
  hc : HC h1
  nx : idl.nat < h1.nx.nat
theorem f103_ret {h : H} {k : K} {caps : List V} {N : H → Prop} {Y : List (List (Int × Int))} (hy : YieldsQ fs k caps N Y) (hc : HC h) (hN : ∀ h1, Grow h.nx.nat h h1 → N h1) (hY : Y.length ≤ 1000000) :
    Ret fs f103 [.sn, .fn k caps] h fun r h' => (∃ us, Sll h' r us Y) ∧ Grow h.nx.nat h h' := by
  apply ret_of rfl
  show W fs none f103_c _ _ _
  unfold f103_c
  have cf : cellsN 1 .sn = some [.sn] := rfl
  have n1 := nx_new h (.cells 1 [.sn])
  have g1 := Grow.new (Nat.le_refl h.nx.nat) (.cells 1 [.sn])
  have e1 : (h.new (.cells 1 [.sn])).get h.nx = .cells 1 [.sn] := get_new_same
  simp (disch := omega) only [f103_r0, f103_r1, w_reg, w_seq, w_block, seqK_n, x_nil, x_mv, x_as, x_box, kx, rvP_ok, ev_t, ev_c, getV_some, putD_some, oGet_s, frame_2, getK_set, Nat.reduceEqDiff, ↓reduceIte, cf]
  generalize h.new (.cells 1 [.sn]) = h1 at *
  generalize hfr : T.set (K.ofNat 6) _ _ = fr6
  have f6' : fr6.get (K.ofNat 6) = some (.fn k caps) := by rw [← hfr]; simp (disch := omega) only [getK_set, ↓reduceIte]
  have f2' : fr6.get (K.ofNat 2) = some (.p h.nx 0) := by rw [← hfr]; simp (disch := omega) only [getK_set, Nat.reduceEqDiff, ↓reduceIte]
  clear hfr
  have hc1 := g1.hc hc
  have n2 := nx_new h1 (rdyB fr6 [(K.ofNat 7)] f103_a0 f103_b0)
  have g2 : Grow h1.nx.nat h1 (h1.new (rdyB fr6 [(K.ofNat 7)] f103_a0 f103_b0)) := Grow.new (Nat.le_refl _) _
  refine W_rangeQ (Y := Y) (N := N) rfl (by simp (disch := omega) only [ev_t, getV_some, f6']) hy (fun i h2 => Gat h.nx.nat h h.nx h1.nx (Y.take i) h2) (fun _ _ => False) (fun i h2 g => ⟨hN _ g.gr, g.hc, g.nx⟩) ?_ ?_ ?_ (fun _ _ _ hf => hf.elim)
  · exact ⟨⟨.sn, [], by rw [g2.old _ (by omega)]; exact e1, by rw [List.take_zero]; exact Sll.nil, Own.sn, fun u hu => absurd hu (by simp)⟩, g1.trans (g2.low (by omega)), g2.hc hc1, by omega⟩
  · rintro i h2 h3 v hi ⟨⟨o, us, eo, so, oo, ou⟩, gr, hc2, nx2⟩ hG hb hs ho
    rw [show ∀ Q fr h, W fs (some h1.nx) f103_a0 Q fr h = X fs f103_r2 (Q .normal) fr h from fun _ _ _ => rfl]
    simp (disch := omega) only [f103_r2, rndA_n, x_nil, x_as, ev_t, getV_some, putD_some, getK_set, ↓reduceIte]
    refine ⟨hb, ?_⟩
    show W fs (some h1.nx) (.block 1 (.reg f103_r3)) (rndK h1.nx fr6 [(K.ofNat 7)] f103_a0 f103_b0 _ _) _ _
    have hc3 := hG.hc hc2
    have so3 := so.grow hc2 hG
    have eo3 : h3.get h.nx = .cells 1 [o] := (hG.old _ (by omega)).trans eo
    have gr3 := gr.trans (hG.low gr.nx)
    have nx3 := hG.nx
    have olt : ∀ id off n sz, o = .sl id off n sz → id.nat < h2.nx.nat := so.out.lt hc2
    have gB : Grow 0 h3 (h3.put h1.nx (bsyB fr6 [(K.ofNat 7)] f103_a0 f103_b0)) := Grow.put (Nat.zero_le _) (by omega) _
    have e4 : (h3.put h1.nx (bsyB fr6 [(K.ofNat 7)] f103_a0 f103_b0)).get h1.nx = bsyB fr6 [(K.ofNat 7)] f103_a0 f103_b0 := get_put_same
    have o4 : ∀ y : K, y ≠ h1.nx → (h3.put h1.nx (bsyB fr6 [(K.ofNat 7)] f103_a0 f103_b0)).get y = h3.get y := fun y hy => get_put_other hy
    have x4 : (h3.put h1.nx (bsyB fr6 [(K.ofNat 7)] f103_a0 f103_b0)).nx = h3.nx := rfl
    have hc4 := gB.hc hc3
    generalize h3.put h1.nx (bsyB fr6 [(K.ofNat 7)] f103_a0 f103_b0) = h4 at *
    have eo4 : h4.get h.nx = .cells 1 [o] := (o4 _ (kNe (by omega))).trans eo3
    -- what is a slice lies in no loop's block
    have cellsNe : ∀ {id : K} {m : Nat} {cs : List V}, h3.get id = .cells m cs → id ≠ h1.nx := fun e e' => by rw [e', hb] at e; cases e
    have romNe : ∀ {id : K} {m : Nat} {cs : List V}, h3.get id = .rom m cs → id ≠ h1.nx := fun e e' => by rw [e', hb] at e; cases e
    have srp4 : ∀ {u : V} {L : List (Int × Int)}, Srp h3 u L → Srp h4 u L := fun {u L} hu => by
      rcases hu with hu | ⟨id, off, m, cs, rfl, hb', hx⟩
      · exact .inl hu
      · refine .inr ⟨id, off, m, cs, rfl, ?_, hx⟩
        rcases hb' with hb' | hb'
        · rw [o4 _ (cellsNe hb')]; exact .inl hb'
        · rw [o4 _ (romNe hb')]; exact .inr hb'
    have so4 : Sll h4 o us (Y.take i) := ⟨so3.len, so3.out.same fun id off n sz e => o4 _ (fun e' => by have := oo _ _ _ _ e; rw [e'] at this; omega), fun j q1 q2 => srp4 (so3.inn j q1 q2), so3.sep⟩
    have hs4 := srp4 hs
    have sepv : ∀ id off n sz, v = .sl id off n sz → NotIn id o := fun id off n sz e off' n' sz' e' => by
      have := ho _ _ _ _ e
      have := olt _ _ _ _ e'
      omega
    obtain ⟨o5, h5, a1, s5, ow5, gr5, kp5⟩ := so4.push (b := h1.nx.nat + 1) oo (by rw [x4]; omega) hc4 (by simp; omega) hs4 sepv
    have hno : NotIn h.nx o := fun off n sz e => by have := oo _ _ _ _ e; omega
    have hnl : NotIn h1.nx o := fun off n sz e => by have := oo _ _ _ _ e; omega
    have k1 := kp5 h.nx (by rw [x4]; omega) hno
    have k2 := kp5 h1.nx (by rw [x4]; omega) hnl
    have ld := load_p eo4 (show nth [o] 0 = some o from rfl)
    have st := st1 (h := h5) (id := h.nx) (a := o) (c := o5) (k1.1.trans eo4) s5.out.one
    have hvc := hs4.cell
    simp (disch := omega) only [f103_r3, w_reg, w_block, atK_n, rndK_n, x_nil, x_mv, x_bslice, x_ld, x_st, x_app, kx, rvP_ok, ev_t, getV_some, putD_some, putD_none, oGet_s, fill_1, set_1, getK_set, Nat.reduceEqDiff, ↓reduceIte, f2', ld, hvc, fill_1, set_1, a1, st]
    have hc5 := gr5.hc hc4
    have x5 := gr5.nx
    rw [x4] at x5
    refine ⟨by rw [get_put_other (kNe (by omega)).symm, k2.1]; exact e4, ?_⟩
    have ne01 : h.nx ≠ h1.nx := kNe (by omega)
    -- blocks that are slices
    have hno5 : NotIn h.nx o5 := k1.2
    have hnl5 : NotIn h1.nx o5 := k2.2
    have ov : ∀ u ∈ us ++ [v], Own (h1.nx.nat + 1) u := fun u hu => by
      rcases List.mem_append.1 hu with hu | hu
      · exact ou u hu
      · rw [List.mem_singleton.1 hu]; exact ho.low nx2
    have hiu : ∀ u ∈ us ++ [v], ∀ id off n sz, u = .sl id off n sz → id ≠ h.nx ∧ id ≠ h1.nx := fun u hu id off n sz e => by
      have := ov u hu _ _ _ _ e
      exact ⟨fun e' => by rw [e'] at this; omega, fun e' => by rw [e'] at this; omega⟩
    refine ⟨⟨o5, us ++ [v], ?_, ?_, ow5, ov⟩, ?_, ?_, ?_⟩
    · rw [get_put_other ne01, get_put_same]
    · rw [List.take_succ_eq_append_getElem hi]
      refine ⟨s5.len, s5.out.same fun id off n sz e => ?_, fun j q1 q2 => (s5.inn j q1 q2).old fun id off n sz e => ?_, s5.sep⟩
      · have := ow5 _ _ _ _ e
        rw [get_put_other (fun e' => by rw [e'] at this; omega), get_put_other (fun e' => by rw [e'] at this; omega)]
      · obtain ⟨n1, n2⟩ := hiu _ (List.getElem_mem q1) _ _ _ _ e
        rw [get_put_other n2, get_put_other n1]
    · refine ⟨by show h.nx.nat ≤ h5.nx.nat; omega, fun id hid => ?_, fun _ => (Grow.put (b := 0) (Nat.zero_le _) (by show h1.nx.nat < h5.nx.nat; omega) _).hc ((Grow.put (b := 0) (Nat.zero_le _) (by omega) _).hc hc5)⟩
      rw [get_put_other (kNe (by omega)), get_put_other (kNe hid), gr5.old id (by omega), o4 id (kNe (by omega)), gr3.old id hid]
    · exact (Grow.put (b := 0) (Nat.zero_le _) (by show h1.nx.nat < h5.nx.nat; omega) _).hc ((Grow.put (b := 0) (Nat.zero_le _) (by omega) _).hc hc5)
    · show h1.nx.nat < h5.nx.nat; omega
  · rintro h2 h3 ⟨⟨o, us, eo, so, oo, ou⟩, gr, hc2, nx2⟩ hG
    rw [List.take_length] at so
    have hc3 := hG.hc hc2
    have so3 := so.grow hc2 hG
    have eo3 : h3.get h.nx = .cells 1 [o] := (hG.old _ (by omega)).trans eo
    have gr3 := gr.trans (hG.low gr.nx)
    have nx3 := hG.nx
    have eo4 : (h3.put h1.nx .dead).get h.nx = .cells 1 [o] := by rw [get_put_other (kNe (by omega))]; exact eo3
    have ld := load_p eo4 (show nth [o] 0 = some o from rfl)
    simp (disch := omega) only [f103_r4, f103_rs, w_reg, w_seq, w_ret, seqK_n, atK_n, retK_r, x_nil, x_as, x_ld, kx, rvP_ok, ev_t, getV_some, putD_some, oGet_s, readRs_nil, readRs_t, retV_1, Option.some.injEq, exists_eq_left', getK_set, ↓reduceIte, f2', ld]
    refine ⟨⟨us, so3.len, so3.out.put (fun off n sz e => by have := oo _ _ _ _ e; omega) _, fun j q1 q2 => (so3.inn j q1 q2).old fun id off n sz e => get_put_other (fun e' => by have := ou _ (List.getElem_mem q1) _ _ _ _ e; rw [e'] at this; omega), so3.sep⟩, ?_⟩
    refine ⟨gr3.nx, fun id hid => ?_, fun _ => (Grow.put (b := 0) (Nat.zero_le _) (by omega) _).hc hc3⟩
    rw [get_put_other (kNe (by omega)), gr3.old id hid]
theorem f65_ret {h : H} {k : K} {caps : List V} {N : H → Prop} {Y : List (List (Int × Int))} (h103 : fs.get (K.ofNat 103) = some f103) (hy : YieldsQ fs k caps N Y) (hc : HC h) (hN : ∀ h1, Grow h.nx.nat h h1 → N h1) (hY : Y.length ≤ 1000000) :
    Ret fs f65 [.fn k caps] h fun r h' => (∃ us, Sll h' r us Y) ∧ Grow h.nx.nat h h' := by
  apply ret_of rfl
  show W fs none f65_c _ _ _
  unfold f65_c
  simp (disch := omega) only [f65_r0, f65_r1, w_reg, w_seq, seqK_n, x_nil, x_mv, x_as, x_call, ev_t, ev_c, evs_nil, evs_cons, getV_some, putD_some, frame_1, getK_set, Nat.reduceEqDiff, ↓reduceIte]
  refine (callP_0 (ef := f103) h103 rfl (f103_ret hy hc hN hY)).mono ?_
  rintro r h1 hh
  simp (disch := omega) only [f65_rs, w_ret, seqK_n, retK_r, x_nil, x_as, kx, ev_t, getV_some, putD_some, oGet_s, readRs_nil, readRs_t, retV_1, Option.some.injEq, exists_eq_left', getK_set, ↓reduceIte]
  exact hh
theorem f66_ret {h : H} {v w : V} (hv : cellsN 1 v = some [v]) (hw : cellsN 1 w = some [w]) : Ret fs f66 [w, v] h fun r h' => r = .fn (K.ofNat 104) [.p h.nx 0, .p (h.new (.cells 1 [w])).nx 0] ∧ h' = (h.new (.cells 1 [w])).new (.cells 1 [v]) := by
  apply ret_of rfl
  show W fs none f66_c _ _ _
  unfold f66_c
  simp (disch := omega) only [f66_r0, f66_r1, f66_rs, w_reg, w_seq, w_ret, seqK_n, retK_r, x_nil, x_as, x_box, x_mkfn, kx, rvP_ok, ev_t, ev_c, evs_nil, evs_cons, getV_some, putD_some, oGet_s, readRs_nil, readRs_t, retV_1, frame_2, Option.some.injEq, exists_eq_left', getK_set, Nat.reduceEqDiff, ↓reduceIte, hv, hw, and_self]
structure CallsCp (fs : T EF) : Prop extends CallsIg fs where
  c65 : fs.get (K.ofNat 65) = some f65
  c66 : fs.get (K.ofNat 66) = some f66
  c103 : fs.get (K.ofNat 103) = some f103
  c104 : fs.get (K.ofNat 104) = some f104
section
variable {h : H} {v w : V} {m : Nat} {E : List (Int × Int)} {L : List Int}
theorem f21_no (k : CallsIg fs) (hv : Srp h v E) (hw : Sr iE h w L) (hc : HC h) (hL : L.length ≤ 1000000) (hn : chkI (m : Int) E = 0) (hg : grB (m : Int) E L = false) : Ret fs f21 [.i .i64 (m : Int), v, w] h fun r h' => r = .tup [.sn, .i .i64 1] ∧ Grow h.nx.nat h h' := by
  apply ret_of rfl
  show W fs none f21_c _ _ _
  unfold f21_c
  simp (disch := omega) only [f21_r0, f21_r1, w_reg, w_seq, seqK_n, x_nil, x_mv, x_as, x_call, ev_t, ev_c, evs_nil, evs_cons, getV_some, putD_some, frame_3, of0, getK_set, Nat.reduceEqDiff, ↓reduceIte]
  refine (callP_0 (ef := f64) k.c64 rfl (f64_ok k hv hw hc hL hn)).mono ?_
  rintro r h4 ⟨rfl, gB⟩
  have d : decide ((1 : Int) ≠ 0) = true := rfl
  simp (disch := omega) only [f21_r2, f21_r3, f21_rs, w_reg, w_seq, w_cond, w_ret, seqK_n, seqK_r, ckB_b, cbB_b, true_and, retK_r, x_nil, x_mv, x_as, x_bin, kx, rvP_ok, okv_some, ev_t, ev_c, getV_some, putD_some, bin_neq, oGet_s, readRs_nil, readRs_t, retV_2, of0, Option.some.injEq, exists_eq_left', getK_set, Nat.reduceEqDiff, ↓reduceIte, Bool.false_eq_true, hg, Bool.false_eq_true, d, true_and]
  exact gB
theorem f21_ok (k : CallsCp fs) (hv : Srp h v E) (hw : Sr iE h w L) (hc : HC h) (hL : L.length ≤ 1000000) (hn : chkI (m : Int) E = 0) (hg : grB (m : Int) E L = true) : Ret fs f21 [.i .i64 (m : Int), v, w] h fun r h' => ∃ u us, r = .tup [u, .i .i64 0] ∧ Sll h' u us (cpAll E L) ∧ Grow h.nx.nat h h' := by
  obtain ⟨m', hm, _, hE⟩ := chkI_ok hn
  obtain rfl : m = m' := by omega
  obtain ⟨hXm, hlin⟩ := gr_labs hg
  have hE10 := hE.1
  apply ret_of rfl
  show W fs none f21_c _ _ _
  unfold f21_c
  simp (disch := omega) only [f21_r0, f21_r1, w_reg, w_seq, seqK_n, x_nil, x_mv, x_as, x_call, ev_t, ev_c, evs_nil, evs_cons, getV_some, putD_some, frame_3, of0, getK_set, Nat.reduceEqDiff, ↓reduceIte]
  refine (callP_0 (ef := f64) k.c64 rfl (f64_ok k.toCallsIg hv hw hc hL hn)).mono ?_
  rintro r h1 ⟨rfl, g1⟩
  have d : decide ((0 : Int) ≠ 0) = false := rfl
  have hv1 := hv.grow hc g1
  have hw1 := hw.grow hc g1
  have hc1 := g1.hc hc
  simp (disch := omega) only [f21_r2, f21_r4, w_skip, w_reg, w_seq, w_cond, seqK_n, ckB_b, cbB_b, true_and, x_nil, x_mv, x_as, x_bin, x_call, kx, rvP_ok, okv_some, ev_t, ev_c, evs_nil, evs_cons, getV_some, putD_some, bin_neq, of0, getK_set, Nat.reduceEqDiff, ↓reduceIte, Bool.false_eq_true, hg, d]
  refine (callP_0 (ef := f66) k.c66 rfl (f66_ret (v := w) (w := v) hw1.one hv1.one)).mono ?_
  rintro r h2 ⟨rfl, h2e⟩
  have n1 := nx_new h1 (.cells 1 [v])
  have n2 := nx_new (h1.new (.cells 1 [v])) (.cells 1 [w])
  have g2 : Grow h1.nx.nat h1 h2 := by rw [h2e]; exact (Grow.new (Nat.le_refl _) _).trans (Grow.new (by omega) _)
  have hc2 := g2.hc hc1
  have N2 : NC h1.nx (h1.new (.cells 1 [v])).nx v w E L h2 := ⟨by rw [h2e, get_new_old (by omega), get_new_same], by rw [h2e, get_new_same], hv1.grow hc1 g2, hw1.grow hc1 g2⟩
  clear h2e
  generalize (h1.new (.cells 1 [v])).nx = idl at *
  simp (disch := omega) only [x_call, kx, ev_t, ev_c, evs_nil, evs_cons, getV_some, putD_some, getK_set, ↓reduceIte]
  refine (callP_0 (ef := f65) k.c65 rfl (f65_ret k.c103 (copies_yield k.c104 k.c102 hE hlin hXm) hc2 (fun h3 g => N2.grow hc2 g) (by simp [cpAll]; omega))).mono ?_
  rintro r h3 ⟨⟨us, hs⟩, g3⟩
  simp (disch := omega) only [f21_rs, w_ret, seqK_n, retK_r, x_nil, x_as, kx, ev_t, ev_c, getV_some, putD_some, oGet_s, readRs_nil, readRs_t, retV_2, Option.some.injEq, exists_eq_left', getK_set, Nat.reduceEqDiff, ↓reduceIte]
  exact ⟨r, us, rfl, hs, g1.trans ((g2.trans (g3.low g2.nx)).low g1.nx)⟩
end
end
end Go.Ev
namespace Go.Ev
open Go Go.RowKit
noncomputable def f36_r0 : List EOper := [⟨(some (K.ofNat 4)), none, .as (.c .sn)⟩]
noncomputable def f36_r1 : List EOper := [⟨(some (K.ofNat 12)), none, .mv (.t (K.ofNat 0))⟩, ⟨(some (K.ofNat 13)), none, .len (.t (K.ofNat 12))⟩, ⟨(some (K.ofNat 14)), none, .bin .mul (.c (.i .i64 (.ofNat 2))) (.t (K.ofNat 13))⟩, ⟨(some (K.ofNat 15)), none, .bin .add (.t (K.ofNat 14)) (.c (.i .i64 (.ofNat 1)))⟩, ⟨(some (K.ofNat 5)), none, .as (.t (K.ofNat 15))⟩]
noncomputable def f36_r2 : List EOper := [⟨(some (K.ofNat 6)), none, .as (.c .sn)⟩]
noncomputable def f36_r3 : List EOper := [⟨(some (K.ofNat 7)), none, .as (.c (.i .i64 (.ofNat 0)))⟩]
noncomputable def f36_r4 : List EOper := [⟨(some (K.ofNat 16)), none, .mv (.t (K.ofNat 7))⟩, ⟨(some (K.ofNat 17)), none, .mv (.t (K.ofNat 5))⟩, ⟨(some (K.ofNat 18)), none, .bin .lss (.t (K.ofNat 16)) (.t (K.ofNat 17))⟩]
noncomputable def f36_r5 : List EOper := [⟨(some (K.ofNat 8)), none, .as (.c .sn)⟩]
noncomputable def f36_r6 : List EOper := [⟨(some (K.ofNat 9)), none, .as (.c (.i .i64 (.ofNat 0)))⟩]
noncomputable def f36_r7 : List EOper := [⟨(some (K.ofNat 21)), none, .mv (.t (K.ofNat 9))⟩, ⟨(some (K.ofNat 22)), none, .mv (.t (K.ofNat 0))⟩, ⟨(some (K.ofNat 23)), none, .len (.t (K.ofNat 22))⟩, ⟨(some (K.ofNat 24)), none, .bin .lss (.t (K.ofNat 21)) (.t (K.ofNat 23))⟩]
noncomputable def f36_r8 : List Stage := [⟨[⟨(some (K.ofNat 27)), none, .mv (.t (K.ofNat 1))⟩, ⟨(some (K.ofNat 28)), none, .mv (.t (K.ofNat 0))⟩, ⟨(some (K.ofNat 29)), none, .mv (.t (K.ofNat 9))⟩, ⟨(some (K.ofNat 30)), none, .iads 2 (.t (K.ofNat 28)) (.t (K.ofNat 29))⟩, ⟨(some (K.ofNat 31)), none, .iadr 2 1 (.t (K.ofNat 30)) (.c (.i .i64 (.ofNat 0)))⟩, ⟨(some (K.ofNat 32)), none, .ld (.t (K.ofNat 31))⟩, ⟨(some (K.ofNat 33)), none, .iads 1 (.t (K.ofNat 27)) (.t (K.ofNat 32))⟩, ⟨(some (K.ofNat 34)), none, .ld (.t (K.ofNat 33))⟩, ⟨(some (K.ofNat 35)), none, .mv (.t (K.ofNat 7))⟩, ⟨(some (K.ofNat 36)), none, .bin .add (.t (K.ofNat 34)) (.t (K.ofNat 35))⟩, ⟨(some (K.ofNat 37)), none, .mv (.t (K.ofNat 5))⟩, ⟨(some (K.ofNat 38)), none, .bin .rem (.t (K.ofNat 36)) (.t (K.ofNat 37))⟩, ⟨(some (K.ofNat 39)), none, .mv (.t (K.ofNat 1))⟩, ⟨(some (K.ofNat 40)), none, .mv (.t (K.ofNat 0))⟩, ⟨(some (K.ofNat 41)), none, .mv (.t (K.ofNat 9))⟩, ⟨(some (K.ofNat 42)), none, .iads 2 (.t (K.ofNat 40)) (.t (K.ofNat 41))⟩, ⟨(some (K.ofNat 43)), none, .iadr 2 1 (.t (K.ofNat 42)) (.c (.i .i64 (.ofNat 1)))⟩, ⟨(some (K.ofNat 44)), none, .ld (.t (K.ofNat 43))⟩, ⟨(some (K.ofNat 45)), none, .iads 1 (.t (K.ofNat 39)) (.t (K.ofNat 44))⟩, ⟨(some (K.ofNat 46)), none, .ld (.t (K.ofNat 45))⟩, ⟨(some (K.ofNat 47)), none, .mv (.t (K.ofNat 7))⟩, ⟨(some (K.ofNat 48)), none, .bin .add (.t (K.ofNat 46)) (.t (K.ofNat 47))⟩, ⟨(some (K.ofNat 49)), none, .mv (.t (K.ofNat 5))⟩, ⟨(some (K.ofNat 50)), none, .bin .rem (.t (K.ofNat 48)) (.t (K.ofNat 49))⟩], [], (some ⟨(some (K.ofNat 10)), none, .as (.t (K.ofNat 38))⟩), []⟩, ⟨[], [⟨(some (K.ofNat 39)), none, .mv (.t (K.ofNat 1))⟩, ⟨(some (K.ofNat 40)), none, .mv (.t (K.ofNat 0))⟩, ⟨(some (K.ofNat 41)), none, .mv (.t (K.ofNat 9))⟩, ⟨(some (K.ofNat 42)), none, .iads 2 (.t (K.ofNat 40)) (.t (K.ofNat 41))⟩, ⟨(some (K.ofNat 43)), none, .iadr 2 1 (.t (K.ofNat 42)) (.c (.i .i64 (.ofNat 1)))⟩, ⟨(some (K.ofNat 44)), none, .ld (.t (K.ofNat 43))⟩, ⟨(some (K.ofNat 45)), none, .iads 1 (.t (K.ofNat 39)) (.t (K.ofNat 44))⟩, ⟨(some (K.ofNat 46)), none, .ld (.t (K.ofNat 45))⟩, ⟨(some (K.ofNat 47)), none, .mv (.t (K.ofNat 7))⟩, ⟨(some (K.ofNat 48)), none, .bin .add (.t (K.ofNat 46)) (.t (K.ofNat 47))⟩, ⟨(some (K.ofNat 49)), none, .mv (.t (K.ofNat 5))⟩, ⟨(some (K.ofNat 50)), none, .bin .rem (.t (K.ofNat 48)) (.t (K.ofNat 49))⟩], (some ⟨(some (K.ofNat 11)), none, .as (.t (K.ofNat 50))⟩), []⟩, ⟨[], [], none, []⟩]
noncomputable def f36_r9 : List EOper := [⟨(some (K.ofNat 51)), none, .mv (.t (K.ofNat 8))⟩, ⟨(some (K.ofNat 52)), none, .mv (.t (K.ofNat 10))⟩, ⟨(some (K.ofNat 53)), none, .mv (.t (K.ofNat 11))⟩, ⟨(some (K.ofNat 54)), none, .min (.t (K.ofNat 52)) (.t (K.ofNat 53))⟩, ⟨(some (K.ofNat 55)), none, .mv (.t (K.ofNat 10))⟩, ⟨(some (K.ofNat 56)), none, .mv (.t (K.ofNat 11))⟩, ⟨(some (K.ofNat 57)), none, .max (.t (K.ofNat 55)) (.t (K.ofNat 56))⟩, ⟨(some (K.ofNat 58)), none, .build [(.i .i64 (.ofNat 0)), (.i .i64 (.ofNat 0))] [(0, 1, (.t (K.ofNat 54))), (1, 1, (.t (K.ofNat 57)))]⟩, ⟨(some (K.ofNat 59)), none, .bslice 1 2 [(.i .i64 (.ofNat 0)), (.i .i64 (.ofNat 0))] [(0, 2, (.t (K.ofNat 58)))]⟩, ⟨(some (K.ofNat 60)), none, .app 2 (.t (K.ofNat 51)) (.t (K.ofNat 59))⟩, ⟨(some (K.ofNat 8)), none, .as (.t (K.ofNat 60))⟩]
noncomputable def f36_r10 : List EOper := [⟨(some (K.ofNat 25)), none, .mv (.t (K.ofNat 9))⟩, ⟨(some (K.ofNat 26)), none, .bin .add (.t (K.ofNat 25)) (.c (.i .i64 (.ofNat 1)))⟩, ⟨(some (K.ofNat 9)), none, .as (.t (K.ofNat 26))⟩]
noncomputable def f36_l0 : EC := (.seq (.seq (.reg f36_r7) (.cond (.t (K.ofNat 24)) .skip (.exit 2))) (.seq (.block 3 (.seq (.draw f36_r8) (.reg f36_r9))) (.reg f36_r10)))
noncomputable def f36_r11 : List EOper := [⟨(some (K.ofNat 61)), none, .mv (.t (K.ofNat 6))⟩, ⟨(some (K.ofNat 62)), none, .mv (.t (K.ofNat 8))⟩, ⟨(some (K.ofNat 63)), none, .bslice 1 1 [.sn] [(0, 1, (.t (K.ofNat 62)))]⟩, ⟨(some (K.ofNat 64)), none, .app 1 (.t (K.ofNat 61)) (.t (K.ofNat 63))⟩, ⟨(some (K.ofNat 6)), none, .as (.t (K.ofNat 64))⟩]
noncomputable def f36_r12 : List EOper := [⟨(some (K.ofNat 19)), none, .mv (.t (K.ofNat 7))⟩, ⟨(some (K.ofNat 20)), none, .bin .add (.t (K.ofNat 19)) (.c (.i .i64 (.ofNat 1)))⟩, ⟨(some (K.ofNat 7)), none, .as (.t (K.ofNat 20))⟩]
noncomputable def f36_l1 : EC := (.seq (.seq (.reg f36_r4) (.cond (.t (K.ofNat 18)) .skip (.exit 0))) (.seq (.block 1 (.seq (.reg f36_r5) (.seq (.seq (.reg f36_r6) (.block 2 (.loop f36_l0))) (.reg f36_r11)))) (.reg f36_r12)))
noncomputable def f36_r13 : List EOper := [⟨(some (K.ofNat 65)), none, .mv (.t (K.ofNat 6))⟩, ⟨(some (K.ofNat 4)), none, .as (.t (K.ofNat 65))⟩]
noncomputable def f36_c : EC := (.seq (.reg f36_r0) (.seq (.reg f36_r1) (.seq (.reg f36_r2) (.seq (.seq (.reg f36_r3) (.block 0 (.loop f36_l1))) (.seq (.reg f36_r13) .ret)))))
noncomputable def f36 : EF := ⟨66, [.tmp (K.ofNat 4)], f36_c, none⟩
theorem f36_rs : f36.rs = [.tmp (K.ofNat 4)] := of_eq_true (eq_self _)
noncomputable def f35_r0 : List EOper := [⟨(some (K.ofNat 4)), none, .as (.c (.b false))⟩]
noncomputable def f35_r1 : List EOper := [⟨(some (K.ofNat 7)), none, .mv (.t (K.ofNat 0))⟩, ⟨(some (K.ofNat 8)), none, .len (.t (K.ofNat 7))⟩, ⟨(some (K.ofNat 9)), none, .mv (.t (K.ofNat 1))⟩, ⟨(some (K.ofNat 10)), none, .len (.t (K.ofNat 9))⟩, ⟨(some (K.ofNat 11)), none, .bin .neq (.t (K.ofNat 8)) (.t (K.ofNat 10))⟩]
noncomputable def f35_r2 : List EOper := [⟨(some (K.ofNat 4)), none, .as (.c (.b false))⟩]
noncomputable def f35_r3 : List EOper := [⟨(some (K.ofNat 5)), none, .as (.c (.i .i64 (.ofNat 0)))⟩]
noncomputable def f35_r4 : List EOper := [⟨(some (K.ofNat 12)), none, .mv (.t (K.ofNat 5))⟩, ⟨(some (K.ofNat 13)), none, .mv (.t (K.ofNat 0))⟩, ⟨(some (K.ofNat 14)), none, .len (.t (K.ofNat 13))⟩, ⟨(some (K.ofNat 15)), none, .bin .lss (.t (K.ofNat 12)) (.t (K.ofNat 14))⟩]
noncomputable def f35_r5 : List Stage := [⟨[⟨(some (K.ofNat 18)), none, .mv (.t (K.ofNat 0))⟩, ⟨(some (K.ofNat 19)), none, .mv (.t (K.ofNat 5))⟩, ⟨(some (K.ofNat 20)), none, .iads 1 (.t (K.ofNat 18)) (.t (K.ofNat 19))⟩, ⟨(some (K.ofNat 21)), none, .ld (.t (K.ofNat 20))⟩, ⟨(some (K.ofNat 22)), none, .len (.t (K.ofNat 21))⟩, ⟨(some (K.ofNat 23)), none, .mv (.t (K.ofNat 1))⟩, ⟨(some (K.ofNat 24)), none, .mv (.t (K.ofNat 5))⟩, ⟨(some (K.ofNat 25)), none, .iads 1 (.t (K.ofNat 23)) (.t (K.ofNat 24))⟩, ⟨(some (K.ofNat 26)), none, .ld (.t (K.ofNat 25))⟩, ⟨(some (K.ofNat 27)), none, .len (.t (K.ofNat 26))⟩, ⟨(some (K.ofNat 28)), none, .bin .neq (.t (K.ofNat 22)) (.t (K.ofNat 27))⟩], [], none, []⟩]
noncomputable def f35_r6 : List EOper := [⟨(some (K.ofNat 4)), none, .as (.c (.b false))⟩]
noncomputable def f35_r7 : List EOper := [⟨(some (K.ofNat 6)), none, .as (.c (.i .i64 (.ofNat 0)))⟩]
noncomputable def f35_r8 : List EOper := [⟨(some (K.ofNat 29)), none, .mv (.t (K.ofNat 6))⟩, ⟨(some (K.ofNat 30)), none, .mv (.t (K.ofNat 0))⟩, ⟨(some (K.ofNat 31)), none, .mv (.t (K.ofNat 5))⟩, ⟨(some (K.ofNat 32)), none, .iads 1 (.t (K.ofNat 30)) (.t (K.ofNat 31))⟩, ⟨(some (K.ofNat 33)), none, .ld (.t (K.ofNat 32))⟩, ⟨(some (K.ofNat 34)), none, .len (.t (K.ofNat 33))⟩, ⟨(some (K.ofNat 35)), none, .bin .lss (.t (K.ofNat 29)) (.t (K.ofNat 34))⟩]
noncomputable def f35_r9 : List Stage := [⟨[⟨(some (K.ofNat 38)), none, .mv (.t (K.ofNat 0))⟩, ⟨(some (K.ofNat 39)), none, .mv (.t (K.ofNat 5))⟩, ⟨(some (K.ofNat 40)), none, .iads 1 (.t (K.ofNat 38)) (.t (K.ofNat 39))⟩, ⟨(some (K.ofNat 41)), none, .ld (.t (K.ofNat 40))⟩, ⟨(some (K.ofNat 42)), none, .mv (.t (K.ofNat 6))⟩, ⟨(some (K.ofNat 43)), none, .iads 2 (.t (K.ofNat 41)) (.t (K.ofNat 42))⟩, ⟨(some (K.ofNat 44)), none, .ldn 2 (.t (K.ofNat 43))⟩, ⟨(some (K.ofNat 45)), none, .mv (.t (K.ofNat 1))⟩, ⟨(some (K.ofNat 46)), none, .mv (.t (K.ofNat 5))⟩, ⟨(some (K.ofNat 47)), none, .iads 1 (.t (K.ofNat 45)) (.t (K.ofNat 46))⟩, ⟨(some (K.ofNat 48)), none, .ld (.t (K.ofNat 47))⟩, ⟨(some (K.ofNat 49)), none, .mv (.t (K.ofNat 6))⟩, ⟨(some (K.ofNat 50)), none, .iads 2 (.t (K.ofNat 48)) (.t (K.ofNat 49))⟩, ⟨(some (K.ofNat 51)), none, .ldn 2 (.t (K.ofNat 50))⟩, ⟨(some (K.ofNat 52)), none, .eqk (.many [(some .i64), (some .i64)]) true (.t (K.ofNat 44)) (.t (K.ofNat 51))⟩], [], none, []⟩]
noncomputable def f35_r10 : List EOper := [⟨(some (K.ofNat 4)), none, .as (.c (.b false))⟩]
noncomputable def f35_r11 : List EOper := [⟨(some (K.ofNat 36)), none, .mv (.t (K.ofNat 6))⟩, ⟨(some (K.ofNat 37)), none, .bin .add (.t (K.ofNat 36)) (.c (.i .i64 (.ofNat 1)))⟩, ⟨(some (K.ofNat 6)), none, .as (.t (K.ofNat 37))⟩]
noncomputable def f35_l0 : EC := (.seq (.seq (.reg f35_r8) (.cond (.t (K.ofNat 35)) .skip (.exit 2))) (.seq (.block 3 (.seq (.draw f35_r9) (.cond (.t (K.ofNat 52)) (.seq (.reg f35_r10) .ret) .skip))) (.reg f35_r11)))
noncomputable def f35_r12 : List EOper := [⟨(some (K.ofNat 16)), none, .mv (.t (K.ofNat 5))⟩, ⟨(some (K.ofNat 17)), none, .bin .add (.t (K.ofNat 16)) (.c (.i .i64 (.ofNat 1)))⟩, ⟨(some (K.ofNat 5)), none, .as (.t (K.ofNat 17))⟩]
noncomputable def f35_l1 : EC := (.seq (.seq (.reg f35_r4) (.cond (.t (K.ofNat 15)) .skip (.exit 0))) (.seq (.block 1 (.seq (.seq (.draw f35_r5) (.cond (.t (K.ofNat 28)) (.seq (.reg f35_r6) .ret) .skip)) (.seq (.reg f35_r7) (.block 2 (.loop f35_l0))))) (.reg f35_r12)))
noncomputable def f35_r13 : List EOper := [⟨(some (K.ofNat 4)), none, .as (.c (.b true))⟩]
noncomputable def f35_c : EC := (.seq (.reg f35_r0) (.seq (.seq (.reg f35_r1) (.cond (.t (K.ofNat 11)) (.seq (.reg f35_r2) .ret) .skip)) (.seq (.seq (.reg f35_r3) (.block 0 (.loop f35_l1))) (.seq (.reg f35_r13) .ret))))
noncomputable def f35 : EF := ⟨53, [.tmp (K.ofNat 4)], f35_c, none⟩
theorem f35_rs : f35.rs = [.tmp (K.ofNat 4)] := of_eq_true (eq_self _)
noncomputable def f6_r0 : List EOper := [⟨(some (K.ofNat 6)), none, .as (.c (.b false))⟩]
noncomputable def f6_r1 : List EOper := [⟨(some (K.ofNat 14)), none, .mv (.t (K.ofNat 0))⟩, ⟨(some (K.ofNat 15)), none, .mv (.t (K.ofNat 1))⟩, ⟨(some (K.ofNat 16)), none, .call (.c (.fn (K.ofNat 28) [])) [(.t (K.ofNat 14)), (.t (K.ofNat 15)), (.c (.i .i64 (.ofNat 10)))]⟩, ⟨(some (K.ofNat 13)), none, .mv (.t (K.ofNat 16))⟩, ⟨(some (K.ofNat 17)), none, .ext (.t (K.ofNat 13)) 0⟩, ⟨(some (K.ofNat 18)), none, .ext (.t (K.ofNat 13)) 1⟩, ⟨(some (K.ofNat 7)), none, .as (.t (K.ofNat 17))⟩, ⟨(some (K.ofNat 8)), none, .as (.t (K.ofNat 18))⟩]
noncomputable def f6_r2 : List EOper := [⟨(some (K.ofNat 19)), none, .mv (.t (K.ofNat 2))⟩, ⟨(some (K.ofNat 20)), none, .call (.c (.fn (K.ofNat 15) [])) [(.t (K.ofNat 19)), (.c (.i .i64 (.ofNat 10)))]⟩, ⟨(some (K.ofNat 9)), none, .as (.t (K.ofNat 20))⟩]
noncomputable def f6_r3 : List EOper := [⟨(some (K.ofNat 10)), none, .as (.c (.i .i64 (.ofNat 0)))⟩]
noncomputable def f6_r4 : List EOper := [⟨(some (K.ofNat 21)), none, .mv (.t (K.ofNat 10))⟩, ⟨(some (K.ofNat 22)), none, .bin .lss (.t (K.ofNat 21)) (.c (.i .i64 (.ofNat 2)))⟩]
noncomputable def f6_r5 : List EOper := [⟨(some (K.ofNat 26)), none, .mv (.t (K.ofNat 7))⟩, ⟨(some (K.ofNat 27)), none, .mv (.t (K.ofNat 8))⟩, ⟨(some (K.ofNat 28)), none, .mv (.t (K.ofNat 9))⟩, ⟨(some (K.ofNat 29)), none, .call (.c (.fn (K.ofNat 21) [])) [(.t (K.ofNat 26)), (.t (K.ofNat 27)), (.t (K.ofNat 28))]⟩, ⟨(some (K.ofNat 25)), none, .mv (.t (K.ofNat 29))⟩, ⟨(some (K.ofNat 30)), none, .ext (.t (K.ofNat 25)) 0⟩, ⟨(some (K.ofNat 31)), none, .ext (.t (K.ofNat 25)) 1⟩, ⟨(some (K.ofNat 11)), none, .as (.t (K.ofNat 30))⟩, ⟨(some (K.ofNat 12)), none, .as (.t (K.ofNat 31))⟩]
noncomputable def f6_r6 : List EOper := [⟨(some (K.ofNat 32)), none, .mv (.t (K.ofNat 7))⟩, ⟨(some (K.ofNat 33)), none, .mv (.t (K.ofNat 8))⟩, ⟨(some (K.ofNat 34)), none, .mv (.t (K.ofNat 9))⟩, ⟨(some (K.ofNat 35)), none, .call (.c (.fn (K.ofNat 32) [])) [(.t (K.ofNat 32)), (.t (K.ofNat 33)), (.t (K.ofNat 34))]⟩, ⟨(some (K.ofNat 36)), none, .not (.t (K.ofNat 35))⟩]
noncomputable def f6_r7 : List EOper := [⟨(some (K.ofNat 37)), none, .mv (.t (K.ofNat 12))⟩, ⟨(some (K.ofNat 38)), none, .bin .neq (.t (K.ofNat 37)) (.c (.i .i64 (.ofNat 1)))⟩, ⟨(some (K.ofNat 39)), none, .mv (.t (K.ofNat 38))⟩, ⟨(some (K.ofNat 40)), (some ((K.ofNat 39), false)), .mv (.t (K.ofNat 11))⟩, ⟨(some (K.ofNat 41)), (some ((K.ofNat 39), false)), .len (.t (K.ofNat 40))⟩, ⟨(some (K.ofNat 42)), (some ((K.ofNat 39), false)), .bin .neq (.t (K.ofNat 41)) (.c (.i .i64 (.ofNat 0)))⟩, ⟨(some (K.ofNat 43)), none, .pick (.t (K.ofNat 39)) (.c (.b true)) (.t (K.ofNat 42))⟩]
noncomputable def f6_r8 : List EOper := [⟨(some (K.ofNat 6)), none, .as (.c (.b false))⟩]
noncomputable def f6_r9 : List EOper := [⟨(some (K.ofNat 44)), none, .mv (.t (K.ofNat 12))⟩, ⟨(some (K.ofNat 45)), none, .bin .neq (.t (K.ofNat 44)) (.c (.i .i64 (.ofNat 0)))⟩, ⟨(some (K.ofNat 46)), none, .mv (.t (K.ofNat 45))⟩, ⟨(some (K.ofNat 47)), (some ((K.ofNat 46), false)), .mv (.t (K.ofNat 11))⟩, ⟨(some (K.ofNat 48)), (some ((K.ofNat 46), false)), .mv (.t (K.ofNat 8))⟩, ⟨(some (K.ofNat 49)), (some ((K.ofNat 46), false)), .mv (.t (K.ofNat 9))⟩, ⟨(some (K.ofNat 50)), (some ((K.ofNat 46), false)), .call (.c (.fn (K.ofNat 36) [])) [(.t (K.ofNat 48)), (.t (K.ofNat 49))]⟩, ⟨(some (K.ofNat 51)), (some ((K.ofNat 46), false)), .call (.c (.fn (K.ofNat 35) [])) [(.t (K.ofNat 47)), (.t (K.ofNat 50))]⟩, ⟨(some (K.ofNat 52)), (some ((K.ofNat 46), false)), .not (.t (K.ofNat 51))⟩, ⟨(some (K.ofNat 53)), none, .pick (.t (K.ofNat 46)) (.c (.b true)) (.t (K.ofNat 52))⟩]
noncomputable def f6_r10 : List EOper := [⟨(some (K.ofNat 6)), none, .as (.c (.b false))⟩]
noncomputable def f6_r11 : List EOper := [⟨(some (K.ofNat 54)), none, .mv (.t (K.ofNat 7))⟩, ⟨(some (K.ofNat 55)), none, .mv (.t (K.ofNat 8))⟩, ⟨(some (K.ofNat 56)), none, .call (.c (.fn (K.ofNat 29) [])) [(.t (K.ofNat 54)), (.t (K.ofNat 55)), (.c (.b false))]⟩, ⟨(some (K.ofNat 9)), none, .as (.t (K.ofNat 56))⟩]
noncomputable def f6_r12 : List EOper := [⟨(some (K.ofNat 23)), none, .mv (.t (K.ofNat 10))⟩, ⟨(some (K.ofNat 24)), none, .bin .add (.t (K.ofNat 23)) (.c (.i .i64 (.ofNat 1)))⟩, ⟨(some (K.ofNat 10)), none, .as (.t (K.ofNat 24))⟩]
noncomputable def f6_l0 : EC := (.seq (.seq (.reg f6_r4) (.cond (.t (K.ofNat 22)) .skip (.exit 0))) (.seq (.block 1 (.seq (.reg f6_r5) (.seq (.seq (.reg f6_r6) (.cond (.t (K.ofNat 36)) (.seq (.reg f6_r7) (.cond (.t (K.ofNat 43)) (.seq (.reg f6_r8) .ret) .skip)) (.seq (.reg f6_r9) (.cond (.t (K.ofNat 53)) (.seq (.reg f6_r10) .ret) .skip)))) (.reg f6_r11)))) (.reg f6_r12)))
noncomputable def f6_r13 : List EOper := [⟨(some (K.ofNat 57)), none, .call (.c (.fn (K.ofNat 23) [])) []⟩, ⟨(some (K.ofNat 6)), none, .as (.t (K.ofNat 57))⟩]
noncomputable def f6_c : EC := (.seq (.reg f6_r0) (.seq (.reg f6_r1) (.seq (.reg f6_r2) (.seq (.seq (.reg f6_r3) (.block 0 (.loop f6_l0))) (.seq (.reg f6_r13) .ret)))))
noncomputable def f6 : EF := ⟨58, [.tmp (K.ofNat 6)], f6_c, none⟩
theorem f6_rs : f6.rs = [.tmp (K.ofNat 6)] := of_eq_true (eq_self _)
section
variable {fs : T EF} {h : H} {v w : V} {n : Nat} {E : List (Int × Int)} {L : List Int}
def f36_I (h : H) (w v : V) (E : List (Int × Int)) (L : List Int) (t : Nat) (fr : Fr) (h1 : H) : Prop := t ≤ 2 * E.length + 1 ∧ Grow h.nx.nat h h1 ∧ ∃ o us, Sll h1 o us ((List.range t).map (cpRow E L)) ∧ Own h.nx.nat o ∧ fr.get (K.ofNat 0) = some (w) ∧ fr.get (K.ofNat 1) = some (v) ∧ fr.get (K.ofNat 5) = some (.i .i64 ((2 * E.length + 1 : Nat) : Int)) ∧ fr.get (K.ofNat 6) = some (o) ∧ fr.get (K.ofNat 7) = some (.i .i64 (t : Int))
def f36_J (h2 : H) (w v o : V) (E : List (Int × Int)) (L : List Int) (t : Nat) (j : Nat) (fr : Fr) (h1 : H) : Prop := j ≤ E.length ∧ Grow h2.nx.nat h2 h1 ∧ ∃ c, Sk 2 qE h1 c ((E.take j).map (cpE L (2 * E.length + 1) t)) ∧ Own h2.nx.nat c ∧ fr.get (K.ofNat 0) = some (w) ∧ fr.get (K.ofNat 1) = some (v) ∧ fr.get (K.ofNat 5) = some (.i .i64 ((2 * E.length + 1 : Nat) : Int)) ∧ fr.get (K.ofNat 6) = some (o) ∧ fr.get (K.ofNat 7) = some (.i .i64 (t : Int)) ∧ fr.get (K.ofNat 8) = some (c) ∧ fr.get (K.ofNat 9) = some (.i .i64 (j : Int))
theorem f36_ret (hw : Srp h w E) (hv : Sr iE h v L) (hc : HC h) (hE : EdgesOk n E) (hlab : LabOk E L) (hn : L.length = n) : Ret fs f36 [w, v] h fun r h' => (∃ us, Sll h' r us (cpAll E L)) ∧ Grow h.nx.nat h h' := by
  have hE10 := hE.1
  apply ret_of rfl
  show W fs none f36_c _ _ _
  unfold f36_c
  have es : (2 * (E.length : Int) + 1) = ((2 * E.length + 1 : Nat) : Int) := by omega
  have e2 : ((2 * E.length : Nat) : Int) = 2 * (E.length : Int) := by omega
  simp (disch := omega) only [f36_r0, f36_r1, f36_r2, f36_r3, w_reg, w_seq, w_block, seqK_n, x_nil, x_mv, x_as, x_bin, x_len, kx, rvP_ok, okv_some, ev_t, ev_c, getV_some, putD_some, bin_add, bin_mul, frame_2, of0, of1, of2, getK_set, Nat.reduceEqDiff, ↓reduceIte, hw.len, fw64, es]
  refine W_loop (f36_I h w v E L) (fun t => 2 * E.length + 1 - t) ?_ 0 ⟨by omega, Grow.refl _ _, .sn, [], Sll.nil, Own.sn, by simp (disch := omega) only [getK_set, Nat.reduceEqDiff, ↓reduceIte, and_self, Int.natCast_zero]⟩
  rintro t fr h1 ⟨ht, hG, o, us, hso, hoo, g0, g1, g5, g6, g7⟩
  have hc1 := hG.hc hc
  unfold f36_l1
  by_cases hlt : t < 2 * E.length + 1
  · have d0 : decide ((t : Int) < ((2 * E.length + 1 : Nat) : Int)) = true := by simp only [decide_eq_true_eq]; omega
    simp (disch := omega) only [f36_r4, f36_r5, f36_r6, w_skip, w_reg, w_seq, w_cond, w_block, seqK_n, ckB_b, cbB_b, true_and, x_nil, x_mv, x_as, x_bin, kx, rvP_ok, okv_some, ev_t, ev_c, getV_some, putD_some, bin_lss, of0, getK_set, Nat.reduceEqDiff, ↓reduceIte, g5, g7, d0]
    refine W_loop (f36_J h1 w v o E L t) (fun j => E.length - j) ?_ 0 ⟨by omega, Grow.refl _ _, .sn, Sk.nil, Own.sn, by simp (disch := omega) only [getK_set, Nat.reduceEqDiff, ↓reduceIte, g0, g1, g5, g6, g7, and_self, Int.natCast_zero]⟩
    clear g0 g1 g5 g6 g7 fr
    rintro j fr hx ⟨hj, hGx, c, hsk, hown, g0, g1, g5, g6, g7, g8, g9⟩
    have hG1 := hG.trans (hGx.low hG.nx)
    have hcx := hGx.hc hc1
    have hwx := hw.grow hc hG1
    have hvx := hv.grow hc hG1
    unfold f36_l0
    by_cases hlt2 : j < E.length
    · have d1 : decide ((j : Int) < (E.length : Int)) = true := by simpa using hlt2
      obtain ⟨ida, q, hp1, _, hp2, hp3⟩ := hwx.at2 hlt2
      obtain ⟨e0, e1, e3⟩ := hE.2.2 E[j] (List.getElem_mem hlt2)
      obtain ⟨a, ea⟩ : ∃ a : Nat, E[j].1 = (a : Int) := ⟨E[j].1.toNat, by omega⟩
      obtain ⟨b, eb⟩ : ∃ b : Nat, E[j].2 = (b : Int) := ⟨E[j].2.toNat, by omega⟩
      have ha : a < L.length := by omega
      have hb : b < L.length := by omega
      have hla := hlab _ (List.getElem_mem ha)
      have hlb := hlab _ (List.getElem_mem hb)
      obtain ⟨s1, hx1, hx2, hx3⟩ := hvx.atb a ha
      obtain ⟨s2, ht1, ht2, ht3⟩ := hvx.atb b hb
      have hwb := hwx.beq
      have hvb := hvx.beq
      rw [ea] at hp2
      rw [eb] at hp3
      have hrem : ∀ a, binV .rem (.i .i64 a) (.i .i64 ((2 * E.length + 1 : Nat) : Int)) = some (.i .i64 (a.tmod ((2 * E.length + 1 : Nat) : Int))) := fun a => bin_rem (by omega)
      have hcp : cpE L (2 * E.length + 1) t E[j] = (min ((L[a] + t).tmod ((2 * E.length + 1 : Nat) : Int)) ((L[b] + t).tmod ((2 * E.length + 1 : Nat) : Int)), max ((L[a] + t).tmod ((2 * E.length + 1 : Nat) : Int)) ((L[b] + t).tmod ((2 * E.length + 1 : Nat) : Int))) := by
        unfold cpE
        rw [ea, eb]
        simp only [Int.toNat_natCast, List.getD_eq_getElem?_getD, List.getElem?_eq_getElem ha, List.getElem?_eq_getElem hb, Option.getD_some]
      obtain ⟨A, hA⟩ : ∃ A, A = (L[a] + t).tmod ((2 * E.length + 1 : Nat) : Int) := ⟨_, rfl⟩
      obtain ⟨B, hB⟩ : ∃ B, B = (L[b] + t).tmod ((2 * E.length + 1 : Nat) : Int) := ⟨_, rfl⟩
      rw [← hA, ← hB] at hcp
      obtain ⟨c', h4, a1, s4, o4, gr4, _⟩ := Sk.push qE_len (by omega) (x := (min A B, max A B)) hsk hown hGx.nx hcx (by simp; omega)
      have a1' : appV 2 (hx.new (.cells (1 * 2) [.i .i64 (min A B), .i .i64 (max A B)])) c (.sl hx.nx 0 1 2) = .ok c' h4 := a1
      have hsn : (E.take j).map (cpE L (2 * E.length + 1) t) ++ [(min A B, max A B)] = (E.take (j + 1)).map (cpE L (2 * E.length + 1) t) := by
        rw [List.take_succ_eq_append_getElem hlt2, List.map_append]
        simp only [List.map_cons, List.map_nil, hcp]
      rw [hsn] at s4
      simp (disch := omega) only [f36_r7, f36_r8, f36_r9, f36_r10, w_skip, w_reg, w_draw, w_seq, w_cond, w_block, seqK_n, atK_n, loopK_n, ckB_b, cbB_b, true_and, x_nil, x_mv, x_as, x_build, x_bslice, x_bin, x_len, x_app, x_min, x_max, kx, kg, xg_nil, xg_mv, xg_ld, xg_bin, xg_iadr, xg_iads, xd_cons, fresh_nil, stK_n, stK_s, stay_nil, stay_cons, again_ok, stay_mv, beq_i, stay_iads, stay_ld, stay_bin, beq_p, rvP_ok, okv_some, ev_t, ev_c, getV_some, putD_some, bin_add, bin_lss, onP_p, oGet_s, min_ii, max_ii, cells1_i, of0, of1, getK_set, Nat.reduceEqDiff, ↓reduceIte, stay_iadr, fill_2, set_2, ix2_0, ix2_1, cells2, g0, g1, g5, g7, g8, g9, hwx.len, d1, hp1, hp2, hp3, hx1, hx2, ht1, ht2, ht3, hwb, hvb, iE, hrem, ← hA, ← hB, fw64, stay_iadr, beq_p, beq_i, fill_2, set_2, cells2, fill_p2, set_p2, a1']
      exact ⟨j + 1, by omega, by omega, hGx.trans gr4, c', s4, o4, by simp (disch := omega) only [getK_set, Nat.reduceEqDiff, ↓reduceIte, g0, g1, g5, g6, g7, and_self, Int.natCast_add, Int.natCast_one]⟩
    · have d1 : decide ((j : Int) < (E.length : Int)) = false := by simpa using hlt2
      have ej : j = E.length := by omega
      rw [ej, List.take_length] at hsk
      have hsox := hso.grow hc1 hGx
      obtain ⟨o', h4, a1, s4, o4, gr4, _⟩ := hsox.push (b := h.nx.nat) hoo hG1.nx hcx (by simp; omega) hsk.srp (fun id off n sz e off' n' sz' e' => by
        have h1' := hown _ _ _ _ e
        have h2' := hso.out.lt hc1 _ _ _ _ e'
        omega)
      have hsn : (List.range t).map (cpRow E L) ++ [E.map (cpE L (2 * E.length + 1) t)] = (List.range (t + 1)).map (cpRow E L) := by
        rw [List.range_succ, List.map_append]; rfl
      rw [hsn] at s4
      have hcell := hsk.srp.cell
      simp (disch := omega) only [f36_r7, f36_r11, f36_r12, w_reg, w_seq, w_cond, w_exit, seqK_n, seqK_e, atK_n, atK_e, loopK_n, loopK_e, ckB_b, cbB_b, true_and, x_nil, x_mv, x_as, x_bslice, x_bin, x_len, x_app, kx, rvP_ok, okv_some, ev_t, ev_c, getV_some, putD_some, bin_add, bin_lss, oGet_s, fill_1, set_1, of1, getK_set, Nat.reduceEqDiff, ↓reduceIte, Bool.false_eq_true, g0, g6, g7, g8, g9, hwx.len, d1, fill_1, hcell, set_1, a1, fw64]
      exact ⟨t + 1, by omega, by omega, hG1.trans gr4, o', _, s4, o4, by simp (disch := omega) only [getK_set, Nat.reduceEqDiff, ↓reduceIte, g0, g1, g5, and_self, Int.natCast_add, Int.natCast_one]⟩
  · have d0 : decide ((t : Int) < ((2 * E.length + 1 : Nat) : Int)) = false := by simp only [decide_eq_false_iff_not]; omega
    have et : t = 2 * E.length + 1 := by omega
    rw [et] at hso
    simp (disch := omega) only [f36_r4, f36_r13, f36_rs, w_reg, w_seq, w_cond, w_exit, w_ret, seqK_n, seqK_e, atK_e, loopK_e, ckB_b, cbB_b, true_and, retK_r, x_nil, x_mv, x_as, x_bin, kx, rvP_ok, okv_some, ev_t, getV_some, putD_some, bin_lss, oGet_s, readRs_nil, readRs_t, retV_1, Option.some.injEq, exists_eq_left', getK_set, Nat.reduceEqDiff, ↓reduceIte, Bool.false_eq_true, g5, g6, g7, d0]
    exact ⟨⟨us, hso⟩, hG⟩
/-! ### The comparison -/
def f35_I (h : H) (v w : V) (Ls : List (List (Int × Int))) (i : Nat) (fr : Fr) (h1 : H) : Prop := i ≤ Ls.length ∧ h1 = h ∧ fr.get (K.ofNat 0) = some (v) ∧ fr.get (K.ofNat 1) = some (w) ∧ fr.get (K.ofNat 5) = some (.i .i64 (i : Int))
def f35_J (h : H) (v w : V) (l : List (Int × Int)) (i : Nat) (j : Nat) (fr : Fr) (h1 : H) : Prop := j ≤ l.length ∧ h1 = h ∧ fr.get (K.ofNat 0) = some (v) ∧ fr.get (K.ofNat 1) = some (w) ∧ fr.get (K.ofNat 5) = some (.i .i64 (i : Int)) ∧ fr.get (K.ofNat 6) = some (.i .i64 (j : Int))
theorem f35_same {us us' : List V} {Ls : List (List (Int × Int))} (hv : Sll h v us Ls) (hw : Sll h w us' Ls) (hb : ∀ l ∈ Ls, l.length ≤ 1000000 ∧ ∀ x ∈ l, inR .i64 x.1 = true ∧ inR .i64 x.2 = true) (hL : Ls.length ≤ 1000000) : Ret fs f35 [v, w] h fun r h' => r = .b true ∧ h' = h := by
  apply ret_of rfl
  show W fs none f35_c _ _ _
  unfold f35_c
  have hl1 : ∀ h1, lenV v h1 = .ok (.i .i64 (Ls.length : Int)) h1 := fun h1 => by rw [hv.out.len, hv.len]
  have hl2 : ∀ h1, lenV w h1 = .ok (.i .i64 (Ls.length : Int)) h1 := fun h1 => by rw [hw.out.len, hw.len]
  have d0 : decide ((Ls.length : Int) ≠ (Ls.length : Int)) = false := by simp
  simp (disch := omega) only [f35_r0, f35_r1, f35_r3, w_skip, w_reg, w_seq, w_cond, w_block, seqK_n, ckB_b, cbB_b, true_and, x_nil, x_mv, x_as, x_bin, x_len, kx, rvP_ok, okv_some, ev_t, ev_c, getV_some, putD_some, bin_neq, frame_2, of0, getK_set, Nat.reduceEqDiff, ↓reduceIte, Bool.false_eq_true, hl1, hl2, d0]
  refine W_loop (f35_I h v w Ls) (fun i => Ls.length - i) ?_ 0 ⟨by omega, rfl, by simp (disch := omega) only [getK_set, Nat.reduceEqDiff, ↓reduceIte, and_self, Int.natCast_zero]⟩
  rintro i fr h1 ⟨hi, rfl, g0, g1, g5⟩
  unfold f35_l1
  by_cases hlt : i < Ls.length
  · have d1 : decide ((i : Int) < (Ls.length : Int)) = true := by simpa using hlt
    have hiv : i < us.length := by rw [hv.len]; exact hlt
    have hiw : i < us'.length := by rw [hw.len]; exact hlt
    obtain ⟨p, hp1, hp2⟩ := hv.out.at i hiv
    obtain ⟨q, hq1, hq2⟩ := hw.out.at i hiw
    have hu := hv.inn i hiv hlt
    have hu' := hw.inn i hiw hlt
    obtain ⟨hb1, hb2⟩ := hb _ (List.getElem_mem hlt)
    generalize Ls[i] = l at *
    have hp2 : loadV h1 p one? = .ok us[i] h1 := hp2
    have hq2 : loadV h1 q one? = .ok us'[i] h1 := hq2
    generalize us[i] = u at *
    generalize us'[i] = u' at *
    have d2 : decide ((l.length : Int) ≠ (l.length : Int)) = false := by simp
    simp (disch := omega) only [f35_r4, f35_r5, f35_r7, w_skip, w_reg, w_draw, w_seq, w_cond, w_block, seqK_n, ckB_b, cbB_b, true_and, x_nil, x_mv, x_as, x_bin, x_len, kx, kg, xg_nil, xg_mv, xg_ld, xg_bin, xg_iads, xg_len, xd_cons, fresh_nil, stK_n, stay_nil, rvP_ok, okv_some, ev_t, ev_c, getV_some, putD_some, bin_neq, bin_lss, of0, getK_set, Nat.reduceEqDiff, ↓reduceIte, Bool.false_eq_true, g0, g1, g5, hl1, d1, hp1, hp2, hq1, hq2, hu.len, hu'.len, d2]
    refine W_loop (f35_J h1 v w l i) (fun j => l.length - j) ?_ 0 ⟨by omega, rfl, by simp (disch := omega) only [getK_set, Nat.reduceEqDiff, ↓reduceIte, g0, g1, g5, and_self, Int.natCast_zero]⟩
    clear g0 g1 g5 fr
    rintro j fr h2 ⟨hj, rfl, g0, g1, g5, g6⟩
    unfold f35_l0
    by_cases hlt2 : j < l.length
    · have d3 : decide ((j : Int) < (l.length : Int)) = true := by simpa using hlt2
      obtain ⟨ida, q1, hr1, hr2, _, _⟩ := hu.at2 hlt2
      obtain ⟨idb, q2, hr3, hr4, _, _⟩ := hu'.at2 hlt2
      obtain ⟨b1, b2⟩ := hb2 _ (List.getElem_mem hlt2)
      have hk := keyEq_2 b1 b2 b1 b2
      have hk2 : (decide (l[j].1 = l[j].1) && decide (l[j].2 = l[j].2)) = true := by simp
      rw [hk2] at hk
      simp (disch := omega) only [f35_r8, f35_r9, f35_r11, w_skip, w_reg, w_draw, w_seq, w_cond, w_block, seqK_n, atK_n, loopK_n, ckB_b, cbB_b, true_and, x_nil, x_mv, x_as, x_ld, x_bin, x_iads, x_len, kx, kg, xg_nil, xg_mv, xg_ld, xg_ldn, xg_eqk, xg_iads, xd_cons, fresh_nil, stK_n, stay_nil, rvP_ok, okv_some, ev_t, ev_c, getV_some, putD_some, bin_add, bin_lss, oGet_s, of1, getK_set, Nat.reduceEqDiff, ↓reduceIte, Bool.false_eq_true, Bool.not_true, g0, g1, g5, g6, hp1, hp2, hq1, hq2, hu.len, d3, hr1, hr2, hr3, hr4, hk, cond_true, Bool.not_true, fw64]
      exact ⟨j + 1, by omega, by omega, rfl, by simp (disch := omega) only [getK_set, Nat.reduceEqDiff, ↓reduceIte, g0, g1, g5, and_self, Int.natCast_add, Int.natCast_one]⟩
    · have d3 : decide ((j : Int) < (l.length : Int)) = false := by simpa using hlt2
      simp (disch := omega) only [f35_r8, f35_r12, w_reg, w_seq, w_cond, w_exit, seqK_n, seqK_e, atK_n, atK_e, loopK_n, loopK_e, ckB_b, cbB_b, true_and, x_nil, x_mv, x_as, x_ld, x_bin, x_iads, x_len, kx, rvP_ok, okv_some, ev_t, ev_c, getV_some, putD_some, bin_add, bin_lss, of1, getK_set, Nat.reduceEqDiff, ↓reduceIte, Bool.false_eq_true, g0, g5, g6, hp1, hp2, hu.len, d3, fw64]
      exact ⟨i + 1, by omega, by omega, rfl, by simp (disch := omega) only [getK_set, Nat.reduceEqDiff, ↓reduceIte, g0, g1, and_self, Int.natCast_add, Int.natCast_one]⟩
  · have d1 : decide ((i : Int) < (Ls.length : Int)) = false := by simpa using hlt
    simp (disch := omega) only [f35_r4, f35_r13, f35_rs, w_reg, w_seq, w_cond, w_exit, w_ret, seqK_n, seqK_e, atK_e, loopK_e, ckB_b, cbB_b, retK_r, x_nil, x_mv, x_as, x_bin, x_len, kx, rvP_ok, okv_some, ev_t, ev_c, getV_some, putD_some, bin_lss, oGet_s, readRs_nil, readRs_t, retV_1, Option.some.injEq, exists_eq_left', getK_set, Nat.reduceEqDiff, ↓reduceIte, Bool.false_eq_true, g0, g5, hl1, d1, and_self]
/-! ### The law -/
theorem cpAll_in (hE : E.length ≤ 10) : ∀ l ∈ cpAll E L, l.length ≤ 1000000 ∧ ∀ x ∈ l, inR .i64 x.1 = true ∧ inR .i64 x.2 = true := fun l hl => by
  obtain ⟨t, _, rfl⟩ := List.mem_map.1 hl
  refine ⟨by unfold cpRow; simp; omega, fun x hx => ?_⟩
  obtain ⟨e, he, rfl⟩ := List.mem_map.1 hx
  have key : ∀ z : Int, inR .i64 (z.tmod ((2 * E.length + 1 : Nat) : Int)) = true := fun z => by
    have h1 := Int.tmod_lt_of_pos z (b := ((2 * E.length + 1 : Nat) : Int)) (by omega)
    have h2 := Int.lt_tmod_of_pos z (b := ((2 * E.length + 1 : Nat) : Int)) (by omega)
    generalize z.tmod ((2 * E.length + 1 : Nat) : Int) = y at *
    obtain ⟨k, hk⟩ | ⟨k, hk⟩ : (∃ k : Nat, y = (k : Int)) ∨ ∃ k : Nat, y = Int.negSucc k := by cases y with
      | ofNat k => exact .inl ⟨k, rfl⟩
      | negSucc k => exact .inr ⟨k, rfl⟩
    · subst hk; exact Nat.ble_eq_true_of_le (show k ≤ 9223372036854775807 by omega)
    · subst hk; exact Nat.ble_eq_true_of_le (show k + 1 ≤ 9223372036854775808 by omega)
  unfold cpE
  simp only [Int.min_def, Int.max_def]
  constructor <;> split <;> exact key _
structure CallsCl (fs : T EF) : Prop extends CallsCp fs, CallsSe fs where
  c15 : fs.get (K.ofNat 15) = some f15
  c21 : fs.get (K.ofNat 21) = some f21
  c28 : fs.get (K.ofNat 28) = some f28
  c29 : fs.get (K.ofNat 29) = some f29
  c35 : fs.get (K.ofNat 35) = some f35
  c36 : fs.get (K.ofNat 36) = some f36
  aw : ∀ h P, CallP fs (.fn (K.ofNat 23) []) [] h P = P (.b true) h
def f6_I (h : H) (u : V) (m : Nat) (E : List (Int × Int)) (i : Nat) (fr : Fr) (h1 : H) : Prop := i ≤ 2 ∧ ∃ w X, Sr iE h1 w X ∧ X.length ≤ 10 ∧ Srp h1 u E ∧ Grow h.nx.nat h h1 ∧ fr.get (K.ofNat 7) = some (.i .i64 (m : Int)) ∧ fr.get (K.ofNat 8) = some (u) ∧ fr.get (K.ofNat 9) = some (w) ∧ fr.get (K.ofNat 10) = some (.i .i64 (i : Int))
theorem f6_ret {v2 : V} {l : List (Int × Int)} {L : List Int} {n : Int} (k : CallsCl fs) (hv : Srp h v l) (hv2 : Sr iE h v2 L) (hL : l.length ≤ 9223372036854775807) (hc : HC h) : Ret fs f6 [.i .i64 n, v, v2] h fun r h' => r = .b true ∧ Grow h.nx.nat h h' := by
  have aw := k.aw
  apply ret_of rfl
  show W fs none f6_c _ _ _
  unfold f6_c
  simp (disch := omega) only [f6_r0, f6_r1, w_reg, w_seq, seqK_n, x_nil, x_mv, x_as, x_call, ev_t, ev_c, evs_nil, evs_cons, getV_some, putD_some, frame_3, of10, getK_set, Nat.reduceEqDiff, ↓reduceIte]
  refine (callP_0 (ef := f28) k.c28 rfl (f28_ret (n := n) hv hc hL)).mono ?_
  rintro r h1 ⟨m, u, E, rfl, hu, hchk, hG1⟩
  obtain ⟨m', hm', hm2, hE⟩ := chkI_ok hchk
  obtain rfl : m = m' := by omega
  have hE10 : E.length ≤ 10 := hE.1
  have hm7 : m ≤ 7 := hE.2.1
  have hc1 := hG1.hc hc
  simp (disch := omega) only [f6_r2, w_reg, w_seq, seqK_n, x_nil, x_mv, x_as, x_ext, x_call, kx, rvP_ok, okv_some, ev_t, ev_c, evs_nil, evs_cons, getV_some, putD_some, onTup_t, nth0, nth1, of10, getK_set, Nat.reduceEqDiff, ↓reduceIte]
  refine (callP_0 (ef := f15) k.c15 rfl (f15_sr (m := 10) (hv2.grow hc hG1) hc1 (by omega))).mono ?_
  rintro w h2 ⟨hsw, _, hG2⟩
  have hG12 := hG1.trans (hG2.low hG1.nx)
  simp (disch := omega) only [f6_r3, w_reg, w_seq, w_block, seqK_n, x_nil, x_as, kx, ev_t, ev_c, getV_some, putD_some, of0, getK_set, ↓reduceIte]
  refine W_loop (f6_I h u m E) (fun i => 2 - i) ?_ 0 ⟨by omega, w, _, hsw.sr, by simp; omega, hu.grow hc1 hG2, hG12, by simp (disch := omega) only [getK_set, Nat.reduceEqDiff, ↓reduceIte, and_self, Int.natCast_zero]⟩
  clear hsw hG12 hG2 hu hG1 hc1
  rintro i fr h1 ⟨hi, w, X, hw, hX, hu, hG, g7, g8, g9, g10⟩
  have hc1 := hG.hc hc
  unfold f6_l0
  by_cases hlt : i < 2
  · have d0 : decide ((i : Int) < 2) = true := by simp; omega
    have ne0 : decide ((0 : Int) ≠ 0) = false := rfl
    have ne1 : decide ((1 : Int) ≠ 1) = false := rfl
    have rest : ∀ fr h3, Grow h.nx.nat h h3 → Srp h3 u E → fr.get (K.ofNat 7) = some (.i .i64 (m : Int)) ∧ fr.get (K.ofNat 8) = some (u) ∧ fr.get (K.ofNat 10) = some (.i .i64 (i : Int)) →
        Go.Ev.X fs f6_r11 (atK 1 (seqK (W fs none (.reg f6_r12)) (loopK (f6_I h u m E) (fun i => 2 - i) i (atK 0 (seqK (W fs none (.seq (.reg f6_r13) .ret)) (retK f6 fun r h' => r = .b true ∧ Grow h.nx.nat h h'))))) .normal) fr h3 := by
      clear g7 g8 g9 g10 fr
      rintro fr h3 hG3 hu3 ⟨g7, g8, g10⟩
      simp (disch := omega) only [f6_r11, x_mv, x_call, ev_t, ev_c, evs_nil, evs_cons, getV_some, putD_some, getK_set, Nat.reduceEqDiff, ↓reduceIte, g7, g8]
      refine (callP_0 (ef := f29) k.c29 rfl (f29_ret k.toCallsSe hE (by omega) (hG3.hc hc) hu3)).mono ?_
      rintro r h4 ⟨hr, hG4⟩
      simp (disch := omega) only [f6_r12, w_reg, seqK_n, atK_n, loopK_n, x_nil, x_mv, x_as, x_bin, kx, rvP_ok, okv_some, ev_t, ev_c, getV_some, putD_some, bin_add, of1, getK_set, Nat.reduceEqDiff, ↓reduceIte, g10, fw64]
      refine ⟨i + 1, by omega, by omega, r, _, hr.sr, ?_, hu3.grow (hG3.hc hc) hG4, hG3.trans (hG4.low hG3.nx), by simp (disch := omega) only [getK_set, Nat.reduceEqDiff, ↓reduceIte, g7, g8, and_self, Int.natCast_add, Int.natCast_one]⟩
      rw [renL_all hE]
      cases hq : labsL m E with
      | nil => simp
      | cons M l =>
        have := (labsL_gr hE (M := M) (by rw [hq]; simp)).2.2.1
        show M.length ≤ _
        omega
    simp (disch := omega) only [f6_r4, f6_r5, w_skip, w_reg, w_seq, w_cond, w_block, seqK_n, ckB_b, cbB_b, true_and, x_nil, x_mv, x_bin, x_call, kx, rvP_ok, okv_some, ev_t, ev_c, evs_nil, evs_cons, getV_some, putD_some, bin_lss, of2, getK_set, Nat.reduceEqDiff, ↓reduceIte, g7, g8, g9, g10, d0]
    cases hg : grB (m : Int) E X with
    | false =>
      refine (callP_0 (ef := f21) k.c21 rfl (f21_no k.toCallsIg hu hw hc1 (by omega) hchk hg)).mono ?_
      rintro r h2 ⟨rfl, hg2⟩
      have hGa := hG.trans (hg2.low hG.nx)
      have hc2 := hg2.hc hc1
      have hu2 := hu.grow hc1 hg2
      have hw2 := hw.grow hc1 hg2
      simp (disch := omega) only [f6_r6, w_reg, w_seq, seqK_n, x_nil, x_mv, x_as, x_ext, x_call, kx, rvP_ok, okv_some, ev_t, ev_c, evs_nil, evs_cons, getV_some, putD_some, onTup_t, nth0, nth1, getK_set, Nat.reduceEqDiff, ↓reduceIte, g7, g8, g9]
      refine (callP_0 (ef := f32) k.c32 rfl (f32_ret hu2 hw2 hc2 hE (by omega))).mono ?_
      rintro r h3 ⟨rfl, hg3⟩
      have hGb := hGa.trans (hg3.low hGa.nx)
      have hu3 := hu2.grow hc2 hg3
      have l0 : ∀ h1, lenV .sn h1 = .ok (.i .i64 0) h1 := fun _ => rfl
      simp (disch := omega) only [f6_r7, w_skip, w_reg, w_seq, w_cond, seqK_n, ckB_b, cbB_b, okG_b, asG_f, true_and, x_nil, x_g, x_mv, x_pick, x_bin, x_not, x_len, kx, rvP_ok, okv_some, ev_t, ev_c, getV_some, putD_some, bin_neq, pick_b, onB_b, of0, of1, getK_set, Nat.reduceEqDiff, ↓reduceIte, Bool.false_eq_true, Bool.not_false, hg, Bool.not_false, ne0, ne1, l0]
      exact rest _ _ hGb hu3 (by simp (disch := omega) only [getK_set, Nat.reduceEqDiff, ↓reduceIte, g7, g8, g10, and_self])
    | true =>
      obtain ⟨hXm, hlin⟩ := gr_labs hg
      refine (callP_0 (ef := f21) k.c21 rfl (f21_ok k.toCallsCp hu hw hc1 (by omega) hchk hg)).mono ?_
      rintro r h2 ⟨o, us, rfl, hso, hg2⟩
      have hGa := hG.trans (hg2.low hG.nx)
      have hc2 := hg2.hc hc1
      have hu2 := hu.grow hc1 hg2
      have hw2 := hw.grow hc1 hg2
      simp (disch := omega) only [f6_r6, w_reg, w_seq, seqK_n, x_nil, x_mv, x_as, x_ext, x_call, kx, rvP_ok, okv_some, ev_t, ev_c, evs_nil, evs_cons, getV_some, putD_some, onTup_t, nth0, nth1, getK_set, Nat.reduceEqDiff, ↓reduceIte, g7, g8, g9]
      refine (callP_0 (ef := f32) k.c32 rfl (f32_ret hu2 hw2 hc2 hE (by omega))).mono ?_
      rintro r h3 ⟨rfl, hg3⟩
      have hGb := hGa.trans (hg3.low hGa.nx)
      have hc3 := hg3.hc hc2
      have hu3 := hu2.grow hc2 hg3
      have hw3 := hw2.grow hc2 hg3
      have hso3 := hso.grow hc2 hg3
      simp (disch := omega) only [f6_r9, w_reg, w_seq, w_cond, seqK_n, ckB_b, cbB_b, okG_b, asG_f, true_and, x_nil, x_g, x_mv, x_bin, x_not, x_call, kx, rvP_ok, okv_some, ev_t, ev_c, evs_nil, evs_cons, getV_some, putD_some, bin_neq, onB_b, of0, getK_set, Nat.reduceEqDiff, ↓reduceIte, Bool.false_eq_true, Bool.not_true, Bool.not_false, g8, g9, hg, Bool.not_true, ne0]
      refine (callP_0 (ef := f36) k.c36 rfl (f36_ret hu3 hw3 hc3 hE hlin hXm)).mono ?_
      rintro o2 h4 ⟨⟨us2, hso2⟩, hg4⟩
      have hGc := hGb.trans (hg4.low hGb.nx)
      have hu4 := hu3.grow hc3 hg4
      have hso4 := hso3.grow hc3 hg4
      simp (disch := omega) only [okG_b, asG_f, true_and, x_g, x_call, kx, ev_t, ev_c, evs_nil, evs_cons, getV_some, putD_some, getK_set, Nat.reduceEqDiff, ↓reduceIte, Bool.not_false]
      refine (callP_0 (ef := f35) k.c35 rfl (f35_same hso4 hso2 (cpAll_in hE10) (by simp [cpAll]; omega))).mono ?_
      rintro r h5 ⟨rfl, rfl⟩
      simp (disch := omega) only [w_skip, w_reg, w_cond, seqK_n, ckB_b, cbB_b, okG_b, asG_f, true_and, x_nil, x_g, x_pick, x_not, kx, rvP_ok, ev_t, ev_c, getV_some, putD_some, pick_b, onB_b, getK_set, Nat.reduceEqDiff, ↓reduceIte, Bool.false_eq_true, Bool.not_true, Bool.not_false, Bool.not_true]
      exact rest _ _ hGc hu4 (by simp (disch := omega) only [getK_set, Nat.reduceEqDiff, ↓reduceIte, g7, g8, g10, and_self])
  · have d0 : decide ((i : Int) < 2) = false := by simp; omega
    simp (disch := omega) only [f6_r4, f6_r13, f6_rs, w_reg, w_seq, w_cond, w_exit, w_ret, seqK_n, seqK_e, atK_e, loopK_e, ckB_b, cbB_b, true_and, retK_r, x_nil, x_mv, x_as, x_bin, x_call, kx, rvP_ok, okv_some, ev_t, ev_c, evs_nil, getV_some, putD_some, bin_lss, oGet_s, readRs_nil, readRs_t, retV_1, of2, Option.some.injEq, exists_eq_left', getK_set, ↓reduceIte, Bool.false_eq_true, g10, d0, aw, true_and]
    exact hG
end
end Go.Ev
