/-
  Labels: the reference's search, whole.
  Labels: the first labels that part; the law LabelsFirst.
-/
import Derived.Test.YtmnojcnimncbpaaPf
namespace Go.Ev
open Go Go.RowKit
theorem fitB_eq {E : List (Int × Int)} {L : List Int} {x : Int} {b : Bool} (h : b = true ↔ PwK E (L ++ [x]) ((L.length : Int) + 1) ∧ x ∉ L) : b = fitB E L x := by
  rw [Bool.eq_iff_iff, fitB_iff]; exact h
section
variable {fs : T EF} {ro : Option K} {h h' : H} {v w : V} {n : Nat} {E : List (Int × Int)} {L : List Int} {x : Int}
def MetK (E : List (Int × Int)) (M : List Int) (k : Int) (B : List Bool) : Prop := ∀ d (h : d < B.length), B[d] = true ↔ ∃ e ∈ E, e.2 < k ∧ dfE M e = (d : Int)
def f109_J2 (h : H) (v w : V) (x : Int) (E : List (Int × Int)) (L : List Int) (j : Nat) (fr : Fr) (h1 : H) : Prop := j ≤ E.length ∧ Grow h.nx.nat h h1 ∧ h.nx.nat < h1.nx.nat ∧ (∃ B : List Bool, B.length = 11 ∧ Ar V.b h1 h.nx B ∧ MetK (E.take j) (L ++ [x]) ((L.length : Int) + 1) B) ∧ PwK (E.take j) (L ++ [x]) ((L.length : Int) + 1) ∧ fr.get (K.ofNat 0) = some (v) ∧ fr.get (K.ofNat 1) = some (w) ∧ fr.get (K.ofNat 2) = some (.i .i64 x) ∧ fr.get (K.ofNat 7) = some (.p h.nx 0) ∧ fr.get (K.ofNat 8) = some (.i .i64 (j : Int))
def f109_I2 (h : H) (w : V) (x : Int) (L : List Int) (i : Nat) (fr : Fr) (h1 : H) : Prop := i ≤ L.length ∧ Grow h.nx.nat h h1 ∧ x ∉ L.take i ∧ fr.get (K.ofNat 1) = some (w) ∧ fr.get (K.ofNat 2) = some (.i .i64 x) ∧ fr.get (K.ofNat 13) = some (.i .i64 (i : Int))
theorem f109_ret (hv : Srp h v E) (hw : Sr iE h w L) (hc : HC h) (hE : EdgesOk n E) (hlin : LabOk E L) (hL : L.length ≤ 7) (hx : 0 ≤ x ∧ x ≤ (E.length : Int)) : Ret fs f109 [v, w, .i .i64 x] h fun r h' => r = .b (fitB E L x) ∧ Grow h.nx.nat h h' := by
  have hE0 := hE
  obtain ⟨hE10, _, hE3⟩ := hE
  apply ret_of rfl
  show W fs none f109_c _ _ _
  unfold f109_c
  have hfl : (List.replicate 11 (V.b false)) = (List.replicate 11 false).map V.b := rfl
  have g0 := Grow.new (Nat.le_refl h.nx.nat) (.cells 11 ((List.replicate 11 false).map V.b))
  have n0 := nx_new h (.cells 11 ((List.replicate 11 false).map V.b))
  have eA : Ar V.b (h.new (.cells 11 ((List.replicate 11 false).map V.b))) h.nx (List.replicate 11 false) := get_new_same
  simp (disch := omega) only [f109_r0, f109_r1, f109_r2, w_reg, w_seq, w_block, seqK_n, x_nil, x_as, x_alloc, ev_c, putD_some, frame_3, of0, hfl]
  refine W_loop (f109_J2 h v w x E L) (fun j => E.length - j) ?_ 0 ⟨by omega, g0, by omega, ⟨_, by simp, eA, fun d hd => by rw [List.getElem_replicate]; simp⟩, by rw [List.take_zero]; exact List.Pairwise.nil, by simp (disch := omega) only [getK_set, Nat.reduceEqDiff, ↓reduceIte, and_self, Int.natCast_zero]⟩
  clear g0 n0 eA
  rintro j fr h1 ⟨hj, hG, hnx, ⟨B, hB, hA, hM⟩, hP, g0, g1, g2, g7, g8⟩
  have hc1 := hG.hc hc
  have hv1 := hv.grow hc hG
  have hw1 := hw.grow hc hG
  unfold f109_l0
  by_cases hlt : j < E.length
  · have d0 : decide ((j : Int) < (E.length : Int)) = true := by simpa using hlt
    obtain ⟨ide, q, hp1, _, hp2, hp3⟩ := hv1.at2 hlt
    obtain ⟨e0, e1, e2⟩ := hE3 E[j] (List.getElem_mem hlt)
    have hvb := hv.beq
    have hwb := hw.beq
    have hsn := pwk_snoc (M := L ++ [x]) (k := (L.length : Int) + 1) hlt
    have htk := List.take_succ_eq_append_getElem hlt
    have hmemE := List.getElem_mem hlt
    generalize hEj : E[j] = ej at *
    obtain ⟨ea0, eb0⟩ := ej
    obtain ⟨a, rfl⟩ : ∃ a : Nat, ea0 = (a : Int) := ⟨ea0.toNat, by simp only at e0; omega⟩
    obtain ⟨b, rfl⟩ : ∃ b : Nat, eb0 = (b : Int) := ⟨eb0.toNat, by simp only at e0 e1; omega⟩
    simp only at e0 e1 e2 hp2 hp3 hsn
    by_cases hbl : b > L.length
    · have d1 : decide ((b : Int) > (L.length : Int)) = true := by simp; omega
      simp (disch := omega) only [f109_r3, f109_r4, f109_r5, f109_r6, w_skip, w_reg, w_draw, w_seq, w_cond, w_block, w_exit, seqK_n, seqK_e, atK_e, ckB_b, cbB_b, true_and, x_nil, x_mv, x_as, x_bin, x_len, kx, kg, xg_nil, xg_mv, xg_ld, xg_iadr, xg_iads, xd_cons, fresh_nil, stK_n, stK_s, stay_nil, stay_cons, again_ok, stay_mv, beq_i, stay_iads, stay_ld, beq_p, rvP_ok, okv_some, ev_t, ev_c, getV_some, putD_some, bin_lss, bin_gtr, onP_p, of0, of1, getK_set, Nat.reduceEqDiff, ↓reduceIte, stay_iadr, ix2_0, ix2_1, g0, g1, g8, hv1.len, d0, hp1, hp2, hp3, hvb, hw1.len, d1]
      simp (disch := omega) only [f109_r13, loopK_n, x_nil, x_mv, x_as, x_bin, kx, rvP_ok, okv_some, ev_t, ev_c, getV_some, putD_some, bin_add, of1, getK_set, Nat.reduceEqDiff, ↓reduceIte, g8, fw64]
      refine ⟨j + 1, by omega, by omega, hG, hnx, ⟨B, hB, hA, fun d hd => ?_⟩, hsn.2 ⟨hP, fun e he _ h => by omega⟩, by simp (disch := omega) only [getK_set, Nat.reduceEqDiff, ↓reduceIte, g0, g1, g2, g7, and_self, Int.natCast_add, Int.natCast_one]⟩
      rw [hM d hd, htk]
      constructor
      · rintro ⟨e, he, h1⟩
        exact ⟨e, List.mem_append_left _ he, h1⟩
      · rintro ⟨e, he, h1, h2⟩
        rcases List.mem_append.1 he with he | he
        · exact ⟨e, he, h1, h2⟩
        · rw [List.mem_singleton.1 he] at h1
          simp only at h1; omega
    · have d1 : decide ((b : Int) > (L.length : Int)) = false := by simp; omega
      simp (disch := omega) only [f109_r3, f109_r4, f109_r5, f109_r6, f109_r7, w_skip, w_reg, w_draw, w_seq, w_cond, w_block, seqK_n, ckB_b, cbB_b, true_and, x_nil, x_mv, x_as, x_bin, x_len, kx, kg, xg_nil, xg_mv, xg_ld, xg_iadr, xg_iads, xd_cons, fresh_nil, stK_n, stK_s, stay_nil, stay_cons, again_ok, stay_mv, beq_i, stay_iads, stay_ld, beq_p, rvP_ok, okv_some, ev_t, ev_c, getV_some, putD_some, bin_lss, bin_gtr, onP_p, of0, of1, getK_set, Nat.reduceEqDiff, ↓reduceIte, Bool.false_eq_true, decide_eq_true_eq, stay_iadr, ix2_0, ix2_1, g0, g1, g2, g8, hv1.len, d0, hp1, hp2, hp3, hvb, hw1.len, d1]
      have tail : ∀ (y : Int) (fr : Fr), 0 ≤ y → y ≤ 10 → dfE (L ++ [x]) ((a : Int), (b : Int)) = max (L.getD a 0 - y) (y - L.getD a 0) → fr.get (K.ofNat 0) = some (v) ∧ fr.get (K.ofNat 1) = some (w) ∧ fr.get (K.ofNat 2) = some (.i .i64 x) ∧ fr.get (K.ofNat 7) = some (.p h.nx 0) ∧ fr.get (K.ofNat 8) = some (.i .i64 (j : Int)) ∧ fr.get (K.ofNat 9) = some (.i .i64 (a : Int)) ∧ fr.get (K.ofNat 11) = some (.i .i64 y) → W fs none f109_t (atK 1 (seqK (W fs none (.reg f109_r13)) (loopK (f109_J2 h v w x E L) (fun j => E.length - j) j (atK 0 (seqK (W fs none (.seq (.seq (.reg f109_r14) (.block 2 (.loop f109_l1))) (.seq (.reg f109_r19) .ret))) (retK f109 fun r h' => r = .b (fitB E L x) ∧ Grow h.nx.nat h h')))))) fr h1 := by
        clear g0 g1 g2 g7 g8 fr
        rintro y fr hy0 hy1 hdf ⟨g0, g1, g2, g7, g8, g9, g11⟩
        unfold f109_t
        have hal : a < L.length := by omega
        obtain ⟨s, hs1, hs2, hs3⟩ := hw1.atb a hal
        obtain ⟨q1, q2⟩ := hlin _ (List.getElem_mem (l := L) (n := a) hal)
        obtain ⟨d, hd⟩ : ∃ d : Nat, max (L[a] - y) (y - L[a]) = (d : Int) := ⟨(max (L[a] - y) (y - L[a])).toNat, by omega⟩
        have hd11 : d < 11 := by omega
        rw [List.getD_eq_getElem?_getD, List.getElem?_eq_getElem hal, Option.getD_some, hd] at hdf
        have ix : ∀ f : Nat → RV, idxV (.i .i64 (d : Int)) 11 f = f d := fun f => idx_n hd11
        have hld := hA.ld (i := d) (by omega)
        have hst := (hA.st (i := d) (x := true) (c := .b true) (by omega) rfl rfl).1
        rw [hB] at hst
        cases hbd : B[d]'(by omega) with
        | true =>
          rw [hbd] at hld
          have hno : false = fitB E L x := fitB_eq ⟨fun h => (by cases h), fun h => by
            obtain ⟨e, he, h1, h2⟩ := (hM d (by omega)).1 hbd
            exact absurd (by rw [h2, hdf]) ((hsn.1 (pwk_take h.1)).2 e he h1 (by omega))⟩
          simp (disch := omega) only [f109_r9, f109_r10, f109_r11, f109_rs, w_reg, w_draw, w_seq, w_cond, w_ret, seqK_n, seqK_r, atK_r, loopK_r, ckB_b, cbB_b, true_and, retK_r, x_nil, x_mv, x_as, x_ld, x_iadr, kx, kg, xg_nil, xg_mv, xg_ld, xg_bin, xg_iads, xg_max, xd_cons, fresh_nil, stK_n, stK_s, stay_nil, rvP_ok, okv_some, ev_t, ev_c, getV_some, putD_some, bin_sub, onP_p, oGet_s, max_ii, readRs_nil, readRs_t, retV_1, Option.some.injEq, exists_eq_left', getK_set, Nat.reduceEqDiff, ↓reduceIte, g1, g7, g9, g11, hs1, hs2, iE, fw64, hd, ix, hld]
          exact ⟨by rw [← hno], hG⟩
        | false =>
          rw [hbd] at hld
          simp (disch := omega) only [f109_r9, f109_r10, f109_r12, f109_r13, w_skip, w_reg, w_draw, w_seq, w_cond, seqK_n, atK_n, loopK_n, ckB_b, cbB_b, true_and, x_nil, x_mv, x_as, x_ld, x_st, x_bin, x_iadr, kx, kg, xg_nil, xg_mv, xg_ld, xg_bin, xg_iads, xg_max, xd_cons, fresh_nil, stK_n, stK_s, stay_nil, rvP_ok, okv_some, ev_t, ev_c, getV_some, putD_some, putD_none, bin_add, bin_sub, onP_p, max_ii, of1, getK_set, Nat.reduceEqDiff, ↓reduceIte, Bool.false_eq_true, g1, g7, g8, g9, g11, hs1, hs2, iE, fw64, hd, ix, hld, hst]
          refine ⟨j + 1, by omega, by omega, hG.trans (Grow.put (Nat.le_refl _) hnx _), hnx, ⟨B.set d true, by simpa using hB, ?_, fun k hk => ?_⟩, hsn.2 ⟨hP, fun e he h1 _ h2 => ?_⟩, by simp (disch := omega) only [getK_set, Nat.reduceEqDiff, ↓reduceIte, g0, g1, g2, g7, and_self, Int.natCast_add, Int.natCast_one]⟩
          · show (h1.put _ _).get _ = .cells (B.set d true).length _
            rw [get_put_same, List.length_set, hB]
          · have hk' : k < B.length := by simpa using hk
            rw [List.getElem_set, htk]
            by_cases e : d = k
            · subst e
              rw [if_pos rfl]
              exact ⟨fun _ => ⟨_, List.mem_append_right _ (by simp), by simp only; omega, hdf⟩, fun _ => rfl⟩
            · rw [if_neg e, hM k hk']
              constructor
              · rintro ⟨e, he, h1⟩
                exact ⟨e, List.mem_append_left _ he, h1⟩
              · rintro ⟨e', he, h1, h2⟩
                rcases List.mem_append.1 he with he | he
                · exact ⟨e', he, h1, h2⟩
                · rw [List.mem_singleton.1 he, hdf] at h2
                  exact absurd (by omega) e
          · rw [hdf] at h2
            rw [(hM d (by omega)).2 ⟨e, he, h1, h2⟩] at hbd; cases hbd
      by_cases hbl2 : b < L.length
      · have hlt2 : (b : Int) < (L.length : Int) := by omega
        obtain ⟨t, ht1, ht2, ht3⟩ := hw1.atb b hbl2
        obtain ⟨q1, q2⟩ := hlin _ (List.getElem_mem hbl2)
        simp (disch := omega) only [f109_r8, w_draw, w_seq, seqK_n, x_nil, x_mv, x_as, x_ld, x_iads, kx, rvP_ok, ev_t, getV_some, putD_some, getK_set, Nat.reduceEqDiff, ↓reduceIte, g1, hlt2, ht1, ht2, iE]
        show W fs none f109_t _ _ _
        refine tail L[b] _ q1 (by omega) ?_ (by simp (disch := omega) only [getK_set, Nat.reduceEqDiff, ↓reduceIte, g0, g1, g2, g7, g8, and_self])
        rw [dfE_low hE0 hmemE (by simp only; omega)]
        unfold dfE absD
        simp only [Int.toNat_natCast, List.getD_eq_getElem?_getD, List.getElem?_eq_getElem hbl2, Option.getD_some]
        split <;> omega
      · have hlt2 : ¬ (b : Int) < (L.length : Int) := by omega
        simp (disch := omega) only [↓reduceIte, hlt2]
        show W fs none f109_t _ _ _
        refine tail x _ hx.1 (by omega) ?_ (by simp (disch := omega) only [getK_set, Nat.reduceEqDiff, ↓reduceIte, g0, g1, g2, g7, g8, and_self])
        rw [dfE_top hE0 hmemE (by simp only; omega)]
        unfold dxE absD
        simp only [Int.toNat_natCast]
        split <;> omega
  · have d0 : decide ((j : Int) < (E.length : Int)) = false := by simpa using hlt
    have ej : j = E.length := by omega
    rw [ej, List.take_length] at hP
    simp (disch := omega) only [f109_r3, f109_r14, w_reg, w_seq, w_cond, w_block, w_exit, seqK_n, seqK_e, atK_e, loopK_e, ckB_b, cbB_b, true_and, x_nil, x_mv, x_as, x_bin, x_len, kx, rvP_ok, okv_some, ev_t, ev_c, getV_some, putD_some, bin_lss, of0, getK_set, Nat.reduceEqDiff, ↓reduceIte, Bool.false_eq_true, g0, g8, hv1.len, d0]
    refine W_loop (f109_I2 h w x L) (fun i => L.length - i) ?_ 0 ⟨by omega, hG, by simp, by simp (disch := omega) only [getK_set, Nat.reduceEqDiff, ↓reduceIte, g1, g2, and_self, Int.natCast_zero]⟩
    clear hG hnx hA hM hv1 hw1 hc1 g0 g1 g2 g7 g8
    rintro i fr h2 ⟨hi, hG, hni, g1, g2, g13⟩
    have hw2 := hw.grow hc hG
    unfold f109_l1
    by_cases hil : i < L.length
    · have d1 : decide ((i : Int) < (L.length : Int)) = true := by simpa using hil
      obtain ⟨t, ht1, ht2⟩ := hw2.at i hil
      cases d2 : decide (L[i] = x) with
      | true =>
        have hno : false = fitB E L x := fitB_eq ⟨fun h => (by cases h), fun h => absurd (by rw [← of_decide_eq_true d2]; exact List.getElem_mem hil) h.2⟩
        simp (disch := omega) only [f109_r15, f109_r16, f109_r17, f109_rs, w_skip, w_reg, w_seq, w_cond, w_block, w_ret, seqK_n, seqK_r, atK_r, loopK_r, ckB_b, cbB_b, true_and, retK_r, x_nil, x_mv, x_as, x_ld, x_bin, x_iads, x_len, kx, rvP_ok, okv_some, ev_t, ev_c, getV_some, putD_some, bin_eql, bin_lss, oGet_s, readRs_nil, readRs_t, retV_1, Option.some.injEq, exists_eq_left', getK_set, Nat.reduceEqDiff, ↓reduceIte, g1, g2, g13, hw2.len, d1, ht1, ht2, iE, d2]
        exact ⟨by rw [← hno], hG⟩
      | false =>
        simp (disch := omega) only [f109_r15, f109_r16, f109_r18, w_skip, w_reg, w_seq, w_cond, w_block, seqK_n, atK_n, loopK_n, ckB_b, cbB_b, true_and, x_nil, x_mv, x_as, x_ld, x_bin, x_iads, x_len, kx, rvP_ok, okv_some, ev_t, ev_c, getV_some, putD_some, bin_add, bin_eql, bin_lss, of1, getK_set, Nat.reduceEqDiff, ↓reduceIte, Bool.false_eq_true, g1, g2, g13, hw2.len, d1, ht1, ht2, iE, d2, fw64]
        refine ⟨i + 1, by omega, by omega, hG, ?_, by simp (disch := omega) only [getK_set, Nat.reduceEqDiff, ↓reduceIte, g1, g2, and_self, Int.natCast_add, Int.natCast_one]⟩
        rw [List.take_succ_eq_append_getElem hil, List.mem_append, not_or]
        exact ⟨hni, fun h => of_decide_eq_false d2 (List.mem_singleton.1 h).symm⟩
    · have d1 : decide ((i : Int) < (L.length : Int)) = false := by simpa using hil
      have ei : i = L.length := by omega
      rw [ei, List.take_length] at hni
      have hyes : true = fitB E L x := fitB_eq ⟨fun _ => ⟨hP, hni⟩, fun _ => rfl⟩
      simp (disch := omega) only [f109_r15, f109_r19, f109_rs, w_reg, w_seq, w_cond, w_exit, w_ret, seqK_n, seqK_e, atK_e, loopK_e, ckB_b, cbB_b, true_and, retK_r, x_nil, x_mv, x_as, x_bin, x_len, kx, rvP_ok, okv_some, ev_t, ev_c, getV_some, putD_some, bin_lss, oGet_s, readRs_nil, readRs_t, retV_1, Option.some.injEq, exists_eq_left', getK_set, Nat.reduceEqDiff, ↓reduceIte, Bool.false_eq_true, g1, g13, hw2.len, d1]
      exact ⟨by rw [← hyes], hG⟩
/-! ### The search -/
theorem OSr.grow {u : V} {o : Option (List Int)} (hs : OSr h u o) (hc : HC h) (hg : Grow h.nx.nat h h') : OSr h' u o := by
  cases o with
  | none => exact hs
  | some R => exact ⟨hs.1.grow hc hg, hs.2⟩
theorem OSr.isn {u : V} {o : Option (List Int)} (hs : OSr h u o) (h1 : H) : isnilV false u h1 = .ok (.b o.isNone) h1 := by
  cases o with
  | none => have : u = .sn := hs
            subst this; rfl
  | some R =>
    rcases hs with ⟨⟨_, h2⟩ | ⟨_, _, _, _, rfl, _⟩, h3⟩
    · exact absurd h2 h3
    · rfl
def cntF (bf : Bool) (R : List (List Int)) : Nat := if bf = true then min 1 R.length else R.length
def SeF (bf : Bool) (R : List (List Int)) (h : H) (r : V) : Prop := ∃ u, r = .tup [u, .i .i64 (cntF bf R : Int)] ∧ OSr h u R.head?
def subR (n : Nat) (E : List (Int × Int)) (bp : Bool) (f : Nat) (L : List Int) (x : Nat) : List (List Int) := if fitB E L (x : Int) = true then renL n E bp f (L ++ [(x : Int)]) else []
def uptoR (n : Nat) (E : List (Int × Int)) (bp : Bool) (f : Nat) (L : List Int) (x : Nat) : List (List Int) := (List.range x).flatMap (subR n E bp f L)
theorem uptoR_succ {bp : Bool} {f y : Nat} : uptoR n E bp f L (y + 1) = uptoR n E bp f L y ++ subR n E bp f L y := by
  unfold uptoR; rw [List.range_succ, List.flatMap_append]; simp
theorem renL_succ {bp : Bool} {f : Nat} : renL n E bp (f + 1) L = uptoR n E bp f L (E.length + 1) := rfl
theorem uptoR_split {bp : Bool} {f y : Nat} : ∀ m : Nat, y ≤ m → ∃ R, uptoR n E bp f L m = uptoR n E bp f L y ++ R
  | 0, h => ⟨[], by rw [show y = 0 by omega]; simp⟩
  | m + 1, h => by
    by_cases e : y = m + 1
    · subst e; exact ⟨[], by simp⟩
    · obtain ⟨R, hR⟩ := uptoR_split (bp := bp) (f := f) (y := y) m (by omega)
      exact ⟨R ++ subR n E bp f L m, by rw [uptoR_succ, hR]; simp⟩
theorem uptoR_le {bp : Bool} {f y : Nat} (hE : E.length ≤ 10) : (uptoR n E bp f L y).length ≤ y * 11 ^ f := by
  refine Nat.le_trans (flat_le (k := 11 ^ f) _ fun x _ => ?_) (by rw [List.length_range]; exact Nat.le_refl _)
  unfold subR
  split
  · exact Nat.le_trans (renL_le f _) (Nat.pow_le_pow_left (by omega) f)
  · simp
theorem head_app {α : Type} {A B : List α} : (A ++ B).head? = if A = [] then B.head? else A.head? := by
  cases A <;> simp
def f70_I2 (h : H) (n f : Nat) (v w : V) (E : List (Int × Int)) (L : List Int) (bp bf : Bool) (x : Nat) (fr : Fr) (h1 : H) : Prop := x ≤ E.length + 1 ∧ Grow h.nx.nat h h1 ∧ (bf = true → uptoR n E bp f L x = []) ∧ ∃ u, OSr h1 u (uptoR n E bp f L x).head? ∧ fr.get (K.ofNat 0) = some (.i .i64 (n : Int)) ∧ fr.get (K.ofNat 1) = some (v) ∧ fr.get (K.ofNat 2) = some (w) ∧ fr.get (K.ofNat 3) = some (.b bp) ∧ fr.get (K.ofNat 4) = some (.b bf) ∧ fr.get (K.ofNat 14) = some (u) ∧ fr.get (K.ofNat 15) = some (.i .i64 ((uptoR n E bp f L x).length : Int)) ∧ fr.get (K.ofNat 16) = some (.i .i64 (x : Int))
theorem f70_ret (k : CallsSe fs) (hE : EdgesOk n E) (hn0 : 0 < n) {bp bf : Bool} : ∀ (f : Nat) {h : H} {v w : V} {L : List Int}, HC h → Srp h v E → Sr iE h w L → LabOk E L → L.length + f = n → Ret fs f70 [.i .i64 (n : Int), v, w, .b bp, .b bf] h fun r h' => SeF bf (renL n E bp f L) h' r ∧ Grow h.nx.nat h h' := by
  intro f
  have hE10 : E.length ≤ 10 := hE.1
  have hn7 : n ≤ 7 := hE.2.1
  induction f with
  | zero =>
    intro h v w L hc hv hw hlin hf
    apply ret_of rfl
    show W fs none f70_c _ _ _
    unfold f70_c
    have d0 : decide ((L.length : Int) = (n : Int)) = true := by simp; omega
    simp (disch := omega) only [f70_r0, f70_r1, f70_r2, w_reg, w_seq, w_cond, seqK_n, ckB_b, cbB_b, true_and, x_nil, x_mv, x_as, x_bin, x_call, x_len, kx, rvP_ok, okv_some, ev_t, ev_c, evs_nil, evs_cons, getV_some, putD_some, bin_eql, of0, getK_set, Nat.reduceEqDiff, ↓reduceIte, frame_5, hw.len, d0]
    refine (callP_0 (ef := f33) k.c33 rfl (f33_ret hv hw hE (by omega))).mono ?_
    rintro r h1 ⟨rfl, rfl⟩
    simp (disch := omega) only [f70_r3, w_reg, w_seq, seqK_n, x_nil, x_mv, x_as, x_ext, x_call, kx, rvP_ok, okv_some, ev_t, ev_c, evs_nil, evs_cons, getV_some, putD_some, onTup_t, nth0, nth1, getK_set, Nat.reduceEqDiff, ↓reduceIte]
    refine (callP_0 (ef := f32) k.c32 rfl (f32_ret hv hw hc hE (by omega))).mono ?_
    rintro r h2 ⟨rfl, hG⟩
    have hLne : L ≠ [] := fun e => by rw [e] at hf; simp at hf; omega
    have e0 : renL n E bp 0 L = leafL n E bp L := rfl
    have no : leafL n E bp L = [] → SeF bf (renL n E bp 0 L) h2 (.tup [.sn, .i .i64 0]) := fun h => ⟨.sn, by rw [e0, h]; cases bf <;> rfl, by rw [e0, h]; rfl⟩
    have yes : leafL n E bp L = [L] → SeF bf (renL n E bp 0 L) h2 (.tup [w, .i .i64 1]) := fun h => ⟨w, by rw [e0, h]; cases bf <;> rfl, by rw [e0, h]; exact ⟨hw.grow hc hG, hLne⟩⟩
    unfold leafL at no yes
    cases hg : grB (n : Int) E L <;> cases hp : (prtO E L).isSome <;> cases bp
    all_goals (rw [hg, hp] at no yes; simp (disch := omega) only [f70_r4, f70_r5, f70_rs, w_skip, w_reg, w_seq, w_cond, w_ret, seqK_n, seqK_r, ckB_b, cbB_b, okG_b, okG_u, asG_t, asG_f, asG_u, true_and, retK_r, x_nil, x_g, x_mv, x_as, x_pick, x_not, kx, rvP_ok, ev_t, ev_c, getV_some, putD_some, pick_b, onB_b, oGet_s, readRs_nil, readRs_t, retV_2, of0, of1, Option.some.injEq, exists_eq_left', getK_set, Nat.reduceEqDiff, ↓reduceIte, Bool.false_eq_true, Bool.not_true, Bool.not_false, Bool.not_true, Bool.not_false]; first | exact ⟨no rfl, hG⟩ | exact ⟨yes rfl, hG⟩)
  | succ f ih =>
    intro h v w L hc hv hw hlin hf
    apply ret_of rfl
    show W fs none f70_c _ _ _
    unfold f70_c
    have d0 : decide ((L.length : Int) = (n : Int)) = false := by simp; omega
    simp (disch := omega) only [f70_r0, f70_r1, f70_r6, f70_r7, f70_r8, w_skip, w_reg, w_seq, w_cond, w_block, seqK_n, ckB_b, cbB_b, true_and, x_nil, x_mv, x_as, x_bin, x_len, kx, rvP_ok, okv_some, ev_t, ev_c, getV_some, putD_some, bin_eql, of0, getK_set, Nat.reduceEqDiff, ↓reduceIte, Bool.false_eq_true, frame_5, hw.len, d0]
    refine W_loop (f70_I2 h n f v w E L bp bf) (fun x => E.length + 1 - x) ?_ 0 ⟨by omega, Grow.refl _ _, fun _ => rfl, .sn, rfl, by simp (disch := omega) only [getK_set, Nat.reduceEqDiff, ↓reduceIte, and_self, Int.natCast_zero, uptoR, List.range_zero, List.flatMap_nil, List.length_nil]⟩
    rintro x fr h1 ⟨hx, hG, hbf, u, hsu, g0, g1, g2, g3, g4, g14, g15, g16⟩
    have hc1 := hG.hc hc
    have hv1 := hv.grow hc hG
    have hw1 := hw.grow hc hG
    have hp : 11 ^ f ≤ 11 ^ 7 := Nat.pow_le_pow_right (by omega) (by omega)
    have hp7 : 11 ^ 7 = 19487171 := by decide
    have hle1 := uptoR_le (n := n) (L := L) (bp := bp) (f := f) (y := x + 1) hE10
    have hpx2 : (x + 1) * 11 ^ f ≤ 12 * 11 ^ f := Nat.mul_le_mul_right _ (by omega)
    have hsx := uptoR_succ (n := n) (E := E) (L := L) (bp := bp) (f := f) (y := x)
    rw [hsx, List.length_append] at hle1
    unfold f70_l0
    by_cases hlt : x ≤ E.length
    · have d1 : decide ((x : Int) ≤ (E.length : Int)) = true := by simp; omega
      simp (disch := omega) only [f70_r9, f70_r10, w_skip, w_reg, w_seq, w_cond, w_block, seqK_n, ckB_b, cbB_b, true_and, x_nil, x_mv, x_bin, x_call, x_len, kx, rvP_ok, okv_some, ev_t, ev_c, evs_nil, evs_cons, getV_some, putD_some, bin_leq, getK_set, Nat.reduceEqDiff, ↓reduceIte, g1, g2, g16, hv1.len, d1]
      refine (callP_0 (ef := f109) k.c109 rfl (f109_ret hv1 hw1 hc1 hE hlin (by omega) ⟨by omega, by omega⟩)).mono ?_
      rintro r h2 ⟨rfl, hG2⟩
      have hGb := hG.trans (hG2.low hG.nx)
      have hc2 := hG2.hc hc1
      have hv2 := hv1.grow hc1 hG2
      have hw2 := hw1.grow hc1 hG2
      have hsu2 := hsu.grow hc1 hG2
      cases hfit : fitB E L (x : Int) with
      | false =>
        have hsub : subR n E bp f L x = [] := by unfold subR; rw [hfit]; rfl
        rw [hsub, List.append_nil] at hsx
        simp (disch := omega) only [f70_r20, w_reg, w_cond, w_exit, seqK_n, seqK_e, atK_e, loopK_n, ckB_b, cbB_b, true_and, x_nil, x_mv, x_as, x_bin, x_not, kx, rvP_ok, okv_some, ev_t, ev_c, getV_some, putD_some, bin_add, onB_b, of1, getK_set, Nat.reduceEqDiff, ↓reduceIte, Bool.not_false, g16, Bool.not_false, fw64]
        exact ⟨x + 1, by omega, by omega, hGb, by rw [hsx]; exact hbf, u, by rw [hsx]; exact hsu2, by simp (disch := omega) only [getK_set, Nat.reduceEqDiff, ↓reduceIte, g0, g1, g2, g3, g4, g14, g15, hsx, and_self, Int.natCast_add, Int.natCast_one]⟩
      | true =>
        have hsub : subR n E bp f L x = renL n E bp f (L ++ [(x : Int)]) := by unfold subR; rw [hfit]; rfl
        obtain ⟨v1, h3, a1, s1, o1, gr1, _⟩ := Sl.appR (e := iE) (b := h2.nx.nat) (h := h2) (v := .sn) (L := []) Sl.nil Own.sn (Nat.le_refl _) hw2 hc2 (by simp; omega)
        rw [List.nil_append] at s1
        have hc3 := gr1.hc hc2
        obtain ⟨v3, h4, a3, s3, o3, gr3, _⟩ := Sl.push (e := iE) (x := (x : Int)) (c := .i .i64 (x : Int)) rfl s1 o1 gr1.nx hc3 (by omega)
        have gg := gr1.trans gr3
        have hc4 := gr3.hc hc3
        have hlin2 : LabOk E (L ++ [(x : Int)]) := fun y hy => by
          rcases List.mem_append.1 hy with hy | hy
          · exact hlin y hy
          · have : y = (x : Int) := by simpa using hy
            omega
        simp (disch := omega) only [f70_r11, f70_r12, f70_r13, f70_r14, w_skip, w_reg, w_seq, w_cond, seqK_n, ckB_b, cbB_b, true_and, x_nil, x_mv, x_as, x_bslice, x_not, x_call, x_app, kx, rvP_ok, ev_t, ev_c, evs_nil, evs_cons, getV_some, putD_some, onB_b, oGet_s, cells1_i, fill_1, set_1, of0, getK_set, Nat.reduceEqDiff, ↓reduceIte, Bool.false_eq_true, Bool.not_true, g0, g1, g2, g3, g4, g16, Bool.not_true, a1, fill_1, set_1, a3]
        refine (callP_0 (ef := f70) k.c70 rfl (ih hc4 (hv2.grow hc2 gg) s3.sr hlin2 (by simp; omega))).mono ?_
        rintro r h5 ⟨⟨u5, rfl, hs5⟩, hG5⟩
        rw [← hsub] at hs5 ⊢
        have hGe := hGb.trans ((gg.trans (hG5.low gg.nx)).low hGb.nx)
        have hsu5 := (hsu2.grow hc2 gg).grow hc4 hG5
        have isn : ∀ h1, isnilV false u h1 = .ok (.b (uptoR n E bp f L x).head?.isNone) h1 := hsu.isn
        have hcl : cntF bf (subR n E bp f L x) ≤ (subR n E bp f L x).length := by unfold cntF; split <;> omega
        have hcq : bf = false → cntF bf (subR n E bp f L x) = (subR n E bp f L x).length := fun h => by unfold cntF; rw [h]; rfl
        have fin : ∀ fr (u6 : V), OSr h5 u6 (uptoR n E bp f L (x + 1)).head? → fr.get (K.ofNat 0) = some (.i .i64 (n : Int)) ∧ fr.get (K.ofNat 1) = some (v) ∧ fr.get (K.ofNat 2) = some (w) ∧ fr.get (K.ofNat 3) = some (.b bp) ∧ fr.get (K.ofNat 4) = some (.b bf) ∧ fr.get (K.ofNat 14) = some (u6) ∧ fr.get (K.ofNat 15) = some (.i .i64 ((uptoR n E bp f L x).length : Int)) ∧ fr.get (K.ofNat 16) = some (.i .i64 (x : Int)) ∧ fr.get (K.ofNat 19) = some (.i .i64 (cntF bf (subR n E bp f L x) : Int)) → W fs none f70_t (atK 1 (seqK (W fs none (.reg f70_r20)) (loopK (f70_I2 h n f v w E L bp bf) (fun x => E.length + 1 - x) x (atK 0 (seqK (W fs none (.seq (.reg f70_r21) .ret)) (retK f70 fun r h' => SeF bf (renL n E bp (f + 1) L) h' r ∧ Grow h.nx.nat h h')))))) fr h5 := by
          clear g0 g1 g2 g3 g4 g14 g15 g16 fr
          rintro fr u6 hs6 ⟨g0, g1, g2, g3, g4, g14, g15, g16, g19⟩
          unfold f70_t
          have hqk : (((uptoR n E bp f L x).length : Int) + (cntF bf (subR n E bp f L x) : Int)) = (((uptoR n E bp f L x).length + cntF bf (subR n E bp f L x) : Nat) : Int) := by omega
          have next : ∀ fr, (uptoR n E bp f L x).length + cntF bf (subR n E bp f L x) = (uptoR n E bp f L (x + 1)).length → (bf = true → uptoR n E bp f L (x + 1) = []) → fr.get (K.ofNat 0) = some (.i .i64 (n : Int)) ∧ fr.get (K.ofNat 1) = some (v) ∧ fr.get (K.ofNat 2) = some (w) ∧ fr.get (K.ofNat 3) = some (.b bp) ∧ fr.get (K.ofNat 4) = some (.b bf) ∧ fr.get (K.ofNat 14) = some (u6) ∧ fr.get (K.ofNat 15) = some (.i .i64 (((uptoR n E bp f L x).length + cntF bf (subR n E bp f L x) : Nat) : Int)) ∧ fr.get (K.ofNat 16) = some (.i .i64 (x : Int)) → Go.Ev.X fs f70_r20 (loopK (f70_I2 h n f v w E L bp bf) (fun x => E.length + 1 - x) x (atK 0 (seqK (W fs none (.seq (.reg f70_r21) .ret)) (retK f70 fun r h' => SeF bf (renL n E bp (f + 1) L) h' r ∧ Grow h.nx.nat h h'))) .normal) fr h5 := by
            clear g0 g1 g2 g3 g4 g14 g15 g16 g19 fr
            rintro fr hlen hem ⟨g0, g1, g2, g3, g4, g14, g15, g16⟩
            rw [hlen] at g15
            simp (disch := omega) only [f70_r20, loopK_n, x_nil, x_mv, x_as, x_bin, kx, rvP_ok, okv_some, ev_t, ev_c, getV_some, putD_some, bin_add, of1, getK_set, ↓reduceIte, g16, fw64]
            exact ⟨x + 1, by omega, by omega, hGe, hem, u6, hs6, by simp (disch := omega) only [getK_set, Nat.reduceEqDiff, ↓reduceIte, g0, g1, g2, g3, g4, g14, g15, and_self, Int.natCast_add, Int.natCast_one]⟩
          cases hbfc : bf with
          | false =>
            subst hbfc
            simp (disch := omega) only [f70_r17, f70_r18, w_skip, w_reg, w_seq, w_cond, seqK_n, atK_n, ckB_b, cbB_b, okG_b, asG_t, true_and, x_nil, x_g, x_mv, x_as, x_pick, x_bin, kx, rvP_ok, okv_some, ev_t, ev_c, getV_some, putD_some, bin_add, pick_b, of0, getK_set, Nat.reduceEqDiff, ↓reduceIte, Bool.false_eq_true, g4, g15, g19, fw64, hqk]
            exact next _ (by rw [hcq rfl, hsx, List.length_append]) (fun h => by cases h) (by simp (disch := omega) only [getK_set, Nat.reduceEqDiff, ↓reduceIte, g0, g1, g2, g3, g4, g14, g16, and_self])
          | true =>
            subst hbfc
            have hup := hbf rfl
            cases dq : decide ((((uptoR n E bp f L x).length + cntF true (subR n E bp f L x) : Nat) : Int) > 0) with
            | false =>
              have hz : subR n E bp f L x = [] := by
                have := of_decide_eq_false dq
                have h0 : cntF true (subR n E bp f L x) = 0 := by omega
                unfold cntF at h0
                rw [if_pos rfl] at h0
                exact List.length_eq_zero_iff.1 (by omega)
              simp (disch := omega) only [f70_r17, f70_r18, w_skip, w_reg, w_seq, w_cond, seqK_n, atK_n, ckB_b, cbB_b, okG_b, asG_t, true_and, x_nil, x_g, x_mv, x_as, x_pick, x_bin, kx, rvP_ok, okv_some, ev_t, ev_c, getV_some, putD_some, bin_add, bin_gtr, pick_b, of0, getK_set, Nat.reduceEqDiff, ↓reduceIte, Bool.false_eq_true, g4, g15, g19, fw64, hqk, dq]
              exact next _ (by rw [hsx, hz, List.append_nil]; rfl) (fun _ => by rw [hsx, hz, hup]; rfl) (by simp (disch := omega) only [getK_set, Nat.reduceEqDiff, ↓reduceIte, g0, g1, g2, g3, g4, g14, g16, and_self])
            | true =>
              have hpos : 0 < (subR n E bp f L x).length := by
                have := of_decide_eq_true dq
                rw [hup] at this
                have h0 : 0 < cntF true (subR n E bp f L x) := by simpa using this
                unfold cntF at h0
                rw [if_pos rfl] at h0
                omega
              obtain ⟨R, hR⟩ := uptoR_split (n := n) (E := E) (L := L) (bp := bp) (f := f) (y := x + 1) (E.length + 1) (by omega)
              have hne : uptoR n E bp f L (x + 1) ≠ [] := fun e => by rw [hsx, hup, List.nil_append] at e; rw [e] at hpos; simp at hpos
              simp (disch := omega) only [f70_r17, f70_r18, f70_r19, f70_rs, w_reg, w_seq, w_cond, w_ret, seqK_n, seqK_r, atK_r, loopK_r, ckB_b, cbB_b, okG_b, asG_t, true_and, retK_r, x_nil, x_g, x_mv, x_as, x_pick, x_bin, kx, rvP_ok, okv_some, ev_t, ev_c, getV_some, putD_some, bin_add, bin_gtr, pick_b, oGet_s, readRs_nil, readRs_t, retV_2, of0, Option.some.injEq, exists_eq_left', getK_set, Nat.reduceEqDiff, ↓reduceIte, g4, g14, g15, g19, fw64, hqk, dq]
              refine ⟨⟨u6, ?_, ?_⟩, hGe⟩
              · have e1 : (uptoR n E bp f L x).length + cntF true (subR n E bp f L x) = 1 := by
                  rw [hup]; unfold cntF; rw [if_pos rfl]; simp; omega
                have e2 : cntF true (renL n E bp (f + 1) L) = 1 := by
                  rw [renL_succ, hR, hsx, hup]; unfold cntF; rw [if_pos rfl]; simp; omega
                rw [e1, e2]
              · rw [renL_succ, hR, head_app, if_neg hne]; exact hs6
        cases hu : (uptoR n E bp f L x).head?.isNone with
        | true =>
          rw [hu] at isn
          have hem : uptoR n E bp f L x = [] := by
            cases hq : uptoR n E bp f L x with
            | nil => rfl
            | cons a l => rw [hq] at hu; cases hu
          simp (disch := omega) only [f70_r15, f70_r16, w_reg, w_seq, w_cond, seqK_n, ckB_b, cbB_b, true_and, x_nil, x_mv, x_as, x_ext, x_isnil, kx, rvP_ok, okv_some, ev_t, getV_some, putD_some, onTup_t, nth0, nth1, getK_set, Nat.reduceEqDiff, ↓reduceIte, g14, isn]
          show W fs none f70_t _ _ _
          exact fin _ u5 (by rw [hsx, hem, List.nil_append]; exact hs5) (by simp (disch := omega) only [getK_set, Nat.reduceEqDiff, ↓reduceIte, g0, g1, g2, g3, g4, g15, g16, and_self])
        | false =>
          rw [hu] at isn
          have hem : uptoR n E bp f L x ≠ [] := fun e => by rw [e] at hu; cases hu
          simp (disch := omega) only [f70_r15, w_skip, w_reg, w_seq, w_cond, seqK_n, ckB_b, cbB_b, true_and, x_nil, x_mv, x_as, x_ext, x_isnil, kx, rvP_ok, okv_some, ev_t, getV_some, putD_some, onTup_t, nth0, nth1, getK_set, Nat.reduceEqDiff, ↓reduceIte, Bool.false_eq_true, g14, isn]
          show W fs none f70_t _ _ _
          exact fin _ u (by rw [hsx, head_app, if_neg hem]; exact hsu5) (by simp (disch := omega) only [getK_set, Nat.reduceEqDiff, ↓reduceIte, g0, g1, g2, g3, g4, g14, g15, g16, and_self])
    · have d1 : decide ((x : Int) ≤ (E.length : Int)) = false := by simp; omega
      obtain rfl : x = E.length + 1 := by omega
      simp (disch := omega) only [f70_r9, f70_r21, f70_rs, w_reg, w_seq, w_cond, w_exit, w_ret, seqK_n, seqK_e, atK_e, loopK_e, ckB_b, cbB_b, true_and, retK_r, x_nil, x_mv, x_as, x_bin, x_len, kx, rvP_ok, okv_some, ev_t, getV_some, putD_some, bin_leq, oGet_s, readRs_nil, readRs_t, retV_2, Option.some.injEq, exists_eq_left', getK_set, Nat.reduceEqDiff, ↓reduceIte, Bool.false_eq_true, g1, g14, g15, g16, hv1.len, d1]
      refine ⟨⟨u, ?_, hsu⟩, hG⟩
      rw [renL_succ]
      cases hbfc : bf with
      | false => rfl
      | true => rw [hbf hbfc]; rfl
end
end Go.Ev
namespace Go.Ev
open Go Go.RowKit
noncomputable def f69_r0 : List EOper := [⟨(some (K.ofNat 3)), none, .box 1 (.t (K.ofNat 1))⟩, ⟨(some (K.ofNat 4)), none, .alloc 1 [.sn]⟩, ⟨(some (K.ofNat 5)), none, .alloc 1 [(.b false)]⟩]
noncomputable def f69_r1 : List EOper := [⟨(some (K.ofNat 9)), none, .mv (.t (K.ofNat 0))⟩, ⟨(some (K.ofNat 10)), none, .ld (.t (K.ofNat 3))⟩, ⟨(some (K.ofNat 11)), none, .call (.c (.fn (K.ofNat 68) [])) [(.t (K.ofNat 9)), (.t (K.ofNat 10))]⟩]
noncomputable def f69_r2 : List EOper := [⟨(some (K.ofNat 6)), none, .as (.t (K.ofNat 12))⟩]
noncomputable def f69_a0 : EC := (.reg f69_r2)
noncomputable def f69_r3 : List EOper := [⟨(some (K.ofNat 14)), none, .ld (.t (K.ofNat 3))⟩, ⟨(some (K.ofNat 15)), none, .mv (.t (K.ofNat 6))⟩, ⟨(some (K.ofNat 16)), none, .call (.c (.fn (K.ofNat 63) [])) [(.t (K.ofNat 14)), (.t (K.ofNat 15))]⟩, ⟨(some (K.ofNat 13)), none, .mv (.t (K.ofNat 16))⟩, ⟨(some (K.ofNat 17)), none, .ext (.t (K.ofNat 13)) 0⟩, ⟨(some (K.ofNat 18)), none, .ext (.t (K.ofNat 13)) 1⟩, ⟨(some (K.ofNat 7)), none, .as (.t (K.ofNat 17))⟩, ⟨(some (K.ofNat 8)), none, .as (.t (K.ofNat 18))⟩]
noncomputable def f69_r4 : List EOper := [⟨(some (K.ofNat 19)), none, .mv (.t (K.ofNat 8))⟩]
noncomputable def f69_r5 : List EOper := [⟨(some (K.ofNat 20)), none, .mv (.t (K.ofNat 6))⟩, ⟨none, none, .st 1 (.t (K.ofNat 4)) (.t (K.ofNat 20))⟩, ⟨none, none, .st 1 (.t (K.ofNat 5)) (.c (.b true))⟩]
noncomputable def f69_b0 : EC := (.block 1 (.seq (.reg f69_r3) (.seq (.reg f69_r4) (.cond (.t (K.ofNat 19)) (.seq (.reg f69_r5) .ret) .skip))))
noncomputable def f69_r6 : List EOper := [⟨none, none, .st 1 (.t (K.ofNat 4)) (.c .sn)⟩, ⟨none, none, .st 1 (.t (K.ofNat 5)) (.c (.b false))⟩]
noncomputable def f69_c : EC := (.seq (.reg f69_r0) (.seq (.seq (.reg f69_r1) (.block 0 (.rangeF (.t (K.ofNat 11)) [(K.ofNat 12)] f69_a0 f69_b0))) (.seq (.reg f69_r6) .ret)))
noncomputable def f69 : EF := ⟨21, [.cell (K.ofNat 4), .cell (K.ofNat 5)], f69_c, none⟩
theorem f69_rs : f69.rs = [.cell (K.ofNat 4), .cell (K.ofNat 5)] := of_eq_true (eq_self _)
noncomputable def f26_r0 : List EOper := [⟨(some (K.ofNat 4)), none, .as (.c .sn)⟩, ⟨(some (K.ofNat 5)), none, .as (.c (.b false))⟩, ⟨(some (K.ofNat 6)), none, .as (.c (.i .i64 (.ofNat 0)))⟩]
noncomputable def f26_r1 : List EOper := [⟨(some (K.ofNat 10)), none, .mv (.t (K.ofNat 0))⟩, ⟨(some (K.ofNat 11)), none, .mv (.t (K.ofNat 1))⟩, ⟨(some (K.ofNat 12)), none, .call (.c (.fn (K.ofNat 17) [])) [(.t (K.ofNat 10)), (.t (K.ofNat 11))]⟩, ⟨(some (K.ofNat 7)), none, .as (.t (K.ofNat 12))⟩]
noncomputable def f26_r2 : List EOper := [⟨(some (K.ofNat 13)), none, .mv (.t (K.ofNat 7))⟩, ⟨(some (K.ofNat 14)), none, .bin .neq (.t (K.ofNat 13)) (.c (.i .i64 (.ofNat 0)))⟩]
noncomputable def f26_r3 : List EOper := [⟨(some (K.ofNat 15)), none, .mv (.t (K.ofNat 7))⟩, ⟨(some (K.ofNat 4)), none, .as (.c .sn)⟩, ⟨(some (K.ofNat 5)), none, .as (.c (.b false))⟩, ⟨(some (K.ofNat 6)), none, .as (.t (K.ofNat 15))⟩]
noncomputable def f26_r4 : List EOper := [⟨(some (K.ofNat 17)), none, .mv (.t (K.ofNat 0))⟩, ⟨(some (K.ofNat 18)), none, .mv (.t (K.ofNat 1))⟩, ⟨(some (K.ofNat 19)), none, .call (.c (.fn (K.ofNat 69) [])) [(.t (K.ofNat 17)), (.t (K.ofNat 18))]⟩, ⟨(some (K.ofNat 16)), none, .mv (.t (K.ofNat 19))⟩, ⟨(some (K.ofNat 20)), none, .ext (.t (K.ofNat 16)) 0⟩, ⟨(some (K.ofNat 21)), none, .ext (.t (K.ofNat 16)) 1⟩, ⟨(some (K.ofNat 8)), none, .as (.t (K.ofNat 20))⟩, ⟨(some (K.ofNat 9)), none, .as (.t (K.ofNat 21))⟩]
noncomputable def f26_r5 : List EOper := [⟨(some (K.ofNat 22)), none, .mv (.t (K.ofNat 8))⟩, ⟨(some (K.ofNat 23)), none, .mv (.t (K.ofNat 9))⟩, ⟨(some (K.ofNat 4)), none, .as (.t (K.ofNat 22))⟩, ⟨(some (K.ofNat 5)), none, .as (.t (K.ofNat 23))⟩, ⟨(some (K.ofNat 6)), none, .as (.c (.i .i64 (.ofNat 0)))⟩]
noncomputable def f26_c : EC := (.seq (.reg f26_r0) (.seq (.seq (.reg f26_r1) (.seq (.reg f26_r2) (.cond (.t (K.ofNat 14)) (.seq (.reg f26_r3) .ret) .skip))) (.seq (.reg f26_r4) (.seq (.reg f26_r5) .ret))))
noncomputable def f26 : EF := ⟨24, [.tmp (K.ofNat 4), .tmp (K.ofNat 5), .tmp (K.ofNat 6)], f26_c, none⟩
theorem f26_rs : f26.rs = [.tmp (K.ofNat 4), .tmp (K.ofNat 5), .tmp (K.ofNat 6)] := of_eq_true (eq_self _)
noncomputable def f31_r0 : List EOper := [⟨(some (K.ofNat 4)), none, .as (.c (.i .i64 (.ofNat 0)))⟩]
noncomputable def f31_r1 : List EOper := [⟨(some (K.ofNat 8)), none, .mv (.t (K.ofNat 0))⟩, ⟨(some (K.ofNat 9)), none, .mv (.t (K.ofNat 1))⟩, ⟨(some (K.ofNat 10)), none, .call (.c (.fn (K.ofNat 70) [])) [(.t (K.ofNat 8)), (.t (K.ofNat 9)), (.c .sn), (.c (.b false)), (.c (.b false))]⟩, ⟨(some (K.ofNat 7)), none, .mv (.t (K.ofNat 10))⟩, ⟨(some (K.ofNat 11)), none, .ext (.t (K.ofNat 7)) 0⟩, ⟨(some (K.ofNat 12)), none, .ext (.t (K.ofNat 7)) 1⟩, ⟨(some (K.ofNat 5)), none, .as (.t (K.ofNat 11))⟩, ⟨(some (K.ofNat 6)), none, .as (.t (K.ofNat 12))⟩]
noncomputable def f31_r2 : List EOper := [⟨(some (K.ofNat 13)), none, .mv (.t (K.ofNat 6))⟩, ⟨(some (K.ofNat 4)), none, .as (.t (K.ofNat 13))⟩]
noncomputable def f31_c : EC := (.seq (.reg f31_r0) (.seq (.reg f31_r1) (.seq (.reg f31_r2) .ret)))
noncomputable def f31 : EF := ⟨14, [.tmp (K.ofNat 4)], f31_c, none⟩
theorem f31_rs : f31.rs = [.tmp (K.ofNat 4)] := of_eq_true (eq_self _)
noncomputable def f4_r0 : List EOper := [⟨(some (K.ofNat 4)), none, .as (.c (.b false))⟩]
noncomputable def f4_r1 : List EOper := [⟨(some (K.ofNat 18)), none, .mv (.t (K.ofNat 0))⟩, ⟨(some (K.ofNat 19)), none, .mv (.t (K.ofNat 1))⟩, ⟨(some (K.ofNat 20)), none, .call (.c (.fn (K.ofNat 28) [])) [(.t (K.ofNat 18)), (.t (K.ofNat 19)), (.c (.i .i64 (.ofNat 10)))]⟩, ⟨(some (K.ofNat 17)), none, .mv (.t (K.ofNat 20))⟩, ⟨(some (K.ofNat 21)), none, .ext (.t (K.ofNat 17)) 0⟩, ⟨(some (K.ofNat 22)), none, .ext (.t (K.ofNat 17)) 1⟩, ⟨(some (K.ofNat 5)), none, .as (.t (K.ofNat 21))⟩, ⟨(some (K.ofNat 6)), none, .as (.t (K.ofNat 22))⟩]
noncomputable def f4_r2 : List EOper := [⟨(some (K.ofNat 24)), none, .mv (.t (K.ofNat 5))⟩, ⟨(some (K.ofNat 25)), none, .mv (.t (K.ofNat 6))⟩, ⟨(some (K.ofNat 26)), none, .call (.c (.fn (K.ofNat 24) [])) [(.t (K.ofNat 24)), (.t (K.ofNat 25))]⟩, ⟨(some (K.ofNat 23)), none, .mv (.t (K.ofNat 26))⟩, ⟨(some (K.ofNat 27)), none, .ext (.t (K.ofNat 23)) 0⟩, ⟨(some (K.ofNat 28)), none, .ext (.t (K.ofNat 23)) 1⟩, ⟨(some (K.ofNat 29)), none, .ext (.t (K.ofNat 23)) 2⟩, ⟨(some (K.ofNat 7)), none, .as (.t (K.ofNat 27))⟩, ⟨(some (K.ofNat 8)), none, .as (.t (K.ofNat 28))⟩, ⟨(some (K.ofNat 9)), none, .as (.t (K.ofNat 29))⟩]
noncomputable def f4_r3 : List EOper := [⟨(some (K.ofNat 31)), none, .mv (.t (K.ofNat 5))⟩, ⟨(some (K.ofNat 32)), none, .mv (.t (K.ofNat 6))⟩, ⟨(some (K.ofNat 33)), none, .call (.c (.fn (K.ofNat 25) [])) [(.t (K.ofNat 31)), (.t (K.ofNat 32))]⟩, ⟨(some (K.ofNat 30)), none, .mv (.t (K.ofNat 33))⟩, ⟨(some (K.ofNat 34)), none, .ext (.t (K.ofNat 30)) 0⟩, ⟨(some (K.ofNat 35)), none, .ext (.t (K.ofNat 30)) 1⟩, ⟨(some (K.ofNat 10)), none, .as (.t (K.ofNat 34))⟩, ⟨(some (K.ofNat 11)), none, .as (.t (K.ofNat 35))⟩]
noncomputable def f4_r4 : List EOper := [⟨(some (K.ofNat 37)), none, .mv (.t (K.ofNat 5))⟩, ⟨(some (K.ofNat 38)), none, .mv (.t (K.ofNat 6))⟩, ⟨(some (K.ofNat 39)), none, .call (.c (.fn (K.ofNat 26) [])) [(.t (K.ofNat 37)), (.t (K.ofNat 38))]⟩, ⟨(some (K.ofNat 36)), none, .mv (.t (K.ofNat 39))⟩, ⟨(some (K.ofNat 40)), none, .ext (.t (K.ofNat 36)) 0⟩, ⟨(some (K.ofNat 41)), none, .ext (.t (K.ofNat 36)) 1⟩, ⟨(some (K.ofNat 42)), none, .ext (.t (K.ofNat 36)) 2⟩, ⟨(some (K.ofNat 12)), none, .as (.t (K.ofNat 40))⟩, ⟨(some (K.ofNat 13)), none, .as (.t (K.ofNat 41))⟩, ⟨(some (K.ofNat 14)), none, .as (.t (K.ofNat 42))⟩]
noncomputable def f4_r5 : List EOper := [⟨(some (K.ofNat 43)), none, .mv (.t (K.ofNat 5))⟩, ⟨(some (K.ofNat 44)), none, .mv (.t (K.ofNat 6))⟩, ⟨(some (K.ofNat 45)), none, .call (.c (.fn (K.ofNat 29) [])) [(.t (K.ofNat 43)), (.t (K.ofNat 44)), (.c (.b false))]⟩, ⟨(some (K.ofNat 46)), none, .mv (.t (K.ofNat 5))⟩, ⟨(some (K.ofNat 47)), none, .mv (.t (K.ofNat 6))⟩, ⟨(some (K.ofNat 48)), none, .call (.c (.fn (K.ofNat 29) [])) [(.t (K.ofNat 46)), (.t (K.ofNat 47)), (.c (.b true))]⟩, ⟨(some (K.ofNat 15)), none, .as (.t (K.ofNat 45))⟩, ⟨(some (K.ofNat 16)), none, .as (.t (K.ofNat 48))⟩]
noncomputable def f4_r6 : List EOper := [⟨(some (K.ofNat 49)), none, .mv (.t (K.ofNat 9))⟩, ⟨(some (K.ofNat 50)), none, .bin .eql (.t (K.ofNat 49)) (.c (.i .i64 (.ofNat 0)))⟩, ⟨(some (K.ofNat 51)), none, .mv (.t (K.ofNat 50))⟩, ⟨(some (K.ofNat 52)), (some ((K.ofNat 51), true)), .mv (.t (K.ofNat 8))⟩, ⟨(some (K.ofNat 53)), (some ((K.ofNat 51), true)), .mv (.t (K.ofNat 15))⟩, ⟨(some (K.ofNat 54)), (some ((K.ofNat 51), true)), .isnil true (.t (K.ofNat 53))⟩, ⟨(some (K.ofNat 55)), (some ((K.ofNat 51), true)), .eqk (.one none) false (.t (K.ofNat 52)) (.t (K.ofNat 54))⟩, ⟨(some (K.ofNat 56)), none, .pick (.t (K.ofNat 51)) (.t (K.ofNat 55)) (.c (.b false))⟩, ⟨(some (K.ofNat 57)), none, .mv (.t (K.ofNat 56))⟩, ⟨(some (K.ofNat 58)), (some ((K.ofNat 57), true)), .mv (.t (K.ofNat 7))⟩, ⟨(some (K.ofNat 59)), (some ((K.ofNat 57), true)), .mv (.t (K.ofNat 15))⟩, ⟨(some (K.ofNat 60)), (some ((K.ofNat 57), true)), .call (.c (.fn (K.ofNat 30) [])) [(.t (K.ofNat 58)), (.t (K.ofNat 59))]⟩, ⟨(some (K.ofNat 61)), none, .pick (.t (K.ofNat 57)) (.t (K.ofNat 60)) (.c (.b false))⟩, ⟨(some (K.ofNat 62)), none, .mv (.t (K.ofNat 61))⟩, ⟨(some (K.ofNat 63)), (some ((K.ofNat 62), true)), .mv (.t (K.ofNat 11))⟩, ⟨(some (K.ofNat 64)), (some ((K.ofNat 62), true)), .bin .eql (.t (K.ofNat 63)) (.c (.i .i64 (.ofNat 0)))⟩, ⟨(some (K.ofNat 65)), none, .pick (.t (K.ofNat 62)) (.t (K.ofNat 64)) (.c (.b false))⟩, ⟨(some (K.ofNat 66)), none, .mv (.t (K.ofNat 65))⟩, ⟨(some (K.ofNat 67)), (some ((K.ofNat 66), true)), .mv (.t (K.ofNat 10))⟩, ⟨(some (K.ofNat 68)), (some ((K.ofNat 66), true)), .mv (.t (K.ofNat 5))⟩, ⟨(some (K.ofNat 69)), (some ((K.ofNat 66), true)), .mv (.t (K.ofNat 6))⟩, ⟨(some (K.ofNat 70)), (some ((K.ofNat 66), true)), .call (.c (.fn (K.ofNat 31) [])) [(.t (K.ofNat 68)), (.t (K.ofNat 69))]⟩, ⟨(some (K.ofNat 71)), (some ((K.ofNat 66), true)), .bin .eql (.t (K.ofNat 67)) (.t (K.ofNat 70))⟩, ⟨(some (K.ofNat 72)), none, .pick (.t (K.ofNat 66)) (.t (K.ofNat 71)) (.c (.b false))⟩, ⟨(some (K.ofNat 73)), none, .mv (.t (K.ofNat 72))⟩, ⟨(some (K.ofNat 74)), (some ((K.ofNat 73), true)), .mv (.t (K.ofNat 14))⟩, ⟨(some (K.ofNat 75)), (some ((K.ofNat 73), true)), .bin .eql (.t (K.ofNat 74)) (.c (.i .i64 (.ofNat 0)))⟩, ⟨(some (K.ofNat 76)), none, .pick (.t (K.ofNat 73)) (.t (K.ofNat 75)) (.c (.b false))⟩, ⟨(some (K.ofNat 77)), none, .mv (.t (K.ofNat 76))⟩, ⟨(some (K.ofNat 78)), (some ((K.ofNat 77), true)), .mv (.t (K.ofNat 13))⟩, ⟨(some (K.ofNat 79)), (some ((K.ofNat 77), true)), .mv (.t (K.ofNat 16))⟩, ⟨(some (K.ofNat 80)), (some ((K.ofNat 77), true)), .isnil true (.t (K.ofNat 79))⟩, ⟨(some (K.ofNat 81)), (some ((K.ofNat 77), true)), .eqk (.one none) false (.t (K.ofNat 78)) (.t (K.ofNat 80))⟩, ⟨(some (K.ofNat 82)), none, .pick (.t (K.ofNat 77)) (.t (K.ofNat 81)) (.c (.b false))⟩, ⟨(some (K.ofNat 83)), none, .mv (.t (K.ofNat 82))⟩, ⟨(some (K.ofNat 84)), (some ((K.ofNat 83), true)), .mv (.t (K.ofNat 12))⟩, ⟨(some (K.ofNat 85)), (some ((K.ofNat 83), true)), .mv (.t (K.ofNat 16))⟩, ⟨(some (K.ofNat 86)), (some ((K.ofNat 83), true)), .call (.c (.fn (K.ofNat 30) [])) [(.t (K.ofNat 84)), (.t (K.ofNat 85))]⟩, ⟨(some (K.ofNat 87)), none, .pick (.t (K.ofNat 83)) (.t (K.ofNat 86)) (.c (.b false))⟩, ⟨(some (K.ofNat 88)), none, .mv (.t (K.ofNat 87))⟩, ⟨(some (K.ofNat 89)), (some ((K.ofNat 88), true)), .call (.c (.fn (K.ofNat 23) [])) []⟩, ⟨(some (K.ofNat 90)), none, .pick (.t (K.ofNat 88)) (.t (K.ofNat 89)) (.c (.b false))⟩, ⟨(some (K.ofNat 4)), none, .as (.t (K.ofNat 90))⟩]
noncomputable def f4_c : EC := (.seq (.reg f4_r0) (.seq (.reg f4_r1) (.seq (.reg f4_r2) (.seq (.reg f4_r3) (.seq (.reg f4_r4) (.seq (.reg f4_r5) (.seq (.reg f4_r6) .ret)))))))
noncomputable def f4 : EF := ⟨91, [.tmp (K.ofNat 4)], f4_c, none⟩
theorem f4_rs : f4.rs = [.tmp (K.ofNat 4)] := of_eq_true (eq_self _)
/-- The first that part. -/
def pFirst (m : Nat) (E : List (Int × Int)) : Option (List Int) := ((labsL m E).filter (okM E true)).head?
structure CallsPa (fs : T EF) : Prop extends CallsL fs, CallsPt fs where
  c69 : fs.get (K.ofNat 69) = some f69
section
variable {fs : T EF} {ro : Option K} {h : H} {v : V} {m : Nat} {E : List (Int × Int)}
theorem okM_t {M : List Int} : okM E true M = (prtO E M).isSome := by unfold okM; simp
theorem f69_ret (k : CallsPa fs) (hv : Srp h v E) (hc : HC h) (hE : EdgesOk m E) (hne : E ≠ []) (hm : 0 < m) : Ret fs f69 [.i .i64 (m : Int), v] h fun r h' => Out h' r (pFirst m E) ∧ Grow h.nx.nat h h' := by
  apply ret_of rfl
  show W fs none f69_c _ _ _
  unfold f69_c
  have hone := hv.one
  have n1 := nx_new h (.cells 1 [v])
  have n2 := nx_new (h.new (.cells 1 [v])) (.cells 1 [.sn])
  have n3 := nx_new ((h.new (.cells 1 [v])).new (.cells 1 [.sn])) (.cells 1 [.b false])
  have t0 : Tri h.nx (h.new (.cells 1 [v])).nx ((h.new (.cells 1 [v])).new (.cells 1 [.sn])).nx (((h.new (.cells 1 [v])).new (.cells 1 [.sn])).new (.cells 1 [.b false])) v .sn (.b false) :=
    ⟨by rw [get_new_old (by omega), get_new_old (by omega), get_new_same], by rw [get_new_old (by omega), get_new_same], get_new_same, by omega, by omega⟩
  have gA : Grow h.nx.nat h (((h.new (.cells 1 [v])).new (.cells 1 [.sn])).new (.cells 1 [.b false])) := (Grow.new (Nat.le_refl _) _).trans ((Grow.new (by omega) _).trans (Grow.new (by omega) _))
  simp (disch := omega) only [f69_r0, w_reg, w_seq, seqK_n, x_nil, x_alloc, x_box, kx, rvP_ok, ev_t, getV_some, putD_some, oGet_s, frame_2, getK_set, ↓reduceIte, hone]
  generalize ((h.new (.cells 1 [v])).new (.cells 1 [.sn])).nx = idc at *
  generalize (h.new (.cells 1 [v])).nx = idb at *
  generalize ((h.new (.cells 1 [v])).new _).new _ = h4 at *
  have hv4 := hv.grow hc gA
  have hc4 := gA.hc hc
  have lv : loadV h4 (.p h.nx 0) one? = .ok v h4 := load_p t0.ha rfl
  simp (disch := omega) only [f69_r1, x_mv, x_ld, x_call, kx, rvP_ok, ev_t, ev_c, evs_nil, evs_cons, getV_some, putD_some, getK_set, Nat.reduceEqDiff, ↓reduceIte, lv]
  refine (callP_0 (ef := f68) k.c68 rfl (f68_ret (n := (m : Int)) hone)).mono ?_
  rintro r h6 ⟨rfl, h6e⟩
  obtain ⟨gC, hc6, n6, n5, hC, hmem⟩ := loop_pre (m := m) hv4 hc4 h6 h6e
  have t6 := t0.same (h' := h6) fun i hi => gC.old i (by omega)
  have g6 := gA.trans (gC.low gA.nx)
  simp (disch := omega) only [w_block, seqK_n, x_nil, kx, putD_some]
  generalize hfr : T.set (K.ofNat 11) _ _ = fr6
  have f11' : fr6.get (K.ofNat 11) = some (.fn (K.ofNat 107) [.p h4.nx 0, .p (h4.new (.cells 1 [.i .i64 (m : Int)])).nx 0]) := by rw [← hfr]; simp (disch := omega) only [getK_set, ↓reduceIte]
  have f3 : fr6.get (K.ofNat 3) = some (.p h.nx 0) := by rw [← hfr]; simp (disch := omega) only [getK_set, Nat.reduceEqDiff, ↓reduceIte]
  have f4' : fr6.get (K.ofNat 4) = some (.p idb 0) := by rw [← hfr]; simp (disch := omega) only [getK_set, Nat.reduceEqDiff, ↓reduceIte]
  have f5' : fr6.get (K.ofNat 5) = some (.p idc 0) := by rw [← hfr]; simp (disch := omega) only [getK_set, Nat.reduceEqDiff, ↓reduceIte]
  clear hfr
  have lab := t6.ab
  have lbc := t6.bc
  have cons : Cons h6.nx.nat m E v h4.nx (h4.new (.cells 1 [.i .i64 (m : Int)])).nx (fun i h1 => (∀ M ∈ (labsL m E).take i, okM E true M = false) ∧ Agr h6.nx.nat h6 h1) :=
    ⟨fun i h1 hi => hC.mem 0 h1 ⟨rfl, hi.2⟩, fun i h1 h' hi hk => ⟨hi.1, fun x hx => (hk x hx).trans (hi.2 x hx)⟩, hC.bn, hC.be, hC.bev⟩
  refine W_rangeL (k := (K.ofNat 107)) (Y := labsL m E) rfl (by simp (disch := omega) only [ev_t, getV_some, f11']) (all_yieldsL k.toCallsG k.c107 hE) hc6 (fun i h1 => (∀ M ∈ (labsL m E).take i, okM E true M = false) ∧ Agr h6.nx.nat h6 h1)
    (fun e h1 => e = .ret ∧ ∃ w L0, pFirst m E = some L0 ∧ h1.get idb = .cells 1 [w] ∧ h1.get idc = .cells 1 [.b true] ∧ Sl iE h1 w L0 ∧ L0 ≠ [] ∧ Grow h.nx.nat h h1) cons ⟨by simp, Agr.refl⟩ ?_ ?_ ?_
  · rintro i h1 w hi ⟨hno, hag⟩ hc1 hnx hb sw ow
    rw [show ∀ Q fr h, W fs (some h6.nx) f69_a0 Q fr h = X fs f69_r2 (Q .normal) fr h from fun _ _ _ => rfl]
    simp (disch := omega) only [f69_r2, rndA_n, x_nil, x_as, ev_t, getV_some, putD_some, getK_set, ↓reduceIte]
    refine ⟨hb, ?_⟩
    have t7 : Tri h.nx idb idc (h1.put h6.nx (bsyB fr6 [(K.ofNat 12)] f69_a0 f69_b0)) v .sn (.b false) := t6.same fun i hi => by rw [get_put_other (fun e => by rw [e] at hi; omega)]; exact hag i (by omega)
    have e7 : (h1.put h6.nx (bsyB fr6 [(K.ofNat 12)] f69_a0 f69_b0)).get h6.nx = bsyB fr6 [(K.ofNat 12)] f69_a0 f69_b0 := get_put_same
    have nx7 : (h1.put h6.nx (bsyB fr6 [(K.ofNat 12)] f69_a0 f69_b0)).nx = h1.nx := rfl
    have sw7 : Sl iE (h1.put h6.nx (bsyB fr6 [(K.ofNat 12)] f69_a0 f69_b0)) w (labsL m E)[i] := sw.put (fun off n sz e => by have := ow _ _ _ _ e; omega) _
    have hc7 : HC (h1.put h6.nx (bsyB fr6 [(K.ofNat 12)] f69_a0 f69_b0)) := (Grow.put (b := 0) (Nat.zero_le _) hnx _).hc hc1
    have o7 : ∀ y : K, y ≠ h6.nx → (h1.put h6.nx (bsyB fr6 [(K.ofNat 12)] f69_a0 f69_b0)).get y = h1.get y := fun y hy => get_put_other hy
    have hv7 : Srp (h1.put h6.nx (bsyB fr6 [(K.ofNat 12)] f69_a0 f69_b0)) v E := hv.same fun id off n sz e => by
      have hid := hv.ltb hc _ _ _ _ e
      have := g6.nx
      rw [get_put_other (kNe (by omega)), hag id (by omega), g6.old id hid]
    show W fs (some h6.nx) (.block 1 (.seq (.reg f69_r3) (.seq (.reg f69_r4) (.cond (.t (K.ofNat 19)) (.seq (.reg f69_r5) .ret) .skip)))) (rndK h6.nx fr6 [(K.ofNat 12)] f69_a0 f69_b0 _ _) _ _
    generalize hh7 : h1.put h6.nx (bsyB fr6 [(K.ofNat 12)] f69_a0 f69_b0) = h7 at *
    obtain ⟨hgr, hlab, hlen, _, _⟩ := labsL_gr hE (List.getElem_mem hi)
    have lv7 : loadV h7 (.p h.nx 0) one? = .ok v h7 := load_p t7.ha rfl
    simp (disch := omega) only [f69_r3, w_reg, w_seq, w_block, x_mv, x_ld, x_call, kx, rvP_ok, ev_t, ev_c, evs_nil, evs_cons, getV_some, putD_some, getK_set, Nat.reduceEqDiff, ↓reduceIte, f3, lv7]
    refine (callP_0 (ef := f63) k.c63 rfl (f63_ret k.toCallsPt hv7 sw7.sr hc7 hE hne hlab hlen)).mono ?_
    rintro r h8 ⟨rfl, g8⟩
    have t8 : Tri h.nx idb idc h8 v .sn (.b false) := t7.same fun i hi => g8.old i (by rw [nx7]; omega)
    have e8 : h8.get h6.nx = bsyB fr6 [(K.ofNat 12)] f69_a0 f69_b0 := (g8.old _ (by rw [nx7]; omega)).trans e7
    have sw8 := sw7.grow hc7 g8
    have hc8 := g8.hc hc7
    have nx8 : h1.nx.nat ≤ h8.nx.nat := by have := g8.nx; rw [nx7] at this; exact this
    have hYi : (labsL m E)[i] ∈ labsL m E := List.getElem_mem hi
    have htk := List.take_succ_eq_append_getElem hi
    cases hp : (prtO E (labsL m E)[i]).isSome with
    | false =>
      simp (disch := omega) only [f69_r4, w_skip, w_reg, w_seq, w_cond, seqK_n, atK_n, ckB_b, cbB_b, true_and, rndK_n, x_nil, x_mv, x_as, x_ext, kx, rvP_ok, okv_some, ev_t, getV_some, putD_some, onTup_t, nth0, nth1, getK_set, Nat.reduceEqDiff, ↓reduceIte, Bool.false_eq_true]
      refine ⟨e8, ⟨fun M hM => ?_, fun x hx => ?_⟩, ?_⟩
      · rw [htk] at hM
        rcases List.mem_append.1 hM with hM | hM
        · exact hno M hM
        · rw [List.mem_singleton.1 hM, okM_t, hp]
      · rw [get_put_other (kNe hx), g8.old x (by rw [nx7]; omega), o7 x (kNe hx)]
        exact hag x hx
      · refine ⟨nx8, (Grow.put (b := 0) (Nat.zero_le _) (by omega) _).hc hc8, fun y hy hy2 => ?_⟩
        rw [get_put_other (fun e => by rw [e] at hy; omega), g8.old y (by rw [nx7]; exact hy2), o7 y (fun e => by rw [e] at hy; omega)]
    | true =>
      have hwo := sw8.sr.one
      have s1 : storeV h8 1 (.p idb 0) w = .ok undefV (h8.put idb (.cells 1 [w])) := st1 t8.hb hwo
      have s2 : storeV (h8.put idb (.cells 1 [w])) 1 (.p idc 0) (.b true) = .ok undefV ((h8.put idb (.cells 1 [w])).put idc (.cells 1 [.b true])) := st1 (by rw [get_put_other (kNe lbc).symm]; exact t8.hc) rfl
      simp (disch := omega) only [f69_r4, f69_r5, w_reg, w_seq, w_cond, w_ret, seqK_n, atK_r, ckB_b, cbB_b, true_and, rndK_r, x_nil, x_mv, x_as, x_st, x_ext, kx, rvP_ok, okv_some, ev_t, ev_c, getV_some, putD_some, putD_none, onTup_t, nth0, nth1, getK_set, Nat.reduceEqDiff, ↓reduceIte, f4', f5', s1, s2]
      have oth : ∀ {y : K}, idc.nat < y.nat → ((h8.put idb (.cells 1 [w])).put idc (.cells 1 [.b true])).get y = h8.get y := fun {y} hy => by rw [get_put_other (kNe hy).symm, get_put_other (kNe (by omega)).symm]
      refine ⟨by rw [oth (by omega)]; exact e8, ⟨w, (labsL m E)[i], ?_, ?_, ?_, ?_, ?_, ?_⟩, ?_⟩
      · unfold pFirst
        conv => lhs; rw [← List.take_append_drop i (labsL m E)]
        rw [List.filter_append, List.filter_eq_nil_iff.2 fun M hM => by rw [hno M hM]; simp, List.nil_append, List.drop_eq_getElem_cons hi, List.filter_cons_of_pos (by rw [okM_t, hp])]; rfl
      · rw [get_put_other (kNe (by omega)), get_put_other (kNe lbc), get_put_same]
      · rw [get_put_other (kNe (by omega)), get_put_same]
      · refine sw8.same fun id off n sz e => ?_
        have h5 := ow _ _ _ _ e
        rw [get_put_other (fun e => by rw [e] at h5; omega), oth (by omega)]
      · intro e; rw [e] at hlen; simp at hlen; omega
      · refine ⟨by show h.nx.nat ≤ h8.nx.nat; have := g6.nx; omega, fun id hid => ?_, fun _ => (Grow.put (b := 0) (Nat.zero_le _) (by show h6.nx.nat < h8.nx.nat; omega) _).hc ((Grow.put (b := 0) (Nat.zero_le _) (by show idc.nat < h8.nx.nat; omega) _).hc ((Grow.put (b := 0) (Nat.zero_le _) (by omega) _).hc hc8))⟩
        have := g6.nx
        rw [get_put_other (kNe (by omega)), get_put_other (kNe (by omega)), get_put_other (kNe (by omega)), g8.old id (by rw [nx7]; omega), o7 id (kNe (by omega)), hag id (by omega), g6.old id hid]
      · refine ⟨nx8, (Grow.put (b := 0) (Nat.zero_le _) (by show h6.nx.nat < h8.nx.nat; omega) _).hc ((Grow.put (b := 0) (Nat.zero_le _) (by show idc.nat < h8.nx.nat; omega) _).hc ((Grow.put (b := 0) (Nat.zero_le _) (by omega) _).hc hc8)), fun y hy hy2 => ?_⟩
        rw [get_put_other (fun e => by rw [e] at hy; omega), oth (by omega), g8.old y (by rw [nx7]; exact hy2), o7 y (fun e => by rw [e] at hy; omega)]
  · rintro h1 ⟨hno, hag⟩ hc1 hnx
    rw [List.take_length] at hno
    have hP : pFirst m E = none := by
      unfold pFirst
      rw [List.filter_eq_nil_iff.2 fun M hM => by rw [hno M hM]; simp]; rfl
    have t7 : Tri h.nx idb idc (h1.put h6.nx .dead) v .sn (.b false) := t6.same fun i hi => by rw [get_put_other (fun e => by rw [e] at hi; omega)]; exact hag i (by omega)
    have hc7 : HC (h1.put h6.nx .dead) := (Grow.put (b := 0) (Nat.zero_le _) hnx _).hc hc1
    have nx7 : (h1.put h6.nx .dead).nx = h1.nx := rfl
    have o7 : ∀ y : K, y.nat < h6.nx.nat → (h1.put h6.nx .dead).get y = h6.get y := fun y hy => by rw [get_put_other (fun e => by rw [e] at hy; omega)]; exact hag y hy
    generalize h1.put h6.nx .dead = h7 at *
    have s1 : storeV h7 1 (.p idb 0) .sn = .ok undefV (h7.put idb (.cells 1 [.sn])) := st1 t7.hb rfl
    have s2 : storeV (h7.put idb (.cells 1 [.sn])) 1 (.p idc 0) (.b false) = .ok undefV ((h7.put idb (.cells 1 [.sn])).put idc (.cells 1 [.b false])) := st1 (by rw [get_put_other (kNe lbc).symm]; exact t7.hc) rfl
    have q1 : ((h7.put idb (.cells 1 [.sn])).put idc (.cells 1 [.b false])).get idb = .cells 1 [.sn] := by rw [get_put_other (kNe lbc), get_put_same]
    have q2 : ((h7.put idb (.cells 1 [.sn])).put idc (.cells 1 [.b false])).get idc = .cells 1 [.b false] := get_put_same
    simp (disch := omega) only [f69_r6, f69_rs, w_reg, w_seq, w_ret, seqK_n, atK_n, retK_r, x_nil, x_st, kx, rvP_ok, ev_t, ev_c, getV_some, putD_none, oGet_s, readRs_nil, readRs_c, retV_2, Option.some.injEq, exists_eq_left', f4', f5', s1, s2, readP1 q1, readP1 q2]
    rw [hP]
    refine ⟨⟨.sn, rfl, rfl⟩, by show h.nx.nat ≤ h7.nx.nat; rw [nx7]; have := g6.nx; omega, fun id hid => ?_, fun _ => (Grow.put (b := 0) (Nat.zero_le _) (by show idc.nat < h7.nx.nat; rw [nx7]; omega) _).hc ((Grow.put (b := 0) (Nat.zero_le _) (by rw [nx7]; omega) _).hc hc7)⟩
    have := g6.nx
    rw [get_put_other (kNe (by omega)), get_put_other (kNe (by omega)), o7 id (by omega), g6.old id hid]
  · rintro e h1 _ ⟨rfl, w, L0, hP, q1, q2, sw, hL0, g⟩
    simp (disch := omega) only [f69_rs, seqK_r, atK_r, retK_r, getV_some, oGet_s, readRs_nil, readRs_c, retV_2, Option.some.injEq, exists_eq_left', f4', f5', readP1 q1, readP1 q2]
    rw [hP]
    exact ⟨⟨w, rfl, sw.sr, hL0⟩, g⟩
theorem f26_ok (k : CallsPa fs) (kc : CallsC fs) (hv : Srp h v E) (hc : HC h) (hn : chkI (m : Int) E = 0) : Ret fs f26 [.i .i64 (m : Int), v] h fun r h' => ∃ w, r = .tup [w, .b (pFirst m E).isSome, .i .i64 0] ∧ OSr h' w (pFirst m E) ∧ Grow h.nx.nat h h' := by
  obtain ⟨m', hm, hm2, hE⟩ := chkI_ok hn
  obtain rfl : m = m' := by omega
  apply ret_of rfl
  show W fs none f26_c _ _ _
  unfold f26_c
  have hE6 : E.length ≤ 1000000 := by have := hE.1; omega
  simp (disch := omega) only [f26_r0, f26_r1, w_reg, w_seq, seqK_n, x_nil, x_mv, x_as, x_call, ev_t, ev_c, evs_nil, evs_cons, getV_some, putD_some, frame_2, of0, getK_set, Nat.reduceEqDiff, ↓reduceIte]
  refine (callP_0 (ef := f17) kc.c17 rfl (f17_ret (n := (m : Int)) kc hv hc hE6)).mono ?_
  rintro r h4 ⟨rfl, gB⟩
  rw [hn]
  have d : decide ((0 : Int) ≠ 0) = false := rfl
  simp (disch := omega) only [f26_r2, f26_r4, w_skip, w_reg, w_seq, w_cond, seqK_n, ckB_b, cbB_b, true_and, x_nil, x_mv, x_as, x_bin, x_call, kx, rvP_ok, okv_some, ev_t, ev_c, evs_nil, evs_cons, getV_some, putD_some, bin_neq, of0, getK_set, Nat.reduceEqDiff, ↓reduceIte, Bool.false_eq_true, d]
  refine (callP_0 (ef := f69) k.c69 rfl (f69_ret k (hv.grow hc gB) (gB.hc hc) hE (chkI_ne hn) (by omega))).mono ?_
  rintro r h5 ⟨⟨w, rfl, hw⟩, gC⟩
  simp (disch := omega) only [f26_r5, f26_rs, w_reg, w_seq, w_ret, seqK_n, retK_r, x_nil, x_mv, x_as, x_ext, kx, rvP_ok, okv_some, ev_t, ev_c, getV_some, putD_some, onTup_t, oGet_s, nth0, nth1, readRs_nil, readRs_t, retV_2, of0, Option.some.injEq, exists_eq_left', getK_set, Nat.reduceEqDiff, ↓reduceIte]
  exact ⟨w, rfl, hw, gB.trans (gC.low gB.nx)⟩
theorem f29_ret (k : CallsSe fs) (hE : EdgesOk m E) (hm : 0 < m) {bp : Bool} (hc : HC h) (hv : Srp h v E) : Ret fs f29 [.i .i64 (m : Int), v, .b bp] h fun r h' => OSr h' r (renL m E bp m []).head? ∧ Grow h.nx.nat h h' := by
  apply ret_of rfl
  show W fs none f29_c _ _ _
  unfold f29_c
  simp (disch := omega) only [f29_r0, f29_r1, w_reg, w_seq, seqK_n, x_nil, x_mv, x_as, x_call, ev_t, ev_c, evs_nil, evs_cons, getV_some, putD_some, frame_3, getK_set, Nat.reduceEqDiff, ↓reduceIte]
  refine (callP_0 (ef := f70) k.c70 rfl (f70_ret k hE hm m hc hv Sr.nil (fun x hx => by cases hx) (by simp))).mono ?_
  rintro r h1 ⟨⟨u, rfl, hs⟩, hG⟩
  simp (disch := omega) only [f29_r2, f29_rs, w_reg, w_seq, w_ret, seqK_n, retK_r, x_nil, x_mv, x_as, x_ext, kx, rvP_ok, okv_some, ev_t, getV_some, putD_some, onTup_t, oGet_s, nth0, nth1, readRs_nil, readRs_t, retV_1, Option.some.injEq, exists_eq_left', getK_set, Nat.reduceEqDiff, ↓reduceIte]
  exact ⟨hs, hG⟩
theorem f31_ret (k : CallsSe fs) (hE : EdgesOk m E) (hm : 0 < m) (hc : HC h) (hv : Srp h v E) : Ret fs f31 [.i .i64 (m : Int), v] h fun r h' => r = .i .i64 ((labsL m E).length : Int) ∧ Grow h.nx.nat h h' := by
  apply ret_of rfl
  show W fs none f31_c _ _ _
  unfold f31_c
  simp (disch := omega) only [f31_r0, f31_r1, w_reg, w_seq, seqK_n, x_nil, x_mv, x_as, x_call, ev_t, ev_c, evs_nil, evs_cons, getV_some, putD_some, frame_2, of0, getK_set, Nat.reduceEqDiff, ↓reduceIte]
  refine (callP_0 (ef := f70) k.c70 rfl (f70_ret k hE hm m hc hv Sr.nil (fun x hx => by cases hx) (by simp))).mono ?_
  rintro r h1 ⟨⟨u, rfl, hs⟩, hG⟩
  have : cntF false (renL m E false m []) = (labsL m E).length := by rw [renL_all hE]; rfl
  rw [this]
  simp (disch := omega) only [f31_r2, f31_rs, w_reg, w_seq, w_ret, seqK_n, true_and, retK_r, x_nil, x_mv, x_as, x_ext, kx, rvP_ok, okv_some, ev_t, getV_some, putD_some, onTup_t, oGet_s, nth0, nth1, readRs_nil, readRs_t, retV_1, Option.some.injEq, exists_eq_left', getK_set, Nat.reduceEqDiff, ↓reduceIte, true_and]
  exact hG
end
structure CallsFi (fs : T EF) : Prop extends CallsPa fs, CallsSe fs where
  c24 : fs.get (K.ofNat 24) = some f24
  c25 : fs.get (K.ofNat 25) = some f25
  c26 : fs.get (K.ofNat 26) = some f26
  c28 : fs.get (K.ofNat 28) = some f28
  c29 : fs.get (K.ofNat 29) = some f29
  c30 : fs.get (K.ofNat 30) = some f30
  c31 : fs.get (K.ofNat 31) = some f31
  aw : ∀ h P, CallP fs (.fn (K.ofNat 23) []) [] h P = P (.b true) h
section
variable {fs : T EF} {ro : Option K}
theorem OSr.isn2 {h : H} {u : V} {o : Option (List Int)} (hs : OSr h u o) (h1 : H) : isnilV true u h1 = .ok (.b o.isSome) h1 := by
  cases o with
  | none => have : u = .sn := hs
            subst this; rfl
  | some R =>
    rcases hs with ⟨⟨_, h2⟩ | ⟨_, _, _, _, rfl, _⟩, h3⟩
    · exact absurd h2 h3
    · rfl
theorem f4_ret {h : H} {v : V} {l : List (Int × Int)} {n : Int} (k : CallsFi fs) (hv : Srp h v l) (hL : l.length ≤ 9223372036854775807) (hc : HC h) : Ret fs f4 [.i .i64 n, v] h fun r h' => r = .b true ∧ Grow h.nx.nat h h' := by
  have aw := k.aw
  have kb : ∀ a b, keyEq (.one none) (.b a) (.b b) = some (a == b) := fun _ _ => rfl
  apply ret_of rfl
  show W fs none f4_c _ _ _
  unfold f4_c
  simp (disch := omega) only [f4_r0, f4_r1, w_reg, w_seq, seqK_n, x_nil, x_mv, x_as, x_call, ev_t, ev_c, evs_nil, evs_cons, getV_some, putD_some, frame_2, of10, getK_set, Nat.reduceEqDiff, ↓reduceIte]
  refine (callP_0 (ef := f28) k.c28 rfl (f28_ret (n := n) hv hc hL)).mono ?_
  rintro r h1 ⟨m, u, E, rfl, hu, hchk, hG1⟩
  obtain ⟨m', hm', hm2, hE⟩ := chkI_ok hchk
  obtain rfl : m = m' := by omega
  have hm7 : m ≤ 7 := hE.2.1
  have hc1 := hG1.hc hc
  simp (disch := omega) only [f4_r2, w_reg, w_seq, seqK_n, x_nil, x_mv, x_as, x_ext, x_call, kx, rvP_ok, okv_some, ev_t, ev_c, evs_nil, evs_cons, getV_some, putD_some, onTup_t, nth0, nth1, getK_set, Nat.reduceEqDiff, ↓reduceIte]
  refine (callP_0 (ef := f24) k.c24 rfl (f24_ok k.toCallsL hu hc1 hchk)).mono ?_
  rintro r h2 ⟨w, rfl, sw, _, hG2, hw0⟩
  have hc2 := hG2.hc hc1
  have hu2 := hu.grow hc1 hG2
  have hGa := hG1.trans (hG2.low hG1.nx)
  simp (disch := omega) only [f4_r3, w_reg, w_seq, seqK_n, x_nil, x_mv, x_as, x_ext, x_call, kx, rvP_ok, okv_some, ev_t, ev_c, evs_nil, evs_cons, getV_some, putD_some, onTup_t, nth0, nth1, nth2, getK_set, Nat.reduceEqDiff, ↓reduceIte]
  refine (callP_0 (ef := f25) k.c25 rfl (f25_ok k.toCallsL hu2 hc2 hchk)).mono ?_
  rintro r h3 ⟨rfl, hG3⟩
  have hc3 := hG3.hc hc2
  have hu3 := hu2.grow hc2 hG3
  have sw3 := sw.grow hc2 hG3
  have hGb := hGa.trans (hG3.low hGa.nx)
  simp (disch := omega) only [f4_r4, w_reg, w_seq, seqK_n, x_nil, x_mv, x_as, x_ext, x_call, kx, rvP_ok, okv_some, ev_t, ev_c, evs_nil, evs_cons, getV_some, putD_some, onTup_t, nth0, nth1, getK_set, Nat.reduceEqDiff, ↓reduceIte]
  refine (callP_0 (ef := f26) k.c26 rfl (f26_ok k.toCallsPa k.toCallsL.toCallsC hu3 hc3 hchk)).mono ?_
  rintro r h4 ⟨w2, rfl, sp, hG4⟩
  have hc4 := hG4.hc hc3
  have hu4 := hu3.grow hc3 hG4
  have sw4 := sw3.grow hc3 hG4
  have hGc := hGb.trans (hG4.low hGb.nx)
  simp (disch := omega) only [f4_r5, w_reg, w_seq, seqK_n, x_nil, x_mv, x_as, x_ext, x_call, kx, rvP_ok, okv_some, ev_t, ev_c, evs_nil, evs_cons, getV_some, putD_some, onTup_t, nth0, nth1, nth2, getK_set, Nat.reduceEqDiff, ↓reduceIte]
  refine (callP_0 (ef := f29) k.c29 rfl (f29_ret k.toCallsSe hE (by omega) hc4 hu4)).mono ?_
  rintro x h5 ⟨sx, hG5⟩
  have hc5 := hG5.hc hc4
  have hu5 := hu4.grow hc4 hG5
  have sw5 := sw4.grow hc4 hG5
  have sp5 := sp.grow hc4 hG5
  have hGd := hGc.trans (hG5.low hGc.nx)
  simp (disch := omega) only [x_mv, x_call, kx, ev_t, ev_c, evs_nil, evs_cons, getV_some, putD_some, getK_set, Nat.reduceEqDiff, ↓reduceIte]
  refine (callP_0 (ef := f29) k.c29 rfl (f29_ret k.toCallsSe hE (by omega) hc5 hu5)).mono ?_
  rintro y h6 ⟨sy, hG6⟩
  have hc6 := hG6.hc hc5
  have hu6 := hu5.grow hc5 hG6
  have sw6 := sw5.grow hc5 hG6
  have sp6 := sp5.grow hc5 hG6
  have sx6 := sx.grow hc5 hG6
  have hGe := hGd.trans (hG6.low hGd.nx)
  rw [renL_all hE] at sx6
  rw [renL_labs hE] at sy
  have sy : OSr h6 y (pFirst m E) := sy
  have hx1 := sx6.isn2
  have hy1 := sy.isn2
  have e1 : decide (labsL m E ≠ []) = (labsL m E).head?.isSome := by cases labsL m E <;> simp
  have bb : ∀ a : Bool, (a == a) = true := fun a => by cases a <;> rfl
  have hhd : (labsL m E).headD [] = (labsL m E).head?.getD [] := by cases labsL m E <;> rfl
  rw [hhd] at sw6
  have hl1 : ((labsL m E).head?.getD []).length ≤ 1000000 := by
    cases hq : labsL m E with
    | nil => simp
    | cons M l =>
      have := (labsL_gr hE (M := M) (by rw [hq]; simp)).2.2.1
      show M.length ≤ _
      omega
  have hl2 : ((pFirst m E).getD []).length ≤ 1000000 := by
    cases hq : pFirst m E with
    | none => simp
    | some M =>
      have : M ∈ labsL m E := (List.mem_filter.1 (List.mem_of_mem_head? hq)).1
      have := (labsL_gr hE this).2.2.1
      show M.length ≤ _
      omega
  have d0 : decide ((0 : Int) = 0) = true := rfl
  simp (maxSteps := 5000000) (disch := omega) only [f4_r6, w_reg, w_seq, seqK_n, okG_b, asG_t, true_and, x_nil, x_g, x_mv, x_as, x_pick, x_bin, x_eqk, x_call, x_isnil, kx, rvP_ok, okv_some, ev_t, ev_c, evs_nil, evs_cons, getV_some, putD_some, bin_eql, pick_b, oGet_s, of0, getK_set, Nat.reduceEqDiff, ↓reduceIte, decide_eq_true_eq, e1, hx1, kb, bb, cond_false]
  refine (callP_0 (ef := f30) k.c30 rfl (f30_same sw6.sr sx6.sr hl1)).mono ?_
  rintro r h7 ⟨rfl, rfl⟩
  simp (maxSteps := 5000000) (disch := omega) only [okG_b, asG_t, true_and, x_g, x_mv, x_pick, x_bin, x_call, kx, rvP_ok, okv_some, ev_t, ev_c, evs_nil, evs_cons, getV_some, putD_some, bin_eql, pick_b, getK_set, Nat.reduceEqDiff, ↓reduceIte, decide_eq_true_eq]
  refine (callP_0 (ef := f31) k.c31 rfl (f31_ret k.toCallsSe hE (by omega) hc6 hu6)).mono ?_
  rintro r h8 ⟨rfl, hG8⟩
  have dl : decide (((labsL m E).length : Int) = ((labsL m E).length : Int)) = true := by simp
  have sp8 := sp6.grow hc6 hG8
  have sy8 := sy.grow hc6 hG8
  simp (maxSteps := 5000000) (disch := omega) only [okG_b, asG_t, true_and, x_g, x_mv, x_pick, x_bin, x_eqk, x_call, x_isnil, kx, rvP_ok, okv_some, ev_t, ev_c, evs_nil, evs_cons, getV_some, putD_some, bin_eql, pick_b, oGet_s, getK_set, Nat.reduceEqDiff, ↓reduceIte, decide_eq_true_eq, hy1, kb, bb, cond_false]
  refine (callP_0 (ef := f30) k.c30 rfl (f30_same sp8.sr sy8.sr hl2)).mono ?_
  rintro r h9 ⟨rfl, rfl⟩
  simp (disch := omega) only [f4_rs, w_ret, seqK_n, okG_b, asG_t, true_and, retK_r, x_nil, x_g, x_mv, x_as, x_pick, x_call, kx, rvP_ok, ev_t, ev_c, evs_nil, getV_some, putD_some, pick_b, oGet_s, readRs_nil, readRs_t, retV_1, Option.some.injEq, exists_eq_left', getK_set, Nat.reduceEqDiff, ↓reduceIte, aw, true_and]
  exact hGe.trans (hG8.low hGe.nx)
end
end Go.Ev
