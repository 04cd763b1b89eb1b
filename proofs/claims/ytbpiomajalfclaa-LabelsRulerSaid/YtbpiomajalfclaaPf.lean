/-
  Labels: the program's rulers.
  Labels: the reference's rulers.
  Labels: the reference's Extend and Shortest.
  Labels: what is grown is what the reference grows; a ruler of seven marks.
  Labels: the law LabelsRuler.
-/
import Derived.Test.YtbpiomajalfclaaPe
namespace Go.Ev
open Go Go.RowKit
theorem beqL_self : ∀ {l : List V}, (∀ x ∈ l, beq1 x x = true) → beqL l l = true
  | [], _ => rfl
  | x :: l, hh => by
    show (beq1 x x && beqL l l) = true
    rw [hh x (by simp), beqL_self fun y hy => hh y (by simp [hy])]; rfl
theorem Sr.beq1 {h : H} {v : V} {L : List Int} (hs : Sr iE h v L) : Go.Ev.beq1 v v = true := by
  have hb := hs.beq
  rcases hs with ⟨rfl, _⟩ | ⟨_, _, _, _, rfl, _⟩
  · rfl
  · exact hb
theorem gr_beq {u : V} {A : List Bool} {m l : Int} (hu : beq1 u u = true) : beqL (grC u A m l) (grC u A m l) = true := by
  refine beqL_self fun x hx => ?_
  unfold grC at hx
  simp only [List.mem_cons, List.mem_append, List.mem_map, List.not_mem_nil, or_false] at hx
  rcases hx with rfl | ⟨b, _, rfl⟩ | rfl | rfl
  · exact hu
  · cases b <;> rfl
  · have := beq_i (k := .i64) (n := m); unfold beqV at this; exact this
  · have := beq_i (k := .i64) (n := l); unfold beqV at this; exact this
section
variable {fs : T EF} {ro : Option K} {h : H} {v : V} {L : List Int} {A : List Bool}
theorem callP_bf {k : K} {ef : EF} {args fst : List V} {P : V → H → Prop} (hf : fs.get k = some ef) (hn : ef.nv = none) (hr : Ret fs ef (fst ++ args) h P) : CallP fs (.bf k fst []) args h P := by
  obtain ⟨n, v, h', e, hp⟩ := hr
  refine ⟨n, v, h', ?_, hp⟩
  show (oGet (fs.get k) RV.no fun ef => callE (eval fs n) ef (cat fst (cat args [])) h) = _
  rw [hf, cat_eq, cat_eq, List.append_nil]
  show oGet ef.nv (callF (eval fs n) ef (fst ++ args) h) _ = _
  rw [hn]; exact e
theorem getLast_at {L : List Int} (hn : L ≠ []) : L[L.length - 1]'(by have := List.length_pos_iff.2 hn; omega) = L.getLastD 0 := by
  rw [List.getLastD_eq_getLast?, List.getLast?_eq_getElem?, List.getElem?_eq_getElem (by have := List.length_pos_iff.2 hn; omega)]; rfl
theorem extP_succ {l : Int} {f : Nat} {L : List Int} {A : List Bool} : extP l (f + 1) L A = firstF (fun x => (takeAll x L A).bind fun B => extP l f (L ++ [x]) B) (L.getLastD 0 + 1) (l - L.getLastD 0).toNat := rfl
theorem fill_gr {fr : Fr} {x y : EO} {u : V} {m : Int} (hx : cellsN 1 (ev fr x) = some [u]) (hy : ev fr y = .i .i64 m) : fillE fr [.sn, .b false, .b false, .b false, .b false, .b false, .b false, .b false, .b false, .b false, .b false, .b false, .b false, .b false, .b false, .b false, .b false, .b false, .b false, .b false, .b false, .b false, .b false, .b false, .b false, .b false, .b false, .i .i64 0, .i .i64 0] [(0, 1, x), (27, 1, y)] = some (grC u (List.replicate 26 false) m 0) := by
  show oGet (cellsN 1 (ev fr x)) none (fun cs => oGet (cellsN 1 (ev fr y)) none fun ds => some (setMany (setMany [.sn, .b false, .b false, .b false, .b false, .b false, .b false, .b false, .b false, .b false, .b false, .b false, .b false, .b false, .b false, .b false, .b false, .b false, .b false, .b false, .b false, .b false, .b false, .b false, .b false, .b false, .b false, .i .i64 0, .i .i64 0] 0 cs) 27 ds)) = _
  rw [hx, hy]; rfl
theorem f110_ret (k : CallsRu fs) {m : Nat} {l : Int} (hm7 : m ≤ 7) (hl : l ≤ 25) : ∀ (f : Nat) {h : H} {v : V} {L : List Int} {A : List Bool}, HC h → Sr iE h v L → MkOk L → L.getLastD 0 ≤ l → A.length = 26 → L.length + f = m → Ret fs f110 [.agg (grC v A (m : Int) l)] h fun r h' => Out h' r (extP l f L A) ∧ Grow h.nx.nat h h' := by
  intro f
  induction f with
  | zero =>
    intro h v L A hc hv hmk hle hA hf
    apply ret_of rfl
    show W fs none f110_c _ _ _
    unfold f110_c
    have g1 := Grow.new (Nat.le_refl h.nx.nat) (.cells 29 (grC v A (m : Int) l))
    have e1 : (h.new (.cells 29 (grC v A (m : Int) l))).get h.nx = .cells 29 (grC v A (m : Int) l) := get_new_same
    have hv1 := hv.grow hc g1
    have ld0 := gr_ld0 e1
    have ld27 := gr_ld27 hA e1
    have hLm : (L.length : Int) = (m : Int) := by omega
    have d0 : decide ((m : Int) > (m : Int)) = false := by simp
    simp (disch := omega) only [f110_r0, f110_r1, f110_r3, f110_r4, f110_rs, w_skip, w_reg, w_seq, w_cond, w_ret, seqK_n, seqK_r, ckB_b, cbB_b, true_and, retK_r, x_nil, x_as, x_box, x_ld, x_bin, x_fadr, x_len, kx, rvP_ok, okv_some, ev_t, ev_c, getV_some, putD_some, bin_eql, bin_gtr, onP_p, oGet_s, readRs_nil, readRs_t, retV_2, frame_1, Option.some.injEq, exists_eq_left', getK_set, Nat.reduceEqDiff, ↓reduceIte, Bool.false_eq_true, gr_cells hA, ld0, ld27, hv.len, hLm, d0, decide_true]
    exact ⟨⟨v, rfl, hv1, hmk.ne⟩, g1⟩
  | succ f ih =>
    intro h v L A hc hv hmk hle hA hf
    apply ret_of rfl
    show W fs none f110_c _ _ _
    unfold f110_c
    have n1 := nx_new h (.cells 29 (grC v A (m : Int) l))
    have g1 := Grow.new (Nat.le_refl h.nx.nat) (.cells 29 (grC v A (m : Int) l))
    have e1 : (h.new (.cells 29 (grC v A (m : Int) l))).get h.nx = .cells 29 (grC v A (m : Int) l) := get_new_same
    have hv1 := hv.grow hc g1
    have hc1 := g1.hc hc
    have ld0 := gr_ld0 e1
    have ld27 := gr_ld27 hA e1
    have ld28 := gr_ld28 hA e1
    have ldn := gr_ldn hA e1
    have d0 : decide ((L.length : Int) > (m : Int)) = false := by simp; omega
    have d1 : decide ((L.length : Int) = (m : Int)) = false := by simp; omega
    have hpos := List.length_pos_iff.2 hmk.ne
    obtain ⟨p, hp1, hp2, hp3⟩ := hv1.atb (L.length - 1) (by omega)
    rw [getLast_at hmk.ne] at hp2
    have hi : ((L.length - 1 : Nat) : Int) = (L.length : Int) - 1 := by omega
    rw [hi] at hp1
    have hlast : 0 ≤ L.getLastD 0 := by
      have := hmk.bd _ (List.getElem_mem (l := L) (n := L.length - 1) (by omega))
      rw [getLast_at hmk.ne] at this; omega
    have hvb := hv.beq
    have hgb := gr_beq (A := A) (m := (m : Int)) (l := l) hv.beq1
    simp (disch := omega) only [f110_r0, f110_r1, f110_r3, f110_r5, w_skip, w_reg, w_draw, w_seq, w_cond, seqK_n, ckB_b, cbB_b, true_and, x_nil, x_as, x_box, x_ld, x_bin, x_fadr, x_call, x_len, kx, kg, xg_nil, xg_ld, xg_ldn, xg_bin, xg_fadr, xg_iads, xg_len, xd_cons, fresh_nil, stK_s, stay_nil, rvP_ok, okv_some, ev_t, ev_c, evs_nil, evs_cons, getV_some, putD_some, bin_add, bin_sub, bin_eql, bin_gtr, onP_p, oGet_s, frame_1, of1, getK_set, Nat.reduceEqDiff, ↓reduceIte, Bool.false_eq_true, xg_mkbf, gr_cells hA, ld0, ld27, ld28, ldn, hv.len, d0, d1, hp1, hp2, iE, fw64]
    generalize h.new (.cells 29 (grC v A (m : Int) l)) = h0 at *
    refine (callP_0 (ef := f78) k.c78 rfl (f78_ret (g := fun x => (takeAll x L A).bind fun B => extP l f (L ++ [x]) B) (by omega) (by omega) (by omega) fun x hx1 hx2 h1 hg1 => ?_)).mono ?_
    · refine callP_bf (ef := f132) k.c132 rfl ?_
      have hcA := hg1.hc hc1
      refine f132_ret k (hv1.grow hc1 hg1) hcA hmk (by omega) (by omega) hA (by omega) fun h2 v2 B _ hc2 hv2 hB => ?_
      exact ih hc2 hv2 (hmk.snoc (by omega)) (by simp [List.getLastD_eq_getLast?]; omega) hB (by simp; omega)
    · rintro r h2 ⟨⟨w, rfl, hw⟩, hg2⟩
      have hbw : beqV w w = true := by
        revert hw
        generalize firstF _ _ _ = o
        cases o with
        | none => rintro rfl; rfl
        | some R => exact fun hw => hw.1.beq
      simp (disch := omega) only [f110_rs, w_ret, seqK_n, true_and, retK_r, x_nil, x_as, kx, kg, xg_nil, xg_ext, xd_cons, fresh_nil, stK_n, stK_s, stay_nil, rvP_ok, okv_some, ev_t, getV_some, putD_some, onTup_t, oGet_s, nth0, nth1, readRs_nil, readRs_t, retV_2, Option.some.injEq, exists_eq_left', getK_set, Nat.reduceEqDiff, ↓reduceIte]
      rw [show l + 1 - (L.getLastD 0 + 1) = l - L.getLastD 0 by omega] at *
      rw [extP_succ]
      exact ⟨⟨w, rfl, hw⟩, g1.trans (hg2.low g1.nx)⟩
theorem f77_ret (k : CallsRu fs) {m : Nat} {l x : Int} (hm7 : m ≤ 7) (hx : x ≤ 25) {h : H} {v : V} {L : List Int} {A : List Bool} (hc : HC h) (hv : Sr iE h v L) (hmk : MkOk L) (hle : L.getLastD 0 ≤ x) (hA : A.length = 26) (hL : L.length ≤ m) : Ret fs f77 [.agg (grC v A (m : Int) l), .i .i64 x] h fun r h' => Out h' r (extP x (m - L.length) L A) ∧ Grow h.nx.nat h h' := by
  apply ret_of rfl
  show W fs none f77_c _ _ _
  unfold f77_c
  have n1 := nx_new h (.cells 29 (grC v A (m : Int) l))
  have g1 := Grow.new (Nat.le_refl h.nx.nat) (.cells 29 (grC v A (m : Int) l))
  have e1 : (h.new (.cells 29 (grC v A (m : Int) l))).get h.nx = .cells 29 (grC v A (m : Int) l) := get_new_same
  have hst := gr_st28 (l' := x) hA e1
  have g2 := g1.trans (Grow.put (Nat.le_refl _) (show h.nx.nat < (h.new (.cells 29 (grC v A (m : Int) l))).nx.nat by omega) (.cells 29 (grC v A (m : Int) x)))
  have e2 : ((h.new (.cells 29 (grC v A (m : Int) l))).put h.nx (.cells 29 (grC v A (m : Int) x))).get h.nx = .cells 29 (grC v A (m : Int) x) := get_put_same
  simp (disch := omega) only [f77_r0, f77_r1, w_reg, w_seq, seqK_n, x_nil, x_mv, x_as, x_box, x_st, x_fadr, kx, rvP_ok, ev_t, ev_c, getV_some, putD_some, putD_none, onP_p, oGet_s, frame_2, getK_set, Nat.reduceEqDiff, ↓reduceIte, gr_cells hA, hst]
  generalize (h.new (.cells 29 (grC v A (m : Int) l))).put h.nx (.cells 29 (grC v A (m : Int) x)) = h2 at *
  have ldn := gr_ldn hA e2
  simp (disch := omega) only [f77_r2, x_ldn, x_call, kx, rvP_ok, ev_t, ev_c, evs_nil, evs_cons, getV_some, putD_some, getK_set, Nat.reduceEqDiff, ↓reduceIte, ldn]
  refine (callP_0 (ef := f110) k.c110 rfl (f110_ret k hm7 hx (m - L.length) (g2.hc hc) (hv.grow hc g2) hmk hle hA (by omega))).mono ?_
  rintro r h3 ⟨⟨w, rfl, hw⟩, hg3⟩
  simp (disch := omega) only [f77_rs, w_ret, seqK_n, retK_r, x_nil, x_as, x_ext, kx, rvP_ok, okv_some, ev_t, getV_some, putD_some, onTup_t, oGet_s, nth0, nth1, readRs_nil, readRs_t, retV_2, Option.some.injEq, exists_eq_left', getK_set, Nat.reduceEqDiff, ↓reduceIte]
  exact ⟨⟨w, rfl, hw⟩, g2.trans (hg3.low g2.nx)⟩
/-- The shortest ruler. -/
def shortP (m : Nat) : Option (List Int) := firstF (fun x => extP x (m - 1) [0] (List.replicate 26 false)) 1 25
theorem f46_err {n : Int} (hn : n < 2 ∨ 7 < n) : Ret fs f46 [.i .i64 n] h fun r h' => r = .tup [.sn, .i .i64 1] ∧ h' = h := by
  apply ret_of rfl
  show W fs none f46_c _ _ _
  unfold f46_c
  cases d1 : decide (n < 2) with
  | true => simp (disch := omega) only [f46_r0, f46_r1, f46_r2, f46_rs, w_reg, w_seq, w_cond, w_ret, seqK_n, seqK_r, ckB_b, cbB_b, okG_b, asG_f, retK_r, x_nil, x_g, x_mv, x_as, x_pick, x_bin, kx, rvP_ok, okv_some, ev_t, ev_c, getV_some, putD_some, bin_lss, pick_b, oGet_s, readRs_nil, readRs_t, retV_2, frame_1, of0, of1, of2, Option.some.injEq, exists_eq_left', getK_set, Nat.reduceEqDiff, ↓reduceIte, Bool.false_eq_true, Bool.not_true, of7, d1, and_self]
  | false =>
    have d2 : decide (n > 7) = true := by simp at d1 ⊢; omega
    simp (disch := omega) only [f46_r0, f46_r1, f46_r2, f46_rs, w_reg, w_seq, w_cond, w_ret, seqK_n, seqK_r, ckB_b, cbB_b, okG_b, asG_f, retK_r, x_nil, x_g, x_mv, x_as, x_pick, x_bin, kx, rvP_ok, okv_some, ev_t, ev_c, getV_some, putD_some, bin_lss, bin_gtr, pick_b, oGet_s, readRs_nil, readRs_t, retV_2, frame_1, of0, of1, of2, Option.some.injEq, exists_eq_left', getK_set, Nat.reduceEqDiff, ↓reduceIte, Bool.false_eq_true, Bool.not_false, of7, d1, d2, and_self]
theorem f46_ok (k : CallsRu fs) {m : Nat} (h2 : 2 ≤ m) (h7 : m ≤ 7) (hc : HC h) : Ret fs f46 [.i .i64 (m : Int)] h fun r h' => ∃ w, r = .tup [w, .i .i64 0] ∧ OSr h' w (shortP m) ∧ Grow h.nx.nat h h' := by
  apply ret_of rfl
  show W fs none f46_c _ _ _
  unfold f46_c
  have d1 : decide ((m : Int) < 2) = false := by simp; omega
  have d2 : decide ((m : Int) > 7) = false := by simp; omega
  have n1 := nx_new h (.cells (1 * 1) [.i .i64 0])
  have hs1 := Sl.lit (e := iE) (x := 0) (h := h)
  have n2 := nx_new (h.new (.cells (1 * 1) [.i .i64 0])) (.cells 29 [.sn, .b false, .b false, .b false, .b false, .b false, .b false, .b false, .b false, .b false, .b false, .b false, .b false, .b false, .b false, .b false, .b false, .b false, .b false, .b false, .b false, .b false, .b false, .b false, .b false, .b false, .b false, .i .i64 0, .i .i64 0])
  have g1 := (Grow.new (Nat.le_refl h.nx.nat) (.cells (1 * 1) [.i .i64 0])).trans (Grow.new (by omega) (.cells 29 [.sn, .b false, .b false, .b false, .b false, .b false, .b false, .b false, .b false, .b false, .b false, .b false, .b false, .b false, .b false, .b false, .b false, .b false, .b false, .b false, .b false, .b false, .b false, .b false, .b false, .b false, .b false, .i .i64 0, .i .i64 0]))
  have hs2 : Sl iE ((h.new (.cells (1 * 1) [.i .i64 0])).new (.cells 29 [.sn, .b false, .b false, .b false, .b false, .b false, .b false, .b false, .b false, .b false, .b false, .b false, .b false, .b false, .b false, .b false, .b false, .b false, .b false, .b false, .b false, .b false, .b false, .b false, .b false, .b false, .b false, .i .i64 0, .i .i64 0])) (.sl h.nx 0 1 1) [0] := hs1.grow ((Grow.new (Nat.le_refl h.nx.nat) _).hc hc) (Grow.new (Nat.le_refl _) _)
  have e2 : ((h.new (.cells (1 * 1) [.i .i64 0])).new (.cells 29 [.sn, .b false, .b false, .b false, .b false, .b false, .b false, .b false, .b false, .b false, .b false, .b false, .b false, .b false, .b false, .b false, .b false, .b false, .b false, .b false, .b false, .b false, .b false, .b false, .b false, .b false, .b false, .i .i64 0, .i .i64 0])).get (h.new (.cells (1 * 1) [.i .i64 0])).nx = .cells 29 (grC .sn (List.replicate 26 false) 0 0) := get_new_same
  have hst : storeV ((h.new (.cells (1 * 1) [.i .i64 0])).new (.cells 29 [.sn, .b false, .b false, .b false, .b false, .b false, .b false, .b false, .b false, .b false, .b false, .b false, .b false, .b false, .b false, .b false, .b false, .b false, .b false, .b false, .b false, .b false, .b false, .b false, .b false, .b false, .b false, .i .i64 0, .i .i64 0])) 29 (.p (h.new (.cells (1 * 1) [.i .i64 0])).nx 0) (.agg (grC (.sl h.nx 0 1 1) (List.replicate 26 false) (m : Int) 0)) = .ok undefV (((h.new (.cells (1 * 1) [.i .i64 0])).new (.cells 29 [.sn, .b false, .b false, .b false, .b false, .b false, .b false, .b false, .b false, .b false, .b false, .b false, .b false, .b false, .b false, .b false, .b false, .b false, .b false, .b false, .b false, .b false, .b false, .b false, .b false, .b false, .b false, .i .i64 0, .i .i64 0])).put (h.new (.cells (1 * 1) [.i .i64 0])).nx (.cells 29 (grC (.sl h.nx 0 1 1) (List.replicate 26 false) (m : Int) 0))) := by
    rw [store_p e2 (gr_cells rfl) (by omega)]
    rfl
  have gp := Grow.put (b := h.nx.nat) (h := (h.new (.cells (1 * 1) [.i .i64 0])).new (.cells 29 [.sn, .b false, .b false, .b false, .b false, .b false, .b false, .b false, .b false, .b false, .b false, .b false, .b false, .b false, .b false, .b false, .b false, .b false, .b false, .b false, .b false, .b false, .b false, .b false, .b false, .b false, .b false, .i .i64 0, .i .i64 0])) (k := (h.new (.cells (1 * 1) [.i .i64 0])).nx) (by omega) (by omega) (.cells 29 (grC (.sl h.nx 0 1 1) (List.replicate 26 false) (m : Int) 0))
  have e3 : (((h.new (.cells (1 * 1) [.i .i64 0])).new (.cells 29 [.sn, .b false, .b false, .b false, .b false, .b false, .b false, .b false, .b false, .b false, .b false, .b false, .b false, .b false, .b false, .b false, .b false, .b false, .b false, .b false, .b false, .b false, .b false, .b false, .b false, .b false, .b false, .i .i64 0, .i .i64 0])).put (h.new (.cells (1 * 1) [.i .i64 0])).nx (.cells 29 (grC (.sl h.nx 0 1 1) (List.replicate 26 false) (m : Int) 0))).get (h.new (.cells (1 * 1) [.i .i64 0])).nx = .cells 29 (grC (.sl h.nx 0 1 1) (List.replicate 26 false) (m : Int) 0) := get_put_same
  have hs3 := (hs2.put (id := (h.new (.cells (1 * 1) [.i .i64 0])).nx) (fun off n sz e => by injection e with e1 _ _ _; have := congrArg K.nat e1; omega) (.cells 29 (grC (.sl h.nx 0 1 1) (List.replicate 26 false) (m : Int) 0))).sr
  have g3 := g1.trans gp
  have hf : ∀ (fr : Fr) (x y : EO) (u : V) (n : Int), cellsN 1 (ev fr x) = some [u] → ev fr y = .i .i64 n → fillE fr [.sn, .b false, .b false, .b false, .b false, .b false, .b false, .b false, .b false, .b false, .b false, .b false, .b false, .b false, .b false, .b false, .b false, .b false, .b false, .b false, .b false, .b false, .b false, .b false, .b false, .b false, .b false, .i .i64 0, .i .i64 0] [(0, 1, x), (27, 1, y)] = some (grC u (List.replicate 26 false) n 0) := fun _ _ _ _ _ a b => fill_gr a b
  have hf1 := fun (fr : Fr) (x y : EO) (a : cellsN 1 (ev fr x) = some [.sl h.nx 0 1 1]) (b : ev fr y = .i .i64 (m : Int)) => hf fr x y _ _ a b
  simp (disch := omega) only [f46_r0, f46_r1, f46_r3, w_skip, w_reg, w_seq, w_cond, seqK_n, ckB_b, cbB_b, okG_b, asG_f, true_and, x_nil, x_g, x_mv, x_as, x_pick, x_build, x_bslice, x_bin, kx, rvP_ok, okv_some, ev_t, ev_c, getV_some, putD_some, bin_lss, bin_gtr, pick_b, oGet_s, frame_1, cells1_i, fill_1, set_1, of0, of2, getK_set, Nat.reduceEqDiff, ↓reduceIte, Bool.false_eq_true, Bool.not_false, of7, d1, d2, fill_1, set_1]
  rw [hf1 _ _ _ (by simp (disch := omega) only [ev_t, getV_some, cells1_sl, getK_set, Nat.reduceEqDiff, ↓reduceIte]) (by simp (disch := omega) only [ev_t, getV_some, getK_set, ↓reduceIte])]
  simp (disch := omega) only [w_reg, w_seq, seqK_n, x_nil, x_alloc, x_st, kx, rvP_ok, ev_t, getV_some, putD_some, putD_none, oGet_s, getK_set, Nat.reduceEqDiff, ↓reduceIte, hst]
  generalize ((h.new (.cells (1 * 1) [.i .i64 0])).new (.cells 29 [.sn, .b false, .b false, .b false, .b false, .b false, .b false, .b false, .b false, .b false, .b false, .b false, .b false, .b false, .b false, .b false, .b false, .b false, .b false, .b false, .b false, .b false, .b false, .b false, .b false, .b false, .b false, .i .i64 0, .i .i64 0])).put (h.new (.cells (1 * 1) [.i .i64 0])).nx (.cells 29 (grC (.sl h.nx 0 1 1) (List.replicate 26 false) (m : Int) 0)) = h3 at *
  have ldn := gr_ldn rfl e3
  have hc3 := g3.hc hc
  simp (disch := omega) only [f46_r4, x_ldn, x_call, kx, rvP_ok, ev_t, ev_c, evs_nil, evs_cons, getV_some, putD_some, of1, getK_set, ↓reduceIte, x_mkbf, of25, ldn]
  have hmk : MkOk [0] := ⟨by simp, fun b hb => by have : b = 0 := by simpa using hb
                                                  subst this; simp⟩
  refine (callP_0 (ef := f78) k.c78 rfl (f78_ret (g := fun x => extP x (m - 1) [0] (List.replicate 26 false)) (by omega) (by omega) (by omega) fun x hx1 hx2 h1 hg1 => ?_)).mono ?_
  · exact callP_bf (ef := f77) k.c77 rfl (f77_ret k h7 hx2 (hg1.hc hc3) (hs3.grow hc3 hg1) hmk (by show (0 : Int) ≤ x; omega) rfl (by simp; omega))
  · rintro r h4 ⟨⟨w, rfl, hw⟩, hg4⟩
    simp (disch := omega) only [f46_r5, f46_rs, w_reg, w_seq, w_ret, seqK_n, retK_r, x_nil, x_mv, x_as, x_ext, kx, rvP_ok, okv_some, ev_t, ev_c, getV_some, putD_some, onTup_t, oGet_s, nth0, nth1, readRs_nil, readRs_t, retV_2, of0, Option.some.injEq, exists_eq_left', getK_set, Nat.reduceEqDiff, ↓reduceIte]
    exact ⟨w, rfl, hw, g3.trans (hg4.low g3.nx)⟩
end
end Go.Ev
namespace Go.Ev
open Go Go.RowKit
noncomputable def f44_r0 : List EOper := [⟨(some (K.ofNat 2)), none, .as (.c (.b false))⟩]
noncomputable def f44_r1 : List EOper := [⟨(some (K.ofNat 6)), none, .mv (.t (K.ofNat 0))⟩, ⟨(some (K.ofNat 7)), none, .len (.t (K.ofNat 6))⟩, ⟨(some (K.ofNat 8)), none, .bin .lss (.t (K.ofNat 7)) (.c (.i .i64 (.ofNat 2)))⟩, ⟨(some (K.ofNat 9)), none, .mv (.t (K.ofNat 8))⟩, ⟨(some (K.ofNat 10)), (some ((K.ofNat 9), false)), .mv (.t (K.ofNat 0))⟩, ⟨(some (K.ofNat 11)), (some ((K.ofNat 9), false)), .len (.t (K.ofNat 10))⟩, ⟨(some (K.ofNat 12)), (some ((K.ofNat 9), false)), .bin .gtr (.t (K.ofNat 11)) (.c (.i .i64 (.ofNat 7)))⟩, ⟨(some (K.ofNat 13)), none, .pick (.t (K.ofNat 9)) (.c (.b true)) (.t (K.ofNat 12))⟩, ⟨(some (K.ofNat 14)), none, .mv (.t (K.ofNat 13))⟩, ⟨(some (K.ofNat 15)), (some ((K.ofNat 14), false)), .mv (.t (K.ofNat 0))⟩, ⟨(some (K.ofNat 16)), (some ((K.ofNat 14), false)), .iads 1 (.t (K.ofNat 15)) (.c (.i .i64 (.ofNat 0)))⟩, ⟨(some (K.ofNat 17)), (some ((K.ofNat 14), false)), .ld (.t (K.ofNat 16))⟩, ⟨(some (K.ofNat 18)), (some ((K.ofNat 14), false)), .bin .neq (.t (K.ofNat 17)) (.c (.i .i64 (.ofNat 0)))⟩, ⟨(some (K.ofNat 19)), none, .pick (.t (K.ofNat 14)) (.c (.b true)) (.t (K.ofNat 18))⟩]
noncomputable def f44_r2 : List EOper := [⟨(some (K.ofNat 2)), none, .as (.c (.b false))⟩]
noncomputable def f44_r3 : List EOper := [⟨(some (K.ofNat 3)), none, .alloc 26 (List.replicate 26 (.b false))⟩]
noncomputable def f44_r4 : List EOper := [⟨(some (K.ofNat 4)), none, .as (.c (.i .i64 (.ofNat 1)))⟩]
noncomputable def f44_r5 : List EOper := [⟨(some (K.ofNat 20)), none, .mv (.t (K.ofNat 4))⟩, ⟨(some (K.ofNat 21)), none, .mv (.t (K.ofNat 0))⟩, ⟨(some (K.ofNat 22)), none, .len (.t (K.ofNat 21))⟩, ⟨(some (K.ofNat 23)), none, .bin .lss (.t (K.ofNat 20)) (.t (K.ofNat 22))⟩]
noncomputable def f44_r6 : List Stage := [⟨[⟨(some (K.ofNat 26)), none, .mv (.t (K.ofNat 0))⟩, ⟨(some (K.ofNat 27)), none, .mv (.t (K.ofNat 4))⟩, ⟨(some (K.ofNat 28)), none, .iads 1 (.t (K.ofNat 26)) (.t (K.ofNat 27))⟩, ⟨(some (K.ofNat 29)), none, .ld (.t (K.ofNat 28))⟩, ⟨(some (K.ofNat 30)), none, .mv (.t (K.ofNat 0))⟩, ⟨(some (K.ofNat 31)), none, .mv (.t (K.ofNat 4))⟩, ⟨(some (K.ofNat 32)), none, .bin .sub (.t (K.ofNat 31)) (.c (.i .i64 (.ofNat 1)))⟩, ⟨(some (K.ofNat 33)), none, .iads 1 (.t (K.ofNat 30)) (.t (K.ofNat 32))⟩, ⟨(some (K.ofNat 34)), none, .ld (.t (K.ofNat 33))⟩, ⟨(some (K.ofNat 35)), none, .bin .leq (.t (K.ofNat 29)) (.t (K.ofNat 34))⟩, ⟨(some (K.ofNat 36)), none, .mv (.t (K.ofNat 35))⟩, ⟨(some (K.ofNat 37)), (some ((K.ofNat 36), false)), .mv (.t (K.ofNat 0))⟩, ⟨(some (K.ofNat 38)), (some ((K.ofNat 36), false)), .mv (.t (K.ofNat 4))⟩, ⟨(some (K.ofNat 39)), (some ((K.ofNat 36), false)), .iads 1 (.t (K.ofNat 37)) (.t (K.ofNat 38))⟩, ⟨(some (K.ofNat 40)), (some ((K.ofNat 36), false)), .ld (.t (K.ofNat 39))⟩, ⟨(some (K.ofNat 41)), (some ((K.ofNat 36), false)), .bin .gtr (.t (K.ofNat 40)) (.c (.i .i64 (.ofNat 25)))⟩, ⟨(some (K.ofNat 42)), none, .pick (.t (K.ofNat 36)) (.c (.b true)) (.t (K.ofNat 41))⟩], [], none, []⟩]
noncomputable def f44_r7 : List EOper := [⟨(some (K.ofNat 2)), none, .as (.c (.b false))⟩]
noncomputable def f44_r8 : List EOper := [⟨(some (K.ofNat 5)), none, .as (.c (.i .i64 (.ofNat 0)))⟩]
noncomputable def f44_r9 : List EOper := [⟨(some (K.ofNat 43)), none, .mv (.t (K.ofNat 5))⟩, ⟨(some (K.ofNat 44)), none, .mv (.t (K.ofNat 4))⟩, ⟨(some (K.ofNat 45)), none, .bin .lss (.t (K.ofNat 43)) (.t (K.ofNat 44))⟩]
noncomputable def f44_r10 : List Stage := [⟨[⟨(some (K.ofNat 48)), none, .mv (.t (K.ofNat 0))⟩, ⟨(some (K.ofNat 49)), none, .mv (.t (K.ofNat 4))⟩, ⟨(some (K.ofNat 50)), none, .iads 1 (.t (K.ofNat 48)) (.t (K.ofNat 49))⟩, ⟨(some (K.ofNat 51)), none, .ld (.t (K.ofNat 50))⟩, ⟨(some (K.ofNat 52)), none, .mv (.t (K.ofNat 0))⟩, ⟨(some (K.ofNat 53)), none, .mv (.t (K.ofNat 5))⟩, ⟨(some (K.ofNat 54)), none, .iads 1 (.t (K.ofNat 52)) (.t (K.ofNat 53))⟩, ⟨(some (K.ofNat 55)), none, .ld (.t (K.ofNat 54))⟩, ⟨(some (K.ofNat 56)), none, .bin .sub (.t (K.ofNat 51)) (.t (K.ofNat 55))⟩, ⟨(some (K.ofNat 57)), none, .iadr 26 1 (.t (K.ofNat 3)) (.t (K.ofNat 56))⟩, ⟨(some (K.ofNat 58)), none, .ld (.t (K.ofNat 57))⟩], [], none, []⟩]
noncomputable def f44_r11 : List EOper := [⟨(some (K.ofNat 2)), none, .as (.c (.b false))⟩]
noncomputable def f44_r12 : List Stage := [⟨[⟨(some (K.ofNat 59)), none, .mv (.t (K.ofNat 0))⟩, ⟨(some (K.ofNat 60)), none, .mv (.t (K.ofNat 4))⟩, ⟨(some (K.ofNat 61)), none, .iads 1 (.t (K.ofNat 59)) (.t (K.ofNat 60))⟩, ⟨(some (K.ofNat 62)), none, .ld (.t (K.ofNat 61))⟩, ⟨(some (K.ofNat 63)), none, .mv (.t (K.ofNat 0))⟩, ⟨(some (K.ofNat 64)), none, .mv (.t (K.ofNat 5))⟩, ⟨(some (K.ofNat 65)), none, .iads 1 (.t (K.ofNat 63)) (.t (K.ofNat 64))⟩, ⟨(some (K.ofNat 66)), none, .ld (.t (K.ofNat 65))⟩, ⟨(some (K.ofNat 67)), none, .bin .sub (.t (K.ofNat 62)) (.t (K.ofNat 66))⟩, ⟨(some (K.ofNat 68)), none, .iadr 26 1 (.t (K.ofNat 3)) (.t (K.ofNat 67))⟩], [], (some ⟨none, none, .st 1 (.t (K.ofNat 68)) (.c (.b true))⟩), []⟩, ⟨[], [], none, []⟩]
noncomputable def f44_r13 : List EOper := [⟨(some (K.ofNat 46)), none, .mv (.t (K.ofNat 5))⟩, ⟨(some (K.ofNat 47)), none, .bin .add (.t (K.ofNat 46)) (.c (.i .i64 (.ofNat 1)))⟩, ⟨(some (K.ofNat 5)), none, .as (.t (K.ofNat 47))⟩]
noncomputable def f44_l0 : EC := (.seq (.seq (.reg f44_r9) (.cond (.t (K.ofNat 45)) .skip (.exit 2))) (.seq (.block 3 (.seq (.seq (.draw f44_r10) (.cond (.t (K.ofNat 58)) (.seq (.reg f44_r11) .ret) .skip)) (.draw f44_r12))) (.reg f44_r13)))
noncomputable def f44_r14 : List EOper := [⟨(some (K.ofNat 24)), none, .mv (.t (K.ofNat 4))⟩, ⟨(some (K.ofNat 25)), none, .bin .add (.t (K.ofNat 24)) (.c (.i .i64 (.ofNat 1)))⟩, ⟨(some (K.ofNat 4)), none, .as (.t (K.ofNat 25))⟩]
noncomputable def f44_l1 : EC := (.seq (.seq (.reg f44_r5) (.cond (.t (K.ofNat 23)) .skip (.exit 0))) (.seq (.block 1 (.seq (.seq (.draw f44_r6) (.cond (.t (K.ofNat 42)) (.seq (.reg f44_r7) .ret) .skip)) (.seq (.reg f44_r8) (.block 2 (.loop f44_l0))))) (.reg f44_r14)))
noncomputable def f44_r15 : List EOper := [⟨(some (K.ofNat 2)), none, .as (.c (.b true))⟩]
noncomputable def f44_c : EC := (.seq (.reg f44_r0) (.seq (.seq (.reg f44_r1) (.cond (.t (K.ofNat 19)) (.seq (.reg f44_r2) .ret) .skip)) (.seq (.reg f44_r3) (.seq (.seq (.reg f44_r4) (.block 0 (.loop f44_l1))) (.seq (.reg f44_r15) .ret)))))
noncomputable def f44 : EF := ⟨69, [.tmp (K.ofNat 2)], f44_c, none⟩
theorem f44_rs : f44.rs = [.tmp (K.ofNat 2)] := of_eq_true (eq_self _)
/-- The differences of marks, one mark after the other. -/
def measA : List Int → List Int → List Bool → Option (List Bool)
  | _, [], A => some A
  | P, x :: R, A => if x ≤ P.getLastD 0 ∨ 25 < x then none else (takeAll x P A).bind fun B => measA (P ++ [x]) R B
def fls : List Bool := List.replicate 26 false
def rulB (L : List Int) : Bool := decide (2 ≤ L.length) && (decide (L.length ≤ 7) && (decide (L.headD 0 = 0) && (measA [L.headD 0] L.tail fls).isSome))
section
variable {fs : T EF} {ro : Option K} {h : H} {v : V} {L : List Int} {A : List Bool}
theorem last_take {L : List Int} {i : Nat} (h1 : 1 ≤ i) (h2 : i ≤ L.length) : (L.take i).getLastD 0 = L[i - 1]'(by omega) := by
  rw [List.getLastD_eq_getLast?, List.getLast?_eq_getElem?, List.length_take, Nat.min_eq_left h2, List.getElem?_take, if_pos (by omega), List.getElem?_eq_getElem (by omega)]; rfl
theorem drop_at {α : Type} {L : List α} {i : Nat} (hi : i < L.length) : L.drop i = L[i] :: L.drop (i + 1) := by rw [List.drop_eq_getElem_cons hi]
theorem take_at {α : Type} {L : List α} {i : Nat} (hi : i < L.length) : L.take (i + 1) = L.take i ++ [L[i]] := List.take_succ_eq_append_getElem hi
def f44_J (h : H) (v : V) (L : List Int) (idA : K) (i j : Nat) (A : List Bool) (fr : Fr) (h1 : H) : Prop :=
  j ≤ i ∧ Grow h.nx.nat h h1 ∧ idA.nat < h1.nx.nat ∧ (∃ B : List Bool, B.length = 26 ∧ takeAll (L.getD i 0) (L.take i) A = takeAll (L.getD i 0) ((L.take i).drop j) B ∧ Ar V.b h1 idA B) ∧ fr.get (K.ofNat 0) = some (v) ∧ fr.get (K.ofNat 3) = some (.p idA 0) ∧ fr.get (K.ofNat 4) = some (.i .i64 (i : Int)) ∧ fr.get (K.ofNat 5) = some (.i .i64 (j : Int))
def f44_I (h : H) (v : V) (L : List Int) (idA : K) (i : Nat) (fr : Fr) (h1 : H) : Prop :=
  1 ≤ i ∧ i ≤ L.length ∧ Grow h.nx.nat h h1 ∧ idA.nat < h1.nx.nat ∧ MkOk (L.take i) ∧ (∃ A : List Bool, A.length = 26 ∧ measA [L.headD 0] L.tail fls = measA (L.take i) (L.drop i) A ∧ Ar V.b h1 idA A) ∧ fr.get (K.ofNat 0) = some (v) ∧ fr.get (K.ofNat 3) = some (.p idA 0) ∧ fr.get (K.ofNat 4) = some (.i .i64 (i : Int))
theorem f44_ret (hv : Sr iE h v L) (hc : HC h) (hL : L.length ≤ 1000000) : Ret fs f44 [v] h fun r h' => r = .b (rulB L) ∧ Grow h.nx.nat h h' := by
  apply ret_of rfl
  show W fs none f44_c _ _ _
  unfold f44_c
  have hl := hv.len
  cases d1 : decide ((L.length : Int) < 2) with
  | true =>
    have e : rulB L = false := by
      have : ¬ 2 ≤ L.length := by have := of_decide_eq_true d1; omega
      simp [rulB, this]
    simp (disch := omega) only [f44_r0, f44_r1, f44_r2, f44_rs, w_reg, w_seq, w_cond, w_ret, seqK_n, seqK_r, ckB_b, cbB_b, okG_b, asG_f, true_and, retK_r, x_nil, x_g, x_mv, x_as, x_pick, x_bin, x_len, kx, rvP_ok, okv_some, ev_t, ev_c, getV_some, putD_some, bin_lss, pick_b, oGet_s, readRs_nil, readRs_t, retV_1, frame_1, of0, of2, Option.some.injEq, exists_eq_left', getK_set, Nat.reduceEqDiff, ↓reduceIte, Bool.false_eq_true, Bool.not_true, of7, hl, d1, e, true_and]
    exact Grow.refl _ _
  | false =>
  have h2 : 2 ≤ L.length := by have := of_decide_eq_false d1; omega
  obtain ⟨p, hp1, hp2⟩ := hv.at 0 (by omega)
  cases d2 : decide ((L.length : Int) > 7) with
  | true =>
    have e : rulB L = false := by
      have : ¬ L.length ≤ 7 := by have := of_decide_eq_true d2; omega
      simp [rulB, this]
    simp (disch := omega) only [f44_r0, f44_r1, f44_r2, f44_rs, w_reg, w_seq, w_cond, w_ret, seqK_n, seqK_r, ckB_b, cbB_b, okG_b, asG_f, true_and, retK_r, x_nil, x_g, x_mv, x_as, x_pick, x_bin, x_len, kx, rvP_ok, okv_some, ev_t, ev_c, getV_some, putD_some, bin_lss, bin_gtr, pick_b, oGet_s, readRs_nil, readRs_t, retV_1, frame_1, of0, of2, Option.some.injEq, exists_eq_left', getK_set, Nat.reduceEqDiff, ↓reduceIte, Bool.false_eq_true, Bool.not_true, Bool.not_false, of7, hl, d1, d2, e, true_and]
    exact Grow.refl _ _
  | false =>
  have h7 : L.length ≤ 7 := by have := of_decide_eq_false d2; omega
  have hh : L.headD 0 = L[0] := by cases L with
    | nil => simp at h2
    | cons a l => rfl
  simp only [Int.natCast_zero] at hp1
  cases d3 : decide (L[0] = 0) with
  | false =>
    have e : rulB L = false := by
      have : decide (L.headD 0 = 0) = false := by rw [hh]; exact d3
      simp only [rulB, this, Bool.false_and, Bool.and_false]
    have d3' : decide (L[0] ≠ 0) = true := by simpa using d3
    simp (disch := omega) only [f44_r0, f44_r1, f44_r2, f44_rs, w_reg, w_seq, w_cond, w_ret, seqK_n, seqK_r, ckB_b, cbB_b, okG_b, asG_f, true_and, retK_r, x_nil, x_g, x_mv, x_as, x_pick, x_ld, x_bin, x_iads, x_len, kx, rvP_ok, okv_some, ev_t, ev_c, getV_some, putD_some, bin_neq, bin_lss, bin_gtr, pick_b, oGet_s, readRs_nil, readRs_t, retV_1, frame_1, of0, of2, Option.some.injEq, exists_eq_left', getK_set, Nat.reduceEqDiff, ↓reduceIte, Bool.false_eq_true, Bool.not_false, of7, hl, d1, d2, hp1, hp2, iE, d3', e, true_and]
    exact Grow.refl _ _
  | true =>
  have h0 : L[0] = 0 := of_decide_eq_true d3
  have e : rulB L = (measA [L.headD 0] L.tail fls).isSome := by
    have : decide (L.headD 0 = 0) = true := by rw [hh]; exact d3
    simp only [rulB, decide_eq_true h2, decide_eq_true h7, this, Bool.true_and]
  have d3' : decide (L[0] ≠ 0) = false := by simpa using d3
  have n1 := nx_new h (.cells 26 (fls.map V.b))
  have g1 := Grow.new (Nat.le_refl h.nx.nat) (.cells 26 (fls.map V.b))
  have e1 : Ar V.b (h.new (.cells 26 (fls.map V.b))) h.nx fls := get_new_same
  simp (disch := omega) only [f44_r0, f44_r1, f44_r3, f44_r4, w_skip, w_reg, w_seq, w_cond, w_block, seqK_n, ckB_b, cbB_b, okG_b, asG_f, true_and, x_nil, x_g, x_mv, x_as, x_pick, x_alloc, x_ld, x_bin, x_iads, x_len, kx, rvP_ok, okv_some, ev_t, ev_c, getV_some, putD_some, bin_neq, bin_lss, bin_gtr, pick_b, frame_1, of0, of1, of2, getK_set, Nat.reduceEqDiff, ↓reduceIte, Bool.false_eq_true, Bool.not_false, of7, hl, d1, d2, hp1, hp2, iE, d3']
  have hfl : (List.replicate 26 (V.b false)) = fls.map V.b := rfl
  try rw [hfl]
  generalize h.new (.cells 26 (fls.map V.b)) = hm at *
  refine W_loop (f44_I h v L h.nx) (fun i => L.length - i) ?_ 1 ⟨by omega, by omega, g1, by omega, ?_, ⟨fls, rfl, ?_, e1⟩, by simp (disch := omega) only [getK_set, Nat.reduceEqDiff, ↓reduceIte, and_self, Int.natCast_one]⟩
  · rintro i fr h1 ⟨hi1, hi, hG, hnx, hmk, ⟨A, hA, hme, har⟩, g0, g3, g4⟩
    unfold f44_l1
    have hv1 := hv.grow hc hG
    by_cases hlt : i < L.length
    · have d0 : decide ((i : Int) < (L.length : Int)) = true := by simpa using hlt
      obtain ⟨q, hq1, hq2, hq3⟩ := hv1.atb i hlt
      obtain ⟨s, hs1, hs2, hs3⟩ := hv1.atb (i - 1) (by omega)
      have ei : ((i - 1 : Nat) : Int) = (i : Int) - 1 := by omega
      rw [ei] at hs1
      have hvb := hv1.beq
      rw [drop_at hlt] at hme
      have hme2 : measA (L.take i) (L[i] :: L.drop (i + 1)) A = if L[i] ≤ (L.take i).getLastD 0 ∨ 25 < L[i] then none else (takeAll L[i] (L.take i) A).bind fun B => measA (L.take i ++ [L[i]]) (L.drop (i + 1)) B := rfl
      rw [hme2, last_take hi1 hi] at hme
      cases d4 : decide (L[i] ≤ L[i - 1]) with
      | true =>
        rw [if_pos (.inl (of_decide_eq_true d4))] at hme
        rw [hme] at e
        simp (disch := omega) only [f44_r5, f44_r6, f44_r7, f44_rs, w_skip, w_reg, w_draw, w_seq, w_cond, w_block, w_ret, seqK_n, seqK_r, atK_r, loopK_r, ckB_b, cbB_b, okG_b, asG_f, true_and, retK_r, x_nil, x_mv, x_as, x_bin, x_len, kx, kg, xg_nil, xg_g, xg_mv, xg_pick, xg_ld, xg_bin, xg_iads, xd_cons, fresh_nil, stK_n, stay_nil, rvP_ok, okv_some, ev_t, ev_c, getV_some, putD_some, bin_sub, bin_lss, bin_leq, pick_b, oGet_s, readRs_nil, readRs_t, retV_1, of1, Option.some.injEq, exists_eq_left', getK_set, Nat.reduceEqDiff, ↓reduceIte, Bool.false_eq_true, Bool.not_true, of25, g0, g4, hl, d0, hq1, hq2, hs1, hs2, iE, d4, fw64, e, Option.isSome_none, true_and]
        exact hG
      | false =>
      have h4 := of_decide_eq_false d4
      cases d5 : decide (L[i] > 25) with
      | true =>
        rw [if_pos (.inr (of_decide_eq_true d5))] at hme
        rw [hme] at e
        simp (disch := omega) only [f44_r5, f44_r6, f44_r7, f44_rs, w_skip, w_reg, w_draw, w_seq, w_cond, w_block, w_ret, seqK_n, seqK_r, atK_r, loopK_r, ckB_b, cbB_b, okG_b, asG_f, true_and, retK_r, x_nil, x_mv, x_as, x_bin, x_len, kx, kg, xg_nil, xg_g, xg_mv, xg_pick, xg_ld, xg_bin, xg_iads, xd_cons, fresh_nil, stK_n, stay_nil, rvP_ok, okv_some, ev_t, ev_c, getV_some, putD_some, bin_sub, bin_lss, bin_leq, bin_gtr, pick_b, oGet_s, readRs_nil, readRs_t, retV_1, of1, Option.some.injEq, exists_eq_left', getK_set, Nat.reduceEqDiff, ↓reduceIte, Bool.false_eq_true, Bool.not_false, of25, g0, g4, hl, d0, hq1, hq2, hs1, hs2, iE, d4, d5, fw64, e, Option.isSome_none, true_and]
        exact hG
      | false =>
      have h5 := of_decide_eq_false d5
      rw [if_neg (by omega)] at hme
      simp (disch := omega) only [f44_r5, f44_r6, f44_r8, w_skip, w_reg, w_draw, w_seq, w_cond, w_block, seqK_n, ckB_b, cbB_b, okG_b, asG_f, true_and, x_nil, x_mv, x_as, x_bin, x_len, kx, kg, xg_nil, xg_g, xg_mv, xg_pick, xg_ld, xg_bin, xg_iads, xd_cons, fresh_nil, stK_n, stay_nil, rvP_ok, okv_some, ev_t, ev_c, getV_some, putD_some, bin_sub, bin_lss, bin_leq, bin_gtr, pick_b, of0, of1, getK_set, Nat.reduceEqDiff, ↓reduceIte, Bool.false_eq_true, Bool.not_false, of25, g0, g4, hl, d0, hq1, hq2, hs1, hs2, iE, d4, d5, fw64]
      have hgd : L.getD i 0 = L[i] := by simp [List.getD_eq_getElem?_getD, hlt]
      refine W_loop (fun j => f44_J h v L h.nx i j A) (fun j => i - j) ?_ 0 ⟨by omega, hG, hnx, ⟨A, hA, rfl, har⟩, by simp (disch := omega) only [getK_set, Nat.reduceEqDiff, ↓reduceIte, g0, g3, g4, and_self, Int.natCast_zero]⟩
      clear hG hnx har g0 g3 g4 hv1 hq1 hq2 hq3 hs1 hs2 hs3 hvb
      rintro j fr h1 ⟨hj, hG, hnx, ⟨B, hB, htk, har⟩, g0, g3, g4, g5⟩
      unfold f44_l0
      have hv1 := hv.grow hc hG
      have hvb := hv1.beq
      obtain ⟨q, hq1, hq2, hq3⟩ := hv1.atb i hlt
      rw [hgd] at htk
      by_cases hjl : j < i
      · have d6 : decide ((j : Int) < (i : Int)) = true := by simpa using hjl
        obtain ⟨s, hs1, hs2, hs3⟩ := hv1.atb j (by omega)
        have hjt : j < (L.take i).length := by simp; omega
        have hb := hmk.bd (L.take i)[j] (List.getElem_mem hjt)
        rw [last_take hi1 hi] at hb
        have hjj : (L.take i)[j] = L[j] := by simp
        rw [hjj] at hb
        rw [drop_at hjt, hjj] at htk
        have hd26 : (L[i] - L[j]).toNat < 26 := by omega
        have ix : ∀ f : Nat → RV, idxV (.i .i64 (L[i] - L[j])) 26 f = f (L[i] - L[j]).toNat := fun f => by
          have : L[i] - L[j] = (((L[i] - L[j]).toNat : Nat) : Int) := by omega
          rw [this]; exact idx_n hd26
        have hld := har.ld (i := (L[i] - L[j]).toNat) (by omega)
        have hst := (har.st (i := (L[i] - L[j]).toNat) (x := true) (c := .b true) (by omega) rfl rfl).1
        rw [hB] at hst
        have hgB : B.getD (L[i] - L[j]).toNat false = B[(L[i] - L[j]).toNat]'(by omega) := by simp [List.getD_eq_getElem?_getD, hB, hd26]
        have htk2 : takeAll L[i] (L[j] :: (L.take i).drop (j + 1)) B = if B.getD (L[i] - L[j]).toNat false = true then none else takeAll L[i] ((L.take i).drop (j + 1)) (B.set (L[i] - L[j]).toNat true) := rfl
        rw [htk2, hgB] at htk
        cases hbb : B[(L[i] - L[j]).toNat]'(by omega) with
        | true =>
          rw [hbb] at hld
          rw [hbb, if_pos rfl] at htk
          rw [hme, htk] at e
          simp (disch := omega) only [f44_r9, f44_r10, f44_r11, f44_rs, w_skip, w_reg, w_draw, w_seq, w_cond, w_block, w_ret, seqK_n, seqK_r, atK_r, loopK_r, ckB_b, cbB_b, true_and, retK_r, x_nil, x_mv, x_as, x_bin, kx, kg, xg_nil, xg_mv, xg_ld, xg_bin, xg_iadr, xg_iads, xd_cons, fresh_nil, stK_n, stay_nil, rvP_ok, okv_some, ev_t, ev_c, getV_some, putD_some, bin_sub, bin_lss, onP_p, oGet_s, readRs_nil, readRs_t, retV_1, Option.some.injEq, exists_eq_left', getK_set, Nat.reduceEqDiff, ↓reduceIte, g0, g3, g4, g5, d6, hq1, hq2, hs1, hs2, iE, fw64, ix, hld, e, Option.bind_none, Option.isSome_none, true_and]
          exact hG
        | false =>
          rw [hbb] at hld
          rw [hbb, if_neg (by simp)] at htk
          simp (disch := omega) only [f44_r9, f44_r10, f44_r12, f44_r13, w_skip, w_reg, w_draw, w_seq, w_cond, w_block, seqK_n, atK_n, loopK_n, ckB_b, cbB_b, true_and, x_nil, x_mv, x_as, x_st, x_bin, kx, kg, xg_nil, xg_mv, xg_ld, xg_bin, xg_iadr, xg_iads, xd_cons, fresh_nil, stK_n, stK_s, stay_nil, rvP_ok, okv_some, ev_t, ev_c, getV_some, putD_some, putD_none, bin_add, bin_sub, bin_lss, onP_p, of1, getK_set, Nat.reduceEqDiff, ↓reduceIte, Bool.false_eq_true, g0, g3, g4, g5, d6, hq1, hq2, hs1, hs2, iE, fw64, ix, hld, hst]
          refine ⟨j + 1, by omega, by omega, hG.trans (Grow.put (Nat.le_refl _) hnx _), hnx, ⟨B.set (L[i] - L[j]).toNat true, by simpa using hB, by rw [hgd]; exact htk, ?_⟩, by simp (disch := omega) only [getK_set, Nat.reduceEqDiff, ↓reduceIte, g0, g3, g4, and_self, Int.natCast_add, Int.natCast_one]⟩
          show (h1.put h.nx _).get h.nx = .cells (B.set _ true).length _
          rw [get_put_same, List.length_set, hB]
      · have d6 : decide ((j : Int) < (i : Int)) = false := by simpa using hjl
        have ej : j = i := by omega
        rw [ej, List.drop_eq_nil_of_le (by simp; omega)] at htk
        have htk2 : takeAll L[i] [] B = some B := rfl
        rw [htk, htk2] at hme
        have hme3 : measA [L.headD 0] L.tail fls = measA (L.take (i + 1)) (L.drop (i + 1)) B := by rw [hme, take_at hlt]; rfl
        simp (disch := omega) only [f44_r9, f44_r14, w_reg, w_seq, w_cond, w_exit, seqK_n, seqK_e, atK_n, atK_e, loopK_n, loopK_e, ckB_b, cbB_b, true_and, x_nil, x_mv, x_as, x_bin, kx, rvP_ok, okv_some, ev_t, ev_c, getV_some, putD_some, bin_add, bin_lss, of1, getK_set, Nat.reduceEqDiff, ↓reduceIte, Bool.false_eq_true, g4, g5, d6, fw64]
        refine ⟨i + 1, by omega, by omega, by omega, hG, hnx, ?_, ⟨B, hB, hme3, har⟩, by simp (disch := omega) only [getK_set, Nat.reduceEqDiff, ↓reduceIte, g0, g3, and_self, Int.natCast_add, Int.natCast_one]⟩
        rw [take_at hlt]
        exact hmk.snoc (by rw [last_take hi1 hi]; omega)
    · have d0 : decide ((i : Int) < (L.length : Int)) = false := by simpa using hlt
      have ei : i = L.length := by omega
      subst ei
      rw [List.drop_length] at hme
      have hme2 : measA (L.take L.length) [] A = some A := rfl
      rw [hme2] at hme
      rw [hme] at e
      simp (disch := omega) only [f44_r5, f44_r15, f44_rs, w_reg, w_seq, w_cond, w_exit, w_ret, seqK_n, seqK_e, atK_e, loopK_e, ckB_b, cbB_b, true_and, retK_r, x_nil, x_mv, x_as, x_bin, x_len, kx, rvP_ok, okv_some, ev_t, ev_c, getV_some, putD_some, bin_lss, oGet_s, readRs_nil, readRs_t, retV_1, Option.some.injEq, exists_eq_left', getK_set, Nat.reduceEqDiff, ↓reduceIte, Bool.false_eq_true, g0, g4, hl, d0, e, Option.isSome_some, true_and]
      exact hG
  · cases L with
    | nil => simp at h2
    | cons a l =>
      have ha : a = 0 := h0
      subst ha
      exact ⟨by simp, fun b hb => by
        have : b = 0 := by simpa using hb
        subst this; simp⟩
  · cases L with
    | nil => simp at h2
    | cons a l => rfl
end
end Go.Ev
namespace Go.Ev
open Go Go.RowKit
noncomputable def f45_r0 : List EOper := [⟨(some (K.ofNat 6)), none, .as (.c .sn)⟩]
noncomputable def f45_r1 : List EOper := [⟨(some (K.ofNat 10)), none, .mv (.t (K.ofNat 0))⟩, ⟨(some (K.ofNat 11)), none, .len (.t (K.ofNat 10))⟩, ⟨(some (K.ofNat 12)), none, .mv (.t (K.ofNat 1))⟩, ⟨(some (K.ofNat 13)), none, .bin .gtr (.t (K.ofNat 11)) (.t (K.ofNat 12))⟩, ⟨(some (K.ofNat 14)), none, .mv (.t (K.ofNat 13))⟩, ⟨(some (K.ofNat 15)), (some ((K.ofNat 14), false)), .mv (.t (K.ofNat 0))⟩, ⟨(some (K.ofNat 16)), (some ((K.ofNat 14), false)), .len (.t (K.ofNat 15))⟩, ⟨(some (K.ofNat 17)), (some ((K.ofNat 14), false)), .bin .geq (.t (K.ofNat 16)) (.c (.i .i64 (.ofNat 2)))⟩, ⟨(some (K.ofNat 18)), (some ((K.ofNat 14), false)), .mv (.t (K.ofNat 17))⟩, ⟨(some (K.ofNat 19)), (some ((K.ofNat 18), true)), .mv (.t (K.ofNat 0))⟩, ⟨(some (K.ofNat 20)), (some ((K.ofNat 18), true)), .call (.c (.fn (K.ofNat 44) [])) [(.t (K.ofNat 19))]⟩, ⟨(some (K.ofNat 21)), (some ((K.ofNat 18), true)), .not (.t (K.ofNat 20))⟩, ⟨(some (K.ofNat 22)), (some ((K.ofNat 14), false)), .pick (.t (K.ofNat 18)) (.t (K.ofNat 21)) (.c (.b false))⟩, ⟨(some (K.ofNat 23)), none, .pick (.t (K.ofNat 14)) (.c (.b true)) (.t (K.ofNat 22))⟩, ⟨(some (K.ofNat 24)), none, .mv (.t (K.ofNat 23))⟩, ⟨(some (K.ofNat 25)), (some ((K.ofNat 24), false)), .mv (.t (K.ofNat 0))⟩, ⟨(some (K.ofNat 26)), (some ((K.ofNat 24), false)), .mv (.t (K.ofNat 0))⟩, ⟨(some (K.ofNat 27)), (some ((K.ofNat 24), false)), .len (.t (K.ofNat 26))⟩, ⟨(some (K.ofNat 28)), (some ((K.ofNat 24), false)), .bin .sub (.t (K.ofNat 27)) (.c (.i .i64 (.ofNat 1)))⟩, ⟨(some (K.ofNat 29)), (some ((K.ofNat 24), false)), .iads 1 (.t (K.ofNat 25)) (.t (K.ofNat 28))⟩, ⟨(some (K.ofNat 30)), (some ((K.ofNat 24), false)), .ld (.t (K.ofNat 29))⟩, ⟨(some (K.ofNat 31)), (some ((K.ofNat 24), false)), .mv (.t (K.ofNat 2))⟩, ⟨(some (K.ofNat 32)), (some ((K.ofNat 24), false)), .bin .gtr (.t (K.ofNat 30)) (.t (K.ofNat 31))⟩, ⟨(some (K.ofNat 33)), none, .pick (.t (K.ofNat 24)) (.c (.b true)) (.t (K.ofNat 32))⟩]
noncomputable def f45_r2 : List EOper := [⟨(some (K.ofNat 6)), none, .as (.c .sn)⟩]
noncomputable def f45_r3 : List EOper := [⟨(some (K.ofNat 34)), none, .mv (.t (K.ofNat 0))⟩, ⟨(some (K.ofNat 35)), none, .len (.t (K.ofNat 34))⟩, ⟨(some (K.ofNat 36)), none, .mv (.t (K.ofNat 1))⟩, ⟨(some (K.ofNat 37)), none, .bin .eql (.t (K.ofNat 35)) (.t (K.ofNat 36))⟩]
noncomputable def f45_r4 : List EOper := [⟨(some (K.ofNat 38)), none, .mv (.t (K.ofNat 0))⟩, ⟨(some (K.ofNat 6)), none, .as (.t (K.ofNat 38))⟩]
noncomputable def f45_r5 : List EOper := [⟨(some (K.ofNat 39)), none, .mv (.t (K.ofNat 0))⟩, ⟨(some (K.ofNat 40)), none, .mv (.t (K.ofNat 0))⟩, ⟨(some (K.ofNat 41)), none, .len (.t (K.ofNat 40))⟩, ⟨(some (K.ofNat 42)), none, .bin .sub (.t (K.ofNat 41)) (.c (.i .i64 (.ofNat 1)))⟩, ⟨(some (K.ofNat 43)), none, .iads 1 (.t (K.ofNat 39)) (.t (K.ofNat 42))⟩, ⟨(some (K.ofNat 44)), none, .ld (.t (K.ofNat 43))⟩, ⟨(some (K.ofNat 45)), none, .bin .add (.t (K.ofNat 44)) (.c (.i .i64 (.ofNat 1)))⟩, ⟨(some (K.ofNat 7)), none, .as (.t (K.ofNat 45))⟩]
noncomputable def f45_r6 : List EOper := [⟨(some (K.ofNat 46)), none, .mv (.t (K.ofNat 7))⟩, ⟨(some (K.ofNat 47)), none, .mv (.t (K.ofNat 2))⟩, ⟨(some (K.ofNat 48)), none, .bin .leq (.t (K.ofNat 46)) (.t (K.ofNat 47))⟩]
noncomputable def f45_r7 : List EOper := [⟨(some (K.ofNat 8)), none, .as (.c .sn)⟩]
noncomputable def f45_r8 : List EOper := [⟨(some (K.ofNat 51)), none, .mv (.t (K.ofNat 8))⟩, ⟨(some (K.ofNat 52)), none, .mv (.t (K.ofNat 0))⟩, ⟨(some (K.ofNat 53)), none, .app 1 (.t (K.ofNat 51)) (.t (K.ofNat 52))⟩, ⟨(some (K.ofNat 8)), none, .as (.t (K.ofNat 53))⟩]
noncomputable def f45_r9 : List EOper := [⟨(some (K.ofNat 54)), none, .mv (.t (K.ofNat 8))⟩, ⟨(some (K.ofNat 55)), none, .mv (.t (K.ofNat 7))⟩, ⟨(some (K.ofNat 56)), none, .bslice 1 1 [(.i .i64 (.ofNat 0))] [(0, 1, (.t (K.ofNat 55)))]⟩, ⟨(some (K.ofNat 57)), none, .app 1 (.t (K.ofNat 54)) (.t (K.ofNat 56))⟩, ⟨(some (K.ofNat 58)), none, .mv (.t (K.ofNat 1))⟩, ⟨(some (K.ofNat 59)), none, .mv (.t (K.ofNat 2))⟩, ⟨(some (K.ofNat 60)), none, .call (.c (.fn (K.ofNat 45) [])) [(.t (K.ofNat 57)), (.t (K.ofNat 58)), (.t (K.ofNat 59))]⟩, ⟨(some (K.ofNat 9)), none, .as (.t (K.ofNat 60))⟩]
noncomputable def f45_r10 : List EOper := [⟨(some (K.ofNat 61)), none, .mv (.t (K.ofNat 9))⟩, ⟨(some (K.ofNat 62)), none, .isnil true (.t (K.ofNat 61))⟩]
noncomputable def f45_r11 : List EOper := [⟨(some (K.ofNat 63)), none, .mv (.t (K.ofNat 9))⟩, ⟨(some (K.ofNat 6)), none, .as (.t (K.ofNat 63))⟩]
noncomputable def f45_r12 : List EOper := [⟨(some (K.ofNat 49)), none, .mv (.t (K.ofNat 7))⟩, ⟨(some (K.ofNat 50)), none, .bin .add (.t (K.ofNat 49)) (.c (.i .i64 (.ofNat 1)))⟩, ⟨(some (K.ofNat 7)), none, .as (.t (K.ofNat 50))⟩]
noncomputable def f45_l0 : EC := (.seq (.seq (.reg f45_r6) (.cond (.t (K.ofNat 48)) .skip (.exit 0))) (.seq (.block 1 (.seq (.reg f45_r7) (.seq (.reg f45_r8) (.seq (.reg f45_r9) (.seq (.reg f45_r10) (.cond (.t (K.ofNat 62)) (.seq (.reg f45_r11) .ret) .skip)))))) (.reg f45_r12)))
noncomputable def f45_r13 : List EOper := [⟨(some (K.ofNat 6)), none, .as (.c .sn)⟩]
noncomputable def f45_c : EC := (.seq (.reg f45_r0) (.seq (.seq (.reg f45_r1) (.cond (.t (K.ofNat 33)) (.seq (.reg f45_r2) .ret) .skip)) (.seq (.seq (.reg f45_r3) (.cond (.t (K.ofNat 37)) (.seq (.reg f45_r4) .ret) .skip)) (.seq (.seq (.reg f45_r5) (.block 0 (.loop f45_l0))) (.seq (.reg f45_r13) .ret)))))
noncomputable def f45 : EF := ⟨64, [.tmp (K.ofNat 6)], f45_c, none⟩
theorem f45_rs : f45.rs = [.tmp (K.ofNat 6)] := of_eq_true (eq_self _)
noncomputable def f47_r0 : List EOper := [⟨(some (K.ofNat 2)), none, .as (.c .sn)⟩]
noncomputable def f47_r1 : List EOper := [⟨(some (K.ofNat 3)), none, .as (.c (.i .i64 (.ofNat 1)))⟩]
noncomputable def f47_r2 : List EOper := [⟨(some (K.ofNat 5)), none, .mv (.t (K.ofNat 3))⟩, ⟨(some (K.ofNat 6)), none, .bin .leq (.t (K.ofNat 5)) (.c (.i .i64 (.ofNat 25)))⟩]
noncomputable def f47_r3 : List EOper := [⟨(some (K.ofNat 9)), none, .bslice 1 1 [(.i .i64 (.ofNat 0))] [(0, 1, (.c (.i .i64 (.ofNat 0))))]⟩, ⟨(some (K.ofNat 10)), none, .mv (.t (K.ofNat 0))⟩, ⟨(some (K.ofNat 11)), none, .mv (.t (K.ofNat 3))⟩, ⟨(some (K.ofNat 12)), none, .call (.c (.fn (K.ofNat 45) [])) [(.t (K.ofNat 9)), (.t (K.ofNat 10)), (.t (K.ofNat 11))]⟩, ⟨(some (K.ofNat 4)), none, .as (.t (K.ofNat 12))⟩]
noncomputable def f47_r4 : List EOper := [⟨(some (K.ofNat 13)), none, .mv (.t (K.ofNat 4))⟩, ⟨(some (K.ofNat 14)), none, .isnil true (.t (K.ofNat 13))⟩]
noncomputable def f47_r5 : List EOper := [⟨(some (K.ofNat 15)), none, .mv (.t (K.ofNat 4))⟩, ⟨(some (K.ofNat 2)), none, .as (.t (K.ofNat 15))⟩]
noncomputable def f47_r6 : List EOper := [⟨(some (K.ofNat 7)), none, .mv (.t (K.ofNat 3))⟩, ⟨(some (K.ofNat 8)), none, .bin .add (.t (K.ofNat 7)) (.c (.i .i64 (.ofNat 1)))⟩, ⟨(some (K.ofNat 3)), none, .as (.t (K.ofNat 8))⟩]
noncomputable def f47_l0 : EC := (.seq (.seq (.reg f47_r2) (.cond (.t (K.ofNat 6)) .skip (.exit 0))) (.seq (.block 1 (.seq (.reg f47_r3) (.seq (.reg f47_r4) (.cond (.t (K.ofNat 14)) (.seq (.reg f47_r5) .ret) .skip)))) (.reg f47_r6)))
noncomputable def f47_r7 : List EOper := [⟨(some (K.ofNat 2)), none, .as (.c .sn)⟩]
noncomputable def f47_c : EC := (.seq (.reg f47_r0) (.seq (.seq (.reg f47_r1) (.block 0 (.loop f47_l0))) (.seq (.reg f47_r7) .ret)))
noncomputable def f47 : EF := ⟨16, [.tmp (K.ofNat 2)], f47_c, none⟩
theorem f47_rs : f47.rs = [.tmp (K.ofNat 2)] := of_eq_true (eq_self _)
def exB (l : Int) (L : List Int) : Bool := (decide (2 ≤ L.length) && !rulB L) || decide (l < L.getLastD 0)
def extR (l : Int) : Nat → List Int → Option (List Int)
  | 0, L => if exB l L = true then none else some L
  | f + 1, L => if exB l L = true then none else firstF (fun x => extR l f (L ++ [x])) (L.getLastD 0 + 1) (l - L.getLastD 0).toNat
theorem extR_succ {l : Int} {f : Nat} {L : List Int} : extR l (f + 1) L = if exB l L = true then none else firstF (fun x => extR l f (L ++ [x])) (L.getLastD 0 + 1) (l - L.getLastD 0).toNat := rfl
structure CallsRx (fs : T EF) : Prop where
  c44 : fs.get (K.ofNat 44) = some f44
  c45 : fs.get (K.ofNat 45) = some f45
section
variable {fs : T EF} {ro : Option K} {h : H} {v : V} {L : List Int}
theorem OSr.isnil {w : V} {o : Option (List Int)} (hw : OSr h w o) (h1 : H) : isnilV true w h1 = .ok (.b o.isSome) h1 := by
  cases o with
  | none => have : w = .sn := hw
            subst this; rfl
  | some R =>
    obtain ⟨id, off, k, cs, rfl, _⟩ := hw.1.sl_of hw.2
    rfl
def f45_I (h : H) (v : V) (L : List Int) (m l : Int) (g : Int → Option (List Int)) (j : Nat) (fr : Fr) (h1 : H) : Prop := (L.getLastD 0 + 1 + (j : Int)) ≤ l + 1 ∧ Grow h.nx.nat h h1 ∧ firstF g (L.getLastD 0 + 1) (l - L.getLastD 0).toNat = firstF g (L.getLastD 0 + 1 + j) ((l - L.getLastD 0).toNat - j) ∧ fr.get (K.ofNat 0) = some (v) ∧ fr.get (K.ofNat 1) = some (.i .i64 m) ∧ fr.get (K.ofNat 2) = some (.i .i64 l) ∧ fr.get (K.ofNat 7) = some (.i .i64 (L.getLastD 0 + 1 + (j : Int)))
noncomputable def f45_t : EC := .seq (.seq (.reg f45_r3) (.cond (.t (K.ofNat 37)) (.seq (.reg f45_r4) .ret) .skip)) (.seq (.seq (.reg f45_r5) (.block 0 (.loop f45_l0))) (.seq (.reg f45_r13) .ret))
theorem f45_step (k : CallsRx fs) {m : Nat} {l : Int} (hm7 : m ≤ 7) (hl0 : 0 ≤ l) (hl : l ≤ 25) (f : Nat)
    (ih : ∀ f', f = f' + 1 → ∀ {h : H} {v : V} {L : List Int}, HC h → Sr iE h v L → L ≠ [] → 0 ≤ L.getLastD 0 → L.getLastD 0 ≤ l → L.length + f' = m → Ret fs f45 [v, .i .i64 (m : Int), .i .i64 l] h fun r h' => OSr h' r (extR l f' L) ∧ Grow h.nx.nat h h')
    {h : H} {v : V} {L : List Int} (hc : HC h) (hv : Sr iE h v L) (hne : L ≠ []) (h0 : 0 ≤ L.getLastD 0) (hle : L.getLastD 0 ≤ l) (hf : L.length + f = m) : Ret fs f45 [v, .i .i64 (m : Int), .i .i64 l] h fun r h' => OSr h' r (extR l f L) ∧ Grow h.nx.nat h h' := by
  apply ret_of rfl
  show W fs none f45_c _ _ _
  unfold f45_c
  have hl1 := hv.len
  have hpos := List.length_pos_iff.2 hne
  have ei : ((L.length - 1 : Nat) : Int) = (L.length : Int) - 1 := by omega
  have d1 : decide ((L.length : Int) > (m : Int)) = false := by simp; omega
  have d4 : decide (L.getLastD 0 > l) = false := decide_eq_false (by omega)
  have d5 : decide (l < L.getLastD 0) = false := decide_eq_false (by omega)
  have tail : ∀ fr h1, Grow h.nx.nat h h1 → exB l L = false → fr.get (K.ofNat 0) = some (v) ∧ fr.get (K.ofNat 1) = some (.i .i64 (m : Int)) ∧ fr.get (K.ofNat 2) = some (.i .i64 l) → W fs none f45_t (retK f45 fun r h' => OSr h' r (extR l f L) ∧ Grow h.nx.nat h h') fr h1 := by
    rintro fr h1 hG hex ⟨g0, g1, g2⟩
    have hv1 := hv.grow hc hG
    unfold f45_t
    cases f with
    | zero =>
      have d6 : decide ((L.length : Int) = (m : Int)) = true := by simp; omega
      simp (disch := omega) only [f45_r3, f45_r4, f45_rs, w_reg, w_seq, w_cond, w_ret, seqK_n, seqK_r, ckB_b, cbB_b, true_and, retK_r, x_nil, x_mv, x_as, x_bin, x_len, kx, rvP_ok, okv_some, ev_t, getV_some, putD_some, bin_eql, oGet_s, readRs_nil, readRs_t, retV_1, Option.some.injEq, exists_eq_left', getK_set, Nat.reduceEqDiff, ↓reduceIte, g0, g1, hl1, d6]
      have e : extR l 0 L = some L := by unfold extR; rw [hex]; rfl
      rw [e]
      exact ⟨⟨hv1, hne⟩, hG⟩
    | succ f =>
      have ih := @ih f rfl
      have d6 : decide ((L.length : Int) = (m : Int)) = false := by simp; omega
      obtain ⟨p, hp1, hp2⟩ := hv1.at (L.length - 1) (by omega)
      rw [getLast_at hne] at hp2
      rw [ei] at hp1
      have e : extR l (f + 1) L = firstF (fun x => extR l f (L ++ [x])) (L.getLastD 0 + 1) (l - L.getLastD 0).toNat := by rw [extR_succ, hex]; rfl
      simp (disch := omega) only [f45_r3, f45_r5, w_skip, w_reg, w_seq, w_cond, w_block, seqK_n, ckB_b, cbB_b, true_and, x_nil, x_mv, x_as, x_ld, x_bin, x_iads, x_len, kx, rvP_ok, okv_some, ev_t, ev_c, getV_some, putD_some, bin_add, bin_sub, bin_eql, of1, getK_set, Nat.reduceEqDiff, ↓reduceIte, Bool.false_eq_true, g0, g1, hl1, d6, hp1, hp2, iE, fw64]
      refine W_loop (f45_I h v L (m : Int) l (fun x => extR l f (L ++ [x]))) (fun j => (l - L.getLastD 0).toNat - j) ?_ 0 ⟨by omega, hG, by simp, by simp (disch := omega) only [getK_set, Nat.reduceEqDiff, ↓reduceIte, g0, g1, g2, Int.natCast_zero, Int.add_zero, and_self]⟩
      clear hp1 hp2 g0 g1 g2 hG hv1
      rintro j fr h1 ⟨hj, hG, he, g0, g1, g2, g7⟩
      unfold f45_l0
      have hv1 := hv.grow hc hG
      have hc1 := hG.hc hc
      by_cases hlt : L.getLastD 0 + 1 + (j : Int) ≤ l
      · have d7 : decide (L.getLastD 0 + 1 + (j : Int) ≤ l) = true := by simpa using hlt
        obtain ⟨w1, h2, ha1, hs1, ho1, hg1, _⟩ := Sl.appR (e := iE) (b := h1.nx.nat) (h := h1) (v := .sn) (L := []) Sl.nil Own.sn (Nat.le_refl _) hv1 hc1 (by simp; omega)
        rw [List.nil_append] at hs1
        have hc2 := hg1.hc hc1
        obtain ⟨w2, h3, ha2, hs2, ho2, hg2, _⟩ := Sl.push (e := iE) (x := L.getLastD 0 + 1 + (j : Int)) (c := .i .i64 (L.getLastD 0 + 1 + (j : Int))) rfl hs1 ho1 hg1.nx hc2 (by omega)
        have hc3 := hg2.hc hc2
        simp (disch := omega) only [f45_r6, f45_r7, f45_r8, f45_r9, w_skip, w_reg, w_seq, w_cond, w_block, seqK_n, ckB_b, cbB_b, true_and, x_nil, x_mv, x_as, x_bslice, x_bin, x_call, x_app, kx, rvP_ok, okv_some, ev_t, ev_c, evs_nil, evs_cons, getV_some, putD_some, bin_leq, oGet_s, cells1_i, fill_1, set_1, of0, getK_set, Nat.reduceEqDiff, ↓reduceIte, g0, g1, g2, g7, d7, ha1, fill_1, set_1, ha2]
        have hlast : (L ++ [L.getLastD 0 + 1 + (j : Int)]).getLastD 0 = L.getLastD 0 + 1 + (j : Int) := by simp [List.getLastD_eq_getLast?]
        refine (callP_0 (ef := f45) k.c45 rfl (ih hc3 hs2.sr (by simp) (by rw [hlast]; omega) (by rw [hlast]; omega) (by simp; omega))).mono ?_
        rintro r h4 ⟨hr, hg4⟩
        have hG4 := hG.trans ((hg1.low hG.nx).trans ((hg2.low hG.nx).trans (hg4.low (by have := hg1.nx; have := hg2.nx; have := hG.nx; omega))))
        have hnil := hr.isnil h4
        have en : (l - L.getLastD 0).toNat - j = ((l - L.getLastD 0).toNat - (j + 1)) + 1 := by omega
        rw [en, firstF_succ] at he
        cases hgx : extR l f (L ++ [L.getLastD 0 + 1 + (j : Int)]) with
        | some R =>
          rw [hgx] at he hr hnil
          simp (disch := omega) only [f45_r10, f45_r11, f45_rs, w_reg, w_seq, w_cond, w_ret, seqK_n, seqK_r, atK_r, loopK_r, ckB_b, cbB_b, true_and, retK_r, x_nil, x_mv, x_as, x_isnil, kx, rvP_ok, ev_t, getV_some, putD_some, oGet_s, readRs_nil, readRs_t, retV_1, Option.some.injEq, exists_eq_left', getK_set, Nat.reduceEqDiff, ↓reduceIte, hnil, Option.isSome_some]
          rw [e, he]
          exact ⟨hr, hG4⟩
        | none =>
          rw [hgx] at he hr hnil
          simp (disch := omega) only [f45_r10, f45_r12, w_skip, w_reg, w_seq, w_cond, seqK_n, atK_n, loopK_n, ckB_b, cbB_b, true_and, x_nil, x_mv, x_as, x_bin, x_isnil, kx, rvP_ok, okv_some, ev_t, ev_c, getV_some, putD_some, bin_add, of1, getK_set, Nat.reduceEqDiff, ↓reduceIte, Bool.false_eq_true, g7, hnil, Option.isSome_none, fw64]
          refine ⟨j + 1, by omega, by omega, hG4, ?_, by simp (disch := omega) only [getK_set, Nat.reduceEqDiff, ↓reduceIte, g0, g1, g2, and_self, Int.natCast_add, Int.natCast_one, Int.add_assoc]⟩
          rw [he, show L.getLastD 0 + 1 + ((j + 1 : Nat) : Int) = L.getLastD 0 + 1 + j + 1 by omega]
      · have d7 : decide (L.getLastD 0 + 1 + (j : Int) ≤ l) = false := by simpa using hlt
        simp (disch := omega) only [f45_r6, f45_r13, f45_rs, w_reg, w_seq, w_cond, w_exit, w_ret, seqK_n, seqK_e, atK_e, loopK_e, ckB_b, cbB_b, true_and, retK_r, x_nil, x_mv, x_as, x_bin, kx, rvP_ok, okv_some, ev_t, ev_c, getV_some, putD_some, bin_leq, oGet_s, readRs_nil, readRs_t, retV_1, Option.some.injEq, exists_eq_left', getK_set, Nat.reduceEqDiff, ↓reduceIte, Bool.false_eq_true, g2, g7, d7]
        have en : (l - L.getLastD 0).toNat - j = 0 := by omega
        rw [e, he, en]
        exact ⟨rfl, hG⟩
  obtain ⟨p, hp1, hp2⟩ := hv.at (L.length - 1) (by omega)
  rw [getLast_at hne] at hp2
  rw [ei] at hp1
  cases d2 : decide ((L.length : Int) ≥ 2) with
  | false =>
    have hex : exB l L = false := by
      have : decide (2 ≤ L.length) = false := by have := of_decide_eq_false d2; simp; omega
      unfold exB; rw [this, d5]; rfl
    simp (disch := omega) only [f45_r0, f45_r1, w_skip, w_reg, w_seq, w_cond, seqK_n, ckB_b, cbB_b, okG_b, asG_t, asG_f, true_and, x_nil, x_g, x_mv, x_as, x_pick, x_ld, x_bin, x_iads, x_len, kx, rvP_ok, okv_some, ev_t, ev_c, getV_some, putD_some, bin_sub, bin_gtr, bin_geq, pick_b, frame_3, of1, of2, getK_set, Nat.reduceEqDiff, ↓reduceIte, Bool.false_eq_true, Bool.not_false, hl1, d1, d2, hp1, hp2, iE, d4, fw64]
    show W fs none f45_t _ _ _
    exact tail _ _ (Grow.refl _ _) hex (by simp (disch := omega) only [getK_set, Nat.reduceEqDiff, ↓reduceIte, and_self])
  | true =>
    have h2 : decide (2 ≤ L.length) = true := by have := of_decide_eq_true d2; simp; omega
    simp (disch := omega) only [f45_r0, f45_r1, w_reg, w_seq, seqK_n, okG_b, asG_t, asG_f, true_and, x_nil, x_g, x_mv, x_as, x_bin, x_call, x_len, kx, rvP_ok, okv_some, ev_t, ev_c, evs_nil, evs_cons, getV_some, putD_some, bin_gtr, bin_geq, frame_3, of1, of2, getK_set, Nat.reduceEqDiff, ↓reduceIte, Bool.not_false, hl1, d1, d2]
    refine (callP_0 (ef := f44) k.c44 rfl (f44_ret hv hc (by omega))).mono ?_
    rintro r h1 ⟨rfl, hG⟩
    have hv1 := hv.grow hc hG
    obtain ⟨p, hp1, hp2⟩ := hv1.at (L.length - 1) (by omega)
    rw [getLast_at hne] at hp2
    rw [ei] at hp1
    cases hr : rulB L with
    | true =>
      have hex : exB l L = false := by unfold exB; rw [hr, d5]; simp
      simp (disch := omega) only [w_skip, w_reg, w_seq, w_cond, seqK_n, ckB_b, cbB_b, okG_b, asG_t, asG_f, true_and, x_nil, x_g, x_mv, x_pick, x_ld, x_bin, x_not, x_iads, x_len, kx, rvP_ok, okv_some, ev_t, ev_c, getV_some, putD_some, bin_sub, bin_gtr, pick_b, onB_b, getK_set, Nat.reduceEqDiff, ↓reduceIte, Bool.false_eq_true, Bool.not_true, Bool.not_false, hl1, hp1, hp2, iE, d4, fw64, Bool.not_true]
      show W fs none f45_t _ _ _
      exact tail _ _ hG hex (by simp (disch := omega) only [getK_set, Nat.reduceEqDiff, ↓reduceIte, and_self])
    | false =>
      have hex : exB l L = true := by unfold exB; rw [hr, h2]; rfl
      simp (disch := omega) only [f45_r2, f45_rs, w_reg, w_seq, w_cond, w_ret, seqK_n, seqK_r, ckB_b, cbB_b, okG_b, asG_t, asG_f, true_and, retK_r, x_nil, x_g, x_mv, x_as, x_pick, x_not, kx, rvP_ok, ev_t, ev_c, getV_some, putD_some, pick_b, onB_b, oGet_s, readRs_nil, readRs_t, retV_1, Option.some.injEq, exists_eq_left', getK_set, Nat.reduceEqDiff, ↓reduceIte, Bool.false_eq_true, Bool.not_true, Bool.not_false, Bool.not_false]
      have e : extR l f L = none := by cases f <;> (unfold extR; rw [hex]; rfl)
      rw [e]
      exact ⟨rfl, hG⟩
theorem f45_ret (k : CallsRx fs) {m : Nat} {l : Int} (hm7 : m ≤ 7) (hl0 : 0 ≤ l) (hl : l ≤ 25) : ∀ (f : Nat) {h : H} {v : V} {L : List Int}, HC h → Sr iE h v L → L ≠ [] → 0 ≤ L.getLastD 0 → L.getLastD 0 ≤ l → L.length + f = m → Ret fs f45 [v, .i .i64 (m : Int), .i .i64 l] h fun r h' => OSr h' r (extR l f L) ∧ Grow h.nx.nat h h' := by
  intro f
  induction f with
  | zero => exact fun hc hv hne h0 hle hf => f45_step k hm7 hl0 hl 0 (fun f' e => by omega) hc hv hne h0 hle hf
  | succ f ih =>
    intro h v L hc hv hne h0 hle hf
    refine f45_step k hm7 hl0 hl (f + 1) (fun f' e => ?_) hc hv hne h0 hle hf
    have : f' = f := by omega
    rw [this]
    exact @ih
/-- The reference's shortest ruler. -/
def shortR (m : Nat) : Option (List Int) := firstF (fun x => extR x (m - 1) [0]) 1 25
def f47_I (h : H) (m : Nat) (j : Nat) (fr : Fr) (h1 : H) : Prop := j ≤ 25 ∧ Grow h.nx.nat h h1 ∧ shortR m = firstF (fun x => extR x (m - 1) [0]) (1 + j) (25 - j) ∧ fr.get (K.ofNat 0) = some (.i .i64 (m : Int)) ∧ fr.get (K.ofNat 3) = some (.i .i64 (1 + (j : Int)))
theorem f47_ret (k : CallsRx fs) {m : Nat} (h2 : 2 ≤ m) (h7 : m ≤ 7) (hc : HC h) : Ret fs f47 [.i .i64 (m : Int)] h fun r h' => OSr h' r (shortR m) ∧ Grow h.nx.nat h h' := by
  apply ret_of rfl
  show W fs none f47_c _ _ _
  unfold f47_c
  simp (disch := omega) only [f47_r0, f47_r1, w_reg, w_seq, w_block, seqK_n, x_nil, x_as, ev_c, putD_some, frame_1, of1]
  refine W_loop (f47_I h m) (fun j => 25 - j) ?_ 0 ⟨by omega, Grow.refl _ _, by simp [shortR], by simp (disch := omega) only [getK_set, Nat.reduceEqDiff, ↓reduceIte, Int.natCast_zero, Int.add_zero, and_self]⟩
  rintro j fr h1 ⟨hj, hG, he, g0, g3⟩
  unfold f47_l0
  have hc1 := hG.hc hc
  by_cases hlt : j < 25
  · have d0 : decide (1 + (j : Int) ≤ 25) = true := by simp; omega
    have hs := Sl.lit (e := iE) (x := 0) (h := h1)
    have gl := Grow.new (Nat.le_refl h1.nx.nat) (.cells (1 * 1) [.i .i64 0])
    simp (disch := omega) only [f47_r2, f47_r3, w_skip, w_reg, w_seq, w_cond, w_block, seqK_n, ckB_b, cbB_b, true_and, x_nil, x_mv, x_bslice, x_bin, x_call, kx, rvP_ok, okv_some, ev_t, ev_c, evs_nil, evs_cons, getV_some, putD_some, bin_leq, oGet_s, cells1_i, fill_1, set_1, of0, getK_set, Nat.reduceEqDiff, ↓reduceIte, of25, g0, g3, d0, fill_1, set_1]
    refine (callP_0 (ef := f45) k.c45 rfl (f45_ret k h7 (by omega) (by omega) (m - 1) (gl.hc hc1) hs.sr (by simp) (by simp) (by show (0 : Int) ≤ _; omega) (by simp; omega))).mono ?_
    rintro r h4 ⟨hr, hg4⟩
    have hG4 := hG.trans ((gl.trans (hg4.low gl.nx)).low hG.nx)
    have hnil := hr.isnil h4
    have en : 25 - j = (25 - (j + 1)) + 1 := by omega
    rw [en, firstF_succ] at he
    cases hgx : extR (1 + (j : Int)) (m - 1) [0] with
    | some R =>
      rw [hgx] at he hr hnil
      simp (disch := omega) only [f47_r4, f47_r5, f47_rs, w_reg, w_seq, w_cond, w_ret, seqK_n, seqK_r, atK_r, loopK_r, ckB_b, cbB_b, true_and, retK_r, x_nil, x_mv, x_as, x_isnil, kx, rvP_ok, ev_t, getV_some, putD_some, oGet_s, readRs_nil, readRs_t, retV_1, Option.some.injEq, exists_eq_left', getK_set, Nat.reduceEqDiff, ↓reduceIte, hnil, Option.isSome_some]
      rw [he]
      exact ⟨hr, hG4⟩
    | none =>
      rw [hgx] at he hr hnil
      simp (disch := omega) only [f47_r4, f47_r6, w_skip, w_reg, w_seq, w_cond, seqK_n, atK_n, loopK_n, ckB_b, cbB_b, true_and, x_nil, x_mv, x_as, x_bin, x_isnil, kx, rvP_ok, okv_some, ev_t, ev_c, getV_some, putD_some, bin_add, of1, getK_set, Nat.reduceEqDiff, ↓reduceIte, Bool.false_eq_true, g3, hnil, Option.isSome_none, fw64]
      refine ⟨j + 1, by omega, by omega, hG4, ?_, by simp (disch := omega) only [getK_set, Nat.reduceEqDiff, ↓reduceIte, g0, and_self, Int.natCast_add, Int.natCast_one, Int.add_assoc]⟩
      rw [he, show 1 + ((j + 1 : Nat) : Int) = 1 + j + 1 by omega]
  · have d0 : decide (1 + (j : Int) ≤ 25) = false := by simp; omega
    simp (disch := omega) only [f47_r2, f47_r7, f47_rs, w_reg, w_seq, w_cond, w_exit, w_ret, seqK_n, seqK_e, atK_e, loopK_e, ckB_b, cbB_b, true_and, retK_r, x_nil, x_mv, x_as, x_bin, kx, rvP_ok, okv_some, ev_t, ev_c, getV_some, putD_some, bin_leq, oGet_s, readRs_nil, readRs_t, retV_1, Option.some.injEq, exists_eq_left', getK_set, ↓reduceIte, Bool.false_eq_true, of25, g3, d0]
    have en : 25 - j = 0 := by omega
    rw [he, en]
    exact ⟨rfl, hG⟩
end
end Go.Ev
namespace Go.Ev
open Go Go.RowKit
/-! ### What is grown is what the reference grows -/
theorem firstF_congr {α : Type} {g g' : Int → Option α} : ∀ {n : Nat} {a : Int}, (∀ x, a ≤ x → x < a + n → g x = g' x) → firstF g a n = firstF g' a n
  | 0, _, _ => rfl
  | n + 1, a, hh => by
    rw [firstF_succ, firstF_succ, hh a (by omega) (by omega), firstF_congr fun x h1 h2 => hh x (by omega) (by omega)]
theorem firstF_none {α : Type} {g : Int → Option α} : ∀ {n : Nat} {a : Int}, firstF g a n = none → ∀ x, a ≤ x → x < a + n → g x = none
  | 0, _, _, x, h1, h2 => by omega
  | n + 1, a, hh, x, h1, h2 => by
    rw [firstF_succ] at hh
    cases hg : g a with
    | some r => rw [hg] at hh; cases hh
    | none =>
      rw [hg] at hh
      by_cases e : x = a
      · rw [e]; exact hg
      · exact firstF_none hh x (by omega) (by omega)
theorem firstF_some {α : Type} {g : Int → Option α} {r : α} : ∀ {n : Nat} {a : Int}, firstF g a n = some r → ∃ x, a ≤ x ∧ x < a + n ∧ g x = some r
  | 0, _, hh => by cases hh
  | n + 1, a, hh => by
    rw [firstF_succ] at hh
    cases hg : g a with
    | some r' => rw [hg] at hh; exact ⟨a, by omega, by omega, by rw [hg]; exact hh⟩
    | none =>
      rw [hg] at hh
      obtain ⟨x, h1, h2, h3⟩ := firstF_some (a := a + 1) hh
      exact ⟨x, by omega, by omega, h3⟩
theorem measA_cons {P R : List Int} {x : Int} {A : List Bool} : measA P (x :: R) A = if x ≤ P.getLastD 0 ∨ 25 < x then none else (takeAll x P A).bind fun B => measA (P ++ [x]) R B := rfl
theorem measA_snoc {x : Int} : ∀ {R P : List Int} {A : List Bool}, measA P (R ++ [x]) A = (measA P R A).bind fun B => if x ≤ (P ++ R).getLastD 0 ∨ 25 < x then none else takeAll x (P ++ R) B
  | [], P, A => by
    rw [List.nil_append, measA_cons, List.append_nil]
    show _ = (if x ≤ P.getLastD 0 ∨ 25 < x then none else takeAll x P A)
    split
    · rfl
    · cases takeAll x P A <;> rfl
  | y :: R, P, A => by
    rw [List.cons_append, measA_cons, measA_cons]
    split
    · rfl
    · cases hh : takeAll y P A with
      | none => rfl
      | some B =>
        show measA (P ++ [y]) (R ++ [x]) B = (measA (P ++ [y]) R B).bind _
        rw [measA_snoc, List.append_assoc]; rfl
structure Good (L : List Int) (A : List Bool) : Prop where
  tl : ∃ T, L = 0 :: T ∧ measA [0] T fls = some A
theorem last_snoc {L : List Int} {x : Int} : (L ++ [x]).getLastD 0 = x := by simp [List.getLastD_eq_getLast?]
theorem Good.rul {L : List Int} {A : List Bool} (h : Good L A) (h2 : 2 ≤ L.length) (h7 : L.length ≤ 7) : rulB L = true := by
  obtain ⟨T, rfl, hm⟩ := h.tl
  unfold rulB
  rw [decide_eq_true h2, decide_eq_true h7]
  show (measA [0] T fls).isSome = true
  rw [hm]; rfl
theorem Good.no {L : List Int} {A : List Bool} (h : Good L A) {x : Int} (hx : takeAll x L A = none) : rulB (L ++ [x]) = false := by
  obtain ⟨T, rfl, hm⟩ := h.tl
  have : measA [(0 :: (T ++ [x])).headD 0] (0 :: (T ++ [x])).tail fls = none := by
    show measA [0] (T ++ [x]) fls = none
    rw [measA_snoc, hm]
    show (if x ≤ ([0] ++ T).getLastD 0 ∨ 25 < x then none else takeAll x (0 :: T) A) = none
    rw [hx]; split <;> rfl
  unfold rulB
  rw [List.cons_append, this]
  simp only [Option.isSome_none, Bool.and_false]
theorem Good.snoc {L : List Int} {A B : List Bool} (h : Good L A) {x : Int} (h1 : L.getLastD 0 < x) (h2 : x ≤ 25) (hx : takeAll x L A = some B) : Good (L ++ [x]) B := by
  obtain ⟨T, rfl, hm⟩ := h.tl
  refine ⟨T ++ [x], rfl, ?_⟩
  rw [measA_snoc, hm]
  show (if x ≤ (0 :: T).getLastD 0 ∨ 25 < x then none else takeAll x (0 :: T) A) = some B
  rw [if_neg (by omega), hx]
theorem ext_eq {l : Int} (hl : l ≤ 25) : ∀ (f : Nat) {L : List Int} {A : List Bool}, Good L A → L.length + f ≤ 7 → L.getLastD 0 ≤ l → extP l f L A = extR l f L := by
  intro f
  induction f with
  | zero =>
    intro L A hg hL hle
    have e : exB l L = false := by
      unfold exB
      rw [decide_eq_false (by omega : ¬ l < L.getLastD 0)]
      by_cases h2 : 2 ≤ L.length
      · rw [hg.rul h2 (by omega)]; simp
      · rw [decide_eq_false h2]; rfl
    unfold extP extR
    rw [e]; rfl
  | succ f ih =>
    intro L A hg hL hle
    have e : exB l L = false := by
      unfold exB
      rw [decide_eq_false (by omega : ¬ l < L.getLastD 0)]
      by_cases h2 : 2 ≤ L.length
      · rw [hg.rul h2 (by omega)]; simp
      · rw [decide_eq_false h2]; rfl
    rw [extP_succ, extR_succ, e]
    show _ = firstF (fun x => extR l f (L ++ [x])) (L.getLastD 0 + 1) (l - L.getLastD 0).toNat
    refine firstF_congr fun x h1 h2 => ?_
    have hx : x ≤ l := by omega
    have hpos : 1 ≤ L.length := by obtain ⟨T, rfl, _⟩ := hg.tl; simp
    show (takeAll x L A).bind (fun B => extP l f (L ++ [x]) B) = extR l f (L ++ [x])
    cases ht : takeAll x L A with
    | none =>
      have e2 : exB l (L ++ [x]) = true := by
        unfold exB
        rw [hg.no ht, decide_eq_true (by simp; omega)]; rfl
      show none = _
      cases f <;> (unfold extR; rw [e2]; rfl)
    | some B => exact ih (hg.snoc (by omega) (by omega) ht) (by simp; omega) (by rw [last_snoc]; omega)
theorem good0 : Good [0] fls := ⟨[], rfl, rfl⟩
theorem short_eq {m : Nat} (h2 : 2 ≤ m) (h7 : m ≤ 7) : shortP m = shortR m :=
  firstF_congr fun x h1 h3 => ext_eq (by omega) (m - 1) good0 (by simp; omega) (by show (0 : Int) ≤ x; omega)
theorem ext_good {l : Int} (hl : l ≤ 25) : ∀ (f : Nat) {L R : List Int} {A : List Bool}, Good L A → extP l f L A = some R → R.length = L.length + f ∧ ∃ B, Good R B := by
  intro f
  induction f with
  | zero => intro L R A hg h; cases h; exact ⟨rfl, A, hg⟩
  | succ f ih =>
    intro L R A hg h
    rw [extP_succ] at h
    obtain ⟨x, h1, h2, h3⟩ := firstF_some h
    cases ht : takeAll x L A with
    | none => rw [ht] at h3; cases h3
    | some B =>
      rw [ht] at h3
      obtain ⟨e1, e2⟩ := ih (hg.snoc (by omega) (by omega) ht) h3
      exact ⟨by rw [e1]; simp; omega, e2⟩
theorem ext_all {l : Int} : ∀ (f : Nat) {L S : List Int} {A : List Bool}, extP l f L A = none → S.length = f → (∀ s ∈ S, s ≤ l) → measA L S A = none := by
  intro f
  induction f with
  | zero => intro L S A h; cases h
  | succ f ih =>
    intro L S A h hS hl
    cases S with
    | nil => simp at hS
    | cons x S =>
      rw [measA_cons]
      split
      · rfl
      · rename_i hx
        rw [extP_succ] at h
        have hxl := hl x (by simp)
        have := firstF_none h x (by omega) (by omega)
        cases ht : takeAll x L A with
        | none => rfl
        | some B =>
          rw [ht] at this
          exact ih this (by simpa using hS) fun s hs => hl s (by simp [hs])
theorem short7 : ∃ R, shortP 7 = some R ∧ R.length = 7 ∧ rulB R = true := by
  cases hs : shortP 7 with
  | none =>
    exfalso
    have h1 := firstF_none hs 25 (by omega) (by omega)
    have h2 : measA [0] [1, 4, 10, 18, 23, 25] fls = none := ext_all 6 h1 rfl (by decide)
    have h3 : (measA [0] [1, 4, 10, 18, 23, 25] fls).isSome = true := by decide
    rw [h2] at h3; cases h3
  | some R =>
    obtain ⟨x, h1, h2, h3⟩ := firstF_some hs
    obtain ⟨e1, B, e2⟩ := ext_good (by omega) 6 good0 h3
    have e3 : R.length = 7 := e1
    exact ⟨R, rfl, e3, e2.rul (by omega) (by omega)⟩
end Go.Ev
namespace Go.Ev
open Go Go.RowKit
noncomputable def f30_r0 : List EOper := [⟨(some (K.ofNat 4)), none, .as (.c (.b false))⟩]
noncomputable def f30_r1 : List EOper := [⟨(some (K.ofNat 6)), none, .mv (.t (K.ofNat 0))⟩, ⟨(some (K.ofNat 7)), none, .len (.t (K.ofNat 6))⟩, ⟨(some (K.ofNat 8)), none, .mv (.t (K.ofNat 1))⟩, ⟨(some (K.ofNat 9)), none, .len (.t (K.ofNat 8))⟩, ⟨(some (K.ofNat 10)), none, .bin .neq (.t (K.ofNat 7)) (.t (K.ofNat 9))⟩]
noncomputable def f30_r2 : List EOper := [⟨(some (K.ofNat 4)), none, .as (.c (.b false))⟩]
noncomputable def f30_r3 : List EOper := [⟨(some (K.ofNat 5)), none, .as (.c (.i .i64 (.ofNat 0)))⟩]
noncomputable def f30_r4 : List EOper := [⟨(some (K.ofNat 11)), none, .mv (.t (K.ofNat 5))⟩, ⟨(some (K.ofNat 12)), none, .mv (.t (K.ofNat 0))⟩, ⟨(some (K.ofNat 13)), none, .len (.t (K.ofNat 12))⟩, ⟨(some (K.ofNat 14)), none, .bin .lss (.t (K.ofNat 11)) (.t (K.ofNat 13))⟩]
noncomputable def f30_r5 : List Stage := [⟨[⟨(some (K.ofNat 17)), none, .mv (.t (K.ofNat 0))⟩, ⟨(some (K.ofNat 18)), none, .mv (.t (K.ofNat 5))⟩, ⟨(some (K.ofNat 19)), none, .iads 1 (.t (K.ofNat 17)) (.t (K.ofNat 18))⟩, ⟨(some (K.ofNat 20)), none, .ld (.t (K.ofNat 19))⟩, ⟨(some (K.ofNat 21)), none, .mv (.t (K.ofNat 1))⟩, ⟨(some (K.ofNat 22)), none, .mv (.t (K.ofNat 5))⟩, ⟨(some (K.ofNat 23)), none, .iads 1 (.t (K.ofNat 21)) (.t (K.ofNat 22))⟩, ⟨(some (K.ofNat 24)), none, .ld (.t (K.ofNat 23))⟩, ⟨(some (K.ofNat 25)), none, .bin .neq (.t (K.ofNat 20)) (.t (K.ofNat 24))⟩], [], none, []⟩]
noncomputable def f30_r6 : List EOper := [⟨(some (K.ofNat 4)), none, .as (.c (.b false))⟩]
noncomputable def f30_r7 : List EOper := [⟨(some (K.ofNat 15)), none, .mv (.t (K.ofNat 5))⟩, ⟨(some (K.ofNat 16)), none, .bin .add (.t (K.ofNat 15)) (.c (.i .i64 (.ofNat 1)))⟩, ⟨(some (K.ofNat 5)), none, .as (.t (K.ofNat 16))⟩]
noncomputable def f30_l0 : EC := (.seq (.seq (.reg f30_r4) (.cond (.t (K.ofNat 14)) .skip (.exit 0))) (.seq (.block 1 (.seq (.draw f30_r5) (.cond (.t (K.ofNat 25)) (.seq (.reg f30_r6) .ret) .skip))) (.reg f30_r7)))
noncomputable def f30_r8 : List EOper := [⟨(some (K.ofNat 4)), none, .as (.c (.b true))⟩]
noncomputable def f30_c : EC := (.seq (.reg f30_r0) (.seq (.seq (.reg f30_r1) (.cond (.t (K.ofNat 10)) (.seq (.reg f30_r2) .ret) .skip)) (.seq (.seq (.reg f30_r3) (.block 0 (.loop f30_l0))) (.seq (.reg f30_r8) .ret))))
noncomputable def f30 : EF := ⟨26, [.tmp (K.ofNat 4)], f30_c, none⟩
theorem f30_rs : f30.rs = [.tmp (K.ofNat 4)] := of_eq_true (eq_self _)
noncomputable def f10_r0 : List EOper := [⟨(some (K.ofNat 2)), none, .as (.c (.b false))⟩]
noncomputable def f10_r1 : List EOper := [⟨(some (K.ofNat 6)), none, .mv (.t (K.ofNat 0))⟩, ⟨(some (K.ofNat 7)), none, .call (.c (.fn (K.ofNat 46) [])) [(.t (K.ofNat 6))]⟩, ⟨(some (K.ofNat 5)), none, .mv (.t (K.ofNat 7))⟩, ⟨(some (K.ofNat 8)), none, .ext (.t (K.ofNat 5)) 0⟩, ⟨(some (K.ofNat 9)), none, .ext (.t (K.ofNat 5)) 1⟩, ⟨(some (K.ofNat 3)), none, .as (.t (K.ofNat 8))⟩, ⟨(some (K.ofNat 4)), none, .as (.t (K.ofNat 9))⟩]
noncomputable def f10_r2 : List EOper := [⟨(some (K.ofNat 10)), none, .mv (.t (K.ofNat 0))⟩, ⟨(some (K.ofNat 11)), none, .bin .lss (.t (K.ofNat 10)) (.c (.i .i64 (.ofNat 2)))⟩, ⟨(some (K.ofNat 12)), none, .mv (.t (K.ofNat 11))⟩, ⟨(some (K.ofNat 13)), (some ((K.ofNat 12), false)), .mv (.t (K.ofNat 0))⟩, ⟨(some (K.ofNat 14)), (some ((K.ofNat 12), false)), .bin .gtr (.t (K.ofNat 13)) (.c (.i .i64 (.ofNat 7)))⟩, ⟨(some (K.ofNat 15)), none, .pick (.t (K.ofNat 12)) (.c (.b true)) (.t (K.ofNat 14))⟩]
noncomputable def f10_r3 : List EOper := [⟨(some (K.ofNat 16)), none, .mv (.t (K.ofNat 4))⟩, ⟨(some (K.ofNat 17)), none, .bin .eql (.t (K.ofNat 16)) (.c (.i .i64 (.ofNat 1)))⟩, ⟨(some (K.ofNat 18)), none, .mv (.t (K.ofNat 17))⟩, ⟨(some (K.ofNat 19)), (some ((K.ofNat 18), true)), .mv (.t (K.ofNat 3))⟩, ⟨(some (K.ofNat 20)), (some ((K.ofNat 18), true)), .len (.t (K.ofNat 19))⟩, ⟨(some (K.ofNat 21)), (some ((K.ofNat 18), true)), .bin .eql (.t (K.ofNat 20)) (.c (.i .i64 (.ofNat 0)))⟩, ⟨(some (K.ofNat 22)), none, .pick (.t (K.ofNat 18)) (.t (K.ofNat 21)) (.c (.b false))⟩, ⟨(some (K.ofNat 23)), none, .mv (.t (K.ofNat 22))⟩, ⟨(some (K.ofNat 24)), (some ((K.ofNat 23), true)), .call (.c (.fn (K.ofNat 23) [])) []⟩, ⟨(some (K.ofNat 25)), none, .pick (.t (K.ofNat 23)) (.t (K.ofNat 24)) (.c (.b false))⟩, ⟨(some (K.ofNat 2)), none, .as (.t (K.ofNat 25))⟩]
noncomputable def f10_r4 : List EOper := [⟨(some (K.ofNat 26)), none, .mv (.t (K.ofNat 4))⟩, ⟨(some (K.ofNat 27)), none, .bin .eql (.t (K.ofNat 26)) (.c (.i .i64 (.ofNat 0)))⟩, ⟨(some (K.ofNat 28)), none, .mv (.t (K.ofNat 27))⟩, ⟨(some (K.ofNat 29)), (some ((K.ofNat 28), true)), .mv (.t (K.ofNat 0))⟩, ⟨(some (K.ofNat 30)), (some ((K.ofNat 28), true)), .bin .eql (.t (K.ofNat 29)) (.c (.i .i64 (.ofNat 7)))⟩, ⟨(some (K.ofNat 31)), (some ((K.ofNat 28), true)), .mv (.t (K.ofNat 30))⟩, ⟨(some (K.ofNat 32)), (some ((K.ofNat 31), true)), .mv (.t (K.ofNat 3))⟩, ⟨(some (K.ofNat 33)), (some ((K.ofNat 31), true)), .call (.c (.fn (K.ofNat 44) [])) [(.t (K.ofNat 32))]⟩, ⟨(some (K.ofNat 34)), (some ((K.ofNat 28), true)), .pick (.t (K.ofNat 31)) (.t (K.ofNat 33)) (.c (.b false))⟩, ⟨(some (K.ofNat 35)), (some ((K.ofNat 28), true)), .mv (.t (K.ofNat 34))⟩, ⟨(some (K.ofNat 36)), (some ((K.ofNat 35), true)), .mv (.t (K.ofNat 3))⟩, ⟨(some (K.ofNat 37)), (some ((K.ofNat 35), true)), .len (.t (K.ofNat 36))⟩, ⟨(some (K.ofNat 38)), (some ((K.ofNat 35), true)), .bin .eql (.t (K.ofNat 37)) (.c (.i .i64 (.ofNat 7)))⟩, ⟨(some (K.ofNat 39)), (some ((K.ofNat 28), true)), .pick (.t (K.ofNat 35)) (.t (K.ofNat 38)) (.c (.b false))⟩, ⟨(some (K.ofNat 40)), (some ((K.ofNat 28), true)), .mv (.t (K.ofNat 39))⟩, ⟨(some (K.ofNat 41)), (some ((K.ofNat 40), false)), .mv (.t (K.ofNat 0))⟩, ⟨(some (K.ofNat 42)), (some ((K.ofNat 40), false)), .bin .lss (.t (K.ofNat 41)) (.c (.i .i64 (.ofNat 7)))⟩, ⟨(some (K.ofNat 43)), (some ((K.ofNat 40), false)), .mv (.t (K.ofNat 42))⟩, ⟨(some (K.ofNat 44)), (some ((K.ofNat 43), true)), .mv (.t (K.ofNat 3))⟩, ⟨(some (K.ofNat 45)), (some ((K.ofNat 43), true)), .mv (.t (K.ofNat 0))⟩, ⟨(some (K.ofNat 46)), (some ((K.ofNat 43), true)), .call (.c (.fn (K.ofNat 47) [])) [(.t (K.ofNat 45))]⟩, ⟨(some (K.ofNat 47)), (some ((K.ofNat 43), true)), .call (.c (.fn (K.ofNat 30) [])) [(.t (K.ofNat 44)), (.t (K.ofNat 46))]⟩, ⟨(some (K.ofNat 48)), (some ((K.ofNat 40), false)), .pick (.t (K.ofNat 43)) (.t (K.ofNat 47)) (.c (.b false))⟩, ⟨(some (K.ofNat 49)), (some ((K.ofNat 28), true)), .pick (.t (K.ofNat 40)) (.c (.b true)) (.t (K.ofNat 48))⟩, ⟨(some (K.ofNat 50)), none, .pick (.t (K.ofNat 28)) (.t (K.ofNat 49)) (.c (.b false))⟩, ⟨(some (K.ofNat 51)), none, .mv (.t (K.ofNat 50))⟩, ⟨(some (K.ofNat 52)), (some ((K.ofNat 51), true)), .call (.c (.fn (K.ofNat 23) [])) []⟩, ⟨(some (K.ofNat 53)), none, .pick (.t (K.ofNat 51)) (.t (K.ofNat 52)) (.c (.b false))⟩, ⟨(some (K.ofNat 2)), none, .as (.t (K.ofNat 53))⟩]
noncomputable def f10_c : EC := (.seq (.reg f10_r0) (.seq (.reg f10_r1) (.seq (.seq (.reg f10_r2) (.cond (.t (K.ofNat 15)) (.seq (.reg f10_r3) .ret) .skip)) (.seq (.reg f10_r4) .ret))))
noncomputable def f10 : EF := ⟨54, [.tmp (K.ofNat 2)], f10_c, none⟩
theorem f10_rs : f10.rs = [.tmp (K.ofNat 2)] := of_eq_true (eq_self _)
section
variable {fs : T EF} {ro : Option K} {h : H} {v u : V} {L : List Int}
def f30_I (h : H) (v u : V) (L : List Int) (i : Nat) (fr : Fr) (h1 : H) : Prop := h1 = h ∧ i ≤ L.length ∧ fr.get (K.ofNat 0) = some (v) ∧ fr.get (K.ofNat 1) = some (u) ∧ fr.get (K.ofNat 5) = some (.i .i64 (i : Int))
theorem f30_same (hv : Sr iE h v L) (hu : Sr iE h u L) (hL : L.length ≤ 1000000) : Ret fs f30 [v, u] h fun r h' => r = .b true ∧ h' = h := by
  apply ret_of rfl
  show W fs none f30_c _ _ _
  unfold f30_c
  have hl1 := hv.len
  have hl2 := hu.len
  have d0 : decide ((L.length : Int) ≠ (L.length : Int)) = false := by simp
  simp (disch := omega) only [f30_r0, f30_r1, f30_r3, w_skip, w_reg, w_seq, w_cond, w_block, seqK_n, ckB_b, cbB_b, true_and, x_nil, x_mv, x_as, x_bin, x_len, kx, rvP_ok, okv_some, ev_t, ev_c, getV_some, putD_some, bin_neq, frame_2, of0, getK_set, Nat.reduceEqDiff, ↓reduceIte, Bool.false_eq_true, hl1, hl2, d0]
  refine W_loop (f30_I h v u L) (fun i => L.length - i) ?_ 0 ⟨rfl, by omega, by simp (disch := omega) only [getK_set, Nat.reduceEqDiff, ↓reduceIte, and_self, Int.natCast_zero]⟩
  rintro i fr h1 ⟨rfl, hi, g0, g1, g5⟩
  unfold f30_l0
  by_cases hlt : i < L.length
  · have d1 : decide ((i : Int) < (L.length : Int)) = true := by simpa using hlt
    obtain ⟨p, hp1, hp2, hp3⟩ := hv.atb i hlt
    obtain ⟨q, hq1, hq2, hq3⟩ := hu.atb i hlt
    have d2 : decide (L[i] ≠ L[i]) = false := by simp
    have hvb := hv.beq
    have hub := hu.beq
    simp (disch := omega) only [f30_r4, f30_r5, f30_r7, w_skip, w_reg, w_draw, w_seq, w_cond, w_block, seqK_n, atK_n, loopK_n, ckB_b, cbB_b, true_and, x_nil, x_mv, x_as, x_bin, x_len, kx, kg, xg_nil, xg_mv, xg_ld, xg_bin, xg_iads, xd_cons, fresh_nil, stK_n, stay_nil, rvP_ok, okv_some, ev_t, ev_c, getV_some, putD_some, bin_add, bin_neq, bin_lss, of1, getK_set, Nat.reduceEqDiff, ↓reduceIte, Bool.false_eq_true, g0, g1, g5, hl1, d1, hp1, hp2, hq1, hq2, iE, d2, fw64]
    exact ⟨i + 1, by omega, rfl, by omega, by simp (disch := omega) only [getK_set, Nat.reduceEqDiff, ↓reduceIte, g0, g1, and_self, Int.natCast_add, Int.natCast_one]⟩
  · have d1 : decide ((i : Int) < (L.length : Int)) = false := by simpa using hlt
    simp (disch := omega) only [f30_r4, f30_r8, f30_rs, w_reg, w_seq, w_cond, w_exit, w_ret, seqK_n, seqK_e, atK_e, loopK_e, ckB_b, cbB_b, retK_r, x_nil, x_mv, x_as, x_bin, x_len, kx, rvP_ok, okv_some, ev_t, ev_c, getV_some, putD_some, bin_lss, oGet_s, readRs_nil, readRs_t, retV_1, Option.some.injEq, exists_eq_left', getK_set, Nat.reduceEqDiff, ↓reduceIte, Bool.false_eq_true, g0, g5, hl1, d1, and_self]
structure CallsRl (fs : T EF) : Prop extends CallsRu fs, CallsRx fs where
  c46 : fs.get (K.ofNat 46) = some f46
  c47 : fs.get (K.ofNat 47) = some f47
  c30 : fs.get (K.ofNat 30) = some f30
  aw : ∀ h P, CallP fs (.fn (K.ofNat 23) []) [] h P = P (.b true) h
theorem OSr.sr {w : V} {o : Option (List Int)} (hw : OSr h w o) : Sr iE h w (o.getD []) := by
  cases o with
  | none => have : w = .sn := hw
            subst this; exact Sr.nil
  | some R => exact hw.1
theorem short_len {m : Nat} (h2 : 2 ≤ m) (h7 : m ≤ 7) : ((shortP m).getD []).length ≤ 7 := by
  cases hs : shortP m with
  | none => simp
  | some R =>
    obtain ⟨x, h1, h3, h4⟩ := firstF_some hs
    obtain ⟨e1, _⟩ := ext_good (by omega) (m - 1) good0 h4
    have : R.length = 1 + (m - 1) := e1
    show R.length ≤ 7
    omega
theorem f10_ret (k : CallsRl fs) {n : Int} (hc : HC h) : Ret fs f10 [.i .i64 n] h fun r h' => r = .b true ∧ Grow h.nx.nat h h' := by
  have aw := k.aw
  apply ret_of rfl
  show W fs none f10_c _ _ _
  unfold f10_c
  simp (disch := omega) only [f10_r0, f10_r1, w_reg, w_seq, seqK_n, x_nil, x_mv, x_as, x_call, ev_t, ev_c, evs_nil, evs_cons, getV_some, putD_some, frame_1, getK_set, Nat.reduceEqDiff, ↓reduceIte]
  by_cases hn : n < 2 ∨ 7 < n
  · refine (callP_0 (ef := f46) k.c46 rfl (f46_err hn)).mono ?_
    rintro r h1 ⟨rfl, rfl⟩
    cases d1 : decide (n < 2) with
    | true =>
      simp (disch := omega) only [f10_r2, f10_r3, f10_rs, w_reg, w_seq, w_cond, w_ret, seqK_n, seqK_r, ckB_b, cbB_b, okG_b, asG_t, asG_f, true_and, retK_r, x_nil, x_g, x_mv, x_as, x_pick, x_bin, x_ext, x_call, x_len, kx, rvP_ok, okv_some, ev_t, ev_c, evs_nil, getV_some, putD_some, bin_eql, bin_lss, pick_b, onTup_t, oGet_s, nth0, nth1, len_sn, readRs_nil, readRs_t, retV_1, of0, of1, of2, Option.some.injEq, exists_eq_left', getK_set, Nat.reduceEqDiff, ↓reduceIte, Bool.false_eq_true, Bool.not_true, of7, d1, aw, decide_true, true_and]
      exact Grow.refl _ _
    | false =>
      have d2 : decide (n > 7) = true := by have := of_decide_eq_false d1; simp; omega
      simp (disch := omega) only [f10_r2, f10_r3, f10_rs, w_reg, w_seq, w_cond, w_ret, seqK_n, seqK_r, ckB_b, cbB_b, okG_b, asG_t, asG_f, true_and, retK_r, x_nil, x_g, x_mv, x_as, x_pick, x_bin, x_ext, x_call, x_len, kx, rvP_ok, okv_some, ev_t, ev_c, evs_nil, getV_some, putD_some, bin_eql, bin_lss, bin_gtr, pick_b, onTup_t, oGet_s, nth0, nth1, len_sn, readRs_nil, readRs_t, retV_1, of0, of1, of2, Option.some.injEq, exists_eq_left', getK_set, Nat.reduceEqDiff, ↓reduceIte, Bool.false_eq_true, Bool.not_false, of7, d1, d2, aw, decide_true, true_and]
      exact Grow.refl _ _
  · obtain ⟨m, rfl⟩ : ∃ m : Nat, n = (m : Int) := ⟨n.toNat, by omega⟩
    have h2 : 2 ≤ m := by omega
    have h7 : m ≤ 7 := by omega
    have d1 : decide ((m : Int) < 2) = false := by simp; omega
    have d2 : decide ((m : Int) > 7) = false := by simp; omega
    refine (callP_0 (ef := f46) k.c46 rfl (f46_ok k.toCallsRu h2 h7 hc)).mono ?_
    rintro r h1 ⟨w, rfl, hw, hG⟩
    have hc1 := hG.hc hc
    have hlen := short_len h2 h7
    by_cases h6 : m = 7
    · have d3 : decide ((m : Int) = 7) = true := by simp; omega
      obtain ⟨R, hR, hRl, hRr⟩ := short7
      rw [h6, hR] at hw
      have hsr := hw.1
      simp (disch := omega) only [f10_r2, f10_r4, w_skip, w_reg, w_seq, w_cond, seqK_n, ckB_b, cbB_b, okG_b, asG_t, asG_f, true_and, x_nil, x_g, x_mv, x_as, x_pick, x_bin, x_ext, x_call, kx, rvP_ok, okv_some, ev_t, ev_c, evs_nil, evs_cons, getV_some, putD_some, bin_eql, bin_lss, bin_gtr, pick_b, onTup_t, nth0, nth1, of0, of2, getK_set, Nat.reduceEqDiff, ↓reduceIte, Bool.false_eq_true, Bool.not_false, of7, d1, d2, d3, decide_true]
      refine (callP_0 (ef := f44) k.c44 rfl (f44_ret hsr hc1 (by omega))).mono ?_
      rintro r h3 ⟨rfl, hG3⟩
      have hl3 := hsr.len
      rw [hRl] at hl3
      rw [hRr]
      have d4 : decide (((7 : Nat) : Int) = 7) = true := rfl
      simp (disch := omega) only [f10_rs, w_ret, seqK_n, okG_b, okG_u, asG_t, asG_f, asG_u, true_and, retK_r, x_nil, x_g, x_mv, x_as, x_pick, x_bin, x_call, x_len, kx, rvP_ok, okv_some, ev_t, ev_c, evs_nil, getV_some, putD_some, bin_eql, pick_b, oGet_s, readRs_nil, readRs_t, retV_1, Option.some.injEq, exists_eq_left', getK_set, Nat.reduceEqDiff, ↓reduceIte, Bool.false_eq_true, Bool.not_true, hl3, d4, aw, true_and]
      exact hG.trans (hG3.low hG.nx)
    · have d3 : decide ((m : Int) = 7) = false := by simp; omega
      have d4 : decide ((m : Int) < 7) = true := by simp; omega
      simp (disch := omega) only [f10_r2, f10_r4, w_skip, w_reg, w_seq, w_cond, seqK_n, ckB_b, cbB_b, okG_b, asG_t, asG_f, true_and, x_nil, x_g, x_mv, x_as, x_pick, x_bin, x_ext, x_call, kx, rvP_ok, okv_some, ev_t, ev_c, evs_nil, evs_cons, getV_some, putD_some, bin_eql, bin_lss, bin_gtr, pick_b, onTup_t, nth0, nth1, of0, of2, getK_set, Nat.reduceEqDiff, ↓reduceIte, Bool.false_eq_true, Bool.not_false, of7, d1, d2, d3, d4, decide_true]
      refine (callP_0 (ef := f47) k.c47 rfl (f47_ret k.toCallsRx h2 h7 hc1)).mono ?_
      rintro r h3 ⟨hr, hG3⟩
      have hG4 := hG.trans (hG3.low hG.nx)
      rw [← short_eq h2 h7] at hr
      simp (disch := omega) only [okG_b, asG_t, true_and, x_g, x_call, kx, ev_t, ev_c, evs_nil, evs_cons, getV_some, putD_some, getK_set, Nat.reduceEqDiff, ↓reduceIte]
      refine (callP_0 (ef := f30) k.c30 rfl (f30_same (hw.sr.grow hc1 hG3) hr.sr (by omega))).mono ?_
      rintro r h4 ⟨rfl, rfl⟩
      simp (disch := omega) only [f10_rs, w_ret, seqK_n, okG_b, asG_t, asG_f, true_and, retK_r, x_nil, x_g, x_mv, x_as, x_pick, x_call, kx, rvP_ok, ev_t, ev_c, evs_nil, getV_some, putD_some, pick_b, oGet_s, readRs_nil, readRs_t, retV_1, Option.some.injEq, exists_eq_left', getK_set, Nat.reduceEqDiff, ↓reduceIte, Bool.false_eq_true, Bool.not_false, aw, true_and]
      exact hG4
end
end Go.Ev
