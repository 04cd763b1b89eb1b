/-
  Functions of the seat: collapsed, Left.
  Functions of the seat: the reference's Size of any number.
  Functions of the seat: the reference's Collapse, Left, One.
  Functions of the seat: the reference's Left, One.
  What passes Check is a complex.
  The reference's Collapse and colS say the same of a family that is closed under parts.
  Sets of faces as numbers of 64 bits; maps with keys that are numbers.
  Functions of the seat: the reference's search for collapses.
  Slices of pairs that come in, and read behind the call as they read before.
  Functions of the seat: the reference's ToCorner; what was read, as pairs.
-/
import Derived.Test.YtneacehpoaambaaPg
import Derived.Test.YtneacehpoaambaaPf
import Derived.Test.YtneacehpoaambaaPd
namespace Go.Ev
open Go Go.RowKit
section
variable {fs : T EF} {ro : Option K}
/-- Two numbers, in two cells. -/
def qE (x : Int × Int) : List V := [.i .i64 x.1, .i .i64 x.2]
theorem qE_len : ∀ x, (qE x).length = 2 := fun _ => rfl
theorem flat_drop {α : Type} {k : Nat} {e : α → List V} (he : ∀ x, (e x).length = k) : ∀ (L : List α) (i : Nat) (hi : i < L.length), ((L.flatMap e).drop (i * k)).take k = e L[i]
  | [], i, hi => absurd hi (Nat.not_lt_zero _)
  | x :: L, 0, _ => by rw [List.flatMap_cons, Nat.zero_mul, List.drop_zero, ← he x, List.take_left]; rfl
  | x :: L, i + 1, hi => by
    rw [List.flatMap_cons, show (i + 1) * k = (e x).length + i * k by rw [he, Nat.add_mul]; omega, List.drop_length_add_append, flat_drop he L i (by simpa using hi)]; rfl
/-- An element of a slice of pairs. -/
theorem Sk.at2 {h : H} {v : V} {L : List (Int × Int)} (hs : Sk 2 qE h v L) {i : Nat} (hi : i < L.length) : ∃ p, (∀ k h1, iadsV 2 v (.i k (i : Int)) h1 = .ok p h1) ∧ loadV h p (many? 2) = .ok (.agg [.i .i64 L[i].1, .i .i64 L[i].2]) h := by
  rcases hs with ⟨rfl, rfl⟩ | ⟨id, off, m, cs, rfl, hb, hl, hm, hx⟩
  · simp at hi
  · refine ⟨.p id (off + i * 2), fun k h1 => ?_, ?_⟩
    · rw [iads_sl, idx_n hi]
    · rw [loadn_p hb (by omega), takeN_eq, dropN_eq]
      have h1 := flat_drop qE_len L i hi
      rw [← hx, List.drop_take, List.take_take, List.drop_drop, Nat.min_eq_left (by omega)] at h1
      rw [h1]; rfl
/-- What is left of a family, if each of these is a collapse of what is left before it. -/
noncomputable def colsS : (Nat → Bool) → List (Int × Int) → Option (Nat → Bool)
  | B, [] => some B
  | B, (f, o) :: l => match colS B f with
    | some o' => if (o' : Int) = o then colsS (lessB B f.toNat o') l else none
    | none => none
noncomputable def colsV (r : Option (Nat → Bool)) : V := match r with
  | some B => .tup [.agg (boolV B), .b true]
  | none => .tup [.agg (boolV fun _ => false), .b false]
def f63_I (h : H) (k2 k4 : K) (v : V) (L : List (Int × Int)) (R : Option (Nat → Bool)) (i : Nat) (fr : Fr) (h1 : H) : Prop := ∃ B, i ≤ L.length ∧ Ar V.b h1 k2 (arr B 64) ∧ Ar V.b h1 k4 (arr (fun _ => false) 64) ∧ Grow h.nx.nat h h1 ∧ h.nx.nat ≤ k2.nat ∧ k2.nat < k4.nat ∧ k4.nat < h1.nx.nat ∧ colsS B (L.drop i) = R ∧ fr.get (K.ofNat 2) = some (.p k2 0) ∧ fr.get (K.ofNat 4) = some (.p k4 0) ∧ fr.get (K.ofNat 10) = some (v) ∧ fr.get (K.ofNat 11) = some (.i .i64 (L.length : Int)) ∧ fr.get (K.ofNat 12) = some (.i .i64 (i : Int))
theorem f63_ret {h : H} {v : V} {B : Nat → Bool} {L : List (Int × Int)} (hp : ∀ a b h P, CallP fs (.fn (K.ofNat 54) []) [.i .i64 a, .i .i64 b] h P = P (.b (ptI a b)) h)
    (h78 : fs.get (K.ofNat 78) = some f78) (h91 : fs.get (K.ofNat 91) = some alF) (h87 : fs.get (K.ofNat 87) = some f87) (h88 : fs.get (K.ofNat 88) = some f88) (hv : Sk 2 qE h v L) (hL : ∀ x ∈ L, inR .i64 x.1 = true ∧ inR .i64 x.2 = true) (hLl : L.length ≤ 1000000) (hc : HC h) :
    Ret fs f63 [.agg (boolV B), v] h fun r h' => r = colsV (colsS B L) ∧ Grow h.nx.nat h h' := by
  apply ret_of rfl
  show W fs none f63_c _ _ _
  unfold f63_c
  have n1 := nx_new h (.cells 64 (boolV B))
  have g1 : Grow h.nx.nat h (h.new (.cells 64 (boolV B))) := Grow.new (Nat.le_refl _) _
  have hA1 : Ar V.b (h.new (.cells 64 (boolV B))) h.nx (arr B 64) := Ar.box
  simp (disch := omega) only [f63_r0, f63_r1, w_reg, w_seq, w_block, seqK_n, x_nil, x_mv, x_as, x_alloc, x_box, x_len, kx, rvP_ok, ev_t, ev_c, getV_some, putD_some, oGet_s, frame_2, of0, getK_set, Nat.reduceEqDiff, ↓reduceIte, cells64 (boolV_len (B := B)), hv.len]
  generalize h.new (.cells 64 (boolV B)) = h1 at *
  have n2 := nx_new h1 (.cells 64 (List.replicate 64 (.b false)))
  have g2 : Grow h1.nx.nat h1 (h1.new (.cells 64 (List.replicate 64 (.b false)))) := Grow.new (Nat.le_refl _) _
  have hO2 : Ar V.b (h1.new (.cells 64 (List.replicate 64 (.b false)))) h1.nx (arr (fun _ => false) 64) := by unfold Ar; rw [get_new_same]; rfl
  have hA2 : Ar V.b (h1.new (.cells 64 (List.replicate 64 (.b false)))) h.nx (arr B 64) := hA1.same (get_new_old (by omega))
  generalize h1.new (.cells 64 (List.replicate 64 (.b false))) = h2 at *
  refine W_loop (f63_I h h.nx h1.nx v L (colsS B L)) (fun i => L.length - i) ?_ 0 ⟨B, Nat.zero_le _, hA2, hO2, g1.trans (g2.low (by omega)), Nat.le_refl _, by omega, by omega, by rw [List.drop_zero], by simp (disch := omega) only [getK_set, Nat.reduceEqDiff, ↓reduceIte, and_self, Int.natCast_zero]⟩
  generalize colsS B L = R
  clear hA1 hA2 hO2 g1 g2 n1 n2
  rintro i fr h3 ⟨B, hi, hA, hO, gr, q1, q2, q3, hR, g2, g4, g10, g11, g12⟩
  have hc3 := gr.hc hc
  have hv3 := hv.grow hc gr
  unfold f63_l0
  by_cases hlt : i < L.length
  · have hlt' : (i : Int) < (L.length : Int) := by omega
    obtain ⟨p, hp1, hp2⟩ := hv3.at2 hlt
    rw [List.drop_eq_getElem_cons hlt] at hR
    obtain ⟨ir1, ir2⟩ := hL _ (List.getElem_mem hlt)
    generalize L[i] = x at *
    obtain ⟨f, o⟩ := x
    have n4 := nx_new h3 (.cells 2 [.i .i64 0, .i .i64 0])
    have g4' : Grow h3.nx.nat h3 (h3.new (.cells 2 [.i .i64 0, .i .i64 0])) := Grow.new (Nat.le_refl _) _
    have e4 : (h3.new (.cells 2 [.i .i64 0, .i .i64 0])).get h3.nx = .cells 2 [.i .i64 0, .i .i64 0] := get_new_same
    have s5 := st2 (c := .i .i64 f) (d := .i .i64 o) e4
    have e5 : ((h3.new (.cells 2 [.i .i64 0, .i .i64 0])).put h3.nx (.cells 2 [.i .i64 f, .i .i64 o])).get h3.nx = .cells 2 [.i .i64 f, .i .i64 o] := get_put_same
    have n5 : ((h3.new (.cells 2 [.i .i64 0, .i .i64 0])).put h3.nx (.cells 2 [.i .i64 f, .i .i64 o])).nx.nat = h3.nx.nat + 1 := n4
    have g5 : Grow h3.nx.nat h3 ((h3.new (.cells 2 [.i .i64 0, .i .i64 0])).put h3.nx (.cells 2 [.i .i64 f, .i .i64 o])) := g4'.trans (Grow.put (Nat.le_refl _) (by omega) _)
    simp (disch := omega) only [f63_r2, f63_r3, w_skip, w_reg, w_seq, w_cond, w_block, seqK_n, ckB_b, cbB_b, true_and, x_nil, x_alloc, x_ldn, x_st, x_bin, x_iads, kx, rvP_ok, okv_some, ev_t, getV_some, putD_some, putD_none, bin_lss, of0, getK_set, Nat.reduceEqDiff, ↓reduceIte, g10, g11, g12, hlt', decide_true, hp1, hp2, s5]
    generalize (h3.new (.cells 2 [.i .i64 0, .i .i64 0])).put h3.nx (.cells 2 [.i .i64 f, .i .i64 o]) = h5 at *
    have hA5 := hA.same (g5.old _ (by omega))
    have hO5 := hO.same (g5.old _ (by omega))
    have ld5 := hA5.ldn (n := 64) (by rw [arr_len])
    have hc5 := g5.hc hc3
    have l0 : loadV h5 (.p h3.nx (0 + 0 * 1)) one? = .ok (.i .i64 f) h5 := load_p e5 rfl
    have ix0 : ∀ ff : Nat → RV, idxV (.i .i64 0) 2 ff = ff 0 := fun ff => idx_n (m := 0) (by omega)
    have ix1 : ∀ ff : Nat → RV, idxV (.i .i64 1) 2 ff = ff 1 := fun ff => idx_n (m := 1) (by omega)
    simp (disch := omega) only [f63_r4, x_ld, x_ldn, x_iadr, x_call, kx, rvP_ok, ev_t, ev_c, evs_nil, evs_cons, getV_some, putD_some, onP_p, of0, getK_set, Nat.reduceEqDiff, ↓reduceIte, g2, ld5, ix0, l0]
    refine (callP_0 (ef := f87) h87 rfl (f87_ret (B := B) (f := f) hp h78 h91 hc5)).mono ?_
    rintro u h6 ⟨rfl, g6⟩
    have hgc := gr.trans ((g5.trans (g6.low (by omega))).low gr.nx)
    have nx5 := g5.nx
    have nx6 := g6.nx
    have n7 := nx_new h6 (.cells 2 [.i .i64 0, .i .i64 0])
    have g7 : Grow h6.nx.nat h6 (h6.new (.cells 2 [.i .i64 0, .i .i64 0])) := Grow.new (Nat.le_refl _) _
    have e7 : (h6.new (.cells 2 [.i .i64 0, .i .i64 0])).get h6.nx = .cells 2 [.i .i64 0, .i .i64 0] := get_new_same
    -- what is stored in the box for the result
    have hmk : ∀ y : Int × Int, ∃ h8, storeV (h6.new (.cells 2 [.i .i64 0, .i .i64 0])) 2 (.p h6.nx 0) (.agg [.i .i64 y.1, .i .i64 y.2]) = .ok undefV h8 ∧ h8.get h6.nx = .cells 2 [.i .i64 y.1, .i .i64 y.2] ∧ Grow h6.nx.nat h6 h8 ∧ h8.nx.nat = h6.nx.nat + 1 := fun y =>
      ⟨_, st2 (c := .i .i64 y.1) (d := .i .i64 y.2) e7, get_put_same, g7.trans (Grow.put (Nat.le_refl _) (by omega) _), n7⟩
    cases hcol : colS B f with
    | none =>
      have hcv : colV B f = .tup [.agg [.i .i64 0, .i .i64 0], .b false] := by unfold colV; rw [hcol]
      have hRn : R = none := by rw [← hR, colsS, hcol]
      subst hRn
      obtain ⟨h8, s8, e8, g8, n8⟩ := hmk (0, 0)
      have hO8 := (hO5.same (g6.old _ (by omega))).same (g8.old _ (by omega))
      obtain ⟨h9, s9, hA9, _, n9, g9⟩ := hO8.stnA (g := fun _ => false)
      have rd9 : readP h9 (.p h1.nx 0) (many? 64) = some (.agg ((arr (fun _ => false) 64).map V.b)) := (okv_ok (hA9.ldn (n := 64) (by rw [arr_len]))).1
      have hz : V.agg (List.replicate 64 (.b false)) = .agg ((arr (fun _ => false) 64).map V.b) := rfl
      simp (disch := omega) only [f63_r5, f63_r6, f63_rs, w_reg, w_seq, w_cond, w_ret, seqK_n, seqK_r, atK_r, loopK_r, ckB_b, cbB_b, okG_b, asG_f, true_and, retK_r, x_nil, x_g, x_mv, x_as, x_pick, x_alloc, x_build, x_st, x_not, x_ext, kx, rvP_ok, okv_some, ev_t, ev_c, getV_some, putD_some, putD_none, pick_b, onB_b, onTup_t, oGet_s, nth0, nth1, readRs_nil, readRs_t, readRs_n, retV_2, of0, of1, Option.some.injEq, exists_eq_left', getK_set, Nat.reduceEqDiff, ↓reduceIte, Bool.false_eq_true, Bool.not_true, Bool.not_false, g4, hcv, s8, fill_0, hz, s9, readRs_n, rd9]
      exact ⟨rfl, hgc.trans ((g8.low (by omega)).trans (g9 _ (by omega) (by omega)))⟩
    | some o' =>
      obtain ⟨m, rfl, hm1, hm64, hBm, hov, ho64, hBo, hne⟩ := col_mem hcol
      have hcv : colV B (m : Int) = .tup [.agg [.i .i64 (m : Int), .i .i64 (o' : Int)], .b true] := by unfold colV; rw [hcol]
      obtain ⟨h8, s8, e8, g8, n8⟩ := hmk ((m : Int), (o' : Int))
      have hA8 := (hA5.same (g6.old _ (by omega))).same (g8.old _ (by omega))
      have hO8 := (hO5.same (g6.old _ (by omega))).same (g8.old _ (by omega))
      have e58 : h8.get h3.nx = .cells 2 [.i .i64 (m : Int), .i .i64 o] := by rw [g8.old _ (by omega), g6.old _ (by omega)]; exact e5
      have l0' : loadV h8 (.p h3.nx (0 + 0 * 1)) one? = .ok (.i .i64 (m : Int)) h8 := load_p e58 rfl
      have l1' : loadV h8 (.p h3.nx (0 + 1 * 1)) one? = .ok (.i .i64 o) h8 := load_p e58 rfl
      have hke : keyEq (.many [some .i64, some .i64]) (.agg [.i .i64 (m : Int), .i .i64 (o' : Int)]) (.agg [.i .i64 (m : Int), .i .i64 o]) = some (decide ((o' : Int) = o)) := by
        rw [keyEq_2 (inR_n (by omega)) (inR_n (by omega)) ir1 ir2, decide_eq_true rfl, Bool.true_and]
      have gr8 := hgc.trans (g8.low (by omega))
      have hc8 := gr8.hc hc
      by_cases ho : (o' : Int) = o
      · rw [decide_eq_true ho] at hke
        have hRs : colsS (lessB B m o') (L.drop (i + 1)) = R := by rw [← hR, colsS, hcol]; simp [ho]
        have ld8 := hA8.ldn (n := 64) (by rw [arr_len])
        simp (disch := omega) only [f63_r5, f63_r7, w_skip, w_reg, w_seq, w_cond, seqK_n, ckB_b, cbB_b, okG_b, asG_f, true_and, x_nil, x_g, x_mv, x_as, x_pick, x_alloc, x_build, x_ld, x_ldn, x_st, x_eqk, x_not, x_iadr, x_ext, x_call, kx, rvP_ok, okv_some, ev_t, ev_c, evs_nil, evs_cons, getV_some, putD_some, putD_none, pick_b, onB_b, onTup_t, onP_p, oGet_s, nth0, nth1, cells1_i, of0, of1, getK_set, Nat.reduceEqDiff, ↓reduceIte, Bool.false_eq_true, Bool.not_true, Bool.not_false, g2, hcv, s8, ldn2 e8, ix0, ix1, l0', l1', fill_2, set_2, hke, cond_true, ld8]
        refine (callP_0 (ef := f88) h88 rfl (f88_ret (B := B) hm64 ho64 hc8)).mono ?_
        rintro u h9 ⟨rfl, g9⟩
        have nx9 := g9.nx
        obtain ⟨h10, s10, hA10, o10, n10, gx10⟩ := (hA8.same (g9.old _ (by omega))).stnA (g := lessB B m o')
        have hO10 := (hO8.same (g9.old _ (by omega))).same (o10 _ (kNe (by omega)).symm)
        change storeV h9 64 _ (.agg (boolV (lessB B m o'))) = _ at s10
        simp (disch := omega) only [f63_r8, w_reg, seqK_n, atK_n, loopK_n, x_nil, x_mv, x_st, x_bin, kx, rvP_ok, okv_some, ev_t, ev_c, getV_some, putD_some, putD_none, bin_add, of1, getK_set, Nat.reduceEqDiff, ↓reduceIte, g2, g12, s10, fw64]
        exact ⟨i + 1, by omega, lessB B m o', hlt, hA10, hO10, gr8.trans ((g9.low (by omega)).trans (gx10 _ q1 (by omega))), q1, q2, by rw [n10]; omega, hRs, by simp (disch := omega) only [getK_set, Nat.reduceEqDiff, ↓reduceIte, g2, g4, g10, g11, and_self, Int.natCast_add, Int.natCast_one]⟩
      · rw [decide_eq_false ho] at hke
        have hRn : R = none := by rw [← hR, colsS, hcol]; simp [ho]
        subst hRn
        obtain ⟨h9, s9, hA9, _, n9, g9⟩ := hO8.stnA (g := fun _ => false)
        have rd9 : readP h9 (.p h1.nx 0) (many? 64) = some (.agg ((arr (fun _ => false) 64).map V.b)) := (okv_ok (hA9.ldn (n := 64) (by rw [arr_len]))).1
        have hz : V.agg (List.replicate 64 (.b false)) = .agg ((arr (fun _ => false) 64).map V.b) := rfl
        simp (disch := omega) only [f63_r5, f63_r6, f63_rs, w_reg, w_seq, w_cond, w_ret, seqK_n, seqK_r, atK_r, loopK_r, ckB_b, cbB_b, okG_b, asG_f, true_and, retK_r, x_nil, x_g, x_mv, x_as, x_pick, x_alloc, x_build, x_ld, x_ldn, x_st, x_eqk, x_not, x_iadr, x_ext, kx, rvP_ok, okv_some, ev_t, ev_c, getV_some, putD_some, putD_none, pick_b, onB_b, onTup_t, onP_p, oGet_s, nth0, nth1, readRs_nil, readRs_t, readRs_n, retV_2, cells1_i, of0, of1, Option.some.injEq, exists_eq_left', getK_set, Nat.reduceEqDiff, ↓reduceIte, Bool.false_eq_true, Bool.not_true, Bool.not_false, g4, hcv, s8, ldn2 e8, ix0, ix1, l0', l1', fill_2, set_2, hke, cond_true, fill_0, hz, s9, readRs_n, rd9]
        exact ⟨rfl, gr8.trans (g9 _ (by omega) (by omega))⟩
  · obtain rfl : i = L.length := by omega
    rw [List.drop_length, colsS] at hR
    subst hR
    have ld3 := hA.ldn (n := 64) (by rw [arr_len])
    obtain ⟨h6, s6, hA6, o6, n6, g6⟩ := hO.stnA (g := B)
    have rd6 : readP h6 (.p h1.nx 0) (many? 64) = some (.agg ((arr B 64).map V.b)) := (okv_ok (hA6.ldn (n := 64) (by rw [arr_len]))).1
    simp (disch := omega) only [f63_r2, f63_r9, f63_rs, w_reg, w_seq, w_cond, w_exit, w_ret, seqK_n, seqK_e, atK_e, loopK_e, ckB_b, cbB_b, true_and, retK_r, x_nil, x_as, x_ldn, x_st, x_bin, kx, rvP_ok, okv_some, ev_t, ev_c, getV_some, putD_some, putD_none, bin_lss, oGet_s, readRs_nil, readRs_t, readRs_n, retV_2, Option.some.injEq, exists_eq_left', getK_set, Nat.reduceEqDiff, ↓reduceIte, Bool.false_eq_true, g2, g4, g11, g12, Int.lt_irrefl, decide_false, ld3, s6, readRs_n, rd6]
    exact ⟨rfl, gr.trans (g6 _ (by omega) (by omega))⟩
/-- What Left lists. -/
noncomputable def leftL (r : Option (Nat → Bool)) : List Int := match r with | some B => memI B | none => []
theorem memI_no : memI (fun _ => false) = [] := by
  unfold memI mem64
  rw [List.filter_eq_nil_iff.2 fun a _ => by simp]; rfl
theorem f25_ret {h : H} {v w : V} {S : List Int} {L : List (Int × Int)} {n : Int} (hp : ∀ a b h P, CallP fs (.fn (K.ofNat 54) []) [.i .i64 a, .i .i64 b] h P = P (.b (ptI a b)) h) (h16 : fs.get (K.ofNat 16) = some f16) (h55 : fs.get (K.ofNat 55) = some f55) (h63 : fs.get (K.ofNat 63) = some f63) (h56 : fs.get (K.ofNat 56) = some f56) (h77 : fs.get (K.ofNat 77) = some f77) (h90 : fs.get (K.ofNat 90) = some f90) (h78 : fs.get (K.ofNat 78) = some f78) (h91 : fs.get (K.ofNat 91) = some alF) (h87 : fs.get (K.ofNat 87) = some f87) (h88 : fs.get (K.ofNat 88) = some f88)
    (hv : Sl iE h v S) (hw : Sk 2 qE h w L) (hL : ∀ x ∈ L, inR .i64 x.1 = true ∧ inR .i64 x.2 = true) (hLl : L.length ≤ 1000000) (hc : HC h) (hS : S.length ≤ 1000000) (hchk : chkS n S = 0) :
    Ret fs f25 [.i .i64 n, v, w] h fun r h' => ∃ u, r = .tup [u, .b (colsS (lowB (famB S)) L).isSome, .i .i64 0] ∧ Sl iE h' u (leftL (colsS (lowB (famB S)) L)) ∧ Grow h.nx.nat h h' := by
  apply ret_of rfl
  show W fs none f25_c _ _ _
  unfold f25_c
  have ne0 : decide ((0 : Int) ≠ 0) = false := rfl
  simp (disch := omega) only [f25_r0, f25_r1, w_reg, w_seq, seqK_n, x_nil, x_mv, x_as, x_call, ev_t, ev_c, evs_nil, evs_cons, getV_some, putD_some, frame_3, of0, getK_set, Nat.reduceEqDiff, ↓reduceIte]
  refine (callP_0 (ef := f16) h16 rfl (f16_ret (n := n) hp hv)).mono ?_
  rintro r h1 ⟨rfl, rfl⟩
  rw [hchk]
  simp (disch := omega) only [f25_r2, f25_r4, w_skip, w_reg, w_seq, w_cond, seqK_n, ckB_b, cbB_b, true_and, x_nil, x_mv, x_as, x_bin, x_call, kx, rvP_ok, okv_some, ev_t, ev_c, evs_nil, evs_cons, getV_some, putD_some, bin_neq, of0, getK_set, Nat.reduceEqDiff, ↓reduceIte, Bool.false_eq_true, ne0]
  refine (callP_0 (ef := f55) h55 rfl (f55_ret (S := S) hp hv hc hS)).mono ?_
  rintro u h2 ⟨rfl, g2⟩
  rw [famB_list, ← lowB_V]
  simp (disch := omega) only [x_mv, x_call, kx, ev_t, ev_c, evs_nil, evs_cons, getV_some, putD_some, getK_set, Nat.reduceEqDiff, ↓reduceIte]
  refine (callP_0 (ef := f63) h63 rfl (f63_ret (B := lowB (famB S)) hp h78 h91 h87 h88 (hw.grow hc g2) hL hLl (g2.hc hc))).mono ?_
  rintro r h3 ⟨rfl, g3⟩
  have nx2 := g2.nx
  have nx3 := g3.nx
  generalize colsS (lowB (famB S)) L = R
  obtain ⟨B', x, hcv, hx, hl⟩ : ∃ B' x, colsV R = .tup [.agg (boolV B'), .b x] ∧ R.isSome = x ∧ leftL R = memI B' := by
    cases R with
    | none => exact ⟨_, _, rfl, rfl, memI_no.symm⟩
    | some B' => exact ⟨_, _, rfl, rfl, rfl⟩
  rw [hcv, hx, hl]
  have n4 := nx_new h3 (.cells 64 (List.replicate 64 (.b false)))
  have g4 : Grow h3.nx.nat h3 (h3.new (.cells 64 (List.replicate 64 (.b false)))) := Grow.new (Nat.le_refl _) _
  have e4 : (h3.new (.cells 64 (List.replicate 64 (.b false)))).get h3.nx = .cells 64 (List.replicate 64 (.b false)) := get_new_same
  have s4 := out_st (F := B') (List.length_replicate ..) e4
  have g5 : Grow h3.nx.nat (h3.new (.cells 64 (List.replicate 64 (.b false)))) ((h3.new (.cells 64 (List.replicate 64 (.b false)))).put h3.nx (.cells 64 (boolV B'))) := Grow.put (Nat.le_refl _) (by omega) _
  have hA5 : Ar V.b ((h3.new (.cells 64 (List.replicate 64 (.b false)))).put h3.nx (.cells 64 (boolV B'))) h3.nx (arr B' 64) := by unfold Ar; rw [get_put_same, arr_len]; rfl
  have gr : Grow h1.nx.nat h1 ((h3.new (.cells 64 (List.replicate 64 (.b false)))).put h3.nx (.cells 64 (boolV B'))) := g2.trans ((g3.low (by omega)).trans ((g4.trans g5).low (by omega)))
  simp (disch := omega) only [w_reg, w_seq, seqK_n, x_nil, x_mv, x_as, x_alloc, x_st, x_ext, kx, rvP_ok, okv_some, ev_t, getV_some, putD_some, putD_none, onTup_t, nth0, nth1, getK_set, Nat.reduceEqDiff, ↓reduceIte, s4]
  generalize (h3.new (.cells 64 (List.replicate 64 (.b false)))).put h3.nx (.cells 64 (boolV B')) = h5 at *
  have ld5 := hA5.ldn (n := 64) (by rw [arr_len])
  change loadV _ _ _ = .ok (.agg (boolV B')) _ at ld5
  simp (disch := omega) only [f25_r5, x_ldn, x_call, kx, rvP_ok, ev_t, ev_c, evs_nil, evs_cons, getV_some, putD_some, of0, getK_set, Nat.reduceEqDiff, ↓reduceIte, ld5]
  refine (callP_0 (ef := f56) h56 rfl (f56_ret (B := B') h77 h90 h78 h91 (gr.hc hc))).mono ?_
  rintro u h6 ⟨hs, ho, g6⟩
  have nx6 := gr.nx
  simp (disch := omega) only [f25_rs, w_ret, seqK_n, retK_r, x_nil, x_mv, x_as, kx, ev_t, ev_c, getV_some, putD_some, oGet_s, readRs_nil, readRs_t, retV_2, Option.some.injEq, exists_eq_left', getK_set, Nat.reduceEqDiff, ↓reduceIte]
  exact ⟨u, rfl, hs, gr.trans (g6.low (by omega))⟩
end
end Go.Ev
namespace Go.Ev
open Go Go.RowKit
noncomputable def f52_r0 : List EOper := [⟨(some (K.ofNat 2)), none, .as (.c (.i .i64 (.ofNat 0)))⟩]
noncomputable def f52_r1 : List EOper := [⟨(some (K.ofNat 3)), none, .as (.c (.i .i64 (.ofNat 0)))⟩]
noncomputable def f52_r2 : List EOper := [⟨(some (K.ofNat 4)), none, .as (.c (.i .i64 (.ofNat 0)))⟩]
noncomputable def f52_r3 : List EOper := [⟨(some (K.ofNat 5)), none, .mv (.t (K.ofNat 0))⟩, ⟨(some (K.ofNat 6)), none, .mv (.t (K.ofNat 4))⟩, ⟨(some (K.ofNat 7)), none, .bin .shr (.t (K.ofNat 5)) (.t (K.ofNat 6))⟩, ⟨(some (K.ofNat 8)), none, .bin .gtr (.t (K.ofNat 7)) (.c (.i .i64 (.ofNat 0)))⟩]
noncomputable def f52_r4 : List EOper := [⟨(some (K.ofNat 11)), none, .mv (.t (K.ofNat 3))⟩, ⟨(some (K.ofNat 12)), none, .mv (.t (K.ofNat 0))⟩, ⟨(some (K.ofNat 13)), none, .mv (.t (K.ofNat 4))⟩, ⟨(some (K.ofNat 14)), none, .bin .shr (.t (K.ofNat 12)) (.t (K.ofNat 13))⟩, ⟨(some (K.ofNat 15)), none, .bin .rem (.t (K.ofNat 14)) (.c (.i .i64 (.ofNat 2)))⟩, ⟨(some (K.ofNat 16)), none, .bin .add (.t (K.ofNat 11)) (.t (K.ofNat 15))⟩, ⟨(some (K.ofNat 3)), none, .as (.t (K.ofNat 16))⟩]
noncomputable def f52_r5 : List EOper := [⟨(some (K.ofNat 9)), none, .mv (.t (K.ofNat 4))⟩, ⟨(some (K.ofNat 10)), none, .bin .add (.t (K.ofNat 9)) (.c (.i .i64 (.ofNat 1)))⟩, ⟨(some (K.ofNat 4)), none, .as (.t (K.ofNat 10))⟩]
noncomputable def f52_l0 : EC := (.seq (.seq (.reg f52_r3) (.cond (.t (K.ofNat 8)) .skip (.exit 0))) (.seq (.block 1 (.reg f52_r4)) (.reg f52_r5)))
noncomputable def f52_r6 : List EOper := [⟨(some (K.ofNat 17)), none, .mv (.t (K.ofNat 3))⟩, ⟨(some (K.ofNat 2)), none, .as (.t (K.ofNat 17))⟩]
noncomputable def f52_c : EC := (.seq (.reg f52_r0) (.seq (.reg f52_r1) (.seq (.seq (.reg f52_r2) (.block 0 (.loop f52_l0))) (.seq (.reg f52_r6) .ret))))
noncomputable def f52 : EF := ⟨18, [.tmp (K.ofNat 2)], f52_c, none⟩
theorem f52_rs : f52.rs = [.tmp (K.ofNat 2)] := of_eq_true (eq_self _)
section
variable {fs : T EF} {ro : Option K}
/-- What a call gives, it gives whatever is asked of it. -/
theorem callP_eq {f : V} {args : List V} {h : H} {v : V} (hr : CallP fs f args h fun u h' => u = v ∧ h' = h) (P : V → H → Prop) : CallP fs f args h P = P v h := by
  obtain ⟨n, u, h', e, rfl, rfl⟩ := hr
  apply propext
  constructor
  · rintro ⟨m, u', h1, e', hp⟩
    have a := callV_le (fs := fs) (eval_le fs (Nat.le_max_left n m)) f args h' _ _ e
    have b := callV_le (fs := fs) (eval_le fs (Nat.le_max_right n m)) f args h' _ _ e'
    rw [a] at b
    cases b
    exact hp
  · exact fun hp => ⟨n, u, h', e, hp⟩
/-- The ones of a number, up to 63 of them. -/
def sizL : Nat → Nat → Nat
  | 0, _ => 0
  | k + 1, m => if m = 0 then 0 else m % 2 + sizL k (m / 2)
theorem siz_pop : ∀ m, m < 64 → sizL 64 m = pop6 m := by decide +kernel
theorem sizL_le : ∀ k m, sizL k m ≤ k
  | 0, _ => Nat.le_refl _
  | k + 1, m => by
    unfold sizL
    split
    · omega
    · have := sizL_le k (m / 2); omega
noncomputable def sizZ (a : Int) : Nat := match a with | .ofNat m => sizL 64 m | .negSucc _ => 0
def f52_I (h : H) (m T : Nat) (i : Nat) (fr : Fr) (h1 : H) : Prop := ∃ s, h1 = h ∧ i ≤ 63 ∧ s ≤ i ∧ s + sizL (64 - i) (m / 2 ^ i) = T ∧ fr.get (K.ofNat 0) = some (.i .i64 (m : Int)) ∧ fr.get (K.ofNat 3) = some (.i .i64 (s : Int)) ∧ fr.get (K.ofNat 4) = some (.i .i64 (i : Int))
theorem f52_ret {h : H} {a : Int} (ha : inR .i64 a = true) : Ret fs f52 [.i .i64 a] h fun u h' => u = .i .i64 (sizZ a : Int) ∧ h' = h := by
  apply ret_of rfl
  show W fs none f52_c _ _ _
  unfold f52_c
  cases a with
  | negSucc m =>
    obtain ⟨z, hz1, hz2⟩ : ∃ z, binV .shr (.i .i64 (.negSucc m)) (.i .i64 0) = some (.i .i64 z) ∧ ¬ 0 < z := by
      refine ⟨(Int.negSucc m).fdiv (2 ^ (Nat.min 0 (IntKind.bits .i64))), rfl, ?_⟩
      rw [show Nat.min 0 (IntKind.bits .i64) = 0 from rfl, Int.pow_zero, Int.fdiv_one]
      omega
    simp (disch := omega) only [f52_r0, f52_r1, f52_r2, w_reg, w_seq, w_block, seqK_n, x_nil, x_as, ev_c, putD_some, frame_1, of0]
    refine W_loop (fun (_ : Nat) fr h1 => h1 = h ∧ fr.get (K.ofNat 0) = some (.i .i64 (.negSucc m)) ∧ fr.get (K.ofNat 3) = some (.i .i64 0) ∧ fr.get (K.ofNat 4) = some (.i .i64 0)) (fun _ => 0) ?_ 0 ⟨rfl, by simp (disch := omega) only [getK_set, Nat.reduceEqDiff, ↓reduceIte, and_self]⟩
    rintro i fr h1 ⟨rfl, g0, g3, g4⟩
    unfold f52_l0
    simp (disch := omega) only [f52_r3, f52_r6, f52_rs, w_reg, w_seq, w_cond, w_exit, w_ret, seqK_n, seqK_e, atK_e, loopK_e, ckB_b, cbB_b, true_and, retK_r, x_nil, x_mv, x_as, x_bin, kx, rvP_ok, okv_some, ev_t, ev_c, getV_some, putD_some, bin_gtr, oGet_s, readRs_nil, readRs_t, retV_1, of0, Option.some.injEq, exists_eq_left', getK_set, Nat.reduceEqDiff, ↓reduceIte, Bool.false_eq_true, g0, g3, g4, hz1, hz2, decide_false]
    exact ⟨rfl, trivial⟩
  | ofNat m =>
    have hm : m ≤ 9223372036854775807 := Nat.le_of_ble_eq_true ha
    have h0 : Int.ofNat m = (m : Int) := rfl
    rw [h0]
    simp (disch := omega) only [f52_r0, f52_r1, f52_r2, w_reg, w_seq, w_block, seqK_n, x_nil, x_as, ev_c, putD_some, frame_1, of0]
    refine W_loop (f52_I h m (sizL 64 m)) (fun i => 64 - i) ?_ 0 ⟨0, rfl, by omega, by omega, by rw [Nat.pow_zero, Nat.div_one]; simp, by simp (disch := omega) only [getK_set, Nat.reduceEqDiff, ↓reduceIte, and_self, Int.natCast_zero]⟩
    rintro i fr h1 ⟨s, rfl, hi, hs, hT, g0, g3, g4⟩
    unfold f52_l0
    have hsh : binV .shr (.i .i64 (m : Int)) (.i .i64 (i : Int)) = some (.i .i64 ((m / 2 ^ i : Nat) : Int)) := by rw [bin_shr, show min i (IntKind.bits .i64) = i by show min i 64 = i; omega]
    by_cases hz : m / 2 ^ i = 0
    · have hT' : s = sizL 64 m := by
        rw [← hT, hz]
        have : sizL (64 - i) 0 = 0 := by
          rw [show 64 - i = (63 - i) + 1 by omega]; rfl
        rw [this]; rfl
      subst hT'
      simp (disch := omega) only [f52_r3, f52_r6, f52_rs, w_reg, w_seq, w_cond, w_exit, w_ret, seqK_n, seqK_e, atK_e, loopK_e, ckB_b, cbB_b, true_and, retK_r, x_nil, x_mv, x_as, x_bin, kx, rvP_ok, okv_some, ev_t, ev_c, getV_some, putD_some, bin_gtr, oGet_s, readRs_nil, readRs_t, retV_1, of0, Option.some.injEq, exists_eq_left', getK_set, Nat.reduceEqDiff, ↓reduceIte, Bool.false_eq_true, g0, g3, g4, hsh, hz, Int.natCast_zero, Int.lt_irrefl, decide_false]
      exact ⟨rfl, trivial⟩
    · have hz' : (0 : Int) < ((m / 2 ^ i : Nat) : Int) := Int.ofNat_lt.2 (Nat.pos_of_ne_zero hz)
      have hi63 : i < 63 := by
        rcases Nat.lt_or_ge i 63 with h | h
        · exact h
        · exfalso
          obtain rfl : i = 63 := by omega
          apply hz
          exact Nat.div_eq_of_lt (by omega)
      have hrem : ((m / 2 ^ i : Nat) : Int).tmod 2 = ((m / 2 ^ i % 2 : Nat) : Int) := rfl
      have hadd : ((s : Nat) : Int) + ((m / 2 ^ i % 2 : Nat) : Int) = ((s + m / 2 ^ i % 2 : Nat) : Int) := by omega
      simp (disch := omega) only [f52_r3, f52_r4, f52_r5, w_skip, w_reg, w_seq, w_cond, w_block, seqK_n, atK_n, loopK_n, ckB_b, cbB_b, true_and, x_nil, x_mv, x_as, x_bin, kx, rvP_ok, okv_some, ev_t, ev_c, getV_some, putD_some, bin_add, bin_gtr, bin_rem, of0, of1, of2, getK_set, Nat.reduceEqDiff, ↓reduceIte, g0, g3, g4, hsh, hz', decide_true, hrem, hadd, fw64]
      refine ⟨i + 1, by omega, s + m / 2 ^ i % 2, rfl, by omega, by omega, ?_, by simp (disch := omega) only [getK_set, Nat.reduceEqDiff, ↓reduceIte, g0, and_self, Int.natCast_add, Int.natCast_one]⟩
      rw [← hT, show 64 - i = (63 - i) + 1 by omega, show 64 - (i + 1) = 63 - i by omega]
      rw [sizL, if_neg hz, Nat.pow_succ, ← Nat.div_div_eq_div_mul]
      omega
end
end Go.Ev
namespace Go.Ev
open Go Go.RowKit
noncomputable def f43_r0 : List EOper := [⟨(some (K.ofNat 3)), none, .box 2 (.t (K.ofNat 1))⟩, ⟨(some (K.ofNat 4)), none, .as (.c .sn)⟩, ⟨(some (K.ofNat 5)), none, .as (.c (.b false))⟩]
noncomputable def f43_r1 : List Stage := [⟨[⟨(some (K.ofNat 12)), none, .iadr 2 1 (.t (K.ofNat 3)) (.c (.i .i64 (.ofNat 0)))⟩, ⟨(some (K.ofNat 13)), none, .ld (.t (K.ofNat 12))⟩, ⟨(some (K.ofNat 14)), none, .iadr 2 1 (.t (K.ofNat 3)) (.c (.i .i64 (.ofNat 1)))⟩, ⟨(some (K.ofNat 15)), none, .ld (.t (K.ofNat 14))⟩], [], (some ⟨(some (K.ofNat 6)), none, .as (.t (K.ofNat 13))⟩), []⟩, ⟨[], [⟨(some (K.ofNat 14)), none, .iadr 2 1 (.t (K.ofNat 3)) (.c (.i .i64 (.ofNat 1)))⟩, ⟨(some (K.ofNat 15)), none, .ld (.t (K.ofNat 14))⟩], (some ⟨(some (K.ofNat 7)), none, .as (.t (K.ofNat 15))⟩), []⟩, ⟨[], [], none, []⟩]
noncomputable def f43_r2 : List EOper := [⟨(some (K.ofNat 16)), none, .mv (.t (K.ofNat 6))⟩, ⟨(some (K.ofNat 17)), none, .bin .leq (.t (K.ofNat 16)) (.c (.i .i64 (.ofNat 0)))⟩, ⟨(some (K.ofNat 18)), none, .mv (.t (K.ofNat 17))⟩, ⟨(some (K.ofNat 19)), (some ((K.ofNat 18), false)), .mv (.t (K.ofNat 6))⟩, ⟨(some (K.ofNat 20)), (some ((K.ofNat 18), false)), .mv (.t (K.ofNat 7))⟩, ⟨(some (K.ofNat 21)), (some ((K.ofNat 18), false)), .call (.c (.fn (K.ofNat 53) [])) [(.t (K.ofNat 19)), (.t (K.ofNat 20))]⟩, ⟨(some (K.ofNat 22)), (some ((K.ofNat 18), false)), .not (.t (K.ofNat 21))⟩, ⟨(some (K.ofNat 23)), none, .pick (.t (K.ofNat 18)) (.c (.b true)) (.t (K.ofNat 22))⟩, ⟨(some (K.ofNat 24)), none, .mv (.t (K.ofNat 23))⟩, ⟨(some (K.ofNat 25)), (some ((K.ofNat 24), false)), .mv (.t (K.ofNat 7))⟩, ⟨(some (K.ofNat 26)), (some ((K.ofNat 24), false)), .call (.c (.fn (K.ofNat 52) [])) [(.t (K.ofNat 25))]⟩, ⟨(some (K.ofNat 27)), (some ((K.ofNat 24), false)), .mv (.t (K.ofNat 6))⟩, ⟨(some (K.ofNat 28)), (some ((K.ofNat 24), false)), .call (.c (.fn (K.ofNat 52) [])) [(.t (K.ofNat 27))]⟩, ⟨(some (K.ofNat 29)), (some ((K.ofNat 24), false)), .bin .add (.t (K.ofNat 28)) (.c (.i .i64 (.ofNat 1)))⟩, ⟨(some (K.ofNat 30)), (some ((K.ofNat 24), false)), .bin .neq (.t (K.ofNat 26)) (.t (K.ofNat 29))⟩, ⟨(some (K.ofNat 31)), none, .pick (.t (K.ofNat 24)) (.c (.b true)) (.t (K.ofNat 30))⟩]
noncomputable def f43_r3 : List EOper := [⟨(some (K.ofNat 4)), none, .as (.c .sn)⟩, ⟨(some (K.ofNat 5)), none, .as (.c (.b false))⟩]
noncomputable def f43_r4 : List EOper := [⟨(some (K.ofNat 8)), none, .as (.c .sn)⟩]
noncomputable def f43_r5 : List EOper := [⟨(some (K.ofNat 9)), none, .as (.c (.i .i64 (.ofNat 0)))⟩]
noncomputable def f43_r6 : List EOper := [⟨(some (K.ofNat 10)), none, .as (.c (.i .i64 (.ofNat 0)))⟩]
noncomputable def f43_r7 : List EOper := [⟨(some (K.ofNat 32)), none, .mv (.t (K.ofNat 10))⟩, ⟨(some (K.ofNat 33)), none, .mv (.t (K.ofNat 0))⟩, ⟨(some (K.ofNat 34)), none, .len (.t (K.ofNat 33))⟩, ⟨(some (K.ofNat 35)), none, .bin .lss (.t (K.ofNat 32)) (.t (K.ofNat 34))⟩]
noncomputable def f43_r8 : List EOper := [⟨(some (K.ofNat 38)), none, .mv (.t (K.ofNat 0))⟩, ⟨(some (K.ofNat 39)), none, .mv (.t (K.ofNat 10))⟩, ⟨(some (K.ofNat 40)), none, .iads 1 (.t (K.ofNat 38)) (.t (K.ofNat 39))⟩, ⟨(some (K.ofNat 41)), none, .ld (.t (K.ofNat 40))⟩, ⟨(some (K.ofNat 11)), none, .as (.t (K.ofNat 41))⟩]
noncomputable def f43_r9 : List EOper := [⟨(some (K.ofNat 42)), none, .mv (.t (K.ofNat 11))⟩, ⟨(some (K.ofNat 43)), none, .mv (.t (K.ofNat 6))⟩, ⟨(some (K.ofNat 44)), none, .bin .eql (.t (K.ofNat 42)) (.t (K.ofNat 43))⟩, ⟨(some (K.ofNat 45)), none, .mv (.t (K.ofNat 44))⟩, ⟨(some (K.ofNat 46)), (some ((K.ofNat 45), false)), .mv (.t (K.ofNat 11))⟩, ⟨(some (K.ofNat 47)), (some ((K.ofNat 45), false)), .mv (.t (K.ofNat 7))⟩, ⟨(some (K.ofNat 48)), (some ((K.ofNat 45), false)), .bin .eql (.t (K.ofNat 46)) (.t (K.ofNat 47))⟩, ⟨(some (K.ofNat 49)), none, .pick (.t (K.ofNat 45)) (.c (.b true)) (.t (K.ofNat 48))⟩]
noncomputable def f43_r10 : List EOper := [⟨(some (K.ofNat 50)), none, .mv (.t (K.ofNat 9))⟩, ⟨(some (K.ofNat 51)), none, .bin .add (.t (K.ofNat 50)) (.c (.i .i64 (.ofNat 1)))⟩, ⟨(some (K.ofNat 9)), none, .as (.t (K.ofNat 51))⟩]
noncomputable def f43_r11 : List EOper := [⟨(some (K.ofNat 52)), none, .mv (.t (K.ofNat 6))⟩, ⟨(some (K.ofNat 53)), none, .mv (.t (K.ofNat 11))⟩, ⟨(some (K.ofNat 54)), none, .call (.c (.fn (K.ofNat 53) [])) [(.t (K.ofNat 52)), (.t (K.ofNat 53))]⟩]
noncomputable def f43_r12 : List EOper := [⟨(some (K.ofNat 4)), none, .as (.c .sn)⟩, ⟨(some (K.ofNat 5)), none, .as (.c (.b false))⟩]
noncomputable def f43_r13 : List EOper := [⟨(some (K.ofNat 55)), none, .mv (.t (K.ofNat 8))⟩, ⟨(some (K.ofNat 56)), none, .mv (.t (K.ofNat 11))⟩, ⟨(some (K.ofNat 57)), none, .bslice 1 1 [(.i .i64 (.ofNat 0))] [(0, 1, (.t (K.ofNat 56)))]⟩, ⟨(some (K.ofNat 58)), none, .app 1 (.t (K.ofNat 55)) (.t (K.ofNat 57))⟩, ⟨(some (K.ofNat 8)), none, .as (.t (K.ofNat 58))⟩]
noncomputable def f43_r14 : List EOper := [⟨(some (K.ofNat 36)), none, .mv (.t (K.ofNat 10))⟩, ⟨(some (K.ofNat 37)), none, .bin .add (.t (K.ofNat 36)) (.c (.i .i64 (.ofNat 1)))⟩, ⟨(some (K.ofNat 10)), none, .as (.t (K.ofNat 37))⟩]
noncomputable def f43_l0 : EC := (.seq (.seq (.reg f43_r7) (.cond (.t (K.ofNat 35)) .skip (.exit 0))) (.seq (.block 1 (.seq (.reg f43_r8) (.seq (.seq (.reg f43_r9) (.cond (.t (K.ofNat 49)) (.seq (.reg f43_r10) (.exit 1)) .skip)) (.seq (.seq (.reg f43_r11) (.cond (.t (K.ofNat 54)) (.seq (.reg f43_r12) .ret) .skip)) (.reg f43_r13))))) (.reg f43_r14)))
noncomputable def f43_r15 : List EOper := [⟨(some (K.ofNat 59)), none, .mv (.t (K.ofNat 8))⟩, ⟨(some (K.ofNat 60)), none, .mv (.t (K.ofNat 9))⟩, ⟨(some (K.ofNat 61)), none, .bin .eql (.t (K.ofNat 60)) (.c (.i .i64 (.ofNat 2)))⟩, ⟨(some (K.ofNat 4)), none, .as (.t (K.ofNat 59))⟩, ⟨(some (K.ofNat 5)), none, .as (.t (K.ofNat 61))⟩]
noncomputable def f43_c : EC := (.seq (.reg f43_r0) (.seq (.draw f43_r1) (.seq (.seq (.reg f43_r2) (.cond (.t (K.ofNat 31)) (.seq (.reg f43_r3) .ret) .skip)) (.seq (.reg f43_r4) (.seq (.reg f43_r5) (.seq (.seq (.reg f43_r6) (.block 0 (.loop f43_l0))) (.seq (.reg f43_r15) .ret)))))))
noncomputable def f43 : EF := ⟨62, [.tmp (K.ofNat 4), .tmp (K.ofNat 5)], f43_c, none⟩
theorem f43_rs : f43.rs = [.tmp (K.ofNat 4), .tmp (K.ofNat 5)] := of_eq_true (eq_self _)
noncomputable def f41_r0 : List EOper := [⟨(some (K.ofNat 4)), none, .as (.c .sn)⟩, ⟨(some (K.ofNat 5)), none, .as (.c (.b false))⟩]
noncomputable def f41_r1 : List EOper := [⟨(some (K.ofNat 6)), none, .as (.c (.i .i64 (.ofNat 0)))⟩]
noncomputable def f41_r2 : List EOper := [⟨(some (K.ofNat 9)), none, .mv (.t (K.ofNat 6))⟩, ⟨(some (K.ofNat 10)), none, .mv (.t (K.ofNat 1))⟩, ⟨(some (K.ofNat 11)), none, .len (.t (K.ofNat 10))⟩, ⟨(some (K.ofNat 12)), none, .bin .lss (.t (K.ofNat 9)) (.t (K.ofNat 11))⟩]
noncomputable def f41_r3 : List EOper := [⟨(some (K.ofNat 16)), none, .mv (.t (K.ofNat 0))⟩, ⟨(some (K.ofNat 17)), none, .mv (.t (K.ofNat 1))⟩, ⟨(some (K.ofNat 18)), none, .mv (.t (K.ofNat 6))⟩, ⟨(some (K.ofNat 19)), none, .iads 2 (.t (K.ofNat 17)) (.t (K.ofNat 18))⟩, ⟨(some (K.ofNat 20)), none, .ldn 2 (.t (K.ofNat 19))⟩, ⟨(some (K.ofNat 21)), none, .call (.c (.fn (K.ofNat 43) [])) [(.t (K.ofNat 16)), (.t (K.ofNat 20))]⟩, ⟨(some (K.ofNat 15)), none, .mv (.t (K.ofNat 21))⟩, ⟨(some (K.ofNat 22)), none, .ext (.t (K.ofNat 15)) 0⟩, ⟨(some (K.ofNat 23)), none, .ext (.t (K.ofNat 15)) 1⟩, ⟨(some (K.ofNat 7)), none, .as (.t (K.ofNat 22))⟩, ⟨(some (K.ofNat 8)), none, .as (.t (K.ofNat 23))⟩]
noncomputable def f41_r4 : List EOper := [⟨(some (K.ofNat 24)), none, .mv (.t (K.ofNat 8))⟩, ⟨(some (K.ofNat 25)), none, .not (.t (K.ofNat 24))⟩]
noncomputable def f41_r5 : List EOper := [⟨(some (K.ofNat 4)), none, .as (.c .sn)⟩, ⟨(some (K.ofNat 5)), none, .as (.c (.b false))⟩]
noncomputable def f41_r6 : List EOper := [⟨(some (K.ofNat 26)), none, .mv (.t (K.ofNat 7))⟩, ⟨(some (K.ofNat 0)), none, .as (.t (K.ofNat 26))⟩]
noncomputable def f41_r7 : List EOper := [⟨(some (K.ofNat 13)), none, .mv (.t (K.ofNat 6))⟩, ⟨(some (K.ofNat 14)), none, .bin .add (.t (K.ofNat 13)) (.c (.i .i64 (.ofNat 1)))⟩, ⟨(some (K.ofNat 6)), none, .as (.t (K.ofNat 14))⟩]
noncomputable def f41_l0 : EC := (.seq (.seq (.reg f41_r2) (.cond (.t (K.ofNat 12)) .skip (.exit 0))) (.seq (.block 1 (.seq (.reg f41_r3) (.seq (.seq (.reg f41_r4) (.cond (.t (K.ofNat 25)) (.seq (.reg f41_r5) .ret) .skip)) (.reg f41_r6)))) (.reg f41_r7)))
noncomputable def f41_r8 : List EOper := [⟨(some (K.ofNat 27)), none, .mv (.t (K.ofNat 0))⟩, ⟨(some (K.ofNat 4)), none, .as (.t (K.ofNat 27))⟩, ⟨(some (K.ofNat 5)), none, .as (.c (.b true))⟩]
noncomputable def f41_c : EC := (.seq (.reg f41_r0) (.seq (.seq (.reg f41_r1) (.block 0 (.loop f41_l0))) (.seq (.reg f41_r8) .ret)))
noncomputable def f41 : EF := ⟨28, [.tmp (K.ofNat 4), .tmp (K.ofNat 5)], f41_c, none⟩
theorem f41_rs : f41.rs = [.tmp (K.ofNat 4), .tmp (K.ofNat 5)] := of_eq_true (eq_self _)
noncomputable def f42_r0 : List EOper := [⟨(some (K.ofNat 2)), none, .as (.c (.b false))⟩]
noncomputable def f42_r1 : List EOper := [⟨(some (K.ofNat 3)), none, .mv (.t (K.ofNat 0))⟩, ⟨(some (K.ofNat 4)), none, .len (.t (K.ofNat 3))⟩, ⟨(some (K.ofNat 5)), none, .bin .eql (.t (K.ofNat 4)) (.c (.i .i64 (.ofNat 2)))⟩, ⟨(some (K.ofNat 6)), none, .mv (.t (K.ofNat 5))⟩, ⟨(some (K.ofNat 7)), (some ((K.ofNat 6), true)), .mv (.t (K.ofNat 0))⟩, ⟨(some (K.ofNat 8)), (some ((K.ofNat 6), true)), .iads 1 (.t (K.ofNat 7)) (.c (.i .i64 (.ofNat 0)))⟩, ⟨(some (K.ofNat 9)), (some ((K.ofNat 6), true)), .ld (.t (K.ofNat 8))⟩, ⟨(some (K.ofNat 10)), (some ((K.ofNat 6), true)), .bin .eql (.t (K.ofNat 9)) (.c (.i .i64 (.ofNat 0)))⟩, ⟨(some (K.ofNat 11)), none, .pick (.t (K.ofNat 6)) (.t (K.ofNat 10)) (.c (.b false))⟩, ⟨(some (K.ofNat 12)), none, .mv (.t (K.ofNat 11))⟩, ⟨(some (K.ofNat 13)), (some ((K.ofNat 12), true)), .mv (.t (K.ofNat 0))⟩, ⟨(some (K.ofNat 14)), (some ((K.ofNat 12), true)), .iads 1 (.t (K.ofNat 13)) (.c (.i .i64 (.ofNat 1)))⟩, ⟨(some (K.ofNat 15)), (some ((K.ofNat 12), true)), .ld (.t (K.ofNat 14))⟩, ⟨(some (K.ofNat 16)), (some ((K.ofNat 12), true)), .call (.c (.fn (K.ofNat 52) [])) [(.t (K.ofNat 15))]⟩, ⟨(some (K.ofNat 17)), (some ((K.ofNat 12), true)), .bin .eql (.t (K.ofNat 16)) (.c (.i .i64 (.ofNat 1)))⟩, ⟨(some (K.ofNat 18)), none, .pick (.t (K.ofNat 12)) (.t (K.ofNat 17)) (.c (.b false))⟩, ⟨(some (K.ofNat 2)), none, .as (.t (K.ofNat 18))⟩]
noncomputable def f42_c : EC := (.seq (.reg f42_r0) (.seq (.reg f42_r1) .ret))
noncomputable def f42 : EF := ⟨19, [.tmp (K.ofNat 2)], f42_c, none⟩
theorem f42_rs : f42.rs = [.tmp (K.ofNat 2)] := of_eq_true (eq_self _)
section
variable {fs : T EF} {ro : Option K}
theorem stay_iadr {fr : Fr} {h : H} {x y : EO} {k : K} {n sz : Nat} : (stays fs goNo fr h ⟨some k, none, .iadr n sz x y⟩ = true) = again ((ev fr x).onP fun id off => idxV (ev fr y) n fun m => .ok (.p id (off + m * sz)) h) (getV (fr.get k)) := chk_again
noncomputable def inFE (f e x : Int) : Bool := decide (x = f) || decide (x = e)
noncomputable def badFE (f e x : Int) : Bool := !inFE f e x && ptI f x
/-- The reference's Collapse. -/
noncomputable def colR (F : List Int) (f e : Int) : Option (List Int) :=
  if f ≤ 0 ∨ ptI f e = false ∨ sizZ e ≠ sizZ f + 1 then none
  else if F.any (badFE f e) = true then none
  else if (F.filter (inFE f e)).length = 2 then some (F.filter fun x => !inFE f e x) else none
def f43_I (h : H) (v : V) (F : List Int) (f e : Int) (i : Nat) (fr : Fr) (h1 : H) : Prop := ∃ o, i ≤ F.length ∧ (F.take i).any (badFE f e) = false ∧ Sl iE h1 o ((F.take i).filter fun x => !inFE f e x) ∧ Own h.nx.nat o ∧ Grow h.nx.nat h h1 ∧ fr.get (K.ofNat 0) = some (v) ∧ fr.get (K.ofNat 6) = some (.i .i64 f) ∧ fr.get (K.ofNat 7) = some (.i .i64 e) ∧ fr.get (K.ofNat 8) = some (o) ∧ fr.get (K.ofNat 9) = some (.i .i64 (((F.take i).filter (inFE f e)).length : Int)) ∧ fr.get (K.ofNat 10) = some (.i .i64 (i : Int))
theorem f43_ret {h : H} {v : V} {F : List Int} {f e : Int} (hp53 : ∀ a b h P, CallP fs (.fn (K.ofNat 53) []) [.i .i64 a, .i .i64 b] h P = P (.b (ptI a b)) h) (hp52 : ∀ a, inR .i64 a = true → ∀ h P, CallP fs (.fn (K.ofNat 52) []) [.i .i64 a] h P = P (.i .i64 (sizZ a : Int)) h)
    (hv : Sl iE h v F) (hF : F.length ≤ 1000) (hf : inR .i64 f = true) (he : inR .i64 e = true) (hc : HC h) :
    Ret fs f43 [v, .agg [.i .i64 f, .i .i64 e]] h fun r h' => ∃ u, r = .tup [u, .b (colR F f e).isSome] ∧ (∀ rest, colR F f e = some rest → Sl iE h' u rest ∧ Own h.nx.nat u) ∧ Grow h.nx.nat h h' := by
  apply ret_of rfl
  show W fs none f43_c _ _ _
  unfold f43_c
  have g1 : Grow h.nx.nat h (h.new (.cells 2 [.i .i64 f, .i .i64 e])) := Grow.new (Nat.le_refl _) _
  have e1 : (h.new (.cells 2 [.i .i64 f, .i .i64 e])).get h.nx = .cells 2 [.i .i64 f, .i .i64 e] := get_new_same
  have hc1 := g1.hc hc
  have hv1 := hv.grow hc g1
  simp (disch := omega) only [f43_r0, w_reg, w_draw, w_seq, seqK_n, x_nil, x_as, x_box, kx, rvP_ok, ev_t, ev_c, getV_some, putD_some, oGet_s, frame_2, getK_set, ↓reduceIte, cells2]
  generalize h.new (.cells 2 [.i .i64 f, .i .i64 e]) = h1 at *
  have l0 : loadV h1 (.p h.nx (0 + 0 * 1)) one? = .ok (.i .i64 f) h1 := load_p e1 rfl
  have l1 : loadV h1 (.p h.nx (0 + 1 * 1)) one? = .ok (.i .i64 e) h1 := load_p e1 rfl
  have ix0 : ∀ ff : Nat → RV, idxV (.i .i64 0) 2 ff = ff 0 := fun ff => idx_n (m := 0) (by omega)
  have ix1 : ∀ ff : Nat → RV, idxV (.i .i64 1) 2 ff = ff 1 := fun ff => idx_n (m := 1) (by omega)
  simp (disch := omega) only [f43_r1, w_reg, w_seq, seqK_n, true_and, x_nil, x_as, kg, xg_nil, xg_ld, xg_iadr, xd_cons, fresh_nil, stK_n, stK_s, stay_nil, stay_cons, again_ok, beq_i, stay_ld, beq_p, rvP_ok, ev_t, ev_c, getV_some, putD_some, onP_p, of0, of1, getK_set, Nat.reduceEqDiff, ↓reduceIte, l0, l1, ix0, ix1, stay_iadr, beq_p, beq_i, and_self]
  have hsf : sizZ f ≤ 64 := by
    unfold sizZ
    split
    · exact sizL_le _ _
    · omega
  have hadd : fw .i64 ((sizZ f : Int) + 1) = ((sizZ f + 1 : Nat) : Int) := by rw [fw64 (by omega) (by omega)]; omega
  by_cases b1 : f ≤ 0
  · rw [show colR F f e = none by unfold colR; rw [if_pos (.inl b1)]]
    simp (disch := omega) only [f43_r2, f43_r3, f43_rs, w_reg, w_seq, w_cond, w_ret, seqK_n, seqK_r, ckB_b, cbB_b, okG_b, asG_f, true_and, retK_r, x_nil, x_g, x_mv, x_as, x_pick, x_bin, kx, rvP_ok, okv_some, ev_t, ev_c, getV_some, putD_some, bin_leq, pick_b, oGet_s, readRs_nil, readRs_t, retV_2, of0, of1, Option.some.injEq, exists_eq_left', getK_set, Nat.reduceEqDiff, ↓reduceIte, Bool.false_eq_true, Bool.not_true, b1, decide_true]
    exact ⟨.sn, rfl, fun _ h => (by cases h), g1⟩
  cases b2 : ptI f e
  · rw [show colR F f e = none by unfold colR; rw [if_pos (.inr (.inl b2))]]
    simp (disch := omega) only [f43_r2, f43_r3, f43_rs, w_reg, w_seq, w_cond, w_ret, seqK_n, seqK_r, ckB_b, cbB_b, okG_b, asG_f, true_and, retK_r, x_nil, x_g, x_mv, x_as, x_pick, x_bin, x_not, x_call, kx, rvP_ok, okv_some, ev_t, ev_c, evs_nil, evs_cons, getV_some, putD_some, bin_leq, pick_b, onB_b, oGet_s, readRs_nil, readRs_t, retV_2, of0, of1, Option.some.injEq, exists_eq_left', getK_set, Nat.reduceEqDiff, ↓reduceIte, Bool.false_eq_true, Bool.not_true, Bool.not_false, b1, decide_false, hp53, b2]
    exact ⟨.sn, rfl, fun _ h => (by cases h), g1⟩
  by_cases b3 : sizZ e = sizZ f + 1
  · have b3' : ¬ ((sizZ e : Nat) : Int) ≠ ((sizZ f + 1 : Nat) : Int) := fun h => h (by rw [b3])
    have hcol : colR F f e = if F.any (badFE f e) = true then none else if (F.filter (inFE f e)).length = 2 then some (F.filter fun x => !inFE f e x) else none := by
      unfold colR
      rw [if_neg]
      rintro (h | h | h)
      · exact b1 h
      · rw [b2] at h; cases h
      · exact h b3
    simp (disch := omega) only [f43_r2, f43_r4, f43_r5, f43_r6, w_skip, w_reg, w_seq, w_cond, w_block, seqK_n, ckB_b, cbB_b, okG_b, asG_f, true_and, x_nil, x_g, x_mv, x_as, x_pick, x_bin, x_not, x_call, kx, rvP_ok, okv_some, ev_t, ev_c, evs_nil, evs_cons, getV_some, putD_some, bin_add, bin_neq, bin_leq, pick_b, onB_b, of0, of1, getK_set, Nat.reduceEqDiff, ↓reduceIte, Bool.false_eq_true, Bool.not_true, Bool.not_false, b1, decide_false, hp53, b2, hp52 _ hf, hp52 _ he, hadd, b3']
    refine W_loop (f43_I h v F f e) (fun i => F.length - i) ?_ 0 ⟨.sn, Nat.zero_le _, by simp, by simp only [List.take_zero, List.filter_nil]; exact Sl.nil, Own.sn, g1, by simp (disch := omega) only [getK_set, Nat.reduceEqDiff, ↓reduceIte, List.take_zero, List.filter_nil, List.length_nil, and_self, Int.natCast_zero]⟩
    clear hv1 hc1 e1 l0 l1 g1 h1
    rintro i fr h1 ⟨o, hi, hal, hso, hoo, gr, g0, g6, g7, g8, g9, g10⟩
    have hc1 := gr.hc hc
    have hv1 := hv.grow hc gr
    unfold f43_l0
    by_cases hlt : i < F.length
    · have hlt' : (i : Int) < (F.length : Int) := by omega
      obtain ⟨p, hp1, hp2⟩ := hv1.at i hlt
      have hs : (F.take (i + 1)).any (badFE f e) = badFE f e F[i] := by rw [List.take_succ_eq_append_getElem hlt, List.any_append, hal]; simp
      have hf1 : ∀ q : Int → Bool, (F.take (i + 1)).filter q = (F.take i).filter q ++ if q F[i] = true then [F[i]] else [] := fun q => by
        rw [List.take_succ_eq_append_getElem hlt, List.filter_append]
        cases hq : q F[i] <;> simp [hq]
      have hfl : ((F.take i).filter (inFE f e)).length ≤ 1000 := Nat.le_trans (List.length_filter_le _ _) (by rw [List.length_take]; omega)
      have hfl2 : ((F.take i).filter fun x => !inFE f e x).length ≤ 1000 := Nat.le_trans (List.length_filter_le _ _) (by rw [List.length_take]; omega)
      have hmem := List.getElem_mem hlt
      generalize F[i] = x at *
      have hin : inFE f e x = (decide (x = f) || decide (x = e)) := rfl
      -- one of the two
      have two : inFE f e x = true → (F.take (i + 1)).any (badFE f e) = false ∧ (F.take (i + 1)).filter (fun x => !inFE f e x) = (F.take i).filter (fun x => !inFE f e x) ∧ ((F.take (i + 1)).filter (inFE f e)).length = ((F.take i).filter (inFE f e)).length + 1 := fun h => by
        refine ⟨by rw [hs]; unfold badFE; rw [h]; rfl, by rw [hf1]; simp [h], by rw [hf1]; simp [h]⟩
      by_cases c1 : x = f
      · obtain ⟨w1, w2, w3⟩ := two (by rw [hin, decide_eq_true c1]; rfl)
        have cf := decide_eq_true c1
        simp (disch := omega) only [f43_r7, f43_r8, f43_r9, f43_r10, f43_r14, w_skip, w_reg, w_seq, w_cond, w_block, w_exit, seqK_n, seqK_e, atK_e, loopK_n, ckB_b, cbB_b, okG_b, asG_f, true_and, x_nil, x_g, x_mv, x_as, x_pick, x_ld, x_bin, x_iads, x_len, kx, rvP_ok, okv_some, ev_t, ev_c, getV_some, putD_some, bin_add, bin_eql, bin_lss, pick_b, of1, getK_set, Nat.reduceEqDiff, ↓reduceIte, Bool.false_eq_true, Bool.not_true, g0, g6, g9, g10, hv1.len, hlt', decide_true, hp1, hp2, iE, cf, fw64]
        exact ⟨i + 1, by omega, o, hlt, w1, by rw [w2]; exact hso, hoo, gr, by rw [w3]; simp (disch := omega) only [getK_set, Nat.reduceEqDiff, ↓reduceIte, g0, g6, g7, g8, and_self, Int.natCast_add, Int.natCast_one]⟩
      · by_cases c2 : x = e
        · obtain ⟨w1, w2, w3⟩ := two (by rw [hin, decide_eq_true c2, Bool.or_true])
          have cf := decide_eq_false c1
          have ce := decide_eq_true c2
          simp (disch := omega) only [f43_r7, f43_r8, f43_r9, f43_r10, f43_r14, w_skip, w_reg, w_seq, w_cond, w_block, w_exit, seqK_n, seqK_e, atK_e, loopK_n, ckB_b, cbB_b, okG_b, asG_f, true_and, x_nil, x_g, x_mv, x_as, x_pick, x_ld, x_bin, x_iads, x_len, kx, rvP_ok, okv_some, ev_t, ev_c, getV_some, putD_some, bin_add, bin_eql, bin_lss, pick_b, of1, getK_set, Nat.reduceEqDiff, ↓reduceIte, Bool.false_eq_true, Bool.not_false, g0, g6, g7, g9, g10, hv1.len, hlt', decide_true, hp1, hp2, iE, cf, ce, fw64]
          exact ⟨i + 1, by omega, o, hlt, w1, by rw [w2]; exact hso, hoo, gr, by rw [w3]; simp (disch := omega) only [getK_set, Nat.reduceEqDiff, ↓reduceIte, g0, g6, g7, g8, and_self, Int.natCast_add, Int.natCast_one]⟩
        · have hif : inFE f e x = false := by rw [hin, decide_eq_false c1, decide_eq_false c2]; rfl
          cases c3 : ptI f x
          · obtain ⟨v', h', q1, q2, q3, q4, q5⟩ := Sl.push (e := iE) (x := x) (c := .i .i64 x) rfl hso hoo gr.nx hc1 (by omega)
            simp (disch := omega) only [f43_r7, f43_r8, f43_r9, f43_r11, f43_r13, f43_r14, w_skip, w_reg, w_seq, w_cond, w_block, seqK_n, atK_n, loopK_n, ckB_b, cbB_b, okG_b, asG_f, true_and, x_nil, x_g, x_mv, x_as, x_pick, x_bslice, x_ld, x_bin, x_iads, x_call, x_len, x_app, kx, rvP_ok, okv_some, ev_t, ev_c, evs_nil, evs_cons, getV_some, putD_some, bin_add, bin_eql, bin_lss, pick_b, oGet_s, cells1_i, fill_1, set_1, of0, of1, getK_set, Nat.reduceEqDiff, ↓reduceIte, Bool.false_eq_true, Bool.not_false, g0, g6, g7, g8, g10, hv1.len, hlt', decide_true, decide_false, hp1, hp2, iE, c1, c2, hp53, c3, q1, fw64]
            refine ⟨i + 1, by omega, v', hlt, by rw [hs]; unfold badFE; rw [hif, c3]; rfl, by rw [hf1]; simpa [hif] using q2, q3, gr.trans q4, ?_⟩
            rw [show ((F.take (i + 1)).filter (inFE f e)).length = ((F.take i).filter (inFE f e)).length by rw [hf1]; simp [hif]]
            simp (disch := omega) only [getK_set, Nat.reduceEqDiff, ↓reduceIte, g0, g6, g7, g9, and_self, Int.natCast_add, Int.natCast_one]
          · have hb : badFE f e x = true := by unfold badFE; rw [hif, c3]; rfl
            rw [hcol, if_pos (List.any_eq_true.2 ⟨x, hmem, hb⟩)]
            simp (disch := omega) only [f43_r7, f43_r8, f43_r9, f43_r11, f43_r12, f43_rs, w_skip, w_reg, w_seq, w_cond, w_block, w_ret, seqK_n, seqK_r, atK_r, loopK_r, ckB_b, cbB_b, okG_b, asG_f, true_and, retK_r, x_nil, x_g, x_mv, x_as, x_pick, x_ld, x_bin, x_iads, x_call, x_len, kx, rvP_ok, okv_some, ev_t, ev_c, evs_nil, evs_cons, getV_some, putD_some, bin_eql, bin_lss, pick_b, oGet_s, readRs_nil, readRs_t, retV_2, Option.some.injEq, exists_eq_left', getK_set, Nat.reduceEqDiff, ↓reduceIte, Bool.false_eq_true, Bool.not_false, g0, g6, g7, g10, hv1.len, hlt', decide_true, decide_false, hp1, hp2, iE, c1, c2, hp53, c3]
            exact ⟨.sn, rfl, fun _ h => (by cases h), gr⟩
    · obtain rfl : i = F.length := by omega
      rw [List.take_length] at hal hso g9
      rw [hcol, if_neg (by rw [hal]; simp)]
      by_cases c4 : (F.filter (inFE f e)).length = 2
      · have c4' : (((F.filter (inFE f e)).length : Nat) : Int) = 2 := by omega
        rw [if_pos c4]
        simp (disch := omega) only [f43_r7, f43_r15, f43_rs, w_reg, w_seq, w_cond, w_exit, w_ret, seqK_n, seqK_e, atK_e, loopK_e, ckB_b, cbB_b, true_and, retK_r, x_nil, x_mv, x_as, x_bin, x_len, kx, rvP_ok, okv_some, ev_t, ev_c, getV_some, putD_some, bin_eql, bin_lss, oGet_s, readRs_nil, readRs_t, retV_2, of2, Option.some.injEq, exists_eq_left', getK_set, Nat.reduceEqDiff, ↓reduceIte, Bool.false_eq_true, g0, g8, g9, g10, hv1.len, Int.lt_irrefl, decide_false, c4', decide_true]
        exact ⟨o, rfl, fun _ h => (by cases h; exact ⟨hso, hoo⟩), gr⟩
      · have c4' : ¬ (((F.filter (inFE f e)).length : Nat) : Int) = 2 := by omega
        rw [if_neg c4]
        simp (disch := omega) only [f43_r7, f43_r15, f43_rs, w_reg, w_seq, w_cond, w_exit, w_ret, seqK_n, seqK_e, atK_e, loopK_e, ckB_b, cbB_b, true_and, retK_r, x_nil, x_mv, x_as, x_bin, x_len, kx, rvP_ok, okv_some, ev_t, ev_c, getV_some, putD_some, bin_eql, bin_lss, oGet_s, readRs_nil, readRs_t, retV_2, of2, Option.some.injEq, exists_eq_left', getK_set, Nat.reduceEqDiff, ↓reduceIte, Bool.false_eq_true, g0, g8, g9, g10, hv1.len, Int.lt_irrefl, decide_false, c4']
        exact ⟨o, rfl, fun _ h => (by cases h), gr⟩
  · have b3' : ((sizZ e : Nat) : Int) ≠ ((sizZ f + 1 : Nat) : Int) := by omega
    have b3'' : ¬ ((sizZ e : Nat) : Int) = ((sizZ f + 1 : Nat) : Int) := by omega
    rw [show colR F f e = none by unfold colR; rw [if_pos (.inr (.inr b3))]]
    simp (disch := omega) only [f43_r2, f43_r3, f43_rs, w_reg, w_seq, w_cond, w_ret, seqK_n, seqK_r, ckB_b, cbB_b, okG_b, asG_f, true_and, retK_r, x_nil, x_g, x_mv, x_as, x_pick, x_bin, x_not, x_call, kx, rvP_ok, okv_some, ev_t, ev_c, evs_nil, evs_cons, getV_some, putD_some, bin_add, bin_neq, bin_leq, pick_b, onB_b, oGet_s, readRs_nil, readRs_t, retV_2, of0, of1, Option.some.injEq, exists_eq_left', getK_set, Nat.reduceEqDiff, ↓reduceIte, Bool.false_eq_true, Bool.not_true, Bool.not_false, b1, decide_false, hp53, b2, hp52 _ hf, hp52 _ he, hadd, ne_eq, b3'', not_false_eq_true, decide_true]
    exact ⟨.sn, rfl, fun _ h => (by cases h), g1⟩
end
end Go.Ev
namespace Go.Ev
open Go Go.RowKit
section
variable {fs : T EF} {ro : Option K}
noncomputable def lftR : List Int → List (Int × Int) → Option (List Int)
  | F, [] => some F
  | F, x :: l => match colR F x.1 x.2 with
    | some F' => lftR F' l
    | none => none
theorem colR_len {F F' : List Int} {f e : Int} (h : colR F f e = some F') : F'.length ≤ F.length := by
  unfold colR at h
  split at h
  · cases h
  · split at h
    · cases h
    · split at h
      · cases h; exact List.length_filter_le _ _
      · cases h
def f41_I (h : H) (w : V) (L : List (Int × Int)) (R : Option (List Int)) (i : Nat) (fr : Fr) (h1 : H) : Prop := ∃ F v, i ≤ L.length ∧ F.length ≤ 1000 ∧ Sl iE h1 v F ∧ Grow h.nx.nat h h1 ∧ lftR F (L.drop i) = R ∧ fr.get (K.ofNat 0) = some (v) ∧ fr.get (K.ofNat 1) = some (w) ∧ fr.get (K.ofNat 6) = some (.i .i64 (i : Int))
theorem f41_ret {h : H} {v w : V} {F : List Int} {L : List (Int × Int)} (hp53 : ∀ a b h P, CallP fs (.fn (K.ofNat 53) []) [.i .i64 a, .i .i64 b] h P = P (.b (ptI a b)) h) (hp52 : ∀ a, inR .i64 a = true → ∀ h P, CallP fs (.fn (K.ofNat 52) []) [.i .i64 a] h P = P (.i .i64 (sizZ a : Int)) h)
    (h43 : fs.get (K.ofNat 43) = some f43) (hv : Sl iE h v F) (hF : F.length ≤ 1000) (hw : Sk 2 qE h w L) (hL : ∀ x ∈ L, inR .i64 x.1 = true ∧ inR .i64 x.2 = true) (hLl : L.length ≤ 1000000) (hc : HC h) :
    Ret fs f41 [v, w] h fun r h' => ∃ u, r = .tup [u, .b (lftR F L).isSome] ∧ Sl iE h' u ((lftR F L).getD []) ∧ Grow h.nx.nat h h' := by
  apply ret_of rfl
  show W fs none f41_c _ _ _
  unfold f41_c
  simp (disch := omega) only [f41_r0, f41_r1, w_reg, w_seq, w_block, seqK_n, x_nil, x_as, ev_c, putD_some, frame_2, of0]
  refine W_loop (f41_I h w L (lftR F L)) (fun i => L.length - i) ?_ 0 ⟨F, v, Nat.zero_le _, hF, hv, .refl _ _, by rw [List.drop_zero], by simp (disch := omega) only [getK_set, Nat.reduceEqDiff, ↓reduceIte, and_self, Int.natCast_zero]⟩
  clear hv hF
  generalize lftR F L = R
  rintro i fr h1 ⟨F, v, hi, hF, hv, gr, hR, g0, g1, g6⟩
  have hc1 := gr.hc hc
  have hw1 := hw.grow hc gr
  unfold f41_l0
  by_cases hlt : i < L.length
  · have hlt' : (i : Int) < (L.length : Int) := by omega
    obtain ⟨p, hp1, hp2⟩ := hw1.at2 hlt
    rw [List.drop_eq_getElem_cons hlt, lftR] at hR
    obtain ⟨ir1, ir2⟩ := hL _ (List.getElem_mem hlt)
    generalize L[i] = x at *
    simp (disch := omega) only [f41_r2, f41_r3, w_skip, w_reg, w_seq, w_cond, w_block, seqK_n, ckB_b, cbB_b, true_and, x_nil, x_mv, x_ldn, x_bin, x_iads, x_call, x_len, kx, rvP_ok, okv_some, ev_t, ev_c, evs_nil, evs_cons, getV_some, putD_some, bin_lss, getK_set, Nat.reduceEqDiff, ↓reduceIte, g0, g1, g6, hw1.len, hlt', decide_true, hp1, hp2]
    refine (callP_0 (ef := f43) h43 rfl (f43_ret hp53 hp52 hv hF ir1 ir2 hc1)).mono ?_
    rintro r h2 ⟨u, rfl, hsu, g2⟩
    have gg := gr.trans (g2.low gr.nx)
    cases hcol : colR F x.1 x.2 with
    | none =>
      rw [hcol] at hR
      subst hR
      simp (disch := omega) only [f41_r4, f41_r5, f41_rs, w_reg, w_seq, w_cond, w_ret, seqK_n, seqK_r, atK_r, loopK_r, ckB_b, cbB_b, true_and, retK_r, x_nil, x_mv, x_as, x_not, x_ext, kx, rvP_ok, okv_some, ev_t, ev_c, getV_some, putD_some, onB_b, onTup_t, oGet_s, nth0, nth1, readRs_nil, readRs_t, retV_2, Option.some.injEq, exists_eq_left', getK_set, Nat.reduceEqDiff, ↓reduceIte, Bool.not_false, Option.isSome_none]
      exact ⟨.sn, rfl, Sl.nil, gg⟩
    | some F' =>
      rw [hcol] at hR
      simp (disch := omega) only [f41_r4, f41_r6, f41_r7, w_skip, w_reg, w_seq, w_cond, seqK_n, atK_n, loopK_n, ckB_b, cbB_b, true_and, x_nil, x_mv, x_as, x_bin, x_not, x_ext, kx, rvP_ok, okv_some, ev_t, ev_c, getV_some, putD_some, bin_add, onB_b, onTup_t, nth0, nth1, of1, getK_set, Nat.reduceEqDiff, ↓reduceIte, Bool.false_eq_true, Bool.not_true, g6, Option.isSome_some, fw64]
      exact ⟨i + 1, by omega, F', u, hlt, Nat.le_trans (colR_len hcol) hF, (hsu F' hcol).1, gg, hR, by simp (disch := omega) only [getK_set, Nat.reduceEqDiff, ↓reduceIte, g1, and_self, Int.natCast_add, Int.natCast_one]⟩
  · obtain rfl : i = L.length := by omega
    rw [List.drop_length, lftR] at hR
    subst hR
    simp (disch := omega) only [f41_r2, f41_r8, f41_rs, w_reg, w_seq, w_cond, w_exit, w_ret, seqK_n, seqK_e, atK_e, loopK_e, ckB_b, cbB_b, true_and, retK_r, x_nil, x_mv, x_as, x_bin, x_len, kx, rvP_ok, okv_some, ev_t, ev_c, getV_some, putD_some, bin_lss, oGet_s, readRs_nil, readRs_t, retV_2, Option.some.injEq, exists_eq_left', getK_set, Nat.reduceEqDiff, ↓reduceIte, Bool.false_eq_true, g0, g1, g6, hw1.len, Int.lt_irrefl, decide_false]
    exact ⟨v, rfl, hv, gr⟩
/-- The reference's One. -/
noncomputable def oneR (F : List Int) : Bool := match F with
  | [a, b] => decide (a = 0) && decide (sizZ b = 1)
  | _ => false
theorem f42_ret {h : H} {v : V} {F : List Int} (hp52 : ∀ a, inR .i64 a = true → ∀ h P, CallP fs (.fn (K.ofNat 52) []) [.i .i64 a] h P = P (.i .i64 (sizZ a : Int)) h)
    (hv : Sl iE h v F) (hr : ∀ x ∈ F, inR .i64 x = true) (hF : F.length ≤ 1000) :
    Ret fs f42 [v] h fun u h' => u = .b (oneR F) ∧ h' = h := by
  apply ret_of rfl
  show W fs none f42_c _ _ _
  unfold f42_c
  by_cases c0 : F.length = 2
  · obtain ⟨a, b, rfl⟩ : ∃ a b, F = [a, b] := by
      match F, c0 with
      | [a, b], _ => exact ⟨a, b, rfl⟩
    obtain ⟨p0, hp0, hq0⟩ := hv.at 0 (by simp)
    obtain ⟨p1, hp1, hq1⟩ := hv.at 1 (by simp)
    have hb := hr b (by simp)
    change ∀ k h1, iadsV 1 v (.i k 0) h1 = .ok p0 h1 at hp0
    change ∀ k h1, iadsV 1 v (.i k 1) h1 = .ok p1 h1 at hp1
    change loadV h p0 one? = .ok (.i .i64 a) h at hq0
    change loadV h p1 one? = .ok (.i .i64 b) h at hq1
    have hl : ((([a, b] : List Int).length : Nat) : Int) = 2 := rfl
    by_cases c1 : a = 0
    · subst c1
      have hd : decide ((sizZ b : Int) = 1) = decide (sizZ b = 1) := by
        by_cases h : sizZ b = 1
        · rw [decide_eq_true h, decide_eq_true (by omega)]
        · rw [decide_eq_false h, decide_eq_false (by omega)]
      simp (disch := omega) only [f42_r0, f42_r1, f42_rs, w_reg, w_seq, w_ret, seqK_n, okG_b, asG_t, true_and, retK_r, x_nil, x_g, x_mv, x_as, x_pick, x_ld, x_bin, x_iads, x_call, x_len, kx, rvP_ok, okv_some, ev_t, ev_c, evs_nil, evs_cons, getV_some, putD_some, bin_eql, pick_b, oGet_s, readRs_nil, readRs_t, retV_1, frame_1, of0, of1, of2, Option.some.injEq, exists_eq_left', getK_set, Nat.reduceEqDiff, ↓reduceIte, hv.len, hl, decide_true, hp0, hq0, hp1, hq1, hp52 _ hb, hd]
      unfold oneR; simp
    · simp (disch := omega) only [f42_r0, f42_r1, f42_rs, w_reg, w_seq, w_ret, seqK_n, okG_b, asG_t, true_and, retK_r, x_nil, x_g, x_mv, x_as, x_pick, x_ld, x_bin, x_iads, x_len, kx, rvP_ok, okv_some, ev_t, ev_c, getV_some, putD_some, bin_eql, pick_b, oGet_s, readRs_nil, readRs_t, retV_1, frame_1, of0, of1, of2, Option.some.injEq, exists_eq_left', getK_set, Nat.reduceEqDiff, ↓reduceIte, Bool.false_eq_true, hv.len, hl, decide_true, hp0, hq0, c1, decide_false]
      unfold oneR; simp [c1]
  · have c0' : ¬ (F.length : Int) = 2 := by omega
    have ho : oneR F = false := by
      match F, c0 with
      | [], _ => rfl
      | [_], _ => rfl
      | [_, _], h => exact absurd rfl h
      | _ :: _ :: _ :: _, _ => rfl
    rw [ho]
    simp (disch := omega) only [f42_r0, f42_r1, f42_rs, w_reg, w_seq, w_ret, seqK_n, okG_b, asG_t, true_and, retK_r, x_nil, x_g, x_mv, x_as, x_pick, x_bin, x_len, kx, rvP_ok, okv_some, ev_t, ev_c, getV_some, putD_some, bin_eql, pick_b, oGet_s, readRs_nil, readRs_t, retV_1, frame_1, of0, of1, of2, Option.some.injEq, exists_eq_left', getK_set, Nat.reduceEqDiff, ↓reduceIte, Bool.false_eq_true, hv.len, c0', decide_false]
end
end Go.Ev
namespace Go.Ev
open Go Go.RowKit
theorem chk_in {n : Int} {P : List Int} (h : chkS n P = 0) : 1 ≤ n ∧ n ≤ 6 ∧ 1 ≤ P.length ∧ P.length ≤ 10 ∧ ∀ i (hi : i < P.length), 1 ≤ P[i] ∧ P[i] < 2 ^ n.toNat ∧ ∀ k (hk : k < i), P[k] < P[i] ∧ ptI P[k] P[i] = false := by
  unfold chkS at h
  split at h
  · cases h
  · split at h
    · rename_i h1 h2
      unfold goodS at h2
      simp only [Bool.and_eq_true, decide_eq_true_eq] at h2
      obtain ⟨⟨h3, h4⟩, h5⟩ := h2
      exact ⟨by omega, by omega, h3, h4, fun i hi => (okAt_iff hi).1 (List.all_eq_true.1 h5 i (List.mem_range.2 hi))⟩
    · cases h
theorem chk_cpx {n : Int} {P : List Int} (h : chkS n P = 0) : Cpx n P := by
  obtain ⟨h1, h6, hl1, hl, hi⟩ := chk_in h
  obtain ⟨hpw, hpe⟩ := pow_n h1 h6
  refine cpx_of h1 h6 (fun e => by rw [e] at hl1; simp at hl1) hl (List.pairwise_iff_getElem.2 fun i j hi' hj hij => ((hi j hj).2.2 i hij).1) (fun x hx => ?_) fun x hx y hy => ?_
  · obtain ⟨i, hi', rfl⟩ := List.mem_iff_getElem.1 hx
    exact ⟨(hi i hi').1, (hi i hi').2.1⟩
  · obtain ⟨a, ha, rfl⟩ := List.mem_iff_getElem.1 hx
    obtain ⟨b, hb, rfl⟩ := List.mem_iff_getElem.1 hy
    rcases Nat.lt_trichotomy a b with e | e | e
    · exact .inr ((hi b hb).2.2 a e).2
    · subst e; exact .inl rfl
    · right
      rw [← Bool.not_eq_true]
      intro ht
      have h2 := hi a ha
      have h3 := hi b hb
      have := pt_le (by omega) (by omega) (by omega) (by omega) ht
      have := (h2.2.2 b e).1
      omega
theorem chk_zero {n : Int} {P : List Int} (h : chkS n P = 0) : famB P 0 = true := by
  have cp := chk_cpx h
  obtain ⟨Q, rfl, an⟩ := cp.ex
  have hne : Q ≠ [] := fun e => cp.ne (by rw [e]; rfl)
  obtain ⟨y, hy⟩ := List.exists_mem_of_ne_nil Q hne
  exact (fam_cast an.lt (by omega)).2 ⟨y, hy, Nat.zero_and y⟩
end Go.Ev
namespace Go.Ev
open Go Go.RowKit
/-- Closed under parts. -/
def Clo (B : Nat → Bool) : Prop := ∀ x y, x < 64 → y < 64 → x &&& y = x → B y = true → B x = true
theorem mem64_iff {B : Nat → Bool} {x : Nat} : x ∈ mem64 B ↔ x < 64 ∧ B x = true := by
  unfold mem64; rw [List.mem_filter, List.mem_range]
theorem memI_iff {B : Nat → Bool} {a : Int} : a ∈ memI B ↔ ∃ m : Nat, a = (m : Int) ∧ m < 64 ∧ B m = true := by
  unfold memI
  rw [List.mem_map]
  constructor
  · rintro ⟨m, h1, rfl⟩
    exact ⟨m, rfl, mem64_iff.1 h1⟩
  · rintro ⟨m, rfl, h⟩
    exact ⟨m, mem64_iff.2 h, rfl⟩
theorem mem64_nd {B : Nat → Bool} : (mem64 B).Nodup := List.nodup_range.filter _
theorem memI_nd {B : Nat → Bool} : (memI B).Nodup := by
  unfold memI
  exact List.Pairwise.map _ (fun a b h e => h (Int.ofNat.inj e)) mem64_nd
theorem one_of {α : Type} {l : List α} {o : α} (hn : l.Nodup) (h : ∀ x, x ∈ l ↔ x = o) : l = [o] := by
  match l, hn, h with
  | [], _, h => exact absurd ((h o).2 rfl) (by simp)
  | [x], _, h => rw [(h x).1 (by simp)]
  | x :: y :: l, hn, h =>
    have h1 := (h x).1 (by simp)
    have h2 := (h y).1 (by simp)
    rw [List.nodup_cons] at hn
    exact absurd (by rw [h1, h2]; simp) hn.1
theorem two_of {l : List Int} (hn : l.Nodup) {f e : Int} : (l.filter (inFE f e)).length = (if f ∈ l then 1 else 0) + (if e ∈ l ∧ e ≠ f then 1 else 0) := by
  induction l with
  | nil => simp
  | cons x l ih =>
    rw [List.nodup_cons] at hn
    have ih := ih hn.2
    have hx : inFE f e x = (decide (x = f) || decide (x = e)) := rfl
    rw [List.filter_cons, hx]
    by_cases h1 : x = f
    · subst h1
      have hf : (if x ∈ l then 1 else 0) = 0 := if_neg hn.1
      rw [hf] at ih
      rw [decide_eq_true rfl, Bool.true_or, if_pos rfl, List.length_cons, ih]
      have h3 : (if x ∈ x :: l then 1 else 0) = 1 := if_pos (by simp)
      rw [h3]
      by_cases h4 : e = x
      · subst h4; simp
      · simp [h4]; omega
    · by_cases h2 : x = e
      · subst h2
        rw [decide_eq_true rfl, Bool.or_true, if_pos rfl, List.length_cons, ih]
        simp [hn.1, h1, Ne.symm h1]
      · rw [decide_eq_false h1, decide_eq_false h2, Bool.or_false, if_neg (by simp), ih]
        simp [Ne.symm h1, Ne.symm h2]
/-- A part with two corners less has another part between. -/
theorem gap : ∀ m, m < 64 → ∀ o, o < 64 → m &&& o = m → m ≠ o → pop6 o = pop6 m + 1 ∨ ∃ x, x < 64 ∧ x ≠ m ∧ x ≠ o ∧ m &&& x = m ∧ x &&& o = x := by
  have : ∀ m, m < 64 → ∀ o, o < 64 → (decide (m &&& o ≠ m) || decide (m = o) || decide (pop6 o = pop6 m + 1) || (let x := m ||| ((o ^^^ m) &&& (64 - (o ^^^ m))); decide (x < 64) && decide (x ≠ m) && decide (x ≠ o) && decide (m &&& x = m) && decide (x &&& o = x))) = true := by decide +kernel
  intro m hm o ho h1 h2
  have h := this m hm o ho
  simp only [Bool.or_eq_true, Bool.and_eq_true, decide_eq_true_eq] at h
  rcases h with ((h | h) | h) | h
  · exact absurd h1 h
  · exact absurd h h2
  · exact .inl h
  · exact .inr ⟨_, h.1.1.1.1, h.1.1.1.2, h.1.1.2, h.1.2, h.2⟩
theorem ovP_iff {m x : Nat} (hm : m < 64) (hx : x < 64) : ovP m x = true ↔ x ≠ m ∧ m &&& x = m := by
  unfold ovP
  rw [Bool.and_eq_true, decide_eq_true_eq, ptI_nat hm hx, decide_eq_true_eq]
  constructor
  · rintro ⟨h1, h2⟩; exact ⟨fun h => h1 (by rw [h]), h2⟩
  · rintro ⟨h1, h2⟩; exact ⟨fun h => h1 (by omega), h2⟩
theorem sizZ_n {m : Nat} (hm : m < 64) : sizZ (m : Int) = pop6 m := siz_pop m hm
theorem less_filter {B : Nat → Bool} {m o : Nat} : ((memI B).filter fun x => !inFE (m : Int) (o : Int) x) = memI (lessB B m o) := by
  unfold memI mem64
  rw [List.filter_map, List.filter_filter]
  congr 1
  apply List.filter_congr
  intro x _
  show (!(decide ((x : Int) = (m : Int)) || decide ((x : Int) = (o : Int))) && B x) = lessB B m o x
  unfold lessB
  by_cases h1 : x = o
  · rw [if_pos h1, decide_eq_true (show (x : Int) = (o : Int) by omega)]; simp
  · rw [if_neg h1, decide_eq_false (show ¬ (x : Int) = (o : Int) by omega)]
    by_cases h2 : x = m
    · rw [if_pos h2, decide_eq_true (show (x : Int) = (m : Int) by omega)]; simp
    · rw [if_neg h2, decide_eq_false (show ¬ (x : Int) = (m : Int) by omega)]; simp
/-- The reference's Collapse. -/
theorem col_ref {B : Nat → Bool} (hc : Clo B) (f e : Int) : colR (memI B) f e = match colS B f with | some o => if (o : Int) = e then some (memI (lessB B f.toNat o)) else none | none => none := by
  cases hR : colR (memI B) f e with
  | some F' =>
    unfold colR at hR
    split at hR
    · cases hR
    rename_i h1
    split at hR
    · cases hR
    rename_i h2
    split at hR
    · rename_i h3
      cases hR
      rw [two_of memI_nd] at h3
      have hf : f ∈ memI B := by
        apply Classical.byContradiction
        intro h
        rw [if_neg h] at h3
        split at h3 <;> omega
      have he : e ∈ memI B ∧ e ≠ f := by
        apply Classical.byContradiction
        intro h
        rw [if_neg h] at h3
        split at h3 <;> omega
      obtain ⟨m, rfl, hm, hBm⟩ := memI_iff.1 hf
      obtain ⟨o, rfl, ho, hBo⟩ := memI_iff.1 he.1
      have hpt : m &&& o = m := by
        apply Classical.byContradiction
        intro h
        exact h1 (.inr (.inl (by rw [ptI_nat hm ho]; exact decide_eq_false h)))
      have hov : ovB B m = [o] := by
        refine one_of (mem64_nd.filter _) fun x => ?_
        unfold ovB
        rw [List.mem_filter, mem64_iff]
        constructor
        · rintro ⟨⟨hx, hBx⟩, hov⟩
          apply Classical.byContradiction
          intro hne
          rw [ovP_iff hm hx] at hov
          refine h2 (List.any_eq_true.2 ⟨(x : Int), memI_iff.2 ⟨x, rfl, hx, hBx⟩, ?_⟩)
          show (!(decide ((x : Int) = (m : Int)) || decide ((x : Int) = (o : Int))) && ptI (m : Int) (x : Int)) = true
          rw [decide_eq_false (by omega), decide_eq_false (by omega), ptI_nat hm hx, decide_eq_true hov.2]; rfl
        · rintro rfl
          exact ⟨⟨ho, hBo⟩, (ovP_iff hm ho).2 ⟨fun h => he.2 (by rw [h]), hpt⟩⟩
      have hcs : colS B (m : Int) = some o := by
        unfold colS
        rw [if_pos ⟨by omega, by omega, hBm⟩]
        show (match ovB B m with | [o] => some o | _ => none) = some o
        rw [hov]
      rw [hcs]
      show _ = if (o : Int) = (o : Int) then _ else _
      rw [if_pos rfl, less_filter]; rfl
    · cases hR
  | none =>
    cases hcs : colS B f with
    | none => rfl
    | some o =>
      show _ = if (o : Int) = e then _ else _
      by_cases heq : (o : Int) = e
      · exfalso
        subst heq
        obtain ⟨m, rfl, hm1, hm, hBm, hov, ho, hBo, hne⟩ := col_mem hcs
        have hmem : ∀ x, x ∈ ovB B m ↔ x = o := fun x => by rw [hov]; simp
        have ho' := (hmem o).2 rfl
        unfold ovB at ho'
        have hop := (List.mem_filter.1 ho').2
        rw [ovP_iff hm ho] at hop
        have hsz : pop6 o = pop6 m + 1 := by
          rcases gap m hm o ho hop.2 (Ne.symm hne) with h | ⟨x, h1, h2, h3, h4, h5⟩
          · exact h
          · exfalso
            refine h3 ((hmem x).1 ?_)
            unfold ovB
            exact List.mem_filter.2 ⟨mem64_iff.2 ⟨h1, hc x o h1 ho h5 hBo⟩, (ovP_iff hm h1).2 ⟨h2, h4⟩⟩
        have hsome : colR (memI B) (m : Int) (o : Int) ≠ none := by
          unfold colR
          rw [if_neg, if_neg, if_pos]
          · simp
          · rw [two_of memI_nd, if_pos (memI_iff.2 ⟨m, rfl, hm, hBm⟩), if_pos ⟨memI_iff.2 ⟨o, rfl, ho, hBo⟩, by omega⟩]
          · intro h
            obtain ⟨a, ha, hb⟩ := List.any_eq_true.1 h
            obtain ⟨x, rfl, hx, hBx⟩ := memI_iff.1 ha
            have hb' : (!(decide ((x : Int) = (m : Int)) || decide ((x : Int) = (o : Int))) && ptI (m : Int) (x : Int)) = true := hb
            rw [ptI_nat hm hx] at hb'
            simp only [Bool.and_eq_true, Bool.not_eq_true', Bool.or_eq_false_iff, decide_eq_false_iff_not, decide_eq_true_eq] at hb'
            refine hb'.1.2 ?_
            have := (hmem x).1 (by unfold ovB; exact List.mem_filter.2 ⟨mem64_iff.2 ⟨hx, hBx⟩, (ovP_iff hm hx).2 ⟨fun h => hb'.1.1 (by rw [h]), hb'.2⟩⟩)
            rw [this]
          · rintro (h | h | h)
            · omega
            · rw [ptI_nat hm ho, decide_eq_true hop.2] at h; cases h
            · rw [sizZ_n ho, sizZ_n hm] at h; exact h hsz
        exact hsome hR
      · rw [if_neg heq]
/-- What is left is closed again. -/
theorem clo_less {B : Nat → Bool} (hc : Clo B) {f : Int} {o : Nat} (h : colS B f = some o) : Clo (lessB B f.toNat o) := by
  obtain ⟨m, rfl, hm1, hm, hBm, hov, ho, hBo, hne⟩ := col_mem h
  have hmem : ∀ x, x ∈ ovB B m ↔ x = o := fun x => by rw [hov]; simp
  have hup : ∀ y, y < 64 → B y = true → m &&& y = m → y = m ∨ y = o := fun y hy hB hp => by
    by_cases e : y = m
    · exact .inl e
    · exact .inr ((hmem y).1 (by unfold ovB; exact List.mem_filter.2 ⟨mem64_iff.2 ⟨hy, hB⟩, (ovP_iff hm hy).2 ⟨e, hp⟩⟩))
  have hop := (List.mem_filter.1 (show o ∈ (mem64 B).filter (ovP m) from (hmem o).2 rfl)).2
  rw [ovP_iff hm ho] at hop
  intro x y hx hy hp hy'
  rw [show ((m : Int)).toNat = m from rfl] at *
  unfold lessB at hy' ⊢
  split at hy'
  · cases hy'
  split at hy'
  · cases hy'
  rename_i n1 n2
  have hBx := hc x y hx hy hp hy'
  rw [if_neg, if_neg]
  · exact hBx
  · rintro rfl
    rcases hup y hy hy' hp with h | h
    · exact n2 h
    · exact n1 h
  · rintro rfl
    have hmy : m &&& y = m := by rw [← hop.2, Nat.and_assoc, hp]
    rcases hup y hy hy' hmy with h | h
    · exact n2 h
    · exact n1 h
end Go.Ev
namespace Go.Ev
open Go Go.RowKit
/-! ### 64 bits -/
theorem wrap_toInt (x : BitVec 64) : IntKind.wrap .i64 (x.toNat : Int) = x.toInt := by
  have h := x.isLt
  rw [BitVec.toInt_eq_toNat_cond]
  unfold IntKind.wrap
  simp only [IntKind.bits, IntKind.signed, Bool.true_and, Nat.reducePow, Int.reducePow, Nat.reduceSub, ge_iff_le, decide_eq_true_eq]
  have e : (x.toNat : Int) % 18446744073709551616 = (x.toNat : Int) := Int.emod_eq_of_lt (by omega) (by omega)
  rw [e]
  split <;> split <;> omega
theorem inR_bv (x : BitVec 64) : inR .i64 x.toInt = true := by
  have h1 := @BitVec.toInt_lt 64 x
  have h2 := @BitVec.le_toInt 64 x
  simp only [Nat.reduceSub, Int.reducePow] at h1 h2
  cases hx : x.toInt with
  | ofNat m => show Nat.ble m (kmax .i64) = true; rw [hx] at h1; exact Nat.ble_eq_true_of_le (by show m ≤ 9223372036854775807; have : Int.ofNat m = (m : Int) := rfl; omega)
  | negSucc m => show Nat.blt m (kmin .i64) = true; rw [hx] at h2; exact Nat.ble_eq_true_of_le (by show m + 1 ≤ 9223372036854775808; omega)
theorem or_bv (x y : BitVec 64) : binV .or (.i .i64 x.toInt) (.i .i64 y.toInt) = some (.i .i64 (x ||| y).toInt) := by
  have e : binV .or (.i .i64 x.toInt) (.i .i64 y.toInt) = some (.i .i64 (ibits Nat.lor (fun _ x y => x ||| y) .i64 x.toInt y.toInt)) := rfl
  have hs : slowBits (fun _ x y => x ||| y) .i64 x.toInt y.toInt = (x ||| y).toInt := by
    show IntKind.wrap .i64 ((BitVec.ofInt 64 x.toInt ||| BitVec.ofInt 64 y.toInt : BitVec 64).toNat : Int) = _
    rw [BitVec.ofInt_toInt, BitVec.ofInt_toInt, wrap_toInt]
  rw [e]
  congr 2
  have h1 := @BitVec.toInt_lt 64 x
  have h2 := @BitVec.toInt_lt 64 y
  simp only [Nat.reduceSub, Int.reducePow] at h1 h2
  cases hx : x.toInt with
  | negSucc m => rw [hx] at hs; exact hs
  | ofNat m =>
    cases hy : y.toInt with
    | negSucc n => rw [hx, hy] at hs; exact hs
    | ofNat n =>
      rw [hx] at h1; rw [hy] at h2
      have hm : m ≤ 9223372036854775807 := by have : Int.ofNat m = (m : Int) := rfl; omega
      have hn : n ≤ 9223372036854775807 := by have : Int.ofNat n = (n : Int) := rfl; omega
      have ex : x.toNat = m := by
        rw [BitVec.toInt_eq_toNat_cond] at hx
        have := x.isLt
        have : Int.ofNat m = (m : Int) := rfl
        split at hx <;> omega
      have ey : y.toNat = n := by
        rw [BitVec.toInt_eq_toNat_cond] at hy
        have := y.isLt
        have : Int.ofNat n = (n : Int) := rfl
        split at hy <;> omega
      show ibits _ _ .i64 (m : Int) (n : Int) = _
      rw [ibits_nat hm hn]
      have hlt : Nat.lor m n < 2 ^ 63 := Nat.or_lt_two_pow (by omega) (by omega)
      have hN : (x ||| y).toNat = Nat.lor m n := by rw [BitVec.toNat_or, ex, ey]; rfl
      rw [BitVec.toInt_eq_toNat_cond, hN, if_pos (by omega)]
theorem shl_bv : ∀ x : Nat, x < 64 → binV .shl (.i .i64 1) (.i .i64 (x : Int)) = some (.i .i64 (BitVec.twoPow 64 x).toInt) := by
  intro x hx
  have h : ∀ x : Nat, x < 64 → decide (fw .i64 (1 * 2 ^ (min x 64)) = (BitVec.twoPow 64 x).toInt) = true := by decide +kernel
  rw [bin_shl (by omega)]
  show some (V.i .i64 (fw .i64 (1 * 2 ^ (min x 64)))) = _
  rw [of_decide_eq_true (h x hx)]
/-- A list of numbers below 64, as bits. -/
def keyL (l : List Nat) : BitVec 64 := l.foldl (fun s x => s ||| BitVec.twoPow 64 x) 0#64
theorem keyL_bit (l : List Nat) (i : Nat) (hi : i < 64) : (keyL l).getLsbD i = decide (i ∈ l) := by
  have : ∀ (l : List Nat) (s : BitVec 64), (l.foldl (fun s x => s ||| BitVec.twoPow 64 x) s).getLsbD i = (s.getLsbD i || decide (i ∈ l)) := by
    intro l
    induction l with
    | nil => intro s; simp
    | cons x l ih =>
      intro s
      rw [List.foldl_cons, ih, BitVec.getLsbD_or, BitVec.getLsbD_twoPow, Bool.or_assoc]
      congr 1
      by_cases e : x = i
      · subst e; simp [hi]
      · simp [e, Ne.symm e]
  unfold keyL
  rw [this]; simp
theorem keyL_inj {B B' : Nat → Bool} (h : Low B) (h' : Low B') (e : (keyL (mem64 B)).toInt = (keyL (mem64 B')).toInt) : B = B' := by
  have e := BitVec.eq_of_toInt_eq e
  funext i
  by_cases hi : i < 64
  · have e1 := keyL_bit (mem64 B) i hi
    rw [e, keyL_bit _ i hi] at e1
    have e2 : i ∈ mem64 B' ↔ i ∈ mem64 B := by simpa using e1
    rw [mem64_iff, mem64_iff] at e2
    cases h1 : B i <;> cases h2 : B' i <;> simp [h1, h2, hi] at e2 <;> rfl
  · rw [h i (by omega), h' i (by omega)]
/-! ### Maps whose keys are numbers -/
def entsZ (M : List (BitVec 64)) : List (V × V) := M.map fun x => (.i .i64 x.toInt, .b true)
theorem keyEq_z (a b : BitVec 64) : keyEq (.one (some .i64)) (.i .i64 a.toInt) (.i .i64 b.toInt) = some (decide (a = b)) := by
  show ckEq (some .i64) (.i .i64 a.toInt) (.i .i64 b.toInt) = _
  rw [ck_i (inR_bv a) (inR_bv b), ieq_eq]
  by_cases e : a = b
  · subst e; simp
  · have : a.toInt ≠ b.toInt := fun h => e (BitVec.eq_of_toInt_eq h)
    simp [e, this]
theorem findE_z (a : BitVec 64) : ∀ (M : List (BitVec 64)), findE (.one (some .i64)) (.i .i64 a.toInt) (entsZ M) = some (if a ∈ M then some (.b true) else none)
  | [] => by
    show (oGet (keyEq (.one (some .i64)) (.i .i64 a.toInt) (.i .i64 a.toInt)) none fun _ => some none) = _
    rw [keyEq_z]; rfl
  | x :: M => by
    have ih := findE_z a M
    show (oGet (keyEq (.one (some .i64)) (.i .i64 a.toInt) (.i .i64 x.toInt)) none fun r => bif r then some (some (.b true)) else findE (.one (some .i64)) (.i .i64 a.toInt) (entsZ M)) = _
    rw [keyEq_z, ih]
    show (bif decide (a = x) then _ else _) = _
    by_cases e : a = x
    · rw [decide_eq_true e, if_pos (show a ∈ x :: M by rw [e]; exact List.mem_cons_self)]; rfl
    · rw [decide_eq_false e]
      by_cases e2 : a ∈ M
      · rw [if_pos e2, if_pos (show a ∈ x :: M from List.mem_cons_of_mem _ e2)]; rfl
      · rw [if_neg e2, if_neg (show ¬ a ∈ x :: M from fun h => by rcases List.mem_cons.1 h with h | h <;> contradiction)]; rfl
theorem updE_z (a : BitVec 64) : ∀ (M : List (BitVec 64)), ∃ M', (∀ b, b ∈ M' ↔ b = a ∨ b ∈ M) ∧ updE (.one (some .i64)) (.i .i64 a.toInt) (.b true) (entsZ M) = some (entsZ M')
  | [] => by
    refine ⟨[a], fun b => by simp, ?_⟩
    show (oGet (keyEq (.one (some .i64)) (.i .i64 a.toInt) (.i .i64 a.toInt)) none fun _ => some [(V.i .i64 a.toInt, V.b true)]) = _
    rw [keyEq_z]; rfl
  | x :: M => by
    obtain ⟨M', h1, ih⟩ := updE_z a M
    by_cases e : a = x
    · subst e
      refine ⟨a :: M, fun b => by simp, ?_⟩
      show (oGet (keyEq (.one (some .i64)) (.i .i64 a.toInt) (.i .i64 a.toInt)) none fun r => bif r then some ((V.i .i64 a.toInt, V.b true) :: entsZ M) else oGet (updE (.one (some .i64)) (.i .i64 a.toInt) (.b true) (entsZ M)) none fun l => some ((V.i .i64 a.toInt, V.b true) :: l)) = _
      rw [keyEq_z, decide_eq_true rfl]; rfl
    · refine ⟨x :: M', fun b => ?_, ?_⟩
      · rw [List.mem_cons, List.mem_cons, h1]
        constructor <;> rintro (h | h | h) <;> simp [h]
      · show (oGet (keyEq (.one (some .i64)) (.i .i64 a.toInt) (.i .i64 x.toInt)) none fun r => bif r then some ((V.i .i64 a.toInt, V.b true) :: entsZ M) else oGet (updE (.one (some .i64)) (.i .i64 a.toInt) (.b true) (entsZ M)) none fun l => some ((V.i .i64 x.toInt, V.b true) :: l)) = _
        rw [keyEq_z, ih, decide_eq_false e]; rfl
def MapZ (h : H) (id : K) (kt : Nat) (M : List (BitVec 64)) : Prop := h.get id = .map kt (entsZ M)
theorem MapZ.look {kt : Nat} {h : H} {id : K} {M : List (BitVec 64)} (hm : MapZ h id kt M) (a : BitVec 64) : lookV kt (.one (some .i64)) (.b false) h (.m id) (.i .i64 a.toInt) false = .ok (.b (decide (a ∈ M))) h := by
  show ((h.get id).onM kt fun es => oGet (findE (.one (some .i64)) (.i .i64 a.toInt) es) RV.no fun r => bif false then _ else RV.ok (oGet r (.b false) fun v => v) h) = _
  rw [hm]
  show (bif Nat.beq kt kt then (oGet (findE (.one (some .i64)) (.i .i64 a.toInt) (entsZ M)) RV.no fun r => RV.ok (oGet r (.b false) fun v => v) h) else _) = _
  rw [Nat.beq_same, findE_z]
  by_cases e : a ∈ M
  · rw [if_pos e, decide_eq_true e]; rfl
  · rw [if_neg e, decide_eq_false e]; rfl
theorem MapZ.put {kt : Nat} {h : H} {id : K} {M : List (BitVec 64)} (hm : MapZ h id kt M) (a : BitVec 64) :
    ∃ M', (∀ b, b ∈ M' ↔ b = a ∨ b ∈ M) ∧ mupdV kt (.one (some .i64)) h (.m id) (.i .i64 a.toInt) (.b true) = .ok undefV (h.put id (.map kt (entsZ M'))) ∧ MapZ (h.put id (.map kt (entsZ M'))) id kt M' := by
  obtain ⟨M', h1, h2⟩ := updE_z a M
  refine ⟨M', h1, ?_, get_put_same⟩
  show ((h.get id).onM kt fun es => oGet (updE (.one (some .i64)) (.i .i64 a.toInt) (.b true) es) RV.no fun es => RV.ok undefV (h.put id (.map kt es))) = _
  rw [hm]
  show (bif Nat.beq kt kt then (oGet (updE (.one (some .i64)) (.i .i64 a.toInt) (.b true) (entsZ M)) RV.no fun es => RV.ok undefV (h.put id (.map kt es))) else _) = _
  rw [Nat.beq_same, h2]; rfl
/-! ### All but one block stays -/
structure Keep (id : K) (h h' : H) : Prop where
  nx : h.nx.nat ≤ h'.nx.nat
  old : ∀ k : K, k.nat < h.nx.nat → k.nat ≠ id.nat → h'.get k = h.get k
  hc : HC h → HC h'
section
variable {id : K} {h h' h1 h2 : H}
theorem Keep.refl (id : K) (h : H) : Keep id h h := ⟨Nat.le_refl _, fun _ _ _ => rfl, fun h => h⟩
theorem Keep.trans (a : Keep id h h1) (b : Keep id h1 h2) : Keep id h h2 := ⟨Nat.le_trans a.nx b.nx, fun k hk hn => (b.old k (Nat.lt_of_lt_of_le hk a.nx) hn).trans (a.old k hk hn), fun hc => b.hc (a.hc hc)⟩
theorem Keep.of (g : Grow h.nx.nat h h1) : Keep id h h1 := ⟨g.nx, fun k hk _ => g.old k hk, g.hc⟩
theorem Keep.grow (a : Keep id h h1) {b : Nat} (hb : b ≤ h.nx.nat) (hi : b ≤ id.nat) : Grow b h h1 := ⟨a.nx, fun k hk => a.old k (Nat.lt_of_lt_of_le hk hb) (by omega), a.hc⟩
theorem Keep.put (hid : id.nat < h.nx.nat) (x : Blk) : Keep id h (h.put id x) := by
  have g : Grow id.nat h (h.put id x) := Grow.put (Nat.le_refl _) hid x
  exact ⟨g.nx, fun k _ hn => get_put_other (fun e => hn (by rw [e])), g.hc⟩
theorem Sl.keep {α : Type} {e : α → V} {v : V} {L : List α} (hs : Sl e h v L) (hc : HC h) (hn : NotIn id v) (k : Keep id h h') : Sl e h' v L := hs.same fun i off n sz ev => k.old i (hs.lt hc i off n sz ev) fun ei => hn off n sz (by rw [ev, show i = id from K.nat_inj ei])
end
/-! ### The reference's One -/
theorem fam1 : ∀ c, c < 64 → pop6 c = 1 → ∀ k, k < 64 → famB [(c : Int)] k = (decide (k = 0) || decide (k = c)) := by
  intro c hc h1 k hk
  have h : ∀ c, c < 64 → pop6 c = 1 → ∀ k, k < 64 → decide ((k &&& c = k) ↔ (k = 0 ∨ k = c)) = true := by decide +kernel
  have := of_decide_eq_true (h c hc h1 k hk)
  show ([(c : Int)].any fun s => ptI (k : Int) s) = _
  rw [List.any_cons, List.any_nil, Bool.or_false, ptI_nat hk hc]
  by_cases e : k &&& c = k
  · rw [decide_eq_true e]
    rcases this.1 e with h | h
    · rw [decide_eq_true h]; rfl
    · rw [decide_eq_true h, Bool.or_true]
  · rw [decide_eq_false e, decide_eq_false fun h => e (this.2 (.inl h)), decide_eq_false fun h => e (this.2 (.inr h))]; rfl
theorem corn_iff {c : Nat} : c ∈ cornN 63 ↔ c < 64 ∧ pop6 c = 1 := by
  have h : ∀ c, c < 64 → decide (c ∈ cornN 63 ↔ pop6 c = 1) = true := by decide +kernel
  constructor
  · intro hc
    have hl : c < 64 := by
      have : ∀ x ∈ cornN 63, x < 64 := by decide +kernel
      exact this c hc
    exact ⟨hl, (of_decide_eq_true (h c hl)).1 hc⟩
  · rintro ⟨h1, h2⟩
    exact (of_decide_eq_true (h c h1)).2 h2
end Go.Ev
namespace Go.Ev
open Go Go.RowKit
noncomputable def f72_r0 : List EOper := [⟨(some (K.ofNat 4)), none, .as (.c (.b false))⟩]
noncomputable def f72_r1 : List EOper := [⟨(some (K.ofNat 11)), none, .mv (.t (K.ofNat 0))⟩, ⟨(some (K.ofNat 12)), none, .call (.c (.fn (K.ofNat 42) [])) [(.t (K.ofNat 11))]⟩]
noncomputable def f72_r2 : List EOper := [⟨(some (K.ofNat 4)), none, .as (.c (.b true))⟩]
noncomputable def f72_r3 : List EOper := [⟨(some (K.ofNat 5)), none, .as (.c (.i .i64 (.ofNat 0)))⟩]
noncomputable def f72_r4 : List EOper := [⟨(some (K.ofNat 6)), none, .as (.c (.i .i64 (.ofNat 0)))⟩]
noncomputable def f72_r5 : List EOper := [⟨(some (K.ofNat 13)), none, .mv (.t (K.ofNat 6))⟩, ⟨(some (K.ofNat 14)), none, .mv (.t (K.ofNat 0))⟩, ⟨(some (K.ofNat 15)), none, .len (.t (K.ofNat 14))⟩, ⟨(some (K.ofNat 16)), none, .bin .lss (.t (K.ofNat 13)) (.t (K.ofNat 15))⟩]
noncomputable def f72_r6 : List EOper := [⟨(some (K.ofNat 19)), none, .mv (.t (K.ofNat 5))⟩, ⟨(some (K.ofNat 20)), none, .mv (.t (K.ofNat 0))⟩, ⟨(some (K.ofNat 21)), none, .mv (.t (K.ofNat 6))⟩, ⟨(some (K.ofNat 22)), none, .iads 1 (.t (K.ofNat 20)) (.t (K.ofNat 21))⟩, ⟨(some (K.ofNat 23)), none, .ld (.t (K.ofNat 22))⟩, ⟨(some (K.ofNat 24)), none, .bin .shl (.c (.i .i64 (.ofNat 1))) (.t (K.ofNat 23))⟩, ⟨(some (K.ofNat 25)), none, .bin .or (.t (K.ofNat 19)) (.t (K.ofNat 24))⟩, ⟨(some (K.ofNat 5)), none, .as (.t (K.ofNat 25))⟩]
noncomputable def f72_r7 : List EOper := [⟨(some (K.ofNat 17)), none, .mv (.t (K.ofNat 6))⟩, ⟨(some (K.ofNat 18)), none, .bin .add (.t (K.ofNat 17)) (.c (.i .i64 (.ofNat 1)))⟩, ⟨(some (K.ofNat 6)), none, .as (.t (K.ofNat 18))⟩]
noncomputable def f72_l0 : EC := (.seq (.seq (.reg f72_r5) (.cond (.t (K.ofNat 16)) .skip (.exit 0))) (.seq (.block 1 (.reg f72_r6)) (.reg f72_r7)))
noncomputable def f72_r8 : List EOper := [⟨(some (K.ofNat 26)), none, .mv (.t (K.ofNat 1))⟩, ⟨(some (K.ofNat 27)), none, .mv (.t (K.ofNat 5))⟩, ⟨(some (K.ofNat 28)), none, .look 3 (.one (some .i64)) (.b false) (.t (K.ofNat 26)) (.t (K.ofNat 27)) false⟩]
noncomputable def f72_r9 : List EOper := [⟨(some (K.ofNat 4)), none, .as (.c (.b false))⟩]
noncomputable def f72_r10 : List EOper := [⟨(some (K.ofNat 7)), none, .as (.c (.i .i64 (.ofNat 0)))⟩]
noncomputable def f72_r11 : List EOper := [⟨(some (K.ofNat 29)), none, .mv (.t (K.ofNat 7))⟩, ⟨(some (K.ofNat 30)), none, .mv (.t (K.ofNat 0))⟩, ⟨(some (K.ofNat 31)), none, .len (.t (K.ofNat 30))⟩, ⟨(some (K.ofNat 32)), none, .bin .lss (.t (K.ofNat 29)) (.t (K.ofNat 31))⟩]
noncomputable def f72_r12 : List EOper := [⟨(some (K.ofNat 8)), none, .as (.c (.i .i64 (.ofNat 0)))⟩]
noncomputable def f72_r13 : List EOper := [⟨(some (K.ofNat 35)), none, .mv (.t (K.ofNat 8))⟩, ⟨(some (K.ofNat 36)), none, .mv (.t (K.ofNat 0))⟩, ⟨(some (K.ofNat 37)), none, .len (.t (K.ofNat 36))⟩, ⟨(some (K.ofNat 38)), none, .bin .lss (.t (K.ofNat 35)) (.t (K.ofNat 37))⟩]
noncomputable def f72_r14 : List Stage := [⟨[⟨(some (K.ofNat 42)), none, .mv (.t (K.ofNat 0))⟩, ⟨(some (K.ofNat 43)), none, .mv (.t (K.ofNat 0))⟩, ⟨(some (K.ofNat 44)), none, .mv (.t (K.ofNat 7))⟩, ⟨(some (K.ofNat 45)), none, .iads 1 (.t (K.ofNat 43)) (.t (K.ofNat 44))⟩, ⟨(some (K.ofNat 46)), none, .ld (.t (K.ofNat 45))⟩, ⟨(some (K.ofNat 47)), none, .mv (.t (K.ofNat 0))⟩, ⟨(some (K.ofNat 48)), none, .mv (.t (K.ofNat 8))⟩, ⟨(some (K.ofNat 49)), none, .iads 1 (.t (K.ofNat 47)) (.t (K.ofNat 48))⟩, ⟨(some (K.ofNat 50)), none, .ld (.t (K.ofNat 49))⟩, ⟨(some (K.ofNat 51)), none, .build [(.i .i64 (.ofNat 0)), (.i .i64 (.ofNat 0))] [(0, 1, (.t (K.ofNat 46))), (1, 1, (.t (K.ofNat 50)))]⟩], [], (some ⟨(some (K.ofNat 52)), none, .call (.c (.fn (K.ofNat 43) [])) [(.t (K.ofNat 42)), (.t (K.ofNat 51))]⟩), []⟩, ⟨[⟨(some (K.ofNat 41)), none, .mv (.t (K.ofNat 52))⟩, ⟨(some (K.ofNat 53)), none, .ext (.t (K.ofNat 41)) 0⟩, ⟨(some (K.ofNat 54)), none, .ext (.t (K.ofNat 41)) 1⟩], [], (some ⟨(some (K.ofNat 9)), none, .as (.t (K.ofNat 53))⟩), []⟩, ⟨[], [⟨(some (K.ofNat 54)), none, .ext (.t (K.ofNat 41)) 1⟩], (some ⟨(some (K.ofNat 10)), none, .as (.t (K.ofNat 54))⟩), []⟩, ⟨[], [], none, []⟩]
noncomputable def f72_r15 : List EOper := [⟨(some (K.ofNat 55)), none, .mv (.t (K.ofNat 10))⟩]
noncomputable def f72_r16 : List EOper := [⟨(some (K.ofNat 56)), none, .mv (.t (K.ofNat 9))⟩, ⟨(some (K.ofNat 57)), none, .mv (.t (K.ofNat 1))⟩, ⟨(some (K.ofNat 58)), none, .call (.c (.fn (K.ofNat 72) [])) [(.t (K.ofNat 56)), (.t (K.ofNat 57))]⟩]
noncomputable def f72_r17 : List EOper := [⟨(some (K.ofNat 4)), none, .as (.c (.b true))⟩]
noncomputable def f72_r18 : List EOper := [⟨(some (K.ofNat 39)), none, .mv (.t (K.ofNat 8))⟩, ⟨(some (K.ofNat 40)), none, .bin .add (.t (K.ofNat 39)) (.c (.i .i64 (.ofNat 1)))⟩, ⟨(some (K.ofNat 8)), none, .as (.t (K.ofNat 40))⟩]
noncomputable def f72_l1 : EC := (.seq (.seq (.reg f72_r13) (.cond (.t (K.ofNat 38)) .skip (.exit 4))) (.seq (.block 5 (.seq (.draw f72_r14) (.seq (.reg f72_r15) (.cond (.t (K.ofNat 55)) (.seq (.reg f72_r16) (.cond (.t (K.ofNat 58)) (.seq (.reg f72_r17) .ret) .skip)) .skip)))) (.reg f72_r18)))
noncomputable def f72_r19 : List EOper := [⟨(some (K.ofNat 33)), none, .mv (.t (K.ofNat 7))⟩, ⟨(some (K.ofNat 34)), none, .bin .add (.t (K.ofNat 33)) (.c (.i .i64 (.ofNat 1)))⟩, ⟨(some (K.ofNat 7)), none, .as (.t (K.ofNat 34))⟩]
noncomputable def f72_l2 : EC := (.seq (.seq (.reg f72_r11) (.cond (.t (K.ofNat 32)) .skip (.exit 2))) (.seq (.block 3 (.seq (.reg f72_r12) (.block 4 (.loop f72_l1)))) (.reg f72_r19)))
noncomputable def f72_r20 : List EOper := [⟨(some (K.ofNat 59)), none, .mv (.t (K.ofNat 1))⟩, ⟨(some (K.ofNat 60)), none, .mv (.t (K.ofNat 5))⟩, ⟨none, none, .mupd 3 (.one (some .i64)) (.t (K.ofNat 59)) (.t (K.ofNat 60)) (.c (.b true))⟩]
noncomputable def f72_r21 : List EOper := [⟨(some (K.ofNat 4)), none, .as (.c (.b false))⟩]
noncomputable def f72_c : EC := (.seq (.reg f72_r0) (.seq (.seq (.reg f72_r1) (.cond (.t (K.ofNat 12)) (.seq (.reg f72_r2) .ret) .skip)) (.seq (.reg f72_r3) (.seq (.seq (.reg f72_r4) (.block 0 (.loop f72_l0))) (.seq (.seq (.reg f72_r8) (.cond (.t (K.ofNat 28)) (.seq (.reg f72_r9) .ret) .skip)) (.seq (.seq (.reg f72_r10) (.block 2 (.loop f72_l2))) (.seq (.reg f72_r20) (.seq (.reg f72_r21) .ret))))))))
noncomputable def f72 : EF := ⟨61, [.tmp (K.ofNat 4)], f72_c, none⟩
theorem f72_rs : f72.rs = [.tmp (K.ofNat 4)] := of_eq_true (eq_self _)
theorem one_ref {B : Nat → Bool} : oneR (memI B) = cornB B := by
  have hl : ∀ c, c < 64 → decide (pop6 c = 1 → (List.range 64).filter (fun k => decide (k = 0) || decide (k = c)) = [0, c]) = true := by decide +kernel
  cases hc : cornB B
  · cases ho : oneR (memI B)
    · rfl
    · exfalso
      unfold oneR at ho
      split at ho
      · rename_i a b hab
        rw [Bool.and_eq_true, decide_eq_true_eq, decide_eq_true_eq] at ho
        obtain ⟨rfl, h1⟩ := ho
        obtain ⟨m, rfl, hm, hB⟩ := memI_iff.1 (show b ∈ memI B by rw [hab]; simp)
        rw [sizZ_n hm] at h1
        have hcb : cornB B = true := by
          unfold cornB
          refine List.any_eq_true.2 ⟨m, corn_iff.2 ⟨hm, h1⟩, decide_eq_true ?_⟩
          apply arr_congr
          intro k hk
          rw [fam1 m hm h1 k hk]
          have hk1 : B k = true ↔ (k : Int) ∈ memI B := by
            rw [memI_iff]
            constructor
            · exact fun h => ⟨k, rfl, hk, h⟩
            · rintro ⟨k', e, _, h⟩
              have : k = k' := by omega
              rw [this]; exact h
          rw [hab] at hk1
          have hk2 : (k : Int) ∈ [0, (m : Int)] ↔ (k = 0 ∨ k = m) := by
            rw [List.mem_cons, List.mem_singleton]; omega
          rw [hk2] at hk1
          by_cases e : k = 0 ∨ k = m
          · rw [hk1.2 e]
            rcases e with e | e <;> rw [decide_eq_true e] <;> simp
          · rw [show B k = false by cases h : B k; rfl; exact absurd (hk1.1 h) e, decide_eq_false fun h => e (.inl h), decide_eq_false fun h => e (.inr h)]; rfl
        rw [hc] at hcb; cases hcb
      · cases ho
  · unfold cornB at hc
    obtain ⟨c, hcm, he⟩ := List.any_eq_true.1 hc
    obtain ⟨h1, h2⟩ := corn_iff.1 hcm
    have he := of_decide_eq_true he
    have hB : ∀ k, k < 64 → B k = (decide (k = 0) || decide (k = c)) := fun k hk => by
      have e : (arr B 64)[k]'(by rw [arr_len]; exact hk) = (arr (famB [(c : Int)]) 64)[k]'(by rw [arr_len]; exact hk) := by simp only [he]
      rw [arr_at, arr_at, fam1 c h1 h2 k hk] at e
      exact e
    have hm : memI B = [0, (c : Int)] := by
      unfold memI mem64
      rw [List.filter_congr (q := fun k => decide (k = 0) || decide (k = c)) fun k hk => hB k (List.mem_range.1 hk), of_decide_eq_true (hl c h1) h2]; rfl
    rw [hm]
    unfold oneR
    show (decide ((0 : Int) = 0) && decide (sizZ (c : Int) = 1)) = true
    rw [sizZ_n h1, h2]; rfl
section
variable {fs : T EF} {ro : Option K}
theorem stay_ext {fr : Fr} {h : H} {x : EO} {k : K} {i : Nat} : (stays fs goNo fr h ⟨some k, none, .ext x i⟩ = true) = again ((ev fr x).onTup fun l => okv (nth l i) h) (getV (fr.get k)) := chk_again
/-- What was tried: no corner can be left of it. -/
def TrZ (M : List (BitVec 64)) : Prop := ∀ B, Low B → keyL (mem64 B) ∈ M → ¬ ToC B
def f72_I0 (h : H) (id : K) (v : V) (B : Nat → Bool) (i : Nat) (fr : Fr) (h1 : H) : Prop := h1 = h ∧ i ≤ (mem64 B).length ∧ fr.get (K.ofNat 0) = some (v) ∧ fr.get (K.ofNat 1) = some (.m id) ∧ fr.get (K.ofNat 5) = some (.i .i64 (keyL ((mem64 B).take i)).toInt) ∧ fr.get (K.ofNat 6) = some (.i .i64 (i : Int))
def f72_I1 (h : H) (id : K) (v : V) (B : Nat → Bool) (i x : Nat) (j : Nat) (fr : Fr) (h1 : H) : Prop := ∃ M, j ≤ (mem64 B).length ∧ MapZ h1 id 3 M ∧ TrZ M ∧ Keep id h h1 ∧ (∀ e ∈ (mem64 B).take j, colS B (x : Int) = some e → ¬ ToC (lessB B x e)) ∧ fr.get (K.ofNat 0) = some (v) ∧ fr.get (K.ofNat 1) = some (.m id) ∧ fr.get (K.ofNat 5) = some (.i .i64 (keyL (mem64 B)).toInt) ∧ fr.get (K.ofNat 7) = some (.i .i64 (i : Int)) ∧ fr.get (K.ofNat 8) = some (.i .i64 (j : Int))
def f72_I2 (h : H) (id : K) (v : V) (B : Nat → Bool) (i : Nat) (fr : Fr) (h1 : H) : Prop := ∃ M, i ≤ (mem64 B).length ∧ MapZ h1 id 3 M ∧ TrZ M ∧ Keep id h h1 ∧ (∀ x ∈ (mem64 B).take i, ∀ e, colS B (x : Int) = some e → ¬ ToC (lessB B x e)) ∧ fr.get (K.ofNat 0) = some (v) ∧ fr.get (K.ofNat 1) = some (.m id) ∧ fr.get (K.ofNat 5) = some (.i .i64 (keyL (mem64 B)).toInt) ∧ fr.get (K.ofNat 7) = some (.i .i64 (i : Int))
def Q72 (B : Nat → Bool) (id : K) (h : H) (r : V) (h' : H) : Prop := ∃ x M', r = .b x ∧ (x = true ↔ ToC B) ∧ MapZ h' id 3 M' ∧ TrZ M' ∧ Keep id h h'
theorem f72_call (hp53 : ∀ a b h P, CallP fs (.fn (K.ofNat 53) []) [.i .i64 a, .i .i64 b] h P = P (.b (ptI a b)) h) (hp52 : ∀ a, inR .i64 a = true → ∀ h P, CallP fs (.fn (K.ofNat 52) []) [.i .i64 a] h P = P (.i .i64 (sizZ a : Int)) h)
    (h42 : fs.get (K.ofNat 42) = some f42) (h43 : fs.get (K.ofNat 43) = some f43) (h72 : fs.get (K.ofNat 72) = some f72) {id : K} : ∀ (n : Nat) (B : Nat → Bool) (M : List (BitVec 64)) (v : V) (h : H), card B < n → Low B → Clo B → TrZ M → MapZ h id 3 M → id.nat < h.nx.nat → Sl iE h v (memI B) → NotIn id v → HC h → CallP fs (.fn (K.ofNat 72) []) [v, .m id] h (Q72 B id h) := by
  intro n
  induction n with
  | zero => intro B M v h hn; omega
  | succ n ih =>
  intro B M v h hn hl hcl tr hm hid hv hni hc
  refine callP_0 (ef := f72) h72 rfl ?_
  apply ret_of rfl
  show W fs none f72_c _ _ _
  unfold f72_c
  have hs : Sl nE h v (mem64 B) := hv.unmap
  have hl64 : (mem64 B).length ≤ 64 := mem64_len
  simp (disch := omega) only [f72_r0, f72_r1, w_reg, w_seq, seqK_n, x_nil, x_mv, x_as, x_call, ev_t, ev_c, evs_nil, evs_cons, getV_some, putD_some, frame_2, getK_set, Nat.reduceEqDiff, ↓reduceIte]
  refine (callP_0 (ef := f42) h42 rfl (f42_ret hp52 hv (fun x hx => by obtain ⟨m, rfl, hm, _⟩ := memI_iff.1 hx; exact inR_n (by omega)) (Nat.le_trans memI_len (by omega)))).mono ?_
  rintro r h' ⟨rfl, rfl⟩
  rw [one_ref]
  cases hcor : cornB B
  · simp (disch := omega) only [f72_r3, f72_r4, w_skip, w_reg, w_seq, w_cond, w_block, seqK_n, ckB_b, cbB_b, true_and, x_nil, x_as, kx, ev_t, ev_c, getV_some, putD_some, of0, getK_set, ↓reduceIte, Bool.false_eq_true]
    refine W_loop (f72_I0 h' id v B) (fun i => (mem64 B).length - i) ?_ 0 ⟨rfl, Nat.zero_le _, by simp (disch := omega) only [getK_set, Nat.reduceEqDiff, ↓reduceIte, and_self, Int.natCast_zero, List.take_zero, show (keyL []).toInt = 0 from rfl]⟩
    rintro i fr h1 ⟨rfl, hi, g0, g1, g5, g6⟩
    unfold f72_l0
    by_cases hlt : i < (mem64 B).length
    · have hlt' : (i : Int) < ((mem64 B).length : Int) := by omega
      obtain ⟨p, hp1, hp2⟩ := hs.at i hlt
      have htk : keyL ((mem64 B).take (i + 1)) = keyL ((mem64 B).take i) ||| BitVec.twoPow 64 (mem64 B)[i] := by
        rw [List.take_succ_eq_append_getElem hlt]
        unfold keyL
        rw [List.foldl_append]; rfl
      have hx64 := mem64_lt _ (List.getElem_mem hlt)
      generalize (mem64 B)[i] = x at *
      simp (disch := omega) only [f72_r5, f72_r6, f72_r7, w_skip, w_reg, w_seq, w_cond, w_block, seqK_n, atK_n, loopK_n, ckB_b, cbB_b, true_and, x_nil, x_mv, x_as, x_ld, x_bin, x_iads, x_len, kx, rvP_ok, okv_some, ev_t, ev_c, getV_some, putD_some, bin_add, bin_lss, of1, getK_set, Nat.reduceEqDiff, ↓reduceIte, g0, g5, g6, hs.len, hlt', decide_true, hp1, hp2, nE, shl_bv x hx64, or_bv, fw64]
      exact ⟨i + 1, by omega, rfl, hlt, by rw [htk]; simp (disch := omega) only [getK_set, Nat.reduceEqDiff, ↓reduceIte, g0, g1, and_self, Int.natCast_add, Int.natCast_one]⟩
    · obtain rfl : i = (mem64 B).length := by omega
      rw [List.take_length] at g5
      by_cases hk : keyL (mem64 B) ∈ M
      · have hno := tr B hl hk
        simp (disch := omega) only [f72_r5, f72_r8, f72_r9, f72_rs, w_reg, w_seq, w_cond, w_exit, w_ret, seqK_n, seqK_e, seqK_r, atK_e, loopK_e, ckB_b, cbB_b, true_and, retK_r, x_nil, x_mv, x_as, x_bin, x_look, x_len, kx, rvP_ok, okv_some, ev_t, ev_c, getV_some, putD_some, bin_lss, oGet_s, readRs_nil, readRs_t, retV_1, Option.some.injEq, exists_eq_left', getK_set, Nat.reduceEqDiff, ↓reduceIte, Bool.false_eq_true, g0, g1, g5, g6, hs.len, Int.lt_irrefl, decide_false, hm.look, decide_eq_true hk]
        exact ⟨false, M, rfl, ⟨fun h => (by cases h), fun h => absurd h hno⟩, hm, tr, .refl _ _⟩
      · simp (disch := omega) only [f72_r5, f72_r8, f72_r10, w_skip, w_reg, w_seq, w_cond, w_block, w_exit, seqK_n, seqK_e, atK_e, loopK_e, ckB_b, cbB_b, true_and, x_nil, x_mv, x_as, x_bin, x_look, x_len, kx, rvP_ok, okv_some, ev_t, ev_c, getV_some, putD_some, bin_lss, of0, getK_set, Nat.reduceEqDiff, ↓reduceIte, Bool.false_eq_true, g0, g1, g5, g6, hs.len, Int.lt_irrefl, decide_false, hm.look, decide_eq_false hk]
        refine W_loop (f72_I2 h1 id v B) (fun i => (mem64 B).length - i) ?_ 0 ⟨M, Nat.zero_le _, hm, tr, .refl _ _, fun x hx => (by rw [List.take_zero] at hx; cases hx), by simp (disch := omega) only [getK_set, Nat.reduceEqDiff, ↓reduceIte, g0, g1, g5, and_self, Int.natCast_zero]⟩
        clear hm tr hk M g0 g1 g5 g6
        rintro i fr h2 ⟨M, hi, hm, tr, kp, hno, g0, g1, g5, g7⟩
        have hs2 := hs.keep hc hni kp
        unfold f72_l2
        by_cases hlt : i < (mem64 B).length
        · have hlt' : (i : Int) < ((mem64 B).length : Int) := by omega
          have htk : (mem64 B).take (i + 1) = (mem64 B).take i ++ [(mem64 B)[i]] := List.take_succ_eq_append_getElem hlt
          have hxm := List.getElem_mem hlt
          have hxi : (mem64 B)[i] = (mem64 B)[i] := rfl
          generalize hx : (mem64 B)[i] = x at hxm htk
          have hxB := mem64_iff.1 hxm
          simp (disch := omega) only [f72_r11, f72_r12, w_skip, w_reg, w_seq, w_cond, w_block, seqK_n, ckB_b, cbB_b, true_and, x_nil, x_mv, x_as, x_bin, x_len, kx, rvP_ok, okv_some, ev_t, ev_c, getV_some, putD_some, bin_lss, of0, getK_set, Nat.reduceEqDiff, ↓reduceIte, g0, g7, hs2.len, hlt', decide_true]
          refine W_loop (f72_I1 h1 id v B i x) (fun j => (mem64 B).length - j) ?_ 0 ⟨M, Nat.zero_le _, hm, tr, kp, fun x hx => (by rw [List.take_zero] at hx; cases hx), by simp (disch := omega) only [getK_set, Nat.reduceEqDiff, ↓reduceIte, g0, g1, g5, g7, and_self, Int.natCast_zero]⟩
          clear hm tr kp M hs2 g0 g1 g5 g7
          rintro j fr h3 ⟨M, hj, hm, tr, kp, hne, g0, g1, g5, g7, g8⟩
          have hs3 := hs.keep hc hni kp
          have hv3 := hv.keep hc hni kp
          have hc3 := kp.hc hc
          have nx3 := kp.nx
          unfold f72_l1
          by_cases hjt : j < (mem64 B).length
          · have hjt' : (j : Int) < ((mem64 B).length : Int) := by omega
            obtain ⟨p, hp1, hp2⟩ := hs3.at i hlt
            obtain ⟨q, hq1, hq2⟩ := hs3.at j hjt
            rw [hx] at hp2
            have htj : (mem64 B).take (j + 1) = (mem64 B).take j ++ [(mem64 B)[j]] := List.take_succ_eq_append_getElem hjt
            have hem := mem64_iff.1 (List.getElem_mem hjt)
            generalize (mem64 B)[j] = e at *
            simp (disch := omega) only [f72_r13, f72_r14, w_skip, w_reg, w_draw, w_seq, w_cond, w_block, seqK_n, ckB_b, cbB_b, true_and, x_nil, x_mv, x_bin, x_call, x_len, kx, kg, xg_nil, xg_mv, xg_build, xg_ld, xg_iads, xd_cons, fresh_nil, stK_s, stay_nil, rvP_ok, okv_some, ev_t, ev_c, evs_nil, evs_cons, getV_some, putD_some, bin_lss, oGet_s, cells1_i, of0, getK_set, Nat.reduceEqDiff, ↓reduceIte, g0, g7, g8, hs3.len, hjt', decide_true, hp1, hp2, hq1, hq2, nE, fill_2, set_2]
            refine (callP_0 (ef := f43) h43 rfl (f43_ret hp53 hp52 hv3 (Nat.le_trans memI_len (by omega)) (inR_n (by omega)) (inR_n (by omega)) hc3)).mono ?_
            rintro r h4 ⟨u, rfl, hu, g4⟩
            rw [col_ref hcl] at hu ⊢
            have kp4 := kp.trans (.of g4)
            have hm4 : MapZ h4 id 3 M := (g4.old id (by omega)).trans hm
            have hadd : fw .i64 ((j : Int) + 1) = ((j + 1 : Nat) : Int) := by rw [fw64 (by omega) (by omega)]; omega
            have next : ∀ h5 M5, MapZ h5 id 3 M5 → TrZ M5 → Keep id h1 h5 → (colS B (x : Int) = some e → ¬ ToC (lessB B x e)) → ∀ fr, fr.get (K.ofNat 0) = some (v) ∧ fr.get (K.ofNat 1) = some (.m id) ∧ fr.get (K.ofNat 5) = some (.i .i64 (keyL (mem64 B)).toInt) ∧ fr.get (K.ofNat 7) = some (.i .i64 (i : Int)) ∧ fr.get (K.ofNat 8) = some (.i .i64 ((j + 1 : Nat) : Int)) → f72_I1 h1 id v B i x (j + 1) fr h5 := fun h5 M5 a1 a2 a3 a4 fr a5 => ⟨M5, hjt, a1, a2, a3, fun y hy ho => by
              rw [htj] at hy
              rcases List.mem_append.1 hy with hy | hy
              · exact hne y hy ho
              · rw [List.mem_singleton.1 hy] at ho ⊢; exact a4 ho, a5⟩
            cases hcs : colS B (x : Int) with
            | none =>
              simp (disch := omega) only [f72_r15, f72_r18, w_skip, w_reg, w_seq, w_cond, seqK_n, atK_n, loopK_n, ckB_b, cbB_b, true_and, x_nil, x_mv, x_as, x_bin, kx, kg, xg_nil, xg_mv, xg_ext, xd_cons, fresh_nil, stK_n, stK_s, stay_nil, stay_cons, again_ok, beq_b, rvP_ok, okv_some, ev_t, ev_c, getV_some, putD_some, bin_add, onTup_t, nth0, nth1, of1, getK_set, Nat.reduceEqDiff, ↓reduceIte, Bool.false_eq_true, g8, Option.isSome_none, stay_ext, beq_b, hadd]
              exact ⟨j + 1, by omega, next _ M hm4 tr kp4 (fun h => (by rw [hcs] at h; cases h)) _ (by simp (disch := omega) only [getK_set, Nat.reduceEqDiff, ↓reduceIte, g0, g1, g5, g7, and_self])⟩
            | some o =>
              rw [hcs] at hu
              by_cases hoe : (o : Int) = (e : Int)
              · have hoe' : o = e := by omega
                subst hoe'
                obtain ⟨hsu, hou⟩ := hu _ (if_pos rfl)
                change Sl iE h4 u (memI (lessB B x o)) at hsu
                simp (disch := omega) only [f72_r15, f72_r16, w_reg, w_seq, w_cond, seqK_n, ckB_b, cbB_b, true_and, x_nil, x_mv, x_as, x_call, kx, kg, xg_nil, xg_mv, xg_ext, xd_cons, fresh_nil, stK_n, stK_s, stay_nil, stay_cons, again_ok, beq_b, rvP_ok, okv_some, ev_t, ev_c, evs_nil, evs_cons, getV_some, putD_some, onTup_t, nth0, nth1, getK_set, Nat.reduceEqDiff, ↓reduceIte, g1, Option.isSome_some, stay_ext, beq_b]
                have hcd := card_less (o := o) hxB.1 hxB.2
                refine (ih (lessB B x o) M u h4 (by omega) (low_less hl) (clo_less hcl hcs) tr hm4 (by have := g4.nx; omega) hsu (hou.notIn (by omega)) (g4.hc hc3)).mono ?_
                rintro r h5 ⟨y, M5, rfl, hy, hm5, tr5, kp5⟩
                cases y
                · simp (disch := omega) only [f72_r18, w_skip, w_reg, w_cond, seqK_n, atK_n, loopK_n, ckB_b, cbB_b, true_and, x_nil, x_mv, x_as, x_bin, kx, rvP_ok, okv_some, ev_t, ev_c, getV_some, putD_some, bin_add, of1, getK_set, Nat.reduceEqDiff, ↓reduceIte, Bool.false_eq_true, g8, hadd]
                  exact ⟨j + 1, by omega, next _ M5 hm5 tr5 (kp4.trans kp5) (fun _ h => (by have := hy.2 h; cases this)) _ (by simp (disch := omega) only [getK_set, Nat.reduceEqDiff, ↓reduceIte, g0, g1, g5, g7, and_self])⟩
                · have ht : ToC B := .step hcs (hy.1 rfl)
                  simp (disch := omega) only [f72_r17, f72_rs, w_reg, w_seq, w_cond, w_ret, seqK_n, seqK_r, atK_r, loopK_r, ckB_b, cbB_b, true_and, retK_r, x_nil, x_as, kx, ev_t, ev_c, getV_some, putD_some, oGet_s, readRs_nil, readRs_t, retV_1, Option.some.injEq, exists_eq_left', getK_set, ↓reduceIte]
                  exact ⟨true, M5, rfl, ⟨fun _ => ht, fun _ => rfl⟩, hm5, tr5, kp4.trans kp5⟩
              · simp (disch := omega) only [f72_r15, f72_r18, w_skip, w_reg, w_seq, w_cond, seqK_n, atK_n, loopK_n, ckB_b, cbB_b, true_and, x_nil, x_mv, x_as, x_bin, kx, kg, xg_nil, xg_mv, xg_ext, xd_cons, fresh_nil, stK_n, stK_s, stay_nil, stay_cons, again_ok, beq_b, rvP_ok, okv_some, ev_t, ev_c, getV_some, putD_some, bin_add, onTup_t, nth0, nth1, of1, getK_set, Nat.reduceEqDiff, ↓reduceIte, Bool.false_eq_true, g8, if_neg hoe, Option.isSome_none, stay_ext, beq_b, hadd]
                exact ⟨j + 1, by omega, next _ M hm4 tr kp4 (fun h => (by rw [hcs] at h; cases h; exact absurd rfl hoe)) _ (by simp (disch := omega) only [getK_set, Nat.reduceEqDiff, ↓reduceIte, g0, g1, g5, g7, and_self])⟩
          · obtain rfl : j = (mem64 B).length := by omega
            rw [List.take_length] at hne
            have hadd : fw .i64 ((i : Int) + 1) = ((i + 1 : Nat) : Int) := by rw [fw64 (by omega) (by omega)]; omega
            simp (disch := omega) only [f72_r13, f72_r19, w_reg, w_seq, w_cond, w_exit, seqK_n, seqK_e, atK_n, atK_e, loopK_n, loopK_e, ckB_b, cbB_b, true_and, x_nil, x_mv, x_as, x_bin, x_len, kx, rvP_ok, okv_some, ev_t, ev_c, getV_some, putD_some, bin_add, bin_lss, of1, getK_set, Nat.reduceEqDiff, ↓reduceIte, Bool.false_eq_true, g0, g7, g8, hs3.len, Int.lt_irrefl, decide_false, hadd]
            exact ⟨i + 1, by omega, M, hlt, hm, tr, kp, fun y hy o ho => (by
              rw [htk] at hy
              rcases List.mem_append.1 hy with hy | hy
              · exact hno y hy o ho
              · rw [List.mem_singleton.1 hy] at ho ⊢
                obtain ⟨m, em, _, _, _, _, ho64, hBo, _⟩ := col_mem ho
                exact hne o (mem64_iff.2 ⟨ho64, hBo⟩) ho), by simp (disch := omega) only [getK_set, Nat.reduceEqDiff, ↓reduceIte, g0, g1, g5, and_self]⟩
        · obtain rfl : i = (mem64 B).length := by omega
          rw [List.take_length] at hno
          have hnt := no_col hcor hno
          obtain ⟨M', hM', q1, q2⟩ := hm.put (keyL (mem64 B))
          simp (disch := omega) only [f72_r11, f72_r20, f72_r21, f72_rs, w_reg, w_seq, w_cond, w_exit, w_ret, seqK_n, seqK_e, atK_e, loopK_e, ckB_b, cbB_b, true_and, retK_r, x_nil, x_mv, x_as, x_bin, x_mupd, x_len, kx, rvP_ok, okv_some, ev_t, ev_c, getV_some, putD_some, putD_none, bin_lss, oGet_s, readRs_nil, readRs_t, retV_1, Option.some.injEq, exists_eq_left', getK_set, Nat.reduceEqDiff, ↓reduceIte, Bool.false_eq_true, g0, g1, g5, g7, hs2.len, Int.lt_irrefl, decide_false, q1]
          refine ⟨false, M', rfl, ⟨fun h => (by cases h), fun h => absurd h hnt⟩, q2, fun B' hl' hk' => ?_, kp.trans (.put (by have := kp.nx; omega) _)⟩
          rcases (hM' _).1 hk' with h | h
          · rw [keyL_inj hl' hl (by rw [h])]; exact hnt
          · exact tr B' hl' h
  · have ht : ToC B := .corner hcor
    simp (disch := omega) only [f72_r2, f72_rs, w_reg, w_seq, w_cond, w_ret, seqK_n, seqK_r, ckB_b, cbB_b, true_and, retK_r, x_nil, x_as, kx, ev_t, ev_c, getV_some, putD_some, oGet_s, readRs_nil, readRs_t, retV_1, Option.some.injEq, exists_eq_left', getK_set, ↓reduceIte]
    exact ⟨true, M, rfl, ⟨fun _ => ht, fun _ => rfl⟩, hm, tr, .refl _ _⟩
end
end Go.Ev
namespace Go.Ev
open Go Go.RowKit Go.ChangeShapes Go.WideShapes Go.ChangeAt
/-- What is read of such a value does not depend on memory. -/
def Plain (P : Program) (e : TypeId) : Prop := ∀ {H : Type} (enc : TypeId × Value → H) (W W' : World) (base : Nat) (sp sp' : Nat → Bool) (held : Bool) (n : Nat) (cs : List Value), DataW.trod enc P W base sp held n e cs = DataW.trod enc P W' base sp' held n e cs
theorem plain_int {P : Program} {e : TypeId} {k : IntKind} (he : P.underlying e = some (.int k)) : Plain P e := by
  intro H enc W W' base sp sp' held n cs
  cases n with
  | zero => rfl
  | succ n =>
    rw [DataW.trod_step, DataW.trod_step]; unfold DataW.trodStep; simp only [he]
    match cs with
    | [] => rfl
    | [c] => cases c <;> rfl
    | c :: _ :: _ => cases c <;> rfl
theorem plain_arr {P : Program} {e i : TypeId} {m : Nat} (he : P.underlying e = some (.array m i)) (hi : Plain P i) : Plain P e := by
  intro H enc W W' base sp sp' held n cs
  cases n with
  | zero => rfl
  | succ n =>
    rw [DataW.trod_step, DataW.trod_step]
    unfold DataW.trodStep
    simp only [he]
    have : (fun j => DataW.trod enc P W base sp held n i ((cs.drop (j * P.cellsOf i)).take (P.cellsOf i))) = fun j => DataW.trod enc P W' base sp' held n i ((cs.drop (j * P.cellsOf i)).take (P.cellsOf i)) := by
      funext j; exact hi enc W W' base sp sp' held n _
    rw [this]
theorem mapM_same {α β : Type} {f g : α → Option β} : ∀ l : List α, (∀ x ∈ l, f x = g x) → l.mapM f = l.mapM g
  | [], _ => rfl
  | x :: l, h => by
    rw [List.mapM_cons, List.mapM_cons, h x (by simp), mapM_same l fun y hy => h y (List.mem_cons_of_mem _ hy)]
theorem cell_below {W W' : World} {a : Addr} (hb : Below W.heap.size W W') (ha : a.block < W.heap.size) : W'.cell? a = W.cell? a := by
  unfold World.cell?
  rw [hb.block a.block ha]
theorem trod_slice_frame {H : Type} {enc : TypeId × Value → H} {P : Program} {W W' : World} {t e : TypeId} (ht : P.underlying t = some (.slice e)) (pe : Plain P e) (hpos : 0 < P.cellsOf e) (hb : Below W.heap.size W W') {v : Value} {d : DataW H} {p : List MemPlace}
    (h : DataW.Trod enc P W 0 (fun _ => true) true t v d p) : DataW.Trod enc P W' 0 (fun b => decide (b < W.heap.size)) true t v d p := by
  obtain ⟨fuel, hf⟩ := h
  rcases DataW.trod_slice ht hf with ⟨hcs, hx⟩ | ⟨a, len, cap, elems, rest, n, rfl, hcs, hx, h0, hl, hm, hlen, hel, hsp, _⟩
  · rw [hcs] at hf
    refine ⟨fuel, ?_⟩
    rw [hcs]
    cases fuel with
    | zero => cases hf
    | succ n =>
      rw [DataW.trod_step] at hf ⊢
      unfold DataW.trodStep at hf ⊢
      simp only [ht] at hf ⊢
      exact hf
  · obtain ⟨hrl, hr⟩ := hsp rfl
    refine ⟨n + 1, ?_⟩
    rw [hcs] at hf ⊢
    rw [DataW.trod_step] at hf ⊢
    unfold DataW.trodStep at hf ⊢
    simp only [ht] at hf ⊢
    rw [if_pos ⟨h0, hl, hm⟩] at hf ⊢
    rw [← hf]
    by_cases hc0 : cap = 0
    · subst hc0
      obtain rfl : len = 0 := by omega
      simp
    · have hbl : a.block < W.heap.size := by
        have : ∃ i y, (W.cells? 0 (a.add (i * P.cellsOf e)) (P.cellsOf e)).bind (DataW.trod enc P W 0 (fun _ => true) true n e) = some y := by
          by_cases h1 : 0 < len
          · exact ⟨0, elems[0]'(by omega), by rw [hel 0 h1, List.getElem?_eq_getElem (by omega)]⟩
          · exact ⟨len + 0, rest[0]'(by omega), by rw [hr 0 (by omega), List.getElem?_eq_getElem (by omega)]⟩
        obtain ⟨i, y, hy⟩ := this
        obtain ⟨cs, h1, _⟩ := Option.bind_eq_some_iff.1 hy
        unfold World.cells? at h1
        rw [if_pos (Nat.zero_le _)] at h1
        obtain ⟨k, hk⟩ : ∃ k, P.cellsOf e = k + 1 := ⟨P.cellsOf e - 1, by omega⟩
        rw [hk, List.range_succ_eq_map, List.mapM_cons] at h1
        cases h2 : W.cell? ((a.add (i * (k + 1))).add 0) with
        | none => rw [h2] at h1; simp at h1
        | some c =>
          unfold World.cell? at h2
          have hbk : ((a.add (i * (k + 1))).add 0).block = a.block := by rw [block_add, block_add]
          rw [hbk] at h2
          split at h2
          · rename_i hh; exact (Array.getElem?_eq_some_iff.1 hh).1
          · cases h2
      have el : ∀ i, (W'.cells? 0 (a.add (i * P.cellsOf e)) (P.cellsOf e)).bind (DataW.trod enc P W' 0 (fun b => decide (b < W.heap.size)) true n e) = (W.cells? 0 (a.add (i * P.cellsOf e)) (P.cellsOf e)).bind (DataW.trod enc P W 0 (fun _ => true) true n e) := by
        intro i
        have h1 : W'.cells? 0 (a.add (i * P.cellsOf e)) (P.cellsOf e) = W.cells? 0 (a.add (i * P.cellsOf e)) (P.cellsOf e) := by
          unfold World.cells?
          rw [if_pos (Nat.zero_le _), if_pos (Nat.zero_le _)]
          exact mapM_same _ fun j _ => cell_below hb (by rw [block_add, block_add]; exact hbl)
        rw [h1]
        congr 1
        funext cs
        exact pe enc W' W 0 _ _ true n cs
      simp only [el, hbl, decide_true, if_true]
/-- A slice of elements of k numbers each, as it came in: all its numbers, up to its capacity. -/
def SlArgK (k : Nat) (W : World) (val : Value) (len : Nat) (zs : List Int) : Prop := (val = .slice none 0 0 ∧ len = 0 ∧ zs = []) ∨ ∃ (b off cap : Nat), val = .slice (some ⟨b, off, none⟩) len cap ∧ len ≤ cap ∧ zs.length = cap * k ∧
  (∀ i (hi : i < zs.length), W.cell? ⟨b, off + i, none⟩ = some (.int .i64 zs[i])) ∧ ∀ i, i < zs.length → W.frozen? ⟨b, off + i, none⟩ = false
/-- A slice of elements of k cells, that is only read. -/
def Srk (k : Nat) (h : H) (v : V) (len : Nat) (cs0 : List V) : Prop := (v = .sn ∧ len = 0 ∧ cs0 = []) ∨ ∃ id off m cs, v = .sl id off len k ∧ (h.get id = .cells m cs ∨ h.get id = .rom m cs) ∧ cs.length = m ∧ off + len * k ≤ m ∧ (cs.drop off).take (len * k) = cs0
theorem Srk.lt {k len : Nat} {h : H} {v : V} {cs0 : List V} (hs : Srk k h v len cs0) (hc : HC h) : ∀ id off n sz, v = .sl id off n sz → id.nat < h.nx.nat := by
  rcases hs with ⟨rfl, _⟩ | ⟨id, off, m, cs, rfl, hb, _⟩
  · exact fun _ _ _ _ h => by cases h
  · exact fun _ _ _ _ h => by cases h; exact hc.lt (by rcases hb with hb | hb <;> rw [hb] <;> simp)
theorem Srk.grow {k len : Nat} {h h' : H} {v : V} {cs0 : List V} (hs : Srk k h v len cs0) (hc : HC h) (hg : Grow h.nx.nat h h') : Srk k h' v len cs0 := by
  have lt := hs.lt hc
  rcases hs with hs | ⟨id, off, m, cs, rfl, hb, hx⟩
  · exact .inl hs
  · exact .inr ⟨id, off, m, cs, rfl, by rw [hg.old id (lt _ _ _ _ rfl)]; exact hb, hx⟩
section
variable {Y : Rig} {ι : Io} {h : H} {W : World}
theorem Roms.addK (r : Roms Y ι h W) {k : Nat} (hk : 0 < k) {val : Value} {len : Nat} {zs : List Int} (ha : SlArgK k W val len zs) : ∃ ι' h' v, Roms Y ι' h' W ∧ Ext ι ι' ∧ VR ι' v val ∧ Srk k h' v len ((zs.take (len * k)).map iE) ∧ Grow h.nx.nat h h' := by
  rcases ha with ⟨rfl, rfl, rfl⟩ | ⟨b, off, cap, rfl, hlen, hzl, hcell, hfro⟩
  · exact ⟨ι, h, .sn, r, Ext.refl _, .sn, .inl ⟨rfl, rfl, by simp⟩, Grow.refl _ _⟩
  -- all its numbers, as a slice of numbers
  have ha1 : SlArg W (.slice (some ⟨b, off, none⟩) zs.length zs.length) zs := .inr ⟨b, off, zs.length, zs, rfl, Nat.le_refl _, by rw [List.take_length], hcell, hfro⟩
  have hkk : len * k ≤ cap * k := Nat.mul_le_mul_right k hlen
  by_cases hz : zs.length = 0
  · have hc0 : cap = 0 := by
      rw [hz] at hzl
      rcases Nat.mul_eq_zero.1 hzl.symm with h | h
      · exact h
      · omega
    subst hc0
    obtain rfl : len = 0 := by omega
    obtain rfl := List.length_eq_zero_iff.1 hz
    have g : Grow h.nx.nat h (h.new (.rom 0 [])) := Grow.new (Nat.le_refl _) _
    refine ⟨ι, h.new (.rom 0 []), .sl h.nx 0 0 k, ⟨r.wr.more (HX.new h _), g.hc r.hc, fun id q hq => ?_⟩, Ext.refl _, .sl0, .inr ⟨h.nx, 0, 0, [], rfl, .inr get_new_same, rfl, by simp, by simp⟩, g⟩
    have : id.nat < h.nx.nat := by
      rcases Nat.lt_or_ge id.nat h.nx.nat with h1 | h1
      · exact h1
      · rw [r.wr.fresh id h1] at hq; cases hq
    rw [get_new_old this]
    exact r.all id q hq
  · obtain ⟨ι', h', v, r', x, vr, sr, g⟩ := r.add ha1
    rcases sr with ⟨_, e⟩ | ⟨id, off', m, cs, rfl, hb, hl, hm, hx⟩
    · rw [e] at hz; exact absurd rfl hz
    · obtain ⟨q, hq, hcap, eb⟩ : ∃ q, ι' id = some q ∧ off' + zs.length * 1 ≤ q.room ∧ (⟨b, off, none⟩ : Addr) = ⟨q.b, q.base + off', none⟩ := by
        generalize hn : zs.length = n at vr
        generalize hval : Value.slice (some ⟨b, off, none⟩) n n = val at vr
        cases vr with
        | sl hq hcap hn' h0 => cases hval; exact ⟨_, hq, hcap, rfl⟩
        | sl0 => omega
      rw [eb]
      refine ⟨ι', h', .sl id off' len k, r', x, ?_, .inr ⟨id, off', m, cs, rfl, hb, hl, by omega, ?_⟩, g⟩
      · refine VR.sl (c := cap) hq ?_ hlen hk
        rw [← hzl]; simpa using hcap
      · apply List.ext_getElem?
        intro i
        rw [List.getElem?_take, List.getElem?_map]
        by_cases hi : i < len * k
        · rw [if_pos hi, List.getElem?_drop, hx i (by omega), List.getElem?_take, if_pos hi, List.getElem?_eq_getElem (by omega)]; rfl
        · rw [if_neg hi, List.getElem?_take, if_neg hi]; rfl
end
theorem trod_array2 {H : Type} {enc : TypeId × Value → H} {P : Program} {w : World} {base : Nat} {spare : Nat → Bool} {held : Bool} {t e : TypeId} {fuel : Nat} {c0 c1 : Value} {x : DataW H × List MemPlace} (ht : P.underlying t = some (.array 2 e)) (hce : P.cellsOf e = 1)
    (h : DataW.trod enc P w base spare held fuel t [c0, c1] = some x) : ∃ y0 y1 n, DataW.trod enc P w base spare held n e [c0] = some y0 ∧ DataW.trod enc P w base spare held n e [c1] = some y1 := by
  cases fuel with
  | zero => simp [DataW.trod] at h
  | succ n =>
    unfold DataW.trod at h
    rw [ht] at h
    have r2 : List.range 2 = [0, 1] := rfl
    simp [r2, hce] at h
    obtain ⟨_, h⟩ := h
    cases h0 : DataW.trod enc P w base spare held n e [c0] with
    | none => simp [h0] at h
    | some y0 =>
      cases h1 : DataW.trod enc P w base spare held n e [c1] with
      | none => simp [h0, h1] at h
      | some y1 => exact ⟨y0, y1, n, h0, h1⟩
theorem cells2_of {w : World} {A : Addr} {cs : List Value} (h : w.cells? 0 A 2 = some cs) : ∃ c0 c1, cs = [c0, c1] ∧ w.cell? (A.add 0) = some c0 ∧ w.cell? (A.add 1) = some c1 := by
  unfold World.cells? at h
  rw [if_pos (Nat.zero_le _), show List.range 2 = [0, 1] from rfl] at h
  cases h0 : w.cell? (A.add 0) with
  | none => simp [List.mapM_cons, h0] at h
  | some c0 =>
    cases h1 : w.cell? (A.add 1) with
    | none => simp [List.mapM_cons, h0, h1] at h
    | some c1 => simp [List.mapM_cons, h0, h1] at h; exact ⟨c0, c1, h.symm, rfl, rfl⟩
def numZ (c : Option Value) : Int := match c with | some (.int _ n) => n | _ => 0
end Go.Ev
namespace Go.Ev
open Go Go.RowKit
noncomputable def f40_r0 : List EOper := [⟨(some (K.ofNat 4)), none, .as (.c (.b false))⟩]
noncomputable def f40_r1 : List EOper := [⟨(some (K.ofNat 7)), none, .mv (.t (K.ofNat 0))⟩, ⟨(some (K.ofNat 8)), none, .mv (.t (K.ofNat 1))⟩, ⟨(some (K.ofNat 9)), none, .call (.c (.fn (K.ofNat 44) [])) [(.t (K.ofNat 7)), (.t (K.ofNat 8))]⟩, ⟨(some (K.ofNat 5)), none, .as (.t (K.ofNat 9))⟩]
noncomputable def f40_r2 : List EOper := [⟨(some (K.ofNat 6)), none, .as (.c (.i .i64 (.ofNat 0)))⟩]
noncomputable def f40_r3 : List EOper := [⟨(some (K.ofNat 10)), none, .mv (.t (K.ofNat 6))⟩, ⟨(some (K.ofNat 11)), none, .mv (.t (K.ofNat 5))⟩, ⟨(some (K.ofNat 12)), none, .len (.t (K.ofNat 11))⟩, ⟨(some (K.ofNat 13)), none, .bin .lss (.t (K.ofNat 10)) (.t (K.ofNat 12))⟩]
noncomputable def f40_r4 : List EOper := [⟨(some (K.ofNat 16)), none, .mv (.t (K.ofNat 5))⟩, ⟨(some (K.ofNat 17)), none, .mv (.t (K.ofNat 6))⟩, ⟨(some (K.ofNat 18)), none, .iads 1 (.t (K.ofNat 16)) (.t (K.ofNat 17))⟩, ⟨(some (K.ofNat 19)), none, .ld (.t (K.ofNat 18))⟩, ⟨(some (K.ofNat 20)), none, .bin .neq (.t (K.ofNat 19)) (.c (.i .i64 (.ofNat 0)))⟩]
noncomputable def f40_r5 : List EOper := [⟨(some (K.ofNat 4)), none, .as (.c (.b false))⟩]
noncomputable def f40_r6 : List EOper := [⟨(some (K.ofNat 14)), none, .mv (.t (K.ofNat 6))⟩, ⟨(some (K.ofNat 15)), none, .bin .add (.t (K.ofNat 14)) (.c (.i .i64 (.ofNat 1)))⟩, ⟨(some (K.ofNat 6)), none, .as (.t (K.ofNat 15))⟩]
noncomputable def f40_l0 : EC := (.seq (.seq (.reg f40_r3) (.cond (.t (K.ofNat 13)) .skip (.exit 0))) (.seq (.block 1 (.seq (.reg f40_r4) (.cond (.t (K.ofNat 20)) (.seq (.reg f40_r5) .ret) .skip))) (.reg f40_r6)))
noncomputable def f40_r7 : List EOper := [⟨(some (K.ofNat 21)), none, .mv (.t (K.ofNat 0))⟩, ⟨(some (K.ofNat 22)), none, .mv (.t (K.ofNat 1))⟩, ⟨(some (K.ofNat 23)), none, .call (.c (.fn (K.ofNat 33) [])) [(.t (K.ofNat 21)), (.t (K.ofNat 22))]⟩, ⟨(some (K.ofNat 24)), none, .mkmap 3⟩, ⟨(some (K.ofNat 25)), none, .call (.c (.fn (K.ofNat 72) [])) [(.t (K.ofNat 23)), (.t (K.ofNat 24))]⟩, ⟨(some (K.ofNat 4)), none, .as (.t (K.ofNat 25))⟩]
noncomputable def f40_c : EC := (.seq (.reg f40_r0) (.seq (.reg f40_r1) (.seq (.seq (.reg f40_r2) (.block 0 (.loop f40_l0))) (.seq (.reg f40_r7) .ret))))
noncomputable def f40 : EF := ⟨26, [.tmp (K.ofNat 4)], f40_c, none⟩
theorem f40_rs : f40.rs = [.tmp (K.ofNat 4)] := of_eq_true (eq_self _)
theorem lft_ref : ∀ (L : List (Int × Int)) {B : Nat → Bool}, Clo B → lftR (memI B) L = (colsS B L).map memI
  | [], _, _ => rfl
  | (f, e) :: L, B, hc => by
    rw [lftR, col_ref hc, colsS]
    cases hcs : colS B f with
    | none => rfl
    | some o =>
      show (match (if (o : Int) = e then some (memI (lessB B f.toNat o)) else none) with | some F' => lftR F' L | none => none) = Option.map memI (if (o : Int) = e then colsS (lessB B f.toNat o) L else none)
      by_cases he : (o : Int) = e
      · rw [if_pos he, if_pos he]
        exact lft_ref L (clo_less hc hcs)
      · rw [if_neg he, if_neg he]; rfl
def castP (D : List (Nat × Nat)) : List (Int × Int) := D.map fun x => ((x.1 : Int), (x.2 : Int))
theorem seq_cols : ∀ (D : List (Nat × Nat)) {B : Nat → Bool}, SeqC B D → ∃ B', colsS B (castP D) = some B' ∧ cornB B' = true
  | [], B, h => ⟨B, rfl, h⟩
  | (f, o) :: D, B, h => by
    obtain ⟨B', h1, h2⟩ := seq_cols D h.2
    refine ⟨B', ?_, h2⟩
    show colsS B (((f : Int), (o : Int)) :: castP D) = _
    rw [colsS, h.1]
    show (if (o : Int) = (o : Int) then colsS (lessB B f o) (castP D) else none) = _
    rw [if_pos rfl, h1]
theorem Sk.castP {h : H} {v : V} {D : List (Nat × Nat)} (hs : Sk 2 pE h v D) : Sk 2 qE h v (castP D) := by
  have e : (Go.Ev.castP D).flatMap qE = D.flatMap pE := by
    unfold Go.Ev.castP
    rw [List.flatMap_map]; rfl
  have hl : (Go.Ev.castP D).length = D.length := List.length_map ..
  rcases hs with ⟨rfl, rfl⟩ | ⟨id, off, m, cs, h1, h2, h3, h4, h5⟩
  · exact .inl ⟨rfl, rfl⟩
  · exact .inr ⟨id, off, m, cs, by rw [hl]; exact h1, h2, h3, by rw [hl]; exact h4, by rw [hl, e]; exact h5⟩
theorem seq_len : ∀ (D : List (Nat × Nat)) {B : Nat → Bool}, SeqC B D → D.length ≤ card B ∧ ∀ x ∈ D, x.1 < 64 ∧ x.2 < 64
  | [], _, _ => ⟨Nat.zero_le _, fun x hx => by cases hx⟩
  | (f, o) :: D, B, h => by
    obtain ⟨m, em, _, hm, hB, _, ho, _⟩ := col_mem h.1
    obtain rfl : f = m := by omega
    obtain ⟨h1, h2⟩ := seq_len D h.2
    have := card_less (o := o) hm hB
    refine ⟨by rw [List.length_cons]; omega, fun x hx => ?_⟩
    rcases List.mem_cons.1 hx with rfl | hx
    · exact ⟨hm, ho⟩
    · exact h2 x hx
theorem clo_fam {S : List Int} (hS : Sets S) : Clo (lowB (famB S)) := fun x y hx hy hp h => by
  rw [lowB_at hy] at h
  rw [lowB_at hx]
  exact fam_down hS hx hy hp h
theorem memI_low {B : Nat → Bool} : memI (lowB B) = memI B := by unfold memI; rw [lowB_mem]
theorem holB_low {B : Nat → Bool} : holB (lowB B) = (hollS (cntS (mem64 B)) B).any fun x => decide (x ≠ 0) := by
  have e : ∀ C, hvS C (lowB B) = hvS C B := fun C => by funext t; simp only [hvS, brS, lowB_mem]
  simp only [holB, hollS, lowB_mem, e]
section
variable {fs : T EF} {ro : Option K}
def f40_I (h : H) (n : Int) (v u : V) (L : List Int) (i : Nat) (fr : Fr) (h1 : H) : Prop := h1 = h ∧ i ≤ L.length ∧ ((L.take i).any fun x => decide (x ≠ 0)) = false ∧ fr.get (K.ofNat 0) = some (.i .i64 n) ∧ fr.get (K.ofNat 1) = some (v) ∧ fr.get (K.ofNat 5) = some (u) ∧ fr.get (K.ofNat 6) = some (.i .i64 (i : Int))
theorem f40_ret {h : H} {v : V} {P : List Int} {n : Int} (hp53 : ∀ a b h P, CallP fs (.fn (K.ofNat 53) []) [.i .i64 a, .i .i64 b] h P = P (.b (ptI a b)) h) (hp52 : ∀ a, inR .i64 a = true → ∀ h P, CallP fs (.fn (K.ofNat 52) []) [.i .i64 a] h P = P (.i .i64 (sizZ a : Int)) h)
    (hq52 : ∀ m : Nat, m < 64 → ∀ h P, CallP fs (.fn (K.ofNat 52) []) [.i .i64 (m : Int)] h P = P (.i .i64 (pop6 m : Int)) h)
    (h42 : fs.get (K.ofNat 42) = some f42) (h43 : fs.get (K.ofNat 43) = some f43) (h72 : fs.get (K.ofNat 72) = some f72) (h45 : fs.get (K.ofNat 45) = some f45) (h33 : fs.get (K.ofNat 33) = some f33) (h31 : fs.get (K.ofNat 31) = some f31) (h73 : fs.get (K.ofNat 73) = some f73) (h74 : fs.get (K.ofNat 74) = some f74) (h44 : fs.get (K.ofNat 44) = some f44)
    (m8 : Facts8 n P) (m4 : Facts4 n P) (n1 : 1 ≤ n) (n6 : n ≤ 6) (hv : Sl iE h v P) (hc : HC h) :
    Ret fs f40 [.i .i64 n, v] h fun r h' => ∃ x, r = .b x ∧ (x = true ↔ holB (lowB (famB P)) = false ∧ ToC (lowB (famB P))) ∧ Grow h.nx.nat h h' := by
  apply ret_of rfl
  show W fs none f40_c _ _ _
  unfold f40_c
  have ml := m8.len
  have hhol : holB (lowB (famB P)) = (rhTo (facN P (2 ^ n.toNat)) (maxS P)).any fun x => decide (x ≠ 0) := by rw [holB_low, m8.hol]
  rw [hhol]
  simp (disch := omega) only [f40_r0, f40_r1, w_reg, w_seq, seqK_n, x_nil, x_mv, x_as, x_call, ev_t, ev_c, evs_nil, evs_cons, getV_some, putD_some, frame_2, getK_set, Nat.reduceEqDiff, ↓reduceIte]
  refine (callP_0 (ef := f44) h44 rfl (f44_ret (n := n) hp53 hq52 h45 h33 h31 h73 h74 hv hc (by omega) m8.sets n1 n6 m8.sz)).mono ?_
  rintro u h1 ⟨hu, _, gA⟩
  have hrl : (rhTo (facN P (2 ^ n.toNat)) (maxS P)).length ≤ 1000 := by have := maxS_le P; simp [rhTo]; omega
  generalize rhTo (facN P (2 ^ n.toNat)) (maxS P) = L at *
  have hc1 := gA.hc hc
  have hv1 := hv.grow hc gA
  simp (disch := omega) only [f40_r2, w_reg, w_seq, w_block, seqK_n, x_nil, x_as, kx, ev_t, ev_c, getV_some, putD_some, of0, getK_set, ↓reduceIte]
  refine W_loop (f40_I h1 n v u L) (fun i => L.length - i) ?_ 0 ⟨rfl, Nat.zero_le _, by simp, by simp (disch := omega) only [getK_set, Nat.reduceEqDiff, ↓reduceIte, and_self, Int.natCast_zero]⟩
  rintro i fr h1' ⟨rfl, hi, hal, g0, g1, g5, g6⟩
  unfold f40_l0
  by_cases hlt : i < L.length
  · have hlt' : (i : Int) < (L.length : Int) := by omega
    obtain ⟨p, hp1, hp2⟩ := hu.at i hlt
    have hs : (L.take (i + 1)).any (fun x => decide (x ≠ 0)) = decide (L[i] ≠ 0) := by rw [List.take_succ_eq_append_getElem hlt, List.any_append, hal]; simp
    have hmem := List.getElem_mem hlt
    generalize L[i] = x at *
    by_cases c0 : x = 0
    · have c0' : ¬ x ≠ 0 := fun h => h c0
      simp (disch := omega) only [f40_r3, f40_r4, f40_r6, w_skip, w_reg, w_seq, w_cond, w_block, seqK_n, atK_n, loopK_n, ckB_b, cbB_b, true_and, x_nil, x_mv, x_as, x_ld, x_bin, x_iads, x_len, kx, rvP_ok, okv_some, ev_t, ev_c, getV_some, putD_some, bin_add, bin_neq, bin_lss, of0, of1, getK_set, Nat.reduceEqDiff, ↓reduceIte, Bool.false_eq_true, g5, g6, hu.len, hlt', decide_true, hp1, hp2, iE, c0', decide_false, fw64]
      exact ⟨i + 1, by omega, rfl, hlt, by rw [hs, decide_eq_false c0'], by simp (disch := omega) only [getK_set, Nat.reduceEqDiff, ↓reduceIte, g0, g1, g5, and_self, Int.natCast_add, Int.natCast_one]⟩
    · have ha : (L.any fun x => decide (x ≠ 0)) = true := List.any_eq_true.2 ⟨x, hmem, decide_eq_true c0⟩
      rw [ha]
      have c0' : x ≠ 0 := c0
      simp (disch := omega) only [f40_r3, f40_r4, f40_r5, f40_rs, w_skip, w_reg, w_seq, w_cond, w_block, w_ret, seqK_n, seqK_r, atK_r, loopK_r, ckB_b, cbB_b, true_and, retK_r, x_nil, x_mv, x_as, x_ld, x_bin, x_iads, x_len, kx, rvP_ok, okv_some, ev_t, ev_c, getV_some, putD_some, bin_neq, bin_lss, oGet_s, readRs_nil, readRs_t, retV_1, of0, Option.some.injEq, exists_eq_left', getK_set, Nat.reduceEqDiff, ↓reduceIte, g5, g6, hu.len, hlt', decide_true, hp1, hp2, iE, decide_eq_true c0']
      exact ⟨false, rfl, ⟨fun h => (by cases h), fun h => (by cases h.1)⟩, gA⟩
  · obtain rfl : i = L.length := by omega
    rw [List.take_length] at hal
    rw [hal]
    simp (disch := omega) only [f40_r3, f40_r7, w_reg, w_seq, w_cond, w_exit, seqK_n, seqK_e, atK_e, loopK_e, ckB_b, cbB_b, true_and, x_nil, x_mv, x_bin, x_call, x_len, kx, rvP_ok, okv_some, ev_t, ev_c, evs_nil, evs_cons, getV_some, putD_some, bin_lss, getK_set, Nat.reduceEqDiff, ↓reduceIte, Bool.false_eq_true, g0, g1, g5, g6, hu.len, Int.lt_irrefl, decide_false]
    refine (callP_0 (ef := f33) h33 rfl (f33_ret (n := n) hp53 h45 hv1 hc1 (by omega) n1 n6)).mono ?_
    rintro w h2 ⟨hw, _, g2⟩
    have hc2 := g2.hc hc1
    rw [← m4.fac, ← memI_low] at hw
    have n3 := nx_new h2 (.map 3 [])
    have g3 : Grow h2.nx.nat h2 (h2.new (.map 3 [])) := Grow.new (Nat.le_refl _) _
    have hm3 : MapZ (h2.new (.map 3 [])) h2.nx 3 [] := get_new_same
    have hw3 := hw.grow hc2 g3
    have hc3 := g3.hc hc2
    have hni : NotIn h2.nx w := fun off n sz e => by have := hw.lt hc2 _ _ _ _ e; omega
    simp (disch := omega) only [x_mkmap, x_call, kx, ev_t, ev_c, evs_nil, evs_cons, getV_some, putD_some, getK_set, Nat.reduceEqDiff, ↓reduceIte]
    generalize h2.new (.map 3 []) = h3 at *
    refine (f72_call hp53 hp52 h42 h43 h72 (id := h2.nx) (card (lowB (famB P)) + 1) (lowB (famB P)) [] w h3 (by omega) low_low (clo_fam m8.sets) (fun B _ h => by cases h) hm3 (by omega) hw3 hni hc3).mono ?_
    rintro r h4 ⟨x, M', rfl, hx, _, _, kp⟩
    simp (disch := omega) only [f40_rs, w_ret, seqK_n, retK_r, x_nil, x_as, kx, ev_t, getV_some, putD_some, oGet_s, readRs_nil, readRs_t, retV_1, Option.some.injEq, exists_eq_left', getK_set, ↓reduceIte]
    have nx1 := gA.nx
    have nx2 := g2.nx
    exact ⟨x, rfl, by simpa using hx, gA.trans ((g2.trans ((g3.trans (kp.grow (b := h2.nx.nat) (by omega) (Nat.le_refl _))).low nx2)).low nx1)⟩
end
/-! ### Pairs that are only read -/
def Srp (h : H) (v : V) (L : List (Int × Int)) : Prop := Srk 2 h v L.length (L.flatMap qE)
section
variable {h h' : H} {v : V} {L : List (Int × Int)}
theorem Srp.len (hs : Srp h v L) (h1 : H) : lenV v h1 = .ok (.i .i64 (L.length : Int)) h1 := by
  rcases hs with ⟨rfl, h0, _⟩ | ⟨id, off, m, cs, rfl, _⟩
  · rw [h0]; rfl
  · rfl
theorem Srp.grow (hs : Srp h v L) (hc : HC h) (hg : Grow h.nx.nat h h') : Srp h' v L := Srk.grow hs hc hg
theorem loadn_r {h : H} {id : K} {m n off : Nat} {cs : List V} (hb : h.get id = .cells m cs ∨ h.get id = .rom m cs) (hm : off + n ≤ m) : loadV h (.p id off) (many? n) = .ok (.agg (takeN n (dropN off cs))) h := by
  show okv ((h.get id).onC none fun m cs => many? n cs m off) h = _
  have e : many? n cs m off = some (.agg (takeN n (dropN off cs))) := by
    show (bif Nat.ble (off + n) m then some _ else none) = _
    rw [Nat.ble_eq_true_of_le hm]; rfl
  rcases hb with hb | hb <;> rw [hb] <;> show okv (many? n cs m off) h = _ <;> rw [e] <;> rfl
theorem Srp.at2 (hs : Srp h v L) {i : Nat} (hi : i < L.length) : ∃ id q, (∀ k h1, iadsV 2 v (.i k (i : Int)) h1 = .ok (.p id q) h1) ∧ loadV h (.p id q) (many? 2) = .ok (.agg [.i .i64 L[i].1, .i .i64 L[i].2]) h ∧ loadV h (.p id (q + 0 * 1)) one? = .ok (.i .i64 L[i].1) h ∧ loadV h (.p id (q + 1 * 1)) one? = .ok (.i .i64 L[i].2) h := by
  rcases hs with ⟨rfl, h0, _⟩ | ⟨id, off, m, cs, rfl, hb, hl, hm, hx⟩
  · omega
  · have h1 := flat_drop qE_len L i hi
    rw [← hx, List.drop_take, List.take_take, List.drop_drop, Nat.min_eq_left (by omega)] at h1
    refine ⟨id, off + i * 2, fun k h1 => ?_, ?_, ?_, ?_⟩
    · rw [iads_sl, idx_n hi]
    · rw [loadn_r hb (by omega), takeN_eq, dropN_eq, h1]; rfl
    · refine load_r hb ?_
      rw [nth_eq]
      have := congrArg (fun l => l[0]?) h1
      simp only [List.getElem?_take, List.getElem?_drop] at this
      simpa [qE] using this
    · refine load_r hb ?_
      rw [nth_eq]
      have := congrArg (fun l => l[1]?) h1
      simp only [List.getElem?_take, List.getElem?_drop] at this
      simpa [qE] using this
end
end Go.Ev
