/-
  Labels: the law LabelsCovers.
  Slices of slices that come in: of pairs, of numbers.
  Slices of slices of pairs, of numbers: how they are read, and that they read behind the call as before.
  Slices of slices of pairs: what the call is given.
-/
import Derived.Test.YtmnojcnimncbpaaPf
namespace Go.Ev
open Go Go.RowKit
/-- A slice of slices of pairs that came in. -/
structure Nrp (h : H) (v : V) (us : List V) (Ls : List (List (Int × Int))) : Prop where
  len : us.length = Ls.length
  out : Sr vE h v us
  inn : ∀ i (h1 : i < us.length) (h2 : i < Ls.length), Srp h us[i] Ls[i]
theorem of91 : Int.ofNat 91 = 91 := of_eq_true (eq_self _)
theorem of22 : Int.ofNat 22 = 22 := of_eq_true (eq_self _)
theorem of42 : Int.ofNat 42 = 42 := of_eq_true (eq_self _)
theorem Nrp.grow {h h' : H} {v : V} {us : List V} {Ls : List (List (Int × Int))} (s : Nrp h v us Ls) (hc : HC h) (hg : Grow h.nx.nat h h') : Nrp h' v us Ls := ⟨s.len, s.out.grow hc hg, fun i h1 h2 => (s.inn i h1 h2).grow hc hg⟩
theorem rgtI_two {s : Int} {Ls : List (List (Int × Int))} : rgtI s Ls = 0 ∨ rgtI s Ls = 1 := by
  unfold rgtI
  split
  · exact .inr rfl
  · split
    · exact .inl rfl
    · exact .inr rfl
structure CallsCo (fs : T EF) : Prop extends CallsCv fs where
  c14 : fs.get (K.ofNat 14) = some f14
  c38 : fs.get (K.ofNat 38) = some f38
  c39 : fs.get (K.ofNat 39) = some f39
  aw : ∀ h P, CallP fs (.fn (K.ofNat 23) []) [] h P = P (.b true) h
def Sml (M : List (List (Int × Int))) : Prop := M.length ≤ 42 ∧ ∀ l ∈ M, l.length ≤ 22
section
variable {fs : T EF} {h : H} {v : V} {us : List V} {Ls : List (List (Int × Int))}
def f7_A (h : H) (s wo : Int) (v : V) (Ls : List (List (Int × Int))) (i : Nat) (fr : Fr) (h1 : H) : Prop := i ≤ Ls.length ∧ i ≤ 42 ∧ Grow h.nx.nat h h1 ∧ ∃ c ws, Sll h1 c ws ((Ls.take i).map (List.take 22)) ∧ Own h.nx.nat c ∧ fr.get (K.ofNat 0) = some (.i .i64 s) ∧ fr.get (K.ofNat 1) = some (v) ∧ fr.get (K.ofNat 2) = some (.i .i64 wo) ∧ fr.get (K.ofNat 7) = some (c) ∧ fr.get (K.ofNat 8) = some (.i .i64 (i : Int))
def f7_I (h : H) (wo : Int) (i : Nat) (fr : Fr) (h1 : H) : Prop := i ≤ 3 ∧ Grow h.nx.nat h h1 ∧ ∃ s c ws M, Sll h1 c ws M ∧ Sml M ∧ fr.get (K.ofNat 0) = some (.i .i64 s) ∧ fr.get (K.ofNat 2) = some (.i .i64 wo) ∧ fr.get (K.ofNat 7) = some (c) ∧ fr.get (K.ofNat 9) = some (.i .i64 (i : Int))
def f7_C (h3 : H) (s : Nat) (wo : Int) (i : Nat) (a : Nat) (fr : Fr) (h1 : H) : Prop := a ≤ s ∧ Grow h3.nx.nat h3 h1 ∧ ∃ c ws M, Sll h1 c ws M ∧ Own h3.nx.nat c ∧ M.length = a ∧ (∀ l ∈ M, l.length ≤ 22) ∧ ∃ k : Nat, k ≤ 20 * a ∧ fr.get (K.ofNat 0) = some (.i .i64 (s : Int)) ∧ fr.get (K.ofNat 2) = some (.i .i64 wo) ∧ fr.get (K.ofNat 7) = some (c) ∧ fr.get (K.ofNat 9) = some (.i .i64 (i : Int)) ∧ fr.get (K.ofNat 12) = some (.i .i64 (k : Int)) ∧ fr.get (K.ofNat 13) = some (.i .i64 (a : Int))
def f7_D (h4 : H) (s : Nat) (wo : Int) (c : V) (i : Nat) (a : Nat) (b : Nat) (fr : Fr) (h1 : H) : Prop := a < b ∧ b ≤ s ∧ Grow h4.nx.nat h4 h1 ∧ ∃ w R, Sk 2 qE h1 w R ∧ Own h4.nx.nat w ∧ R.length + a + 1 ≤ b ∧ ∃ k : Nat, k + a + 1 ≤ 20 * a + b ∧ fr.get (K.ofNat 0) = some (.i .i64 (s : Int)) ∧ fr.get (K.ofNat 2) = some (.i .i64 wo) ∧ fr.get (K.ofNat 7) = some (c) ∧ fr.get (K.ofNat 9) = some (.i .i64 (i : Int)) ∧ fr.get (K.ofNat 12) = some (.i .i64 (k : Int)) ∧ fr.get (K.ofNat 13) = some (.i .i64 (a : Int)) ∧ fr.get (K.ofNat 14) = some (w) ∧ fr.get (K.ofNat 15) = some (.i .i64 (b : Int))
theorem f7_ret {s wo : Int} (k : CallsCo fs) (hv : Nrp h v us Ls) (hc : HC h) : Ret fs f7 [.i .i64 s, v, .i .i64 wo] h fun r h' => r = .b true ∧ Grow h.nx.nat h h' := by
  have aw := k.aw
  have ne0 : decide ((0 : Int) ≠ 0) = false := rfl
  have ne1 : decide ((1 : Int) ≠ 1) = false := rfl
  have kb : ∀ a b, keyEq (.one none) (.b a) (.b b) = some (a == b) := fun _ _ => rfl
  have bb : ∀ a : Bool, (a == a) = true := fun a => by cases a <;> rfl
  apply ret_of rfl
  show W fs none f7_c _ _ _
  unfold f7_c
  have hl : ∀ h1, lenV v h1 = .ok (.i .i64 (Ls.length : Int)) h1 := fun h1 => by rw [hv.out.len, hv.len]
  simp (disch := omega) only [f7_r0, f7_r1, f7_r2, w_reg, w_seq, w_block, seqK_n, x_nil, x_as, ev_c, putD_some, frame_3, of0]
  refine W_loop (f7_A h s wo v Ls) (fun i => Ls.length - i) ?_ 0 ⟨by omega, by omega, Grow.refl _ _, .sn, [], by simpa using Sll.nil, Own.sn, by simp (disch := omega) only [getK_set, Nat.reduceEqDiff, ↓reduceIte, and_self, Int.natCast_zero]⟩
  rintro i fr h1 ⟨hi, hi42, hG, c, ws, hsc, hoc, g0, g1, g2, g7, g8⟩
  have hc1 := hG.hc hc
  have hv1 := hv.grow hc hG
  have hsm : Sml ((Ls.take i).map (List.take 22)) := ⟨by simp; omega, fun l hl => by
    obtain ⟨l', _, rfl⟩ := List.mem_map.1 hl
    simp; omega⟩
  have fin : ∀ fr, fr.get (K.ofNat 0) = some (.i .i64 s) ∧ fr.get (K.ofNat 2) = some (.i .i64 wo) ∧ fr.get (K.ofNat 7) = some (c) → W fs none (.seq (.reg f7_r6) (.block 2 (.loop f7_l3))) (seqK (W fs none (.seq (.reg f7_r29) .ret)) (retK f7 fun r h' => r = .b true ∧ Grow h.nx.nat h h')) fr h1 := by
    clear g0 g1 g2 g7 g8 fr
    rintro fr ⟨g0, g2, g7⟩
    simp (disch := omega) only [f7_r6, w_reg, w_seq, w_block, seqK_n, x_nil, x_as, ev_c, putD_some, of0]
    refine W_loop (f7_I h wo) (fun i => 3 - i) ?_ 0 ⟨by omega, hG, s, c, ws, _, hsc, hsm, by simp (disch := omega) only [getK_set, Nat.reduceEqDiff, ↓reduceIte, g0, g2, g7, and_self, Int.natCast_zero]⟩
    clear hsc hsm hoc hG hc1 hv1 hi hi42 g0 g2 g7 fr
    clear h1 i c ws
    rintro i fr h1 ⟨hi, hG, s, c, ws, M, hsc, hsm, g0, g2, g7, g9⟩
    have hc1 := hG.hc hc
    unfold f7_l3
    by_cases hlt : i < 3
    · have d0 : decide ((i : Int) < 3) = true := by simp; omega
      have rest : ∀ fr h3, Grow h.nx.nat h h3 → fr.get (K.ofNat 0) = some (.i .i64 s) ∧ fr.get (K.ofNat 2) = some (.i .i64 wo) ∧ fr.get (K.ofNat 9) = some (.i .i64 (i : Int)) →
          Go.Ev.X fs f7_r14 (seqK (W fs none (.seq (.reg f7_r15) (.seq (.reg f7_r16) (.seq (.reg f7_r17) (.block 4 (.loop f7_l2)))))) (atK 3 (seqK (W fs none (.reg f7_r28)) (loopK (f7_I h wo) (fun i => 3 - i) i (atK 2 (seqK (W fs none (.seq (.reg f7_r29) .ret)) (retK f7 fun r h' => r = .b true ∧ Grow h.nx.nat h h')))))) .normal) fr h3 := by
        clear g0 g2 g7 g9 fr hsc hsm hG hc1
        clear h1 c ws M
        rintro fr h3 hG3 ⟨g0, g2, g9⟩
        have hc3 := hG3.hc hc
        obtain ⟨q, hq14, hqe⟩ := rem_k s (k := 14) (by omega) (by omega)
        have hqe : fw .i64 ((fw .u64 s).tmod 14) = (q : Int) := hqe
        obtain ⟨m, hm⟩ : ∃ m : Nat, m = 2 + q := ⟨_, rfl⟩
        have em : 2 + (q : Int) = (m : Int) := by omega
        have hm15 : 2 ≤ m ∧ m ≤ 15 := by omega
        simp (disch := omega) only [f7_r14, f7_r15, f7_r16, f7_r17, w_reg, w_seq, w_block, seqK_n, x_nil, x_mv, x_as, x_bin, x_conv, kx, rvP_ok, okv_some, ev_t, ev_c, getV_some, putD_some, bin_add, bin_rem, onI_i, of0, of2, getK_set, ↓reduceIte, of14, g0, hqe, fw64, em]
        refine W_loop (f7_C h3 m wo i) (fun a => m - a) ?_ 0 ⟨by omega, Grow.refl _ _, .sn, [], [], Sll.nil, Own.sn, rfl, by simp, 0, by omega, by simp (disch := omega) only [getK_set, Nat.reduceEqDiff, ↓reduceIte, g2, g9, and_self, Int.natCast_zero]⟩
        clear g0 g2 g9 fr
        rintro a fr h4 ⟨ha, hG4, c, ws, M, hsc, hoc, hMl, hMs, kk, hkk, g0, g2, g7, g9, g12, g13⟩
        have hc4 := hG4.hc hc3
        have hG34 := hG3.trans (hG4.low hG3.nx)
        unfold f7_l2
        by_cases hla : a < m
        · have d1 : decide ((a : Int) < (m : Int)) = true := by simpa using hla
          have ea1 : ((a : Int) + 1) = ((a + 1 : Nat) : Int) := by omega
          simp (disch := omega) only [f7_r18, f7_r19, f7_r20, w_skip, w_reg, w_seq, w_cond, w_block, seqK_n, ckB_b, cbB_b, true_and, x_nil, x_mv, x_as, x_bin, kx, rvP_ok, okv_some, ev_t, ev_c, getV_some, putD_some, bin_add, bin_lss, of1, getK_set, Nat.reduceEqDiff, ↓reduceIte, g0, g13, d1, fw64, ea1]
          refine W_loop (f7_D h4 m wo c i a) (fun b => m - b) ?_ (a + 1) ⟨by omega, by omega, Grow.refl _ _, .sn, [], Sk.nil, Own.sn, by simp, kk, by omega, by simp (disch := omega) only [getK_set, Nat.reduceEqDiff, ↓reduceIte, g0, g2, g7, g9, g12, g13, and_self]⟩
          clear g0 g2 g7 g9 g12 g13 fr hkk kk
          rintro b fr h5 ⟨hab, hbm, hG5, w, R, hsk, how, hRl, kk, hkk, g0, g2, g7, g9, g12, g13, g14, g15⟩
          have hc5 := hG5.hc hc4
          unfold f7_l1
          by_cases hlb : b < m
          · have d2 : decide ((b : Int) < (m : Int)) = true := by simpa using hlb
            obtain ⟨q2, hq91, hq2e⟩ := rem_k wo (k := 91) (by omega) (by omega)
            have hq2e : fw .i64 ((fw .u64 wo).tmod 91) = (q2 : Int) := hq2e
            have hadd : ∃ w' h6, appV 2 (h5.new (.cells (1 * 2) [.i .i64 (a : Int), .i .i64 (b : Int)])) w (.sl h5.nx 0 1 2) = .ok w' h6 ∧ Sk 2 qE h6 w' (R ++ [((a : Int), (b : Int))]) ∧ Own h4.nx.nat w' ∧ Grow h4.nx.nat h5 h6 := by
              obtain ⟨w', h6, a1, s1, o1, gr1, _⟩ := Sk.push qE_len (by omega) (x := ((a : Int), (b : Int))) hsk how hG5.nx hc5 (by omega)
              exact ⟨w', h6, a1, s1, o1, gr1⟩
            obtain ⟨w', h6, a1, s1, o1, gr1⟩ := hadd
            have ek1 : ((kk : Int) + 1) = ((kk + 1 : Nat) : Int) := by omega
            have eb1 : ((b : Int) + 1) = ((b + 1 : Nat) : Int) := by omega
            cases de : decide ((i : Int) = 0) with
            | true =>
              simp (disch := omega) only [f7_r21, f7_r22, w_skip, w_reg, w_seq, w_cond, w_block, seqK_n, ckB_b, cbB_b, okG_b, asG_f, true_and, x_nil, x_g, x_mv, x_pick, x_bin, kx, rvP_ok, okv_some, ev_t, ev_c, getV_some, putD_some, bin_eql, bin_lss, pick_b, of0, getK_set, Nat.reduceEqDiff, ↓reduceIte, Bool.false_eq_true, Bool.not_true, g0, g9, g15, d2, de, Bool.not_true]
              simp (disch := omega) only [f7_r23, f7_r24, f7_r25, w_reg, seqK_n, atK_n, loopK_n, x_nil, x_mv, x_as, x_build, x_bslice, x_bin, x_app, kx, rvP_ok, okv_some, ev_t, ev_c, getV_some, putD_some, bin_add, oGet_s, cells1_i, of0, of1, getK_set, Nat.reduceEqDiff, ↓reduceIte, fill_2, set_2, cells2, g12, g13, g14, g15, fill_2, set_2, cells2, fill_p2, set_p2, a1, fw64, ek1, eb1]
              exact ⟨b + 1, by omega, by omega, by omega, hG5.trans gr1, w', _, s1, o1, by simp; omega, kk + 1, by omega, by simp (disch := omega) only [getK_set, Nat.reduceEqDiff, ↓reduceIte, g0, g2, g7, g9, g13, and_self]⟩
            | false =>
            cases dw : decide ((kk : Int) ≠ (q2 : Int)) with
            | true =>
              simp (disch := omega) only [f7_r21, f7_r22, w_skip, w_reg, w_seq, w_cond, w_block, seqK_n, ckB_b, cbB_b, okG_b, asG_f, true_and, x_nil, x_g, x_mv, x_pick, x_bin, x_conv, kx, rvP_ok, okv_some, ev_t, ev_c, getV_some, putD_some, bin_eql, bin_neq, bin_lss, bin_rem, pick_b, onI_i, of0, getK_set, Nat.reduceEqDiff, ↓reduceIte, Bool.false_eq_true, Bool.not_false, g0, g2, g9, g12, g15, d2, de, Bool.not_false, of91, hq2e, dw]
              simp (disch := omega) only [f7_r23, f7_r24, f7_r25, w_reg, seqK_n, atK_n, loopK_n, x_nil, x_mv, x_as, x_build, x_bslice, x_bin, x_app, kx, rvP_ok, okv_some, ev_t, ev_c, getV_some, putD_some, bin_add, oGet_s, cells1_i, of0, of1, getK_set, Nat.reduceEqDiff, ↓reduceIte, fill_2, set_2, cells2, g12, g13, g14, g15, fill_2, set_2, cells2, fill_p2, set_p2, a1, fw64, ek1, eb1]
              exact ⟨b + 1, by omega, by omega, by omega, hG5.trans gr1, w', _, s1, o1, by simp; omega, kk + 1, by omega, by simp (disch := omega) only [getK_set, Nat.reduceEqDiff, ↓reduceIte, g0, g2, g7, g9, g13, and_self]⟩
            | false =>
              simp (disch := omega) only [f7_r21, f7_r22, f7_r24, f7_r25, w_skip, w_reg, w_seq, w_cond, w_block, seqK_n, atK_n, loopK_n, ckB_b, cbB_b, okG_b, asG_f, true_and, x_nil, x_g, x_mv, x_as, x_pick, x_bin, x_conv, kx, rvP_ok, okv_some, ev_t, ev_c, getV_some, putD_some, bin_add, bin_eql, bin_neq, bin_lss, bin_rem, pick_b, onI_i, of0, of1, getK_set, Nat.reduceEqDiff, ↓reduceIte, Bool.false_eq_true, Bool.not_false, g0, g2, g9, g12, g15, d2, de, Bool.not_false, of91, hq2e, dw, fw64, ek1, eb1]
              exact ⟨b + 1, by omega, by omega, by omega, hG5, w, R, hsk, how, by omega, kk + 1, by omega, by simp (disch := omega) only [getK_set, Nat.reduceEqDiff, ↓reduceIte, g0, g2, g7, g9, g13, g14, and_self]⟩
          · have d2 : decide ((b : Int) < (m : Int)) = false := by simpa using hlb
            have hsc5 := hsc.grow hc4 hG5
            have hclt := hsc.out.lt hc4
            obtain ⟨c', h6, a1, s1, o1, gr1, _⟩ := hsc5.push (b := h3.nx.nat) hoc (by have := hG4.nx; have := hG5.nx; omega) hc5 (by omega) hsk.srp (fun id off n sz e off' n' sz' e' => by
              have h1' := how _ _ _ _ e
              have h2' := hclt _ _ _ _ e'
              omega)
            have hcell := hsk.srp.cell
            have ea1 : ((a : Int) + 1) = ((a + 1 : Nat) : Int) := by omega
            simp (disch := omega) only [f7_r21, f7_r26, f7_r27, w_reg, w_seq, w_cond, w_exit, seqK_n, seqK_e, atK_n, atK_e, loopK_n, loopK_e, ckB_b, cbB_b, true_and, x_nil, x_mv, x_as, x_bslice, x_bin, x_app, kx, rvP_ok, okv_some, ev_t, ev_c, getV_some, putD_some, bin_add, bin_lss, oGet_s, fill_1, set_1, of1, getK_set, Nat.reduceEqDiff, ↓reduceIte, Bool.false_eq_true, g0, g7, g13, g14, g15, d2, fill_1, hcell, set_1, a1, fw64, ea1]
            refine ⟨a + 1, by omega, by omega, hG4.trans ((hG5.low hG4.nx).trans gr1), c', _, _, s1, o1, by simp [hMl], fun l hl => ?_, kk, by omega, by simp (disch := omega) only [getK_set, Nat.reduceEqDiff, ↓reduceIte, g0, g2, g9, g12, and_self]⟩
            rcases List.mem_append.1 hl with hl | hl
            · exact hMs l hl
            · rw [List.mem_singleton.1 hl]; omega
        · have d1 : decide ((a : Int) < (m : Int)) = false := by simpa using hla
          simp (disch := omega) only [f7_r18, f7_r28, w_reg, w_seq, w_cond, w_exit, seqK_n, seqK_e, atK_n, atK_e, loopK_n, loopK_e, ckB_b, cbB_b, true_and, x_nil, x_mv, x_as, x_bin, kx, rvP_ok, okv_some, ev_t, ev_c, getV_some, putD_some, bin_add, bin_lss, of1, getK_set, Nat.reduceEqDiff, ↓reduceIte, Bool.false_eq_true, g0, g9, g13, d1, fw64]
          exact ⟨i + 1, by omega, by omega, hG34, (m : Int), c, ws, M, hsc, ⟨by omega, hMs⟩, by simp (disch := omega) only [getK_set, Nat.reduceEqDiff, ↓reduceIte, g0, g2, g7, and_self, Int.natCast_add, Int.natCast_one]⟩
      have hM1 : M.length ≤ 1000000 := by have := hsm.1; omega
      simp (disch := omega) only [f7_r7, f7_r8, w_skip, w_reg, w_seq, w_cond, w_block, seqK_n, ckB_b, cbB_b, true_and, x_nil, x_mv, x_bin, x_call, kx, rvP_ok, okv_some, ev_t, ev_c, evs_nil, evs_cons, getV_some, putD_some, bin_lss, of3, getK_set, Nat.reduceEqDiff, ↓reduceIte, g0, g7, g9, d0]
      rcases rgtI_two (s := s) (Ls := M) with hr | hr
      · obtain ⟨s0, rfl, hs0⟩ : ∃ s0 : Nat, s = (s0 : Int) ∧ (2 ≤ s0 ∧ s0 ≤ 21) := by
          unfold rgtI at hr
          split at hr
          · cases hr
          · exact ⟨s.toNat, by omega, by omega⟩
        have hb : ∀ l ∈ M, l.length ≤ 1000 ∧ ∀ x ∈ l, edB (s0 : Int) x = true := fun l hl => by
          have h2 := hsm.2 l hl
          have hrg : rgtB (s0 : Int) M = true := by
            unfold rgtI at hr
            split at hr
            · cases hr
            · split at hr
              · assumption
              · cases hr
          have := List.all_eq_true.1 hrg l hl
          rw [Bool.and_eq_true] at this
          exact ⟨by omega, fun x hx => List.all_eq_true.1 this.2 x hx⟩
        refine (callP_0 (ef := f37) k.c37 rfl (f37_ok k.toCallsCv hsc hc1 hr)).mono ?_
        rintro r h2 ⟨⟨c1, rfl, hc1'⟩, hG2⟩
        have hGa := hG.trans (hG2.low hG.nx)
        have hc2 := hG2.hc hc1
        have hsc2 := hsc.grow hc1 hG2
        simp (disch := omega) only [f7_r9, w_reg, w_seq, seqK_n, x_nil, x_mv, x_as, x_ext, x_call, kx, rvP_ok, okv_some, ev_t, ev_c, evs_nil, evs_cons, getV_some, putD_some, onTup_t, nth0, nth1, getK_set, Nat.reduceEqDiff, ↓reduceIte, g0, g7]
        refine (callP_0 (ef := f38) k.c38 rfl (f38_ret (s := (s0 : Int)) hsc2 hc2 hM1 fun l hl => by have := hsm.2 l hl; omega)).mono ?_
        rintro r h3 ⟨rfl, hG3⟩
        have hGb := hGa.trans (hG3.low hGa.nx)
        have hc3 := hG3.hc hc2
        have hsc3 := hsc2.grow hc2 hG3
        have dz : decide ((0 : Int) = 0) = true := rfl
        simp (disch := omega) only [f7_r12, w_reg, w_seq, w_cond, seqK_n, ckB_b, cbB_b, okG_b, asG_f, true_and, x_nil, x_g, x_mv, x_bin, x_not, x_call, kx, rvP_ok, okv_some, ev_t, ev_c, evs_nil, evs_cons, getV_some, putD_some, bin_neq, onB_b, of0, getK_set, Nat.reduceEqDiff, ↓reduceIte, Bool.not_false, g0, g7, hr, ne0]
        refine (callP_0 (ef := f39) k.c39 rfl (f39_ret hsc3 hc3 hs0 (by have := hsm.1; omega) hb)).mono ?_
        rintro r h4 ⟨⟨c2, rfl, hc2'⟩, hG4⟩
        have hGc := hGb.trans (hG4.low hGb.nx)
        have hcc : c2 = c1 := by
          rw [Bool.eq_iff_iff, hc1', hc2', covers_iff fun x hx => by
            obtain ⟨l, hl, hx⟩ := List.mem_flatten.1 hx
            exact (hb l hl).2 x hx]
        subst hcc
        simp (disch := omega) only [w_skip, w_reg, w_seq, w_cond, seqK_n, ckB_b, cbB_b, okG_b, asG_f, true_and, x_nil, x_g, x_pick, x_eqk, kx, rvP_ok, okv_some, ev_t, ev_c, getV_some, putD_some, pick_b, oGet_s, getK_set, Nat.reduceEqDiff, ↓reduceIte, Bool.false_eq_true, Bool.not_true, Bool.not_false, kb, bb, cond_true, Bool.not_true]
        exact rest _ _ hGc (by simp (disch := omega) only [getK_set, Nat.reduceEqDiff, ↓reduceIte, g0, g2, g9, and_self])
      · refine (callP_0 (ef := f37) k.c37 rfl (f37_no (s := s) k.toCallsCv hsc hc1 hM1 hr)).mono ?_
        rintro r h2 ⟨rfl, hG2⟩
        have hGa := hG.trans (hG2.low hG.nx)
        have hc2 := hG2.hc hc1
        have hsc2 := hsc.grow hc1 hG2
        simp (disch := omega) only [f7_r9, w_reg, w_seq, seqK_n, x_nil, x_mv, x_as, x_ext, x_call, kx, rvP_ok, okv_some, ev_t, ev_c, evs_nil, evs_cons, getV_some, putD_some, onTup_t, nth0, nth1, getK_set, Nat.reduceEqDiff, ↓reduceIte, g0, g7]
        refine (callP_0 (ef := f38) k.c38 rfl (f38_ret (s := s) hsc2 hc2 hM1 fun l hl => by have := hsm.2 l hl; omega)).mono ?_
        rintro r h3 ⟨rfl, hG3⟩
        have hGb := hGa.trans (hG3.low hGa.nx)
        have dz : decide ((1 : Int) = 0) = false := rfl
        simp (disch := omega) only [f7_r10, w_skip, w_reg, w_seq, w_cond, seqK_n, ckB_b, cbB_b, okG_b, asG_f, true_and, x_nil, x_g, x_mv, x_pick, x_bin, x_not, kx, rvP_ok, okv_some, ev_t, ev_c, getV_some, putD_some, bin_neq, pick_b, onB_b, of1, getK_set, Nat.reduceEqDiff, ↓reduceIte, Bool.false_eq_true, Bool.not_false, hr, dz, Bool.not_false, ne1]
        exact rest _ _ hGb (by simp (disch := omega) only [getK_set, Nat.reduceEqDiff, ↓reduceIte, g0, g2, g9, and_self])
    · have d0 : decide ((i : Int) < 3) = false := by simp; omega
      simp (disch := omega) only [f7_r7, f7_r29, f7_rs, w_reg, w_seq, w_cond, w_exit, w_ret, seqK_n, seqK_e, atK_e, loopK_e, ckB_b, cbB_b, true_and, retK_r, x_nil, x_mv, x_as, x_bin, x_call, kx, rvP_ok, okv_some, ev_t, ev_c, evs_nil, getV_some, putD_some, bin_lss, oGet_s, readRs_nil, readRs_t, retV_1, of3, Option.some.injEq, exists_eq_left', getK_set, ↓reduceIte, Bool.false_eq_true, g9, d0, aw, true_and]
      exact hG
  unfold f7_l0
  by_cases hlt : i < Ls.length
  · have d1 : decide ((i : Int) < (Ls.length : Int)) = true := by simpa using hlt
    by_cases h42 : i < 42
    · have d2 : decide ((i : Int) < 42) = true := by simp; omega
      have hiv : i < us.length := by rw [hv.len]; exact hlt
      obtain ⟨p, hp1, hp2⟩ := hv1.out.at i hiv
      have hp2 : loadV h1 p one? = .ok us[i] h1 := hp2
      have hu := hv1.inn i hiv hlt
      have hsn : (Ls.take (i + 1)).map (List.take 22) = (Ls.take i).map (List.take 22) ++ [Ls[i].take 22] := by rw [List.take_succ_eq_append_getElem hlt, List.map_append]; rfl
      generalize Ls[i] = l at *
      generalize us[i] = u at *
      simp (disch := omega) only [f7_r3, f7_r4, w_skip, w_reg, w_seq, w_cond, w_block, seqK_n, ckB_b, cbB_b, okG_b, asG_t, true_and, x_nil, x_g, x_mv, x_pick, x_ld, x_bin, x_iads, x_call, x_len, kx, rvP_ok, okv_some, ev_t, ev_c, evs_nil, evs_cons, getV_some, putD_some, bin_lss, pick_b, getK_set, Nat.reduceEqDiff, ↓reduceIte, g1, g7, g8, hl, d1, of42, of22, d2, hp1, hp2]
      refine (callP_0 (ef := f14) k.c14 rfl (f14_ret (m := 22) hu hc1 (by omega))).mono ?_
      rintro w h2 ⟨hw, how, hG2⟩
      have hc2 := hG2.hc hc1
      have hsc2 := hsc.grow hc1 hG2
      have hclt := hsc.out.lt hc1
      have hG12 := hG.trans (hG2.low hG.nx)
      obtain ⟨c', h3, a1, s1, o1, gr1, _⟩ := hsc2.push (b := h.nx.nat) hoc hG12.nx hc2 (by simp; omega) hw (fun id off n sz e off' n' sz' e' => by
        have h1' := how _ _ _ _ e
        have h2' := hclt _ _ _ _ e'
        omega)
      rw [← hsn] at s1
      have hcell := hw.cell
      simp (disch := omega) only [f7_r5, w_reg, seqK_n, atK_n, loopK_n, x_nil, x_mv, x_as, x_bslice, x_bin, x_app, kx, rvP_ok, okv_some, ev_t, ev_c, getV_some, putD_some, bin_add, oGet_s, fill_1, set_1, of1, getK_set, Nat.reduceEqDiff, ↓reduceIte, g8, fill_1, hcell, set_1, a1, fw64]
      exact ⟨i + 1, by omega, by omega, by omega, hG12.trans gr1, c', _, s1, o1, by simp (disch := omega) only [getK_set, Nat.reduceEqDiff, ↓reduceIte, g0, g1, g2, and_self, Int.natCast_add, Int.natCast_one]⟩
    · have d2 : decide ((i : Int) < 42) = false := by simp; omega
      simp (disch := omega) only [f7_r3, w_reg, w_seq, w_cond, w_exit, seqK_n, seqK_e, atK_e, loopK_e, ckB_b, cbB_b, okG_b, asG_t, true_and, x_nil, x_g, x_mv, x_pick, x_bin, x_len, kx, rvP_ok, okv_some, ev_t, ev_c, getV_some, putD_some, bin_lss, pick_b, getK_set, Nat.reduceEqDiff, ↓reduceIte, Bool.false_eq_true, g1, g8, hl, d1, of42, d2]
      exact fin _ (by simp (disch := omega) only [getK_set, Nat.reduceEqDiff, ↓reduceIte, g0, g2, g7, and_self])
  · have d1 : decide ((i : Int) < (Ls.length : Int)) = false := by simpa using hlt
    simp (disch := omega) only [f7_r3, w_reg, w_seq, w_cond, w_exit, seqK_n, seqK_e, atK_e, loopK_e, ckB_b, cbB_b, okG_b, asG_t, true_and, x_nil, x_g, x_mv, x_pick, x_bin, x_len, kx, rvP_ok, okv_some, ev_t, ev_c, getV_some, putD_some, bin_lss, pick_b, getK_set, Nat.reduceEqDiff, ↓reduceIte, Bool.false_eq_true, g1, g8, hl, d1]
    exact fin _ (by simp (disch := omega) only [getK_set, Nat.reduceEqDiff, ↓reduceIte, g0, g2, g7, and_self])
end
end Go.Ev
namespace Go.Ev
open Go Go.RowKit Go.ChangeShapes Go.WideShapes Go.ChangeAt
/-- An inner slice, as it came in. -/
def InArg (k : Nat) (W : World) (val : Value) (len : Nat) (zs : List Int) : Prop := SlArgK k W val len zs ∨ ∃ ad : Addr, val = .slice (some ad) 0 0 ∧ len = 0 ∧ zs = []
abbrev NA := Value × Nat × List Int
/-- A slice of slices, as it came in: all that lie up to its capacity. -/
def NArg (k : Nat) (W : World) (val : Value) (len : Nat) (as : List NA) : Prop := (val = .slice none 0 0 ∧ len = 0 ∧ as = []) ∨ ∃ (b off cap : Nat), val = .slice (some ⟨b, off, none⟩) len cap ∧ len ≤ cap ∧ as.length = cap ∧
  (∀ i (hi : i < as.length), W.cell? ⟨b, off + i, none⟩ = some as[i].1) ∧ (∀ i, i < as.length → W.frozen? ⟨b, off + i, none⟩ = false) ∧ ∀ a ∈ as, InArg k W a.1 a.2.1 a.2.2
/-- What is read of an inner slice. -/
def InRead (k : Nat) (h : H) (u : V) (a : NA) : Prop := Srk k h u a.2.1 ((a.2.2.take (a.2.1 * k)).map iE)
section
variable {Y : Rig} {ι : Io} {h : H} {W : World}
theorem Roms.zero (r : Roms Y ι h W) {k : Nat} (ad : Addr) : ∃ h' v, Roms Y ι h' W ∧ VR ι v (.slice (some ad) 0 0) ∧ Srk k h' v 0 [] ∧ Grow h.nx.nat h h' ∧ v.one = true := by
  have g : Grow h.nx.nat h (h.new (.rom 0 [])) := Grow.new (Nat.le_refl _) _
  refine ⟨h.new (.rom 0 []), .sl h.nx 0 0 k, ⟨r.wr.more (HX.new h _), g.hc r.hc, fun id q hq => ?_⟩, .sl0, .inr ⟨h.nx, 0, 0, [], rfl, .inr get_new_same, rfl, by simp, by simp⟩, g, rfl⟩
  have : id.nat < h.nx.nat := by
    rcases Nat.lt_or_ge id.nat h.nx.nat with h1 | h1
    · exact h1
    · rw [r.wr.fresh id h1] at hq; cases hq
  rw [get_new_old this]
  exact r.all id q hq
theorem Srk.one1 {k len : Nat} {v : V} {cs : List V} (hs : Srk k h v len cs) : v.one = true := by rcases hs with ⟨rfl, _⟩ | ⟨_, _, _, _, rfl, _⟩ <;> rfl
theorem Roms.addI (r : Roms Y ι h W) {k : Nat} (hk : 0 < k) {a : NA} (ha : InArg k W a.1 a.2.1 a.2.2) : ∃ ι' h' v, Roms Y ι' h' W ∧ Ext ι ι' ∧ VR ι' v a.1 ∧ InRead k h' v a ∧ Grow h.nx.nat h h' := by
  obtain ⟨val, len, zs⟩ := a
  rcases ha with ha | ⟨ad, rfl, rfl, rfl⟩
  · exact r.addK hk ha
  · obtain ⟨h', v, r', vr, sr, g, _⟩ := r.zero (k := k) ad
    exact ⟨ι, h', v, r', Ext.refl _, vr, by show Srk k h' v 0 (([] : List Int).take (0 * k) |>.map iE); simpa using sr, g⟩
/-- All of them. -/
theorem Roms.addL {k : Nat} (hk : 0 < k) : ∀ (as : List NA) {ι : Io} {h : H}, Roms Y ι h W → (∀ a ∈ as, InArg k W a.1 a.2.1 a.2.2) → ∃ ι' h' us, Roms Y ι' h' W ∧ Ext ι ι' ∧ VRs ι' us (as.map (·.1)) ∧ us.length = as.length ∧ (∀ i (h1 : i < us.length) (h2 : i < as.length), InRead k h' us[i] as[i]) ∧ Grow h.nx.nat h h'
  | [], ι, h, r, _ => ⟨ι, h, [], r, Ext.refl _, VRs.nil, rfl, fun i h1 => absurd h1 (by simp), Grow.refl _ _⟩
  | a :: as, ι, h, r, ha => by
    obtain ⟨ι1, h1, u, r1, x1, v1, s1, g1⟩ := r.addI hk (ha a (by simp))
    obtain ⟨ι2, h2, us, r2, x2, v2, l2, s2, g2⟩ := Roms.addL hk as r1 fun b hb => ha b (by simp [hb])
    refine ⟨ι2, h2, u :: us, r2, x1.trans x2, VRs.cons (v1.mono x2) v2, by simp [l2], fun i q1 q2 => ?_, g1.trans (g2.low g1.nx)⟩
    cases i with
    | zero => exact Srk.grow s1 r1.hc g2
    | succ i => exact s2 i (by simpa using q1) (by simpa using q2)
/-- A slice of slices comes in. -/
theorem Roms.addN (r : Roms Y ι h W) {k : Nat} (hk : 0 < k) {val : Value} {len : Nat} {as : List NA} (ha : NArg k W val len as) : ∃ ι' h' v us, Roms Y ι' h' W ∧ Ext ι ι' ∧ VR ι' v val ∧ Sr vE h' v us ∧ us.length = len ∧ (∀ i (h1 : i < us.length) (h2 : i < as.length), InRead k h' us[i] as[i]) ∧ len ≤ as.length ∧ Grow h.nx.nat h h' := by
  rcases ha with ⟨rfl, rfl, rfl⟩ | ⟨b, off, cap, rfl, hlen, hcap, hcell, hfro, hin⟩
  · exact ⟨ι, h, .sn, [], r, Ext.refl _, .sn, Sr.nil, rfl, fun i h1 => absurd h1 (by simp), Nat.le_refl _, Grow.refl _ _⟩
  obtain ⟨ι1, h1, us, r1, x1, v1, l1, s1, g1⟩ := Roms.addL hk as r hin
  have hn : ι1 h1.nx = none := r1.wr.fresh _ (Nat.le_refl _)
  by_cases hz : as.length = 0
  · have hc0 : cap = 0 := by omega
    subst hc0
    obtain rfl : len = 0 := by omega
    obtain ⟨h2, v, r2, vr, sr, g2, _⟩ := r1.zero (k := 1) ⟨b, off, none⟩
    refine ⟨ι1, h2, v, [], r2, x1, vr, ?_, rfl, fun i q => absurd q (by simp), by omega, g1.trans (g2.low g1.nx)⟩
    rcases sr with ⟨rfl, _, _⟩ | ⟨id, o, m, cs, rfl, q1, q2, q3, q4⟩
    · exact Sr.nil
    · exact .inr ⟨id, o, m, cs, rfl, q1, q2, by simpa using q3, fun i hi => absurd hi (by simp)⟩
  · have h0 := hcell 0 (by omega)
    obtain ⟨cur, ty, fz, hb⟩ : ∃ cur ty fz, W.heap[b]? = some (.cells cur ty fz) := by
      unfold World.cell? at h0
      split at h0
      · rename_i c t f hh; exact ⟨c, t, f, hh⟩
      · cases h0
    have hbl : b < W.heap.size := (Array.getElem?_eq_some_iff.1 hb).1
    have hcur : ∀ i (hi : i < as.length), cur[off + i]? = some as[i].1 := fun i hi => by
      have := hcell i hi
      rw [cell_of_row W b _ cur ty fz hb] at this
      exact this
    have hsz : off + as.length ≤ cur.size := by
      have := hcur (as.length - 1) (by omega)
      have := (Array.getElem?_eq_some_iff.1 this).1
      omega
    have hin2 : List.take as.length (List.drop off cur.toList) = as.map (·.1) := by
      apply List.ext_getElem?
      intro i
      rw [List.getElem?_take, List.getElem?_map]
      by_cases hi : i < as.length
      · rw [if_pos hi, List.getElem?_drop, Array.getElem?_toList, hcur i hi, List.getElem?_eq_getElem hi]; rfl
      · rw [if_neg hi, List.getElem?_eq_none (by omega)]; rfl
    obtain ⟨q, hq⟩ : ∃ q : Pl, q = ⟨b, off, as.length, some (cur, ty, fz)⟩ := ⟨_, rfl⟩
    have hext := updI_ext (q := q) hn
    have g : Grow h1.nx.nat h1 (h1.new (.rom as.length us)) := Grow.new (Nat.le_refl _) _
    have hlt : ∀ id q', ι1 id = some q' → id.nat < h1.nx.nat := fun id q' hq' => by
      rcases Nat.lt_or_ge id.nat h1.nx.nat with h2 | h2
      · exact h2
      · rw [r1.wr.fresh id h2] at hq'; cases hq'
    have hall : ∀ id q', updI ι1 h1.nx q id = some q' → ∃ n cs, (h1.new (.rom as.length us)).get id = .rom n cs ∧ ∃ p, q'.pin = some p ∧ W.heap[q'.b]? = some (.cells p.1 p.2.1 p.2.2) := fun id q' hq' => by
      by_cases e : id = h1.nx
      · subst e
        rw [updI_same] at hq'
        cases hq'
        subst hq
        exact ⟨_, _, get_new_same, _, rfl, hb⟩
      · rw [updI_other _ _ e] at hq'
        rw [get_new_old (hlt id q' hq')]
        exact r1.all id q' hq'
    refine ⟨updI ι1 h1.nx q, h1.new (.rom as.length us), .sl h1.nx 0 len 1, us.take len, ⟨⟨fun id q' h' => ?_, fun id q' h' => ?_, fun id id' q1 q2 h1' h2' _ _ _ => ?_, fun id hid => ?_⟩, g.hc r1.hc, hall⟩, x1.trans hext, ?_, ?_, by rw [List.length_take]; omega, fun i q1 q2 => ?_, by omega, g1.trans (g.low g1.nx)⟩
    · by_cases e : id = h1.nx
      · subst e
        rw [updI_same] at h'
        cases h'
        rw [get_new_same]
        subst hq
        refine ⟨cur, ty, fz, hb, by simp [l1], hsz, Nat.le_refl _, fun c hc => ?_, ?_, ?_, ?_⟩
        · obtain ⟨i, hi, rfl⟩ := List.getElem_of_mem hc
          exact Srk.one1 (s1 i hi (by omega))
        · show VRs _ _ (List.take as.length (List.drop off cur.toList))
          rw [hin2]
          exact v1.mono hext
        · intro j h1 h2 h3
          have h1 : off ≤ j := h1
          have h2 : j < off + as.length := h2
          have := hfro (j - off) (by omega)
          unfold World.frozen? at this
          rw [hb] at this
          simp only [Bool.and_eq_false_iff, decide_eq_false_iff_not] at this
          omega
        · intro p hp
          cases hp
          exact ⟨rfl, rfl, fun _ _ => rfl⟩
      · rw [updI_other _ _ e] at h'
        rw [get_new_old (hlt id q' h')]
        exact (r1.wr.blk id q' h').mono hext rfl
    · by_cases e : id = h1.nx
      · subst e; rw [updI_same] at h'; cases h'; subst hq; exact hbl
      · rw [updI_other _ _ e] at h'; exact r1.wr.lt id q' h'
    · obtain ⟨_, _, a1, _⟩ := hall id q1 h1'
      obtain ⟨_, _, a2, _⟩ := hall id' q2 h2'
      exact .inr ⟨by rw [a1]; trivial, by rw [a2]; trivial⟩
    · have hnx : (h1.new (.rom as.length us)).nx.nat = h1.nx.nat + 1 := K.succ_nat _
      rw [hnx] at hid
      rw [updI_other _ _ (fun e => by rw [e] at hid; omega)]
      exact r1.wr.fresh id (by omega)
    · have := VR.sl (off := 0) (n := len) (sz := 1) (c := as.length) (updI_same ι1 h1.nx q) (by subst hq; show 0 + as.length * 1 ≤ as.length; omega) (by omega) (by omega)
      subst hq
      rw [← hcap]
      simpa using this
    · refine .inr ⟨h1.nx, 0, as.length, us, by rw [List.length_take, Nat.min_eq_left (by omega)], .inr get_new_same, l1, by simp; omega, fun i hi => ?_⟩
      have hi' : i < len := by rw [List.length_take] at hi; omega
      rw [Nat.zero_add, List.getElem?_eq_getElem (by omega), List.getElem_take]; rfl
    · rw [List.getElem_take]
      exact Srk.grow (s1 i (by rw [List.length_take] at q1; omega) q2) r1.hc g
end
end Go.Ev
namespace Go.Ev
open Go Go.RowKit Go.ChangeShapes Go.WideShapes Go.ChangeAt
/-- Read in one memory, so it is read in the other. -/
def SameR (H : Type) (enc : TypeId × Value → H) (P : Program) (W W' : World) (e : TypeId) : Prop := ∀ n cs y, DataW.trod enc P W 0 (fun _ => true) true n e cs = some y → DataW.trod enc P W' 0 (fun b => decide (b < W.heap.size)) true n e cs = some y
theorem Plain.sameR {H : Type} {enc : TypeId × Value → H} {P : Program} {W W' : World} {e : TypeId} (pe : Plain P e) : SameR H enc P W W' e := fun n cs y h => by rw [← h]; exact pe enc W' W 0 _ _ true n cs
theorem cells_block {P : Program} {H : Type} {enc : TypeId × Value → H} {W : World} {a : Addr} {e : TypeId} {n i : Nat} {y : DataW H × List MemPlace} (hpos : 0 < P.cellsOf e) (hy : (W.cells? 0 (a.add (i * P.cellsOf e)) (P.cellsOf e)).bind (DataW.trod enc P W 0 (fun _ => true) true n e) = some y) : a.block < W.heap.size ∧ (i = 0 → a.spot = none) := by
  obtain ⟨cs, h1, _⟩ := Option.bind_eq_some_iff.1 hy
  unfold World.cells? at h1
  rw [if_pos (Nat.zero_le _)] at h1
  obtain ⟨k, hk⟩ : ∃ k, P.cellsOf e = k + 1 := ⟨P.cellsOf e - 1, by omega⟩
  rw [hk, List.range_succ_eq_map, List.mapM_cons] at h1
  cases h2 : W.cell? ((a.add (i * (k + 1))).add 0) with
  | none => rw [h2] at h1; simp at h1
  | some c =>
    unfold World.cell? at h2
    have hbk : ((a.add (i * (k + 1))).add 0).block = a.block := by rw [block_add, block_add]
    rw [hbk] at h2
    split at h2
    · rename_i hh
      refine ⟨(Array.getElem?_eq_some_iff.1 hh).1, fun hi => ?_⟩
      subst hi
      have e0 : ((a.add (0 * (k + 1))).add 0) = a := by simp [Addr.add]
      rw [e0] at h2
      cases hsp : a.spot with
      | none => rfl
      | some s => rw [hsp] at h2; cases h2
    · cases h2
theorem trod_same {H : Type} {enc : TypeId × Value → H} {P : Program} {W W' : World} {t e : TypeId} (ht : P.underlying t = some (.slice e)) (pe : SameR H enc P W W' e) (hpos : 0 < P.cellsOf e) (hb : Below W.heap.size W W') : SameR H enc P W W' t := by
  intro fuel cs x hf
  rcases DataW.trod_slice ht hf with ⟨hcs, hx⟩ | ⟨a, len, cap, elems, rest, n, rfl, hcs, hx, h0, hl, hm, hlen, hel, hsp, _⟩
  · rw [hcs] at hf ⊢
    cases fuel with
    | zero => cases hf
    | succ n =>
      rw [DataW.trod_step] at hf ⊢
      unfold DataW.trodStep at hf ⊢
      simp only [ht] at hf ⊢
      exact hf
  · obtain ⟨hrl, hr⟩ := hsp rfl
    rw [hcs] at hf ⊢
    rw [DataW.trod_step] at hf ⊢
    unfold DataW.trodStep at hf ⊢
    simp only [ht] at hf ⊢
    rw [if_pos ⟨h0, hl, hm⟩] at hf ⊢
    rw [← hf]
    by_cases hc0 : cap = 0
    · subst hc0
      obtain rfl : len = 0 := by omega
      simp
    · have hbl : a.block < W.heap.size := by
        by_cases h1 : 0 < len
        · exact (cells_block (i := 0) (y := elems[0]'(by omega)) hpos (by rw [hel 0 h1, List.getElem?_eq_getElem (by omega)])).1
        · exact (cells_block (i := len + 0) (y := rest[0]'(by omega)) hpos (by rw [hr 0 (by omega), List.getElem?_eq_getElem (by omega)])).1
      have hcc : ∀ i, W'.cells? 0 (a.add (i * P.cellsOf e)) (P.cellsOf e) = W.cells? 0 (a.add (i * P.cellsOf e)) (P.cellsOf e) := fun i => by
        unfold World.cells?
        rw [if_pos (Nat.zero_le _), if_pos (Nat.zero_le _)]
        exact mapM_same _ fun j _ => cell_below hb (by rw [block_add, block_add]; exact hbl)
      have el : ∀ i y, (W.cells? 0 (a.add (i * P.cellsOf e)) (P.cellsOf e)).bind (DataW.trod enc P W 0 (fun _ => true) true n e) = some y → (W'.cells? 0 (a.add (i * P.cellsOf e)) (P.cellsOf e)).bind (DataW.trod enc P W' 0 (fun b => decide (b < W.heap.size)) true n e) = (W.cells? 0 (a.add (i * P.cellsOf e)) (P.cellsOf e)).bind (DataW.trod enc P W 0 (fun _ => true) true n e) := fun i y hy => by
        rw [hcc i, hy]
        obtain ⟨cs, h1, h2⟩ := Option.bind_eq_some_iff.1 hy
        rw [h1]
        exact pe n cs y h2
      have e1 : (List.range len).mapM (fun i => (W'.cells? 0 (a.add (i * P.cellsOf e)) (P.cellsOf e)).bind (DataW.trod enc P W' 0 (fun b => decide (b < W.heap.size)) true n e)) = (List.range len).mapM (fun i => (W.cells? 0 (a.add (i * P.cellsOf e)) (P.cellsOf e)).bind (DataW.trod enc P W 0 (fun _ => true) true n e)) := mapM_same _ fun i hi => by
        have hi : i < len := by simpa using hi
        exact el i (elems[i]'(by omega)) (by rw [hel i hi, List.getElem?_eq_getElem (by omega)])
      have e2 : (List.range (cap - len)).mapM (fun j => (W'.cells? 0 (a.add ((len + j) * P.cellsOf e)) (P.cellsOf e)).bind (DataW.trod enc P W' 0 (fun b => decide (b < W.heap.size)) true n e)) = (List.range (cap - len)).mapM (fun j => (W.cells? 0 (a.add ((len + j) * P.cellsOf e)) (P.cellsOf e)).bind (DataW.trod enc P W 0 (fun _ => true) true n e)) := mapM_same _ fun j hj => by
        have hj : j < cap - len := by simpa using hj
        exact el (len + j) (rest[j]'(by omega)) (by rw [hr j hj, List.getElem?_eq_getElem (by omega)])
      rw [e1, e2]
      simp only [hbl, decide_true, if_true]
theorem SameR.trod {H : Type} {enc : TypeId × Value → H} {P : Program} {W W' : World} {t : TypeId} (s : SameR H enc P W W' t) {v : Value} {d : DataW H} {p : List MemPlace} (h : DataW.Trod enc P W 0 (fun _ => true) true t v d p) : DataW.Trod enc P W' 0 (fun b => decide (b < W.heap.size)) true t v d p := by
  obtain ⟨fuel, hf⟩ := h
  exact ⟨fuel, s _ _ _ hf⟩
/-- Choose, for each number below n. -/
theorem choose_list {α : Type} {p : Nat → α → Prop} : ∀ n, (∀ j, j < n → ∃ x, p j x) → ∃ l : List α, l.length = n ∧ ∀ j (h : j < l.length), p j l[j]
  | 0, _ => ⟨[], rfl, fun j h => absurd h (by simp)⟩
  | n + 1, h => by
    obtain ⟨l, h1, h2⟩ := choose_list n fun j hj => h j (by omega)
    obtain ⟨x, hx⟩ := h n (by omega)
    refine ⟨l ++ [x], by simp [h1], fun j hj => ?_⟩
    by_cases e : j < l.length
    · rw [List.getElem_append_left e]; exact h2 j e
    · have : j = l.length := by simp at hj; omega
      subst this
      rw [List.getElem_append_right (Nat.le_refl _)]
      simp only [Nat.sub_self, List.getElem_cons_zero]
      rw [h1]; exact hx
theorem cells1_of {w : World} {A : Addr} {cs : List Value} (h : w.cells? 0 A 1 = some cs) : ∃ c, cs = [c] ∧ w.cell? (A.add 0) = some c := by
  unfold World.cells? at h
  rw [if_pos (Nat.zero_le _), show List.range 1 = [0] from rfl] at h
  cases h0 : w.cell? (A.add 0) with
  | none => simp [List.mapM_cons, h0] at h
  | some c => simp [List.mapM_cons, h0] at h; exact ⟨c, h.symm, rfl⟩
/-- An inner slice of pairs. -/
theorem trod_in2 {H : Type} {enc : TypeId × Value → H} {P : Program} {W : World} {t e i : TypeId} (ht : P.underlying t = some (.slice e)) (he : P.underlying e = some (.array 2 i)) (hi : P.underlying i = some (.int .i64)) (hci : P.cellsOf i = 1) (hce : P.cellsOf e = 2)
    {fuel : Nat} {cs : List Value} {y : DataW H × List MemPlace} {ps : List MemPlace} (hf : DataW.trod enc P W 0 (fun _ => true) true fuel t cs = some y) (hps : ∀ x ∈ y.2, x ∈ ps) (hnf : W.noneFrozen ps) :
    ∃ v len zs, cs = [v] ∧ InArg 2 W v len zs ∧ (∀ z ∈ zs, inR .i64 z = true) ∧ len ≤ maxLen := by
  rcases DataW.trod_slice ht hf with ⟨hcs, hx⟩ | ⟨a, len0, cap0, elems, rest, n, rfl, hcs, hx, h0, hl, hm, hlen, hel, hsp, _⟩
  · exact ⟨_, 0, [], hcs, .inl (.inl ⟨rfl, rfl, rfl⟩), fun z hz => (by cases hz), Nat.zero_le _⟩
  · subst hcs hx
    obtain ⟨hrl, hr⟩ := hsp rfl
    rw [hce] at hel hr
    have el : ∀ j, j < cap0 → ∃ y, (W.cells? 0 (a.add (j * 2)) 2).bind (DataW.trod enc P W 0 (fun _ => true) true n e) = some y := by
      intro j hj
      by_cases h1 : j < len0
      · exact ⟨elems[j]'(by omega), by rw [hel j h1, List.getElem?_eq_getElem (by omega)]⟩
      · refine ⟨rest[j - len0]'(by omega), ?_⟩
        have := hr (j - len0) (by omega)
        rw [show len0 + (j - len0) = j by omega] at this
        rw [this, List.getElem?_eq_getElem (by omega)]
    by_cases hc0 : cap0 = 0
    · subst hc0
      obtain rfl : len0 = 0 := by omega
      exact ⟨_, 0, [], rfl, .inr ⟨a, rfl, rfl, rfl⟩, fun z hz => (by cases hz), Nat.zero_le _⟩
    · obtain ⟨y0, hy0⟩ := el 0 (by omega)
      have hspot : a.spot = none := (cells_block (P := P) (e := e) (i := 0) (y := y0) (by omega) (by rw [hce]; exact hy0)).2 rfl
      obtain ⟨b, off, sp⟩ := a
      have hspot : sp = none := hspot
      subst hspot
      have cell : ∀ j, j < cap0 * 2 → ∃ z, W.cell? ((⟨b, off, none⟩ : Addr).add j) = some (.int .i64 z) ∧ inR .i64 z = true := by
        intro j hj
        obtain ⟨y, hy⟩ := el (j / 2) (by omega)
        obtain ⟨cs, h1, h2⟩ := Option.bind_eq_some_iff.1 hy
        obtain ⟨c0, c1, rfl, q0, q1⟩ := cells2_of h1
        obtain ⟨y0, y1, n', r0, r1⟩ := trod_array2 he hci h2
        obtain ⟨z0, rfl, w0⟩ := trod_iw hi r0
        obtain ⟨z1, rfl, w1⟩ := trod_iw hi r1
        rw [add_lit', add_lit'] at q0 q1
        rcases Nat.mod_two_eq_zero_or_one j with h | h
        · refine ⟨z0, ?_, w0⟩
          rw [add_lit', ← q0]
          have : j = j / 2 * 2 := by omega
          rw [Nat.add_zero, ← this]
        · refine ⟨z1, ?_, w1⟩
          rw [add_lit', ← q1]
          rw [show off + j / 2 * 2 + 1 = off + j by omega]
      refine ⟨_, len0, (List.range (cap0 * 2)).map fun j => numZ (W.cell? ⟨b, off + j, none⟩), rfl, .inl (.inr ⟨b, off, cap0, rfl, hl, by simp, fun j hj => ?_, fun j hj => ?_⟩), fun z hz => ?_, Nat.le_trans hl hm⟩
      · have hj : j < cap0 * 2 := by simpa using hj
        obtain ⟨z, hz, _⟩ := cell j hj
        rw [add_lit'] at hz
        have hz : W.cell? ⟨b, off + j, none⟩ = some (.int .i64 z) := hz
        rw [List.getElem_map, List.getElem_range, hz]; rfl
      · have hj : j < cap0 * 2 := by simpa using hj
        refine hnf b (off + j) (hps _ (List.mem_append_left _ ?_))
        unfold MemPlace.row
        rw [List.mem_map]
        exact ⟨j, by rw [List.mem_range, hce, hlen, hrl]; omega, rfl⟩
      · obtain ⟨j, hj, rfl⟩ := List.mem_map.1 hz
        obtain ⟨z, hz, hw⟩ := cell j (List.mem_range.1 hj)
        rw [add_lit'] at hz
        have hz : W.cell? ⟨b, off + j, none⟩ = some (.int .i64 z) := hz
        rw [hz]; exact hw
/-- A slice of slices that comes in. -/
theorem trod_nArg {H : Type} {enc : TypeId × Value → H} {P : Program} {W : World} {base k : Nat} {t s : TypeId} (ht : P.underlying t = some (.slice s)) (hcs1 : P.cellsOf s = 1)
    (hin : ∀ {fuel : Nat} {cs : List Value} {y : DataW H × List MemPlace} {ps : List MemPlace}, DataW.trod enc P W 0 (fun _ => true) true fuel s cs = some y → (∀ x ∈ y.2, x ∈ ps) → W.noneFrozen ps → ∃ v len zs, cs = [v] ∧ InArg k W v len zs ∧ (∀ z ∈ zs, inR .i64 z = true) ∧ len ≤ maxLen)
    {v : Value} {d : DataW H} {p ps : List MemPlace} (hval : Value.okWide P W .any base t v) (hd : DataW.Trod enc P W 0 (fun _ => true) true t v d p) (hps : ∀ x ∈ p, x ∈ ps) (hnf : W.noneFrozen ps) :
    ∃ len as, NArg k W v len as ∧ (∀ a ∈ as, (∀ z ∈ a.2.2, inR .i64 z = true) ∧ a.2.1 ≤ maxLen) ∧ len ≤ maxLen := by
  obtain ⟨ao, len0, cap0, rfl⟩ := okWide_slice ht hval
  obtain ⟨fuel, hf⟩ := hd
  have hcells : (Value.slice ao len0 cap0).cells.toList = [.slice ao len0 cap0] := rfl
  rw [hcells] at hf
  rcases DataW.trod_slice ht hf with ⟨hcs, hx⟩ | ⟨a, len, cap, elems, rest, n, rfl, hcs, hx, h0, hl, hm, hlen, hel, hsp, _⟩
  · cases hcs
    exact ⟨0, [], .inl ⟨rfl, rfl, rfl⟩, fun a ha => (by cases ha), Nat.zero_le _⟩
  · cases hcs
    cases hx
    obtain ⟨hrl, hr⟩ := hsp rfl
    have hspot : a.spot = none := by
      simp only [Value.okWide, ht, Cell.okWide, Cell.ok] at hval
      exact hval.2.2.2.1
    obtain ⟨b, off, sp⟩ := a
    have hspot : sp = none := hspot
    subst hspot
    rw [hcs1] at hel hr
    have el : ∀ j, j < cap0 → ∃ y, (W.cells? 0 ((⟨b, off, none⟩ : Addr).add (j * 1)) 1).bind (DataW.trod enc P W 0 (fun _ => true) true n s) = some y ∧ ∀ x ∈ y.2, x ∈ ps := by
      intro j hj
      by_cases h1 : j < len0
      · refine ⟨elems[j]'(by omega), by rw [hel j h1, List.getElem?_eq_getElem (by omega)], fun x hx => hps _ (List.mem_append_right _ (List.mem_flatMap.2 ⟨elems[j]'(by omega), List.mem_append_left _ (List.getElem_mem _), hx⟩))⟩
      · refine ⟨rest[j - len0]'(by omega), ?_, fun x hx => hps _ (List.mem_append_right _ (List.mem_flatMap.2 ⟨rest[j - len0]'(by omega), List.mem_append_right _ (List.getElem_mem _), hx⟩))⟩
        have := hr (j - len0) (by omega)
        rw [show len0 + (j - len0) = j by omega] at this
        rw [this, List.getElem?_eq_getElem (by omega)]
    obtain ⟨as, ha1, ha2⟩ := choose_list (α := NA) (p := fun j a => W.cell? ⟨b, off + j, none⟩ = some a.1 ∧ InArg k W a.1 a.2.1 a.2.2 ∧ (∀ z ∈ a.2.2, inR .i64 z = true) ∧ a.2.1 ≤ maxLen) cap0 fun j hj => by
      obtain ⟨y, hy, hy2⟩ := el j hj
      obtain ⟨cs, h1, h2⟩ := Option.bind_eq_some_iff.1 hy
      obtain ⟨c0, rfl, q0⟩ := cells1_of h1
      obtain ⟨v, len, zs, hcv, hia, hz, hlm⟩ := hin h2 hy2 hnf
      cases hcv
      rw [add_lit', add_lit', Nat.mul_one, Nat.add_zero] at q0
      exact ⟨(c0, len, zs), q0, hia, hz, hlm⟩
    refine ⟨len0, as, .inr ⟨b, off, cap0, rfl, hl, ha1, fun i hi => (ha2 i hi).1, fun i hi => ?_, fun a ha => ?_⟩, fun a ha => ?_, Nat.le_trans hl hm⟩
    · refine hnf b (off + i) (hps _ (List.mem_append_left _ ?_))
      unfold MemPlace.row
      rw [List.mem_map]
      exact ⟨i, by rw [List.mem_range, hcs1, hlen, hrl]; omega, rfl⟩
    · obtain ⟨i, hi, rfl⟩ := List.getElem_of_mem ha
      exact (ha2 i hi).2.1
    · obtain ⟨i, hi, rfl⟩ := List.getElem_of_mem ha
      exact (ha2 i hi).2.2
end Go.Ev
namespace Go.Ev
open Go Go.RowKit
theorem InArg.le {W : World} {val : Value} {len : Nat} {zs : List Int} (a : InArg 2 W val len zs) : len * 2 ≤ zs.length := by
  rcases a with a | ⟨_, _, rfl, rfl⟩
  · exact a.le
  · simp
theorem nrp_of {W : World} {val : Value} {h : H} {v : V} {us : List V} {len : Nat} {as : List NA} (s : Sr vE h v us) (l : us.length = len) (t : ∀ i (h1 : i < us.length) (h2 : i < as.length), InRead 2 h us[i] as[i]) (k : len ≤ as.length) (ha : NArg 2 W val len as) : Nrp h v us ((as.take len).map fun a => pairsOf a.2.1 a.2.2) := by
  refine ⟨by simp; omega, s, fun i h1 h2 => ?_⟩
  have h3 : i < as.length := by omega
  have hin : InArg 2 W as[i].1 as[i].2.1 as[i].2.2 := by
    rcases ha with ⟨_, _, rfl⟩ | ⟨_, _, _, _, _, _, _, _, h4⟩
    · simp at h3
    · exact h4 _ (List.getElem_mem h3)
  have := t i h1 h3
  simp only [List.getElem_map, List.getElem_take]
  exact Srk.srp this hin.le
end Go.Ev
