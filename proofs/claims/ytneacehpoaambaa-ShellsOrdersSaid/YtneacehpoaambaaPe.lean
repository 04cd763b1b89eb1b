/-
  Functions of the seat: tame.
  Functions of the seat: rank.
  Functions of the seat: cornersOf, border.
  Functions of the seat: AppendSeq, Collect, list, Faces.
  Functions of the seat: counts, Counts.
  Functions of the seat: borderRank, hollows, Hollows.
  Functions of the seat: hollows, Hollows.
  Functions of the seat: Hs, Euler.
  The law ShellsMakes: its round.
  What is true of sets: the greatest of all parts of some sets are the greatest of these.
  Functions of the seat: the reference's Is, Faces, Counts, Euler.
  Functions of the seat: the reference's borders, rank.
  Functions of the seat: joined, link; the reference's Hollows.
  Functions of the seat: Link, dual, Dual; the reference's Link, Dual.
  Functions of the seat: isPure, newPart, fits.
-/
import Derived.Test.YtneacehpoaambaaPd
namespace Go.Ev
open Go Go.RowKit
noncomputable def f30_r0 : List EOper := [⟨(some (K.ofNat 4)), none, .as (.c (.i .i64 (.ofNat 0)))⟩, ⟨(some (K.ofNat 5)), none, .as (.c .sn)⟩]
noncomputable def f30_r1 : List EOper := [⟨(some (K.ofNat 9)), none, .mv (.t (K.ofNat 0))⟩, ⟨(some (K.ofNat 10)), none, .conv .u64 (.t (K.ofNat 9))⟩, ⟨(some (K.ofNat 11)), none, .bin .rem (.t (K.ofNat 10)) (.c (.i .u64 (.ofNat 6)))⟩, ⟨(some (K.ofNat 12)), none, .conv .i64 (.t (K.ofNat 11))⟩, ⟨(some (K.ofNat 13)), none, .bin .add (.c (.i .i64 (.ofNat 1))) (.t (K.ofNat 12))⟩, ⟨(some (K.ofNat 0)), none, .as (.t (K.ofNat 13))⟩]
noncomputable def f30_r2 : List EOper := [⟨(some (K.ofNat 14)), none, .bslice 1 1 [(.i .i64 (.ofNat 0))] [(0, 1, (.c (.i .i64 (.ofNat 1))))]⟩, ⟨(some (K.ofNat 6)), none, .as (.t (K.ofNat 14))⟩]
noncomputable def f30_r3 : List EOper := [⟨(some (K.ofNat 7)), none, .as (.c (.i .i64 (.ofNat 0)))⟩]
noncomputable def f30_r4 : List EOper := [⟨(some (K.ofNat 15)), none, .mv (.t (K.ofNat 7))⟩, ⟨(some (K.ofNat 16)), none, .mv (.t (K.ofNat 1))⟩, ⟨(some (K.ofNat 17)), none, .len (.t (K.ofNat 16))⟩, ⟨(some (K.ofNat 18)), none, .bin .lss (.t (K.ofNat 15)) (.t (K.ofNat 17))⟩, ⟨(some (K.ofNat 19)), none, .mv (.t (K.ofNat 18))⟩, ⟨(some (K.ofNat 20)), (some ((K.ofNat 19), true)), .mv (.t (K.ofNat 7))⟩, ⟨(some (K.ofNat 21)), (some ((K.ofNat 19), true)), .bin .lss (.t (K.ofNat 20)) (.c (.i .i64 (.ofNat 10)))⟩, ⟨(some (K.ofNat 22)), none, .pick (.t (K.ofNat 19)) (.t (K.ofNat 21)) (.c (.b false))⟩]
noncomputable def f30_r5 : List Stage := [⟨[⟨(some (K.ofNat 25)), none, .mv (.t (K.ofNat 6))⟩, ⟨(some (K.ofNat 26)), none, .mv (.t (K.ofNat 1))⟩, ⟨(some (K.ofNat 27)), none, .mv (.t (K.ofNat 7))⟩, ⟨(some (K.ofNat 28)), none, .iads 1 (.t (K.ofNat 26)) (.t (K.ofNat 27))⟩, ⟨(some (K.ofNat 29)), none, .ld (.t (K.ofNat 28))⟩, ⟨(some (K.ofNat 30)), none, .conv .u64 (.t (K.ofNat 29))⟩, ⟨(some (K.ofNat 31)), none, .mv (.t (K.ofNat 0))⟩, ⟨(some (K.ofNat 32)), none, .bin .shl (.c (.i .u64 (.ofNat 1))) (.t (K.ofNat 31))⟩, ⟨(some (K.ofNat 33)), none, .bin .rem (.t (K.ofNat 30)) (.t (K.ofNat 32))⟩, ⟨(some (K.ofNat 34)), none, .conv .i64 (.t (K.ofNat 33))⟩, ⟨(some (K.ofNat 35)), none, .bslice 1 1 [(.i .i64 (.ofNat 0))] [(0, 1, (.t (K.ofNat 34)))]⟩], [], (some ⟨(some (K.ofNat 36)), none, .app 1 (.t (K.ofNat 25)) (.t (K.ofNat 35))⟩), [(K.ofNat 35)]⟩, ⟨[], [], (some ⟨(some (K.ofNat 6)), none, .as (.t (K.ofNat 36))⟩), []⟩, ⟨[], [], none, []⟩]
noncomputable def f30_r6 : List EOper := [⟨(some (K.ofNat 23)), none, .mv (.t (K.ofNat 7))⟩, ⟨(some (K.ofNat 24)), none, .bin .add (.t (K.ofNat 23)) (.c (.i .i64 (.ofNat 1)))⟩, ⟨(some (K.ofNat 7)), none, .as (.t (K.ofNat 24))⟩]
noncomputable def f30_l0 : EC := (.seq (.seq (.reg f30_r4) (.cond (.t (K.ofNat 22)) .skip (.exit 0))) (.seq (.block 1 (.draw f30_r5)) (.reg f30_r6)))
noncomputable def f30_r7 : List EOper := [⟨(some (K.ofNat 37)), none, .mv (.t (K.ofNat 6))⟩, ⟨(some (K.ofNat 38)), none, .call (.c (.fn (K.ofNat 49) [])) [(.t (K.ofNat 37))]⟩, ⟨(some (K.ofNat 8)), none, .as (.t (K.ofNat 38))⟩]
noncomputable def f30_r8 : List EOper := [⟨(some (K.ofNat 39)), none, .mv (.t (K.ofNat 8))⟩, ⟨(some (K.ofNat 40)), none, .len (.t (K.ofNat 39))⟩, ⟨(some (K.ofNat 41)), none, .bin .gtr (.t (K.ofNat 40)) (.c (.i .i64 (.ofNat 1)))⟩, ⟨(some (K.ofNat 42)), none, .mv (.t (K.ofNat 41))⟩, ⟨(some (K.ofNat 43)), (some ((K.ofNat 42), true)), .mv (.t (K.ofNat 8))⟩, ⟨(some (K.ofNat 44)), (some ((K.ofNat 42), true)), .iads 1 (.t (K.ofNat 43)) (.c (.i .i64 (.ofNat 0)))⟩, ⟨(some (K.ofNat 45)), (some ((K.ofNat 42), true)), .ld (.t (K.ofNat 44))⟩, ⟨(some (K.ofNat 46)), (some ((K.ofNat 42), true)), .bin .eql (.t (K.ofNat 45)) (.c (.i .i64 (.ofNat 0)))⟩, ⟨(some (K.ofNat 47)), none, .pick (.t (K.ofNat 42)) (.t (K.ofNat 46)) (.c (.b false))⟩]
noncomputable def f30_r9 : List EOper := [⟨(some (K.ofNat 48)), none, .mv (.t (K.ofNat 8))⟩, ⟨(some (K.ofNat 49)), none, .slice 1 (.t (K.ofNat 48)) (some (.c (.i .i64 (.ofNat 1)))) none none⟩, ⟨(some (K.ofNat 8)), none, .as (.t (K.ofNat 49))⟩]
noncomputable def f30_r10 : List Stage := [⟨[⟨(some (K.ofNat 50)), none, .mv (.t (K.ofNat 0))⟩, ⟨(some (K.ofNat 51)), none, .mv (.t (K.ofNat 8))⟩, ⟨(some (K.ofNat 52)), none, .mv (.t (K.ofNat 8))⟩, ⟨(some (K.ofNat 53)), none, .len (.t (K.ofNat 52))⟩, ⟨(some (K.ofNat 54)), none, .min (.t (K.ofNat 53)) (.c (.i .i64 (.ofNat 10)))⟩, ⟨(some (K.ofNat 55)), none, .mv (.t (K.ofNat 8))⟩, ⟨(some (K.ofNat 56)), none, .len (.t (K.ofNat 55))⟩, ⟨(some (K.ofNat 57)), none, .min (.t (K.ofNat 56)) (.c (.i .i64 (.ofNat 10)))⟩, ⟨(some (K.ofNat 58)), none, .slice 1 (.t (K.ofNat 51)) none (some (.t (K.ofNat 54))) (some (.t (K.ofNat 57)))⟩], [], (some ⟨(some (K.ofNat 4)), none, .as (.t (K.ofNat 50))⟩), []⟩, ⟨[], [⟨(some (K.ofNat 51)), none, .mv (.t (K.ofNat 8))⟩, ⟨(some (K.ofNat 52)), none, .mv (.t (K.ofNat 8))⟩, ⟨(some (K.ofNat 53)), none, .len (.t (K.ofNat 52))⟩, ⟨(some (K.ofNat 54)), none, .min (.t (K.ofNat 53)) (.c (.i .i64 (.ofNat 10)))⟩, ⟨(some (K.ofNat 55)), none, .mv (.t (K.ofNat 8))⟩, ⟨(some (K.ofNat 56)), none, .len (.t (K.ofNat 55))⟩, ⟨(some (K.ofNat 57)), none, .min (.t (K.ofNat 56)) (.c (.i .i64 (.ofNat 10)))⟩, ⟨(some (K.ofNat 58)), none, .slice 1 (.t (K.ofNat 51)) none (some (.t (K.ofNat 54))) (some (.t (K.ofNat 57)))⟩], (some ⟨(some (K.ofNat 5)), none, .as (.t (K.ofNat 58))⟩), []⟩, ⟨[], [], none, []⟩]
noncomputable def f30_c : EC := (.seq (.reg f30_r0) (.seq (.reg f30_r1) (.seq (.reg f30_r2) (.seq (.seq (.reg f30_r3) (.block 0 (.loop f30_l0))) (.seq (.reg f30_r7) (.seq (.seq (.reg f30_r8) (.cond (.t (K.ofNat 47)) (.reg f30_r9) .skip)) (.seq (.draw f30_r10) .ret)))))))
noncomputable def f30 : EF := ⟨59, [.tmp (K.ofNat 4), .tmp (K.ofNat 5)], f30_c, none⟩
theorem f30_rs : f30.rs = [.tmp (K.ofNat 4), .tmp (K.ofNat 5)] := of_eq_true (eq_self _)
section
variable {fs : T EF} {ro : Option K}
noncomputable def tameN (n : Int) : Int := fw .i64 (1 + fw .i64 ((fw .u64 n).tmod 6))
theorem tameN_in (n : Int) : 1 ≤ tameN n ∧ tameN n ≤ 6 := by
  have h0 : 0 ≤ fw .u64 n := by rw [fw_eq]; exact Int.emod_nonneg _ (by decide)
  obtain ⟨m, hm⟩ := Int.eq_ofNat_of_zero_le h0
  have h1 : (fw .u64 n).tmod 6 = ((m % 6 : Nat) : Int) := by rw [hm]; rfl
  unfold tameN
  have e1 : fw .i64 ((m % 6 : Nat) : Int) = ((m % 6 : Nat) : Int) := fw64 (by omega) (by omega)
  rw [h1, e1, fw64 (by omega) (by omega)]
  omega
noncomputable def tameX (N x : Int) : Int := fw .i64 ((fw .u64 x).tmod (2 ^ N.toNat))
noncomputable def tameS (N : Int) (L : List Int) (i : Nat) : List Int := 1 :: (L.take i).map (tameX N)
noncomputable def tameP (N : Int) (L : List Int) : List Int := (fun p : List Int => if 1 < p.length ∧ p[0]? = some 0 then p.drop 1 else p) (piecesTo (tameS N L 10) 64)
theorem tameS_succ {N : Int} {L : List Int} {i : Nat} (hi : i < L.length) : tameS N L (i + 1) = tameS N L i ++ [tameX N L[i]] := by
  unfold tameS; rw [List.take_succ_eq_append_getElem hi, List.map_append]; rfl
theorem tameS_len {N : Int} {L : List Int} {i : Nat} : (tameS N L i).length ≤ i + 1 := by
  unfold tameS; rw [List.length_cons, List.length_map, List.length_take]; omega
def f30_I (h : H) (v : V) (L : List Int) (N : Int) (i : Nat) (fr : Fr) (h1 : H) : Prop := ∃ o, i ≤ L.length ∧ i ≤ 10 ∧ Sl iE h1 o (tameS N L i) ∧ Own h.nx.nat o ∧ Grow h.nx.nat h h1 ∧ fr.get (K.ofNat 0) = some (.i .i64 N) ∧ fr.get (K.ofNat 1) = some (v) ∧ fr.get (K.ofNat 6) = some (o) ∧ fr.get (K.ofNat 7) = some (.i .i64 (i : Int))
theorem f30_loop {Q : Ex → Fr → H → Prop} {h h0 : H} {v : V} {L : List Int} {N : Int} {fr : Fr} (hv : Sr iE h v L) (hc : HC h) (hn1 : 1 ≤ N) (hn6 : N ≤ 6)
    (hi0 : f30_I h v L N 0 fr h0)
    (hq : ∀ fr h1 o, Sl iE h1 o (tameS N L 10) → Own h.nx.nat o → Grow h.nx.nat h h1 → fr.get (K.ofNat 0) = some (.i .i64 N) ∧ fr.get (K.ofNat 1) = some (v) ∧ fr.get (K.ofNat 6) = some (o) → Q (.exit 0) fr h1) :
    W fs ro (.loop f30_l0) Q fr h0 := by
  refine W_loop (f30_I h v L N) (fun i => L.length - i) ?_ 0 hi0
  clear hi0 fr
  rintro i fr h1 ⟨o, hi, hi2, hso, hoo, hgr, g0, g1, g6, g7⟩
  have hv1 := hv.grow hc hgr
  have hc1 := hgr.hc hc
  unfold f30_l0
  by_cases hlt : i < L.length
  · have hlt' : (i : Int) < (L.length : Int) := by omega
    by_cases h12 : i < 10
    · have h12' : (i : Int) < 10 := by omega
      obtain ⟨p, hp1, hp2⟩ := hv1.at i hlt
      have hpw : (2 : Int) ^ N.toNat ≠ 0 := by
        have : N = 1 ∨ N = 2 ∨ N = 3 ∨ N = 4 ∨ N = 5 ∨ N = 6 := by omega
        rcases this with rfl | rfl | rfl | rfl | rfl | rfl <;> decide
      have hrem : ∀ a, binV .rem (.i .u64 a) (.i .u64 (2 ^ N.toNat)) = some (.i .u64 (a.tmod (2 ^ N.toNat))) := fun a => bin_rem hpw
      obtain ⟨v', h', q1, q2, q3, q4, q5⟩ := Sl.push (e := iE) (L := tameS N L i) (x := tameX N L[i]) (c := .i .i64 (fw .i64 ((fw .u64 L[i]).tmod (2 ^ N.toNat)))) rfl hso hoo hgr.nx hc1 (by have := tameS_len (N := N) (L := L) (i := i); omega)
      simp (disch := omega) only [f30_r4, f30_r5, w_skip, w_reg, w_draw, w_seq, w_cond, w_block, seqK_n, atK_n, ckB_b, cbB_b, okG_b, asG_t, true_and, x_nil, x_g, x_mv, x_as, x_pick, x_bin, x_len, x_app, kx, kg, xg_nil, xg_mv, xg_ld, xg_bin, xg_conv, xg_iads, xg_bslice, xd_cons, fresh_nil, stK_n, stK_s, stay_nil, rvP_ok, okv_some, ev_t, ev_c, getV_some, putD_some, bin_lss, pick_b, onI_i, oGet_s, cells1_i, fill_1, set_1, of0, of1, of10, Option.some.injEq, exists_eq_left', getK_set, Nat.reduceEqDiff, ↓reduceIte, g0, g1, g6, g7, hv1.len, hlt', h12', decide_true, hp1, hp2, iE, bin_shl, shlu_n, hrem, hc1.dead, q1]
      refine ⟨fresh_one (n := 1) (sz := 1) (by simp (disch := omega) only [getK_set, ↓reduceIte]), ?_⟩
      simp (disch := omega) only [f30_r6, loopK_n, x_nil, x_mv, x_as, x_bin, kx, rvP_ok, okv_some, ev_t, ev_c, getV_some, putD_some, bin_add, of1, getK_set, Nat.reduceEqDiff, ↓reduceIte, g7, fw64]
      exact ⟨i + 1, by omega, v', hlt, h12, by rw [tameS_succ hlt]; exact q2, q3, hgr.trans q4, by simp (disch := omega) only [getK_set, Nat.reduceEqDiff, ↓reduceIte, g0, g1, and_self, Int.natCast_add, Int.natCast_one]⟩
    · have h12' : ¬ (i : Int) < 10 := by omega
      obtain rfl : i = 10 := by omega
      simp (disch := omega) only [f30_r4, w_reg, w_seq, w_cond, w_exit, seqK_n, seqK_e, loopK_e, ckB_b, cbB_b, okG_b, asG_t, true_and, x_nil, x_g, x_mv, x_pick, x_bin, x_len, kx, rvP_ok, okv_some, ev_t, ev_c, getV_some, putD_some, bin_lss, pick_b, of10, getK_set, Nat.reduceEqDiff, ↓reduceIte, Bool.false_eq_true, g1, g7, hv1.len, hlt', h12', decide_true, decide_false]
      exact hq _ _ o hso hoo hgr (by simp (disch := omega) only [getK_set, Nat.reduceEqDiff, ↓reduceIte, g0, g1, g6, and_self])
  · have hlt' : ¬ (i : Int) < (L.length : Int) := by omega
    simp (disch := omega) only [f30_r4, w_reg, w_seq, w_cond, w_exit, seqK_n, seqK_e, loopK_e, ckB_b, cbB_b, okG_b, asG_t, true_and, x_nil, x_g, x_mv, x_pick, x_bin, x_len, kx, rvP_ok, okv_some, ev_t, ev_c, getV_some, putD_some, bin_lss, pick_b, of10, getK_set, Nat.reduceEqDiff, ↓reduceIte, Bool.false_eq_true, g1, g7, hv1.len, hlt', decide_false]
    refine hq _ _ o ?_ hoo hgr (by simp (disch := omega) only [getK_set, Nat.reduceEqDiff, ↓reduceIte, g0, g1, g6, and_self])
    have : tameS N L 10 = tameS N L i := by
      unfold tameS
      rw [List.take_of_length_le (show L.length ≤ 10 by omega), List.take_of_length_le (show L.length ≤ i by omega)]
    rw [this]; exact hso
theorem f30_sr {h : H} {v : V} {L : List Int} {n : Int}
    (hp : ∀ a b h P, CallP fs (.fn (K.ofNat 53) []) [.i .i64 a, .i .i64 b] h P = P (.b (ptI a b)) h) (h49 : fs.get (K.ofNat 49) = some f49) (hv : Sr iE h v L) (hc : HC h) :
    Ret fs f30 [.i .i64 n, v] h fun r h' => ∃ u, r = .tup [.i .i64 (tameN n), u] ∧ Sl iE h' u ((tameP (tameN n) L).take 10) ∧ Own h.nx.nat u ∧ Grow h.nx.nat h h' := by
  apply ret_of rfl
  show W fs none f30_c _ _ _
  unfold f30_c
  obtain ⟨n1, n6⟩ := tameN_in n
  have hnn : fw .i64 (1 + fw .i64 ((fw .u64 n).tmod 6)) = tameN n := rfl
  simp (disch := omega) only [f30_r0, f30_r1, f30_r2, f30_r3, w_reg, w_seq, w_block, seqK_n, x_nil, x_mv, x_as, x_bslice, x_bin, x_conv, kx, rvP_ok, okv_some, ev_t, ev_c, getV_some, putD_some, bin_add, bin_rem, onI_i, oGet_s, frame_2, cells1_i, fill_1, set_1, of0, of1, of6, getK_set, Nat.reduceEqDiff, ↓reduceIte, hnn]
  refine f30_loop (h := h) (v := v) (L := L) (N := tameN n) hv hc n1 n6 ⟨.sl h.nx 0 1 1, by omega, by omega, Sl.lit (e := iE) (x := 1), fun _ _ _ _ e => by cases e; exact Nat.le_refl _, Grow.new (Nat.le_refl _) _, by simp (disch := omega) only [getK_set, Nat.reduceEqDiff, ↓reduceIte, and_self, Int.natCast_zero]⟩ ?_
  rintro fr h1 o hso hoo hgr ⟨g0, g1, g6⟩
  have hc1 := hgr.hc hc
  simp (disch := omega) only [f30_r7, w_reg, w_seq, seqK_n, atK_e, x_mv, x_call, ev_t, ev_c, evs_nil, evs_cons, getV_some, putD_some, getK_set, ↓reduceIte, g6]
  refine (callP_0 (ef := f49) h49 rfl (f49_ret hp hso (by have := tameS_len (N := tameN n) (L := L) (i := 10); omega) hc1)).mono ?_
  rintro w h2 ⟨hsw, how, gr2⟩
  have gr := hgr.trans (gr2.low hgr.nx)
  have how' : Own h.nx.nat w := how.low hgr.nx
  generalize hP : piecesTo (tameS (tameN n) L 10) 64 = P at *
  have hlenP : P.length ≤ 64 := by rw [← hP]; exact piecesTo_len
  -- the end
  have fin : ∀ (w : V) (M : List Int) (fr : Fr), Sl iE h2 w M → Own h.nx.nat w → M = tameP (tameN n) L → fr.get (K.ofNat 0) = some (.i .i64 (tameN n)) ∧ fr.get (K.ofNat 8) = some (w) →
      W fs none (.seq (.draw f30_r10) .ret) (retK f30 fun r h' => ∃ u, r = .tup [.i .i64 (tameN n), u] ∧ Sl iE h' u ((tameP (tameN n) L).take 10) ∧ Own h.nx.nat u ∧ Grow h.nx.nat h h') fr h2 := by
    clear g0 g1 g6 fr
    rintro w M fr hsw how hM ⟨g0, g8⟩
    have hmin : min (M.length : Int) 10 = ((min M.length 10 : Nat) : Int) := by omega
    obtain ⟨x, x1, x2, x3, _⟩ := Sl.cut3 (k := .i64) (k' := .i64) (m := min M.length 10) hsw (by omega)
    rw [show M.take (min M.length 10) = M.take 10 by rw [Nat.min_comm, List.take_eq_take_iff]; omega] at x2
    simp (disch := omega) only [f30_r10, f30_rs, w_draw, w_seq, w_ret, seqK_n, true_and, retK_r, x_nil, x_as, sliceV_eq, Option.map_none, Option.map_some, kg, xg_nil, xg_mv, xg_slice, xg_len, xg_min, xd_cons, fresh_nil, stK_n, stK_s, stay_nil, stay_cons, again_ok, stay_mv, stay_len, stay_min, stay_slice, beq_i, rvP_ok, ev_t, ev_c, getV_some, putD_some, oGet_s, min_ii, readRs_nil, readRs_t, retV_2, of10, Option.some.injEq, exists_eq_left', getK_set, Nat.reduceEqDiff, ↓reduceIte, g0, g8, hsw.len, hmin, x1, hsw.beq, x2.beq, and_self]
    exact ⟨x, rfl, by rw [← hM]; exact x2, x3 _ how, gr⟩
  by_cases h1 : 1 < P.length
  · have h1' : (1 : Int) < (P.length : Int) := by omega
    obtain ⟨p, hp1, hp2⟩ := hsw.at 0 (by omega)
    have hp1' : ∀ k h1, iadsV 1 w (.i k 0) h1 = .ok p h1 := fun k h1 => hp1 k h1
    have hz : P[0]? = some P[0] := by rw [List.getElem?_eq_getElem]
    by_cases e0 : P[0] = 0
    · obtain ⟨x, x1, x2, x3, _⟩ := hsw.cut (lo := some (.i .i64 1)) (hi := none) (l := 1) (u := P.length) rfl bnd_none (by omega) (Nat.le_refl _)
      rw [List.take_length] at x2
      simp (disch := omega) only [f30_r8, f30_r9, w_reg, w_draw, w_seq, w_cond, seqK_n, ckB_b, cbB_b, okG_b, asG_t, true_and, x_nil, x_g, x_mv, x_as, x_pick, x_ld, x_bin, x_slice, sliceV_eq, Option.map_none, Option.map_some, x_iads, x_len, kx, rvP_ok, okv_some, ev_t, ev_c, getV_some, putD_some, bin_eql, bin_gtr, pick_b, of0, of1, getK_set, Nat.reduceEqDiff, ↓reduceIte, hsw.len, h1', decide_true, hp1', hp2, iE, e0, x1]
      exact fin x (P.drop 1) _ x2 (x3 _ how') (by unfold tameP; rw [hP]; simp only []; rw [if_pos ⟨h1, by rw [hz, e0]⟩]) (by simp (disch := omega) only [getK_set, Nat.reduceEqDiff, ↓reduceIte, g0, and_self])
    · simp (disch := omega) only [f30_r8, f30_r9, w_skip, w_reg, w_draw, w_seq, w_cond, seqK_n, ckB_b, cbB_b, okG_b, asG_t, true_and, x_nil, x_g, x_mv, x_as, x_pick, x_ld, x_bin, x_iads, x_len, kx, rvP_ok, okv_some, ev_t, ev_c, getV_some, putD_some, bin_eql, bin_gtr, pick_b, of0, of1, getK_set, Nat.reduceEqDiff, ↓reduceIte, Bool.false_eq_true, hsw.len, h1', decide_true, decide_false, hp1', hp2, iE, e0]
      exact fin w P _ hsw how' (by unfold tameP; rw [hP]; simp only []; rw [if_neg (fun h => e0 (by rw [hz] at h; exact Option.some.inj h.2))]) (by simp (disch := omega) only [getK_set, Nat.reduceEqDiff, ↓reduceIte, g0, and_self])
  · have h1' : ¬ (1 : Int) < (P.length : Int) := by omega
    simp (disch := omega) only [f30_r8, f30_r9, w_skip, w_reg, w_draw, w_seq, w_cond, seqK_n, ckB_b, cbB_b, okG_b, asG_t, true_and, x_nil, x_g, x_mv, x_as, x_pick, x_bin, x_len, kx, rvP_ok, okv_some, ev_t, ev_c, getV_some, putD_some, bin_gtr, pick_b, of0, of1, getK_set, Nat.reduceEqDiff, ↓reduceIte, Bool.false_eq_true, hsw.len, h1', decide_false]
    exact fin w P _ hsw how' (by unfold tameP; rw [hP]; simp only []; rw [if_neg (fun h => h1 h.1)]) (by simp (disch := omega) only [getK_set, Nat.reduceEqDiff, ↓reduceIte, g0, and_self])
end
end Go.Ev
namespace Go.Ev
open Go Go.RowKit
noncomputable def f94_r0 : List EOper := [⟨(some (K.ofNat 2)), none, .as (.c (.i .i64 (.ofNat 0)))⟩]
noncomputable def f94_r1 : List EOper := [⟨(some (K.ofNat 3)), none, .as (.c (.i .i64 (.ofNat 0)))⟩]
noncomputable def f94_r2 : List EOper := [⟨(some (K.ofNat 8)), none, .mv (.t (K.ofNat 0))⟩, ⟨(some (K.ofNat 9)), none, .len (.t (K.ofNat 8))⟩, ⟨(some (K.ofNat 10)), none, .mv (.c (.i .i64 (.ofNat 0)))⟩]
noncomputable def f94_r3 : List EOper := [⟨(some (K.ofNat 11)), none, .bin .lss (.t (K.ofNat 10)) (.t (K.ofNat 9))⟩]
noncomputable def f94_r4 : List EOper := [⟨(some (K.ofNat 12)), none, .mv (.t (K.ofNat 10))⟩, ⟨(some (K.ofNat 4)), none, .as (.t (K.ofNat 12))⟩]
noncomputable def f94_r5 : List EOper := [⟨(some (K.ofNat 13)), none, .mv (.t (K.ofNat 0))⟩, ⟨(some (K.ofNat 14)), none, .mv (.t (K.ofNat 4))⟩, ⟨(some (K.ofNat 15)), none, .iads 1 (.t (K.ofNat 13)) (.t (K.ofNat 14))⟩, ⟨(some (K.ofNat 16)), none, .ld (.t (K.ofNat 15))⟩, ⟨(some (K.ofNat 5)), none, .as (.t (K.ofNat 16))⟩]
noncomputable def f94_r6 : List EOper := [⟨(some (K.ofNat 17)), none, .mv (.t (K.ofNat 5))⟩, ⟨(some (K.ofNat 18)), none, .bin .eql (.t (K.ofNat 17)) (.c (.i .u64 (.ofNat 0)))⟩]
noncomputable def f94_r7 : List EOper := [⟨(some (K.ofNat 19)), none, .mv (.t (K.ofNat 3))⟩, ⟨(some (K.ofNat 20)), none, .bin .add (.t (K.ofNat 19)) (.c (.i .i64 (.ofNat 1)))⟩, ⟨(some (K.ofNat 3)), none, .as (.t (K.ofNat 20))⟩]
noncomputable def f94_r8 : List EOper := [⟨(some (K.ofNat 21)), none, .mv (.t (K.ofNat 5))⟩, ⟨(some (K.ofNat 22)), none, .mv (.t (K.ofNat 5))⟩, ⟨(some (K.ofNat 23)), none, .neg (.t (K.ofNat 22))⟩, ⟨(some (K.ofNat 24)), none, .bin .and (.t (K.ofNat 21)) (.t (K.ofNat 23))⟩, ⟨(some (K.ofNat 6)), none, .as (.t (K.ofNat 24))⟩]
noncomputable def f94_r9 : List EOper := [⟨(some (K.ofNat 25)), none, .mv (.t (K.ofNat 4))⟩, ⟨(some (K.ofNat 26)), none, .bin .add (.t (K.ofNat 25)) (.c (.i .i64 (.ofNat 1)))⟩, ⟨(some (K.ofNat 7)), none, .as (.t (K.ofNat 26))⟩]
noncomputable def f94_r10 : List EOper := [⟨(some (K.ofNat 27)), none, .mv (.t (K.ofNat 7))⟩, ⟨(some (K.ofNat 28)), none, .mv (.t (K.ofNat 0))⟩, ⟨(some (K.ofNat 29)), none, .len (.t (K.ofNat 28))⟩, ⟨(some (K.ofNat 30)), none, .bin .lss (.t (K.ofNat 27)) (.t (K.ofNat 29))⟩]
noncomputable def f94_r11 : List EOper := [⟨(some (K.ofNat 33)), none, .mv (.t (K.ofNat 0))⟩, ⟨(some (K.ofNat 34)), none, .mv (.t (K.ofNat 7))⟩, ⟨(some (K.ofNat 35)), none, .iads 1 (.t (K.ofNat 33)) (.t (K.ofNat 34))⟩, ⟨(some (K.ofNat 36)), none, .ld (.t (K.ofNat 35))⟩, ⟨(some (K.ofNat 37)), none, .mv (.t (K.ofNat 6))⟩, ⟨(some (K.ofNat 38)), none, .bin .and (.t (K.ofNat 36)) (.t (K.ofNat 37))⟩, ⟨(some (K.ofNat 39)), none, .bin .neq (.t (K.ofNat 38)) (.c (.i .u64 (.ofNat 0)))⟩]
noncomputable def f94_r12 : List EOper := [⟨(some (K.ofNat 40)), none, .mv (.t (K.ofNat 0))⟩, ⟨(some (K.ofNat 41)), none, .mv (.t (K.ofNat 7))⟩, ⟨(some (K.ofNat 42)), none, .iads 1 (.t (K.ofNat 40)) (.t (K.ofNat 41))⟩, ⟨(some (K.ofNat 43)), none, .ld (.t (K.ofNat 42))⟩, ⟨(some (K.ofNat 44)), none, .mv (.t (K.ofNat 5))⟩, ⟨(some (K.ofNat 45)), none, .bin .xor (.t (K.ofNat 43)) (.t (K.ofNat 44))⟩, ⟨(some (K.ofNat 46)), none, .iads 1 (.t (K.ofNat 40)) (.t (K.ofNat 41))⟩, ⟨none, none, .st 1 (.t (K.ofNat 46)) (.t (K.ofNat 45))⟩]
noncomputable def f94_r13 : List EOper := [⟨(some (K.ofNat 31)), none, .mv (.t (K.ofNat 7))⟩, ⟨(some (K.ofNat 32)), none, .bin .add (.t (K.ofNat 31)) (.c (.i .i64 (.ofNat 1)))⟩, ⟨(some (K.ofNat 7)), none, .as (.t (K.ofNat 32))⟩]
noncomputable def f94_l0 : EC := (.seq (.seq (.reg f94_r10) (.cond (.t (K.ofNat 30)) .skip (.exit 2))) (.seq (.block 3 (.seq (.reg f94_r11) (.cond (.t (K.ofNat 39)) (.reg f94_r12) .skip))) (.reg f94_r13)))
noncomputable def f94_r14 : List EOper := [⟨(some (K.ofNat 47)), none, .bin .add (.t (K.ofNat 10)) (.c (.i .i64 (.ofNat 1)))⟩, ⟨(some (K.ofNat 10)), none, .mv (.t (K.ofNat 47))⟩]
noncomputable def f94_l1 : EC := (.seq (.reg f94_r3) (.seq (.cond (.t (K.ofNat 11)) .skip (.exit 0)) (.seq (.block 1 (.seq (.reg f94_r4) (.seq (.reg f94_r5) (.seq (.seq (.reg f94_r6) (.cond (.t (K.ofNat 18)) (.exit 1) .skip)) (.seq (.reg f94_r7) (.seq (.reg f94_r8) (.seq (.reg f94_r9) (.block 2 (.loop f94_l0))))))))) (.reg f94_r14))))
noncomputable def f94_r15 : List EOper := [⟨(some (K.ofNat 48)), none, .mv (.t (K.ofNat 3))⟩, ⟨(some (K.ofNat 2)), none, .as (.t (K.ofNat 48))⟩]
noncomputable def f94_c : EC := (.seq (.reg f94_r0) (.seq (.reg f94_r1) (.seq (.seq (.reg f94_r2) (.block 0 (.loop f94_l1))) (.seq (.reg f94_r15) .ret))))
noncomputable def f94 : EF := ⟨49, [.tmp (K.ofNat 2)], f94_c, none⟩
def low (p : Nat) : Nat := p &&& (18446744073709551616 - p)
theorem and_n {k : IntKind} {m n : Nat} (hk : 9223372036854775807 ≤ kmax k) (hm : m < 9223372036854775808) (hn : n < 9223372036854775808) : binV .and (.i k (m : Int)) (.i k (n : Int)) = some (.i k ((m &&& n : Nat) : Int)) := bin_and (by omega) (by omega)
def stepR (p r : Nat) : Nat := if r &&& low p ≠ 0 then r ^^^ p else r
def elR (p : Nat) : Nat → Nat → List Nat → List Nat
  | 0, _, L => L
  | m + 1, j, L => elR p m (j + 1) (L.set j (stepR p (L.getD j 0)))
def elK : Nat → Nat → List Nat → Nat → Nat
  | 0, _, _, c => c
  | m + 1, i, L, c => if L.getD i 0 = 0 then elK m (i + 1) L c else elK m (i + 1) (elR (L.getD i 0) m (i + 1) L) (c + 1)
/-- The rank, by elimination. -/
def rankS (L : List Nat) : Nat := elK L.length 0 L 0
def Small (L : List Nat) : Prop := ∀ x ∈ L, x < 9223372036854775808
theorem Small.at {L : List Nat} (h : Small L) {i : Nat} (hi : i < L.length) : L[i] < 9223372036854775808 := h _ (List.getElem_mem hi)
theorem Small.set {L : List Nat} (h : Small L) {i x : Nat} (hx : x < 9223372036854775808) : Small (L.set i x) := fun y hy => by
  rcases List.mem_or_eq_of_mem_set hy with h1 | rfl
  · exact h _ h1
  · exact hx
def uE (x : Nat) : V := .i .u64 (x : Int)
def nE (x : Nat) : V := .i .i64 (x : Int)
theorem kmi : 9223372036854775807 ≤ kmax .i64 := by decide
section
variable {fs : T EF} {ro : Option K}
end
end Go.Ev
namespace Go.Ev
open Go Go.RowKit
noncomputable def f82_r0 : List EOper := [⟨(some (K.ofNat 1)), none, .box 1 (.t (K.ofNat 0))⟩, ⟨(some (K.ofNat 2)), none, .as (.c .fnil)⟩]
noncomputable def f82_r1 : List EOper := [⟨(some (K.ofNat 3)), none, .mkfn (K.ofNat 92) [(.t (K.ofNat 1))]⟩, ⟨(some (K.ofNat 2)), none, .as (.t (K.ofNat 3))⟩]
noncomputable def f82_c : EC := (.seq (.reg f82_r0) (.seq (.reg f82_r1) .ret))
noncomputable def f82 : EF := ⟨4, [.tmp (K.ofNat 2)], f82_c, none⟩
theorem f82_rs : f82.rs = [.tmp (K.ofNat 2)] := of_eq_true (eq_self _)
noncomputable def f93_r0 : List EOper := [⟨(some (K.ofNat 1)), none, .box 1 (.t (K.ofNat 0))⟩, ⟨(some (K.ofNat 2)), none, .as (.c (.i .u64 (.ofNat 0)))⟩]
noncomputable def f93_r1 : List EOper := [⟨(some (K.ofNat 3)), none, .alloc 1 [(.i .u64 (.ofNat 0))]⟩]
noncomputable def f93_r2 : List EOper := [⟨(some (K.ofNat 5)), none, .ld (.t (K.ofNat 1))⟩, ⟨(some (K.ofNat 6)), none, .call (.c (.fn (K.ofNat 82) [])) [(.t (K.ofNat 5))]⟩]
noncomputable def f93_r3 : List EOper := [⟨(some (K.ofNat 4)), none, .as (.t (K.ofNat 7))⟩]
noncomputable def f93_a0 : EC := (.reg f93_r3)
noncomputable def f93_r4 : List Stage := [⟨[⟨(some (K.ofNat 8)), none, .ld (.t (K.ofNat 3))⟩, ⟨(some (K.ofNat 9)), none, .ld (.t (K.ofNat 1))⟩, ⟨(some (K.ofNat 10)), none, .mv (.t (K.ofNat 4))⟩, ⟨(some (K.ofNat 11)), none, .bin .andNot (.t (K.ofNat 9)) (.t (K.ofNat 10))⟩, ⟨(some (K.ofNat 12)), none, .bin .shl (.c (.i .u64 (.ofNat 1))) (.t (K.ofNat 11))⟩, ⟨(some (K.ofNat 13)), none, .bin .xor (.t (K.ofNat 8)) (.t (K.ofNat 12))⟩], [], (some ⟨none, none, .st 1 (.t (K.ofNat 3)) (.t (K.ofNat 13))⟩), []⟩, ⟨[], [], none, []⟩]
noncomputable def f93_b0 : EC := (.block 1 (.draw f93_r4))
noncomputable def f93_r5 : List EOper := [⟨(some (K.ofNat 14)), none, .ld (.t (K.ofNat 3))⟩, ⟨(some (K.ofNat 2)), none, .as (.t (K.ofNat 14))⟩]
noncomputable def f93_c : EC := (.seq (.reg f93_r0) (.seq (.reg f93_r1) (.seq (.seq (.reg f93_r2) (.block 0 (.rangeF (.t (K.ofNat 6)) [(K.ofNat 7)] f93_a0 f93_b0))) (.seq (.reg f93_r5) .ret))))
noncomputable def f93 : EF := ⟨15, [.tmp (K.ofNat 2)], f93_c, none⟩
section
variable {fs : T EF} {ro : Option K}
/-- The corners of a set, one after another. -/
theorem corner_yields {k idp : K} {S : Int} {ef : EF} (hf : fs.get k = some coF) (hp : fs.get (.z (.z (.z (.o (.z .e))))) = some ef) (hn : ef.nv = some (flatG partG)) :
    Yields fs k [.p idp 0] (fun h => h.get idp = .cells 1 [.i .i64 S]) (((List.range 6).filter fun i => partB (cornI i) S).map fun (i : Nat) => V.i .i64 (cornI i)) := by
  intro id I D h hN h0 round
  have hlen : (((List.range 6).filter fun i => partB (cornI i) S).map fun (i : Nat) => V.i .i64 (cornI i)).length = cntB (fun i => partB (cornI i) S) 6 := by simp [cntB]
  rw [hlen]
  refine co_call (I := fun j h => I (cntB (fun i => partB (cornI i) S) j) h) (Q := D) hf hp hn (fun i h hi => hN _ _ hi) (fun j h hj hB hI => ?_) (fun j h hj hB hI => ?_) (by simpa [cntB] using h0)
  · have h1 := filter_at (B := fun i => partB (cornI i) S) hj hB
    have h2 : cntB (fun i => partB (cornI i) S) j < (((List.range 6).filter fun i => partB (cornI i) S).map fun (i : Nat) => V.i .i64 (cornI i)).length := by
      rw [List.length_map]; exact (List.getElem?_eq_some_iff.1 h1).1
    obtain ⟨b, h', r1, r2, r3⟩ := round (cntB (fun i => partB (cornI i) S) j) h h2 hI
    refine ⟨b, h', ?_, fun e => by rw [cntB_succ, if_pos hB]; exact r2 e, r3⟩
    have h3 : (((List.range 6).filter fun i => partB (cornI i) S).map fun (i : Nat) => V.i .i64 (cornI i))[cntB (fun i => partB (cornI i) S) j] = .i .i64 (cornI j) := by
      rw [List.getElem_map, (List.getElem?_eq_some_iff.1 h1).2]
    rw [← h3]; exact r1
  · rw [cntB_succ, hB]; simpa using hI
theorem f82_ret {h : H} {x : Int} : Ret fs f82 [.i .i64 x] h fun u h' => u = .fn (K.ofNat 92) [.p h.nx 0] ∧ h' = h.new (.cells 1 [.i .i64 x]) := by
  apply ret_of rfl
  show W fs none f82_c _ _ _
  unfold f82_c
  have : cellsN 1 (.i .i64 x) = some [.i .i64 x] := rfl
  simp (disch := omega) only [f82_r0, f82_r1, f82_rs, w_reg, w_seq, w_ret, seqK_n, retK_r, x_nil, x_as, x_box, x_mkfn, kx, rvP_ok, ev_t, ev_c, evs_nil, evs_cons, getV_some, putD_some, oGet_s, readRs_nil, readRs_t, retV_1, frame_1, Option.some.injEq, exists_eq_left', getK_set, Nat.reduceEqDiff, ↓reduceIte, this, and_self]
noncomputable def cornN (x : Nat) : List Nat := ((List.range 6).filter fun i => partB (cornI i) (x : Int)).map fun i => 2 ^ i
theorem cornI_eq : ∀ i, i < 6 → cornI i = ((2 ^ i : Nat) : Int) := by decide
theorem cornN_ys {x : Nat} : (((List.range 6).filter fun i => partB (cornI i) (x : Int)).map fun (i : Nat) => V.i .i64 (cornI i)) = (cornN x).map nE := by
  unfold cornN
  rw [List.map_map]
  apply List.map_congr_left
  intro i hi
  rw [List.mem_filter, List.mem_range] at hi
  show V.i .i64 (cornI i) = V.i .i64 ((2 ^ i : Nat) : Int)
  rw [cornI_eq i hi.1]
def lessC (x c : Nat) : Nat := Nat.xor x (Nat.land x c)
noncomputable def bordX (x : Nat) : Nat := (cornN x).foldl (fun s c => s ^^^ 2 ^ lessC x c) 0
theorem less_lt : ∀ x, x < 64 → ∀ c ∈ cornN x, c ≤ 32 ∧ lessC x c ≤ 62 := by decide +kernel
theorem andNot_n {m n : Nat} (hm : m < 9223372036854775808) (hn : n < 9223372036854775808) : binV .andNot (.i .i64 (m : Int)) (.i .i64 (n : Int)) = some (.i .i64 (lessC m n : Int)) := by
  have : binV .andNot (.i .i64 (m : Int)) (.i .i64 (n : Int)) = some (.i .i64 (ibits (fun m n => Nat.xor m (Nat.land m n)) (fun _ x y => x &&& ~~~y) .i64 m n)) := rfl
  rw [this, ibits_nat (by show _ ≤ 9223372036854775807; omega) (by show _ ≤ 9223372036854775807; omega)]; rfl
structure BorI (b : Nat) (h : H) (id1 id3 idf idl : K) (x s : Nat) (lb : Blk) (h1 : H) : Prop where
  gr : Grow b h h1
  e1 : h1.get id1 = .cells 1 [nE x]
  e3 : h1.get id3 = .cells 1 [uE s]
  ef : h1.get idf = .cells 1 [nE x]
  el : h1.get idl = lb
  nx : idl.nat + 1 ≤ h1.nx.nat
  o1 : id1.nat < id3.nat
  o3 : id3.nat < idf.nat
  of : idf.nat < idl.nat
  ob : b ≤ id1.nat
section
variable {b : Nat} {h h1 : H} {id1 id3 idf idl : K} {x s s' : Nat} {lb : Blk}
theorem BorI.loop (t : BorI b h id1 id3 idf idl x s lb h1) (lb' : Blk) : BorI b h id1 id3 idf idl x s lb' (h1.put idl lb') := by
  have := t.nx; have := t.o1; have := t.o3; have := t.of; have := t.ob
  exact ⟨t.gr.trans (Grow.put (by omega) (by omega) _), by rw [get_put_other (kNe (by omega))]; exact t.e1, by rw [get_put_other (kNe (by omega))]; exact t.e3, by rw [get_put_other (kNe (by omega))]; exact t.ef, get_put_same, t.nx, t.o1, t.o3, t.of, t.ob⟩
theorem BorI.put (t : BorI b h id1 id3 idf idl x s lb h1) : BorI b h id1 id3 idf idl x s' lb (h1.put id3 (.cells 1 [uE s'])) := by
  have := t.nx; have := t.o1; have := t.o3; have := t.of; have := t.ob
  exact ⟨t.gr.trans (Grow.put (by omega) (by omega) _), by rw [get_put_other (kNe (by omega))]; exact t.e1, get_put_same, by rw [get_put_other (kNe (by omega)).symm]; exact t.ef, by rw [get_put_other (kNe (by omega)).symm]; exact t.el, t.nx, t.o1, t.o3, t.of, t.ob⟩
end
end
end Go.Ev
namespace Go.Ev
open Go Go.RowKit
noncomputable def f90_r0 : List EOper := [⟨(some (K.ofNat 2)), none, .box 1 (.t (K.ofNat 0))⟩, ⟨(some (K.ofNat 4)), none, .as (.c .sn)⟩]
noncomputable def f90_r1 : List EOper := [⟨(some (K.ofNat 6)), none, .mv (.t (K.ofNat 1))⟩]
noncomputable def f90_r2 : List EOper := [⟨(some (K.ofNat 5)), none, .as (.t (K.ofNat 7))⟩]
noncomputable def f90_a0 : EC := (.reg f90_r2)
noncomputable def f90_r3 : List EOper := [⟨(some (K.ofNat 8)), none, .ld (.t (K.ofNat 2))⟩, ⟨(some (K.ofNat 9)), none, .mv (.t (K.ofNat 5))⟩, ⟨(some (K.ofNat 10)), none, .bslice 1 1 [(.i .i64 (.ofNat 0))] [(0, 1, (.t (K.ofNat 9)))]⟩, ⟨(some (K.ofNat 11)), none, .app 1 (.t (K.ofNat 8)) (.t (K.ofNat 10))⟩, ⟨none, none, .st 1 (.t (K.ofNat 2)) (.t (K.ofNat 11))⟩]
noncomputable def f90_b0 : EC := (.block 1 (.reg f90_r3))
noncomputable def f90_r4 : List EOper := [⟨(some (K.ofNat 12)), none, .ld (.t (K.ofNat 2))⟩, ⟨(some (K.ofNat 4)), none, .as (.t (K.ofNat 12))⟩]
noncomputable def f90_c : EC := (.seq (.reg f90_r0) (.seq (.seq (.reg f90_r1) (.block 0 (.rangeF (.t (K.ofNat 6)) [(K.ofNat 7)] f90_a0 f90_b0))) (.seq (.reg f90_r4) .ret)))
noncomputable def f90 : EF := ⟨13, [.tmp (K.ofNat 4)], f90_c, none⟩
noncomputable def f77_r0 : List EOper := [⟨(some (K.ofNat 2)), none, .as (.c .sn)⟩]
noncomputable def f77_r1 : List EOper := [⟨(some (K.ofNat 3)), none, .mv (.t (K.ofNat 0))⟩, ⟨(some (K.ofNat 4)), none, .call (.c (.fn (K.ofNat 90) [])) [(.c .sn), (.t (K.ofNat 3))]⟩, ⟨(some (K.ofNat 2)), none, .as (.t (K.ofNat 4))⟩]
noncomputable def f77_c : EC := (.seq (.reg f77_r0) (.seq (.reg f77_r1) .ret))
noncomputable def f77 : EF := ⟨5, [.tmp (K.ofNat 2)], f77_c, none⟩
noncomputable def f56_r0 : List EOper := [⟨(some (K.ofNat 1)), none, .box 64 (.t (K.ofNat 0))⟩, ⟨(some (K.ofNat 2)), none, .as (.c .sn)⟩]
noncomputable def f56_r1 : List EOper := [⟨(some (K.ofNat 3)), none, .ldn 64 (.t (K.ofNat 1))⟩, ⟨(some (K.ofNat 4)), none, .call (.c (.fn (K.ofNat 78) [])) [(.t (K.ofNat 3))]⟩, ⟨(some (K.ofNat 5)), none, .call (.c (.fn (K.ofNat 77) [])) [(.t (K.ofNat 4))]⟩, ⟨(some (K.ofNat 2)), none, .as (.t (K.ofNat 5))⟩]
noncomputable def f56_c : EC := (.seq (.reg f56_r0) (.seq (.reg f56_r1) .ret))
noncomputable def f56 : EF := ⟨6, [.tmp (K.ofNat 2)], f56_c, none⟩
noncomputable def f17_r0 : List EOper := [⟨(some (K.ofNat 4)), none, .as (.c .sn)⟩, ⟨(some (K.ofNat 5)), none, .as (.c (.i .i64 (.ofNat 0)))⟩]
noncomputable def f17_r1 : List EOper := [⟨(some (K.ofNat 7)), none, .mv (.t (K.ofNat 0))⟩, ⟨(some (K.ofNat 8)), none, .mv (.t (K.ofNat 1))⟩, ⟨(some (K.ofNat 9)), none, .call (.c (.fn (K.ofNat 16) [])) [(.t (K.ofNat 7)), (.t (K.ofNat 8))]⟩, ⟨(some (K.ofNat 6)), none, .as (.t (K.ofNat 9))⟩]
noncomputable def f17_r2 : List EOper := [⟨(some (K.ofNat 10)), none, .mv (.t (K.ofNat 6))⟩, ⟨(some (K.ofNat 11)), none, .bin .neq (.t (K.ofNat 10)) (.c (.i .i64 (.ofNat 0)))⟩]
noncomputable def f17_r3 : List EOper := [⟨(some (K.ofNat 12)), none, .mv (.t (K.ofNat 6))⟩, ⟨(some (K.ofNat 4)), none, .as (.c .sn)⟩, ⟨(some (K.ofNat 5)), none, .as (.t (K.ofNat 12))⟩]
noncomputable def f17_r4 : List EOper := [⟨(some (K.ofNat 13)), none, .mv (.t (K.ofNat 1))⟩, ⟨(some (K.ofNat 14)), none, .call (.c (.fn (K.ofNat 55) [])) [(.t (K.ofNat 13))]⟩, ⟨(some (K.ofNat 15)), none, .call (.c (.fn (K.ofNat 56) [])) [(.t (K.ofNat 14))]⟩, ⟨(some (K.ofNat 4)), none, .as (.t (K.ofNat 15))⟩, ⟨(some (K.ofNat 5)), none, .as (.c (.i .i64 (.ofNat 0)))⟩]
noncomputable def f17_c : EC := (.seq (.reg f17_r0) (.seq (.seq (.reg f17_r1) (.seq (.reg f17_r2) (.cond (.t (K.ofNat 11)) (.seq (.reg f17_r3) .ret) .skip))) (.seq (.reg f17_r4) .ret)))
noncomputable def f17 : EF := ⟨16, [.tmp (K.ofNat 4), .tmp (K.ofNat 5)], f17_c, none⟩
section
variable {fs : T EF} {ro : Option K}
def memI (B : Nat → Bool) : List Int := (mem64 B).map fun (k : Nat) => (k : Int)
end
end Go.Ev
namespace Go.Ev
open Go Go.RowKit
noncomputable def f57_r0 : List EOper := [⟨(some (K.ofNat 1)), none, .box 64 (.t (K.ofNat 0))⟩, ⟨(some (K.ofNat 2)), none, .as (.c .sn)⟩]
noncomputable def f57_r1 : List EOper := [⟨(some (K.ofNat 3)), none, .alloc 1 [.sn]⟩]
noncomputable def f57_r2 : List EOper := [⟨(some (K.ofNat 6)), none, .ldn 64 (.t (K.ofNat 1))⟩, ⟨(some (K.ofNat 7)), none, .call (.c (.fn (K.ofNat 78) [])) [(.t (K.ofNat 6))]⟩]
noncomputable def f57_r3 : List EOper := [⟨(some (K.ofNat 4)), none, .as (.t (K.ofNat 8))⟩]
noncomputable def f57_a0 : EC := (.reg f57_r3)
noncomputable def f57_r4 : List EOper := [⟨(some (K.ofNat 9)), none, .mv (.t (K.ofNat 4))⟩, ⟨(some (K.ofNat 10)), none, .call (.c (.fn (K.ofNat 75) [])) [(.t (K.ofNat 9))]⟩, ⟨(some (K.ofNat 5)), none, .as (.t (K.ofNat 10))⟩]
noncomputable def f57_r5 : List EOper := [⟨(some (K.ofNat 11)), none, .ld (.t (K.ofNat 3))⟩, ⟨(some (K.ofNat 12)), none, .len (.t (K.ofNat 11))⟩, ⟨(some (K.ofNat 13)), none, .mv (.t (K.ofNat 5))⟩, ⟨(some (K.ofNat 14)), none, .bin .leq (.t (K.ofNat 12)) (.t (K.ofNat 13))⟩]
noncomputable def f57_r6 : List EOper := [⟨(some (K.ofNat 15)), none, .ld (.t (K.ofNat 3))⟩, ⟨(some (K.ofNat 16)), none, .bslice 1 1 [(.i .i64 (.ofNat 0))] [(0, 1, (.c (.i .i64 (.ofNat 0))))]⟩, ⟨(some (K.ofNat 17)), none, .app 1 (.t (K.ofNat 15)) (.t (K.ofNat 16))⟩, ⟨none, none, .st 1 (.t (K.ofNat 3)) (.t (K.ofNat 17))⟩]
noncomputable def f57_l0 : EC := (.seq (.seq (.reg f57_r5) (.cond (.t (K.ofNat 14)) .skip (.exit 2))) (.block 3 (.reg f57_r6)))
noncomputable def f57_r7 : List EOper := [⟨(some (K.ofNat 18)), none, .ld (.t (K.ofNat 3))⟩, ⟨(some (K.ofNat 19)), none, .mv (.t (K.ofNat 5))⟩, ⟨(some (K.ofNat 20)), none, .iads 1 (.t (K.ofNat 18)) (.t (K.ofNat 19))⟩, ⟨(some (K.ofNat 21)), none, .ld (.t (K.ofNat 20))⟩, ⟨(some (K.ofNat 22)), none, .bin .add (.t (K.ofNat 21)) (.c (.i .i64 (.ofNat 1)))⟩, ⟨(some (K.ofNat 23)), none, .iads 1 (.t (K.ofNat 18)) (.t (K.ofNat 19))⟩, ⟨none, none, .st 1 (.t (K.ofNat 23)) (.t (K.ofNat 22))⟩]
noncomputable def f57_b0 : EC := (.block 1 (.seq (.reg f57_r4) (.seq (.block 2 (.loop f57_l0)) (.reg f57_r7))))
noncomputable def f57_r8 : List EOper := [⟨(some (K.ofNat 24)), none, .ld (.t (K.ofNat 3))⟩, ⟨(some (K.ofNat 2)), none, .as (.t (K.ofNat 24))⟩]
noncomputable def f57_c : EC := (.seq (.reg f57_r0) (.seq (.reg f57_r1) (.seq (.seq (.reg f57_r2) (.block 0 (.rangeF (.t (K.ofNat 7)) [(K.ofNat 8)] f57_a0 f57_b0))) (.seq (.reg f57_r8) .ret))))
noncomputable def f57 : EF := ⟨25, [.tmp (K.ofNat 2)], f57_c, none⟩
noncomputable def f18_r0 : List EOper := [⟨(some (K.ofNat 4)), none, .as (.c .sn)⟩, ⟨(some (K.ofNat 5)), none, .as (.c (.i .i64 (.ofNat 0)))⟩]
noncomputable def f18_r1 : List EOper := [⟨(some (K.ofNat 7)), none, .mv (.t (K.ofNat 0))⟩, ⟨(some (K.ofNat 8)), none, .mv (.t (K.ofNat 1))⟩, ⟨(some (K.ofNat 9)), none, .call (.c (.fn (K.ofNat 16) [])) [(.t (K.ofNat 7)), (.t (K.ofNat 8))]⟩, ⟨(some (K.ofNat 6)), none, .as (.t (K.ofNat 9))⟩]
noncomputable def f18_r2 : List EOper := [⟨(some (K.ofNat 10)), none, .mv (.t (K.ofNat 6))⟩, ⟨(some (K.ofNat 11)), none, .bin .neq (.t (K.ofNat 10)) (.c (.i .i64 (.ofNat 0)))⟩]
noncomputable def f18_r3 : List EOper := [⟨(some (K.ofNat 12)), none, .mv (.t (K.ofNat 6))⟩, ⟨(some (K.ofNat 4)), none, .as (.c .sn)⟩, ⟨(some (K.ofNat 5)), none, .as (.t (K.ofNat 12))⟩]
noncomputable def f18_r4 : List EOper := [⟨(some (K.ofNat 13)), none, .mv (.t (K.ofNat 1))⟩, ⟨(some (K.ofNat 14)), none, .call (.c (.fn (K.ofNat 55) [])) [(.t (K.ofNat 13))]⟩, ⟨(some (K.ofNat 15)), none, .call (.c (.fn (K.ofNat 57) [])) [(.t (K.ofNat 14))]⟩, ⟨(some (K.ofNat 4)), none, .as (.t (K.ofNat 15))⟩, ⟨(some (K.ofNat 5)), none, .as (.c (.i .i64 (.ofNat 0)))⟩]
noncomputable def f18_c : EC := (.seq (.reg f18_r0) (.seq (.seq (.reg f18_r1) (.seq (.reg f18_r2) (.cond (.t (K.ofNat 11)) (.seq (.reg f18_r3) .ret) .skip))) (.seq (.reg f18_r4) .ret)))
noncomputable def f18 : EF := ⟨16, [.tmp (K.ofNat 4), .tmp (K.ofNat 5)], f18_c, none⟩
section
variable {fs : T EF} {ro : Option K}
theorem snoc_ind {α : Type} {P : List α → Prop} (h0 : P []) (h1 : ∀ l a, P l → P (l ++ [a])) (l : List α) : P l := by
  have : ∀ m : List α, P m.reverse := by
    intro m
    induction m with
    | nil => exact h0
    | cons a m ih => rw [List.reverse_cons]; exact h1 _ _ ih
  have h := this l.reverse
  rwa [List.reverse_reverse] at h
noncomputable def cpad (C : List Int) (m : Nat) : List Int := C ++ List.replicate (m + 1 - C.length) 0
noncomputable def cstep (C : List Int) (m : Nat) : List Int := (cpad C m).set m ((cpad C m).getD m 0 + 1)
noncomputable def cntS (l : List Nat) : List Int := l.foldl (fun C k => cstep C (pop6 k)) []
end
end Go.Ev
namespace Go.Ev
open Go Go.RowKit
noncomputable def f89_r0 : List EOper := [⟨(some (K.ofNat 2)), none, .box 64 (.t (K.ofNat 0))⟩, ⟨(some (K.ofNat 3)), none, .box 1 (.t (K.ofNat 1))⟩, ⟨(some (K.ofNat 4)), none, .as (.c (.i .i64 (.ofNat 0)))⟩]
noncomputable def f89_r1 : List EOper := [⟨(some (K.ofNat 5)), none, .alloc 1 [.sn]⟩]
noncomputable def f89_r2 : List EOper := [⟨(some (K.ofNat 7)), none, .ldn 64 (.t (K.ofNat 2))⟩, ⟨(some (K.ofNat 8)), none, .call (.c (.fn (K.ofNat 78) [])) [(.t (K.ofNat 7))]⟩]
noncomputable def f89_r3 : List EOper := [⟨(some (K.ofNat 6)), none, .as (.t (K.ofNat 9))⟩]
noncomputable def f89_a0 : EC := (.reg f89_r3)
noncomputable def f89_r4 : List Stage := [⟨[⟨(some (K.ofNat 10)), none, .mv (.t (K.ofNat 6))⟩, ⟨(some (K.ofNat 12)), none, .ld (.t (K.ofNat 3))⟩], [], (some ⟨(some (K.ofNat 11)), none, .call (.c (.fn (K.ofNat 75) [])) [(.t (K.ofNat 10))]⟩), []⟩, ⟨[⟨(some (K.ofNat 13)), none, .bin .eql (.t (K.ofNat 11)) (.t (K.ofNat 12))⟩], [⟨(some (K.ofNat 12)), none, .ld (.t (K.ofNat 3))⟩], none, []⟩]
noncomputable def f89_r5 : List Stage := [⟨[⟨(some (K.ofNat 14)), none, .ld (.t (K.ofNat 5))⟩, ⟨(some (K.ofNat 15)), none, .mv (.t (K.ofNat 6))⟩], [], (some ⟨(some (K.ofNat 16)), none, .call (.c (.fn (K.ofNat 93) [])) [(.t (K.ofNat 15))]⟩), []⟩, ⟨[⟨(some (K.ofNat 17)), none, .bslice 1 1 [(.i .u64 (.ofNat 0))] [(0, 1, (.t (K.ofNat 16)))]⟩], [⟨(some (K.ofNat 14)), none, .ld (.t (K.ofNat 5))⟩], (some ⟨(some (K.ofNat 18)), none, .app 1 (.t (K.ofNat 14)) (.t (K.ofNat 17))⟩), [(K.ofNat 17)]⟩, ⟨[], [], (some ⟨none, none, .st 1 (.t (K.ofNat 5)) (.t (K.ofNat 18))⟩), []⟩, ⟨[], [], none, []⟩]
noncomputable def f89_b0 : EC := (.block 1 (.seq (.draw f89_r4) (.cond (.t (K.ofNat 13)) (.draw f89_r5) .skip)))
noncomputable def f89_r6 : List EOper := [⟨(some (K.ofNat 19)), none, .ld (.t (K.ofNat 5))⟩, ⟨(some (K.ofNat 20)), none, .call (.c (.fn (K.ofNat 94) [])) [(.t (K.ofNat 19))]⟩, ⟨(some (K.ofNat 4)), none, .as (.t (K.ofNat 20))⟩]
noncomputable def f89_c : EC := (.seq (.reg f89_r0) (.seq (.reg f89_r1) (.seq (.seq (.reg f89_r2) (.block 0 (.rangeF (.t (K.ofNat 8)) [(K.ofNat 9)] f89_a0 f89_b0))) (.seq (.reg f89_r6) .ret))))
noncomputable def f89 : EF := ⟨21, [.tmp (K.ofNat 4)], f89_c, none⟩
section
variable {fs : T EF} {ro : Option K}
noncomputable def rowsOf (l : List Nat) (k : Nat) : List Nat := (l.filter fun x => decide (pop6 x = k)).map bordX
/-- The rank of the borders of the faces of this size. -/
noncomputable def brS (B : Nat → Bool) (k : Nat) : Nat := rankS (rowsOf (mem64 B) k)
end
end Go.Ev
namespace Go.Ev
open Go Go.RowKit
noncomputable def f64_r0 : List EOper := [⟨(some (K.ofNat 1)), none, .box 64 (.t (K.ofNat 0))⟩, ⟨(some (K.ofNat 2)), none, .as (.c .sn)⟩]
noncomputable def f64_r1 : List EOper := [⟨(some (K.ofNat 6)), none, .ldn 64 (.t (K.ofNat 1))⟩, ⟨(some (K.ofNat 7)), none, .call (.c (.fn (K.ofNat 57) [])) [(.t (K.ofNat 6))]⟩, ⟨(some (K.ofNat 3)), none, .as (.t (K.ofNat 7))⟩]
noncomputable def f64_r2 : List EOper := [⟨(some (K.ofNat 8)), none, .mv (.t (K.ofNat 3))⟩, ⟨(some (K.ofNat 9)), none, .len (.t (K.ofNat 8))⟩, ⟨(some (K.ofNat 10)), none, .bin .sub (.t (K.ofNat 9)) (.c (.i .i64 (.ofNat 1)))⟩, ⟨(some (K.ofNat 11)), none, .mkslice 1 [(.i .i64 (.ofNat 0))] (.t (K.ofNat 10))⟩, ⟨(some (K.ofNat 4)), none, .as (.t (K.ofNat 11))⟩]
noncomputable def f64_r3 : List EOper := [⟨(some (K.ofNat 12)), none, .mv (.t (K.ofNat 4))⟩, ⟨(some (K.ofNat 13)), none, .len (.t (K.ofNat 12))⟩, ⟨(some (K.ofNat 14)), none, .mv (.c (.i .i64 (.ofNat 0)))⟩]
noncomputable def f64_r4 : List EOper := [⟨(some (K.ofNat 15)), none, .bin .lss (.t (K.ofNat 14)) (.t (K.ofNat 13))⟩]
noncomputable def f64_r5 : List EOper := [⟨(some (K.ofNat 16)), none, .mv (.t (K.ofNat 14))⟩, ⟨(some (K.ofNat 5)), none, .as (.t (K.ofNat 16))⟩]
noncomputable def f64_r6 : List Stage := [⟨[⟨(some (K.ofNat 17)), none, .mv (.t (K.ofNat 4))⟩, ⟨(some (K.ofNat 18)), none, .mv (.t (K.ofNat 5))⟩, ⟨(some (K.ofNat 19)), none, .mv (.t (K.ofNat 3))⟩, ⟨(some (K.ofNat 20)), none, .mv (.t (K.ofNat 5))⟩, ⟨(some (K.ofNat 21)), none, .bin .add (.t (K.ofNat 20)) (.c (.i .i64 (.ofNat 1)))⟩, ⟨(some (K.ofNat 22)), none, .iads 1 (.t (K.ofNat 19)) (.t (K.ofNat 21))⟩, ⟨(some (K.ofNat 23)), none, .ld (.t (K.ofNat 22))⟩, ⟨(some (K.ofNat 24)), none, .ldn 64 (.t (K.ofNat 1))⟩, ⟨(some (K.ofNat 25)), none, .mv (.t (K.ofNat 5))⟩, ⟨(some (K.ofNat 26)), none, .bin .add (.t (K.ofNat 25)) (.c (.i .i64 (.ofNat 1)))⟩, ⟨(some (K.ofNat 29)), none, .ldn 64 (.t (K.ofNat 1))⟩, ⟨(some (K.ofNat 30)), none, .mv (.t (K.ofNat 5))⟩, ⟨(some (K.ofNat 31)), none, .bin .add (.t (K.ofNat 30)) (.c (.i .i64 (.ofNat 2)))⟩], [], (some ⟨(some (K.ofNat 27)), none, .call (.c (.fn (K.ofNat 89) [])) [(.t (K.ofNat 24)), (.t (K.ofNat 26))]⟩), []⟩, ⟨[⟨(some (K.ofNat 28)), none, .bin .sub (.t (K.ofNat 23)) (.t (K.ofNat 27))⟩], [⟨(some (K.ofNat 17)), none, .mv (.t (K.ofNat 4))⟩, ⟨(some (K.ofNat 18)), none, .mv (.t (K.ofNat 5))⟩, ⟨(some (K.ofNat 19)), none, .mv (.t (K.ofNat 3))⟩, ⟨(some (K.ofNat 20)), none, .mv (.t (K.ofNat 5))⟩, ⟨(some (K.ofNat 21)), none, .bin .add (.t (K.ofNat 20)) (.c (.i .i64 (.ofNat 1)))⟩, ⟨(some (K.ofNat 22)), none, .iads 1 (.t (K.ofNat 19)) (.t (K.ofNat 21))⟩, ⟨(some (K.ofNat 23)), none, .ld (.t (K.ofNat 22))⟩, ⟨(some (K.ofNat 29)), none, .ldn 64 (.t (K.ofNat 1))⟩, ⟨(some (K.ofNat 30)), none, .mv (.t (K.ofNat 5))⟩, ⟨(some (K.ofNat 31)), none, .bin .add (.t (K.ofNat 30)) (.c (.i .i64 (.ofNat 2)))⟩], (some ⟨(some (K.ofNat 32)), none, .call (.c (.fn (K.ofNat 89) [])) [(.t (K.ofNat 29)), (.t (K.ofNat 31))]⟩), []⟩, ⟨[⟨(some (K.ofNat 33)), none, .bin .sub (.t (K.ofNat 28)) (.t (K.ofNat 32))⟩, ⟨(some (K.ofNat 34)), none, .iads 1 (.t (K.ofNat 17)) (.t (K.ofNat 18))⟩], [⟨(some (K.ofNat 17)), none, .mv (.t (K.ofNat 4))⟩, ⟨(some (K.ofNat 18)), none, .mv (.t (K.ofNat 5))⟩, ⟨(some (K.ofNat 19)), none, .mv (.t (K.ofNat 3))⟩, ⟨(some (K.ofNat 20)), none, .mv (.t (K.ofNat 5))⟩, ⟨(some (K.ofNat 21)), none, .bin .add (.t (K.ofNat 20)) (.c (.i .i64 (.ofNat 1)))⟩, ⟨(some (K.ofNat 22)), none, .iads 1 (.t (K.ofNat 19)) (.t (K.ofNat 21))⟩, ⟨(some (K.ofNat 23)), none, .ld (.t (K.ofNat 22))⟩, ⟨(some (K.ofNat 28)), none, .bin .sub (.t (K.ofNat 23)) (.t (K.ofNat 27))⟩], (some ⟨none, none, .st 1 (.t (K.ofNat 34)) (.t (K.ofNat 33))⟩), []⟩, ⟨[], [], none, []⟩]
noncomputable def f64_r7 : List EOper := [⟨(some (K.ofNat 35)), none, .bin .add (.t (K.ofNat 14)) (.c (.i .i64 (.ofNat 1)))⟩, ⟨(some (K.ofNat 14)), none, .mv (.t (K.ofNat 35))⟩]
noncomputable def f64_l0 : EC := (.seq (.reg f64_r4) (.seq (.cond (.t (K.ofNat 15)) .skip (.exit 0)) (.seq (.block 1 (.seq (.reg f64_r5) (.draw f64_r6))) (.reg f64_r7))))
noncomputable def f64_r8 : List EOper := [⟨(some (K.ofNat 36)), none, .mv (.t (K.ofNat 4))⟩, ⟨(some (K.ofNat 2)), none, .as (.t (K.ofNat 36))⟩]
noncomputable def f64_c : EC := (.seq (.reg f64_r0) (.seq (.reg f64_r1) (.seq (.reg f64_r2) (.seq (.seq (.reg f64_r3) (.block 0 (.loop f64_l0))) (.seq (.reg f64_r8) .ret)))))
noncomputable def f64 : EF := ⟨37, [.tmp (K.ofNat 2)], f64_c, none⟩
noncomputable def f26_r0 : List EOper := [⟨(some (K.ofNat 4)), none, .as (.c .sn)⟩, ⟨(some (K.ofNat 5)), none, .as (.c (.i .i64 (.ofNat 0)))⟩]
noncomputable def f26_r1 : List EOper := [⟨(some (K.ofNat 7)), none, .mv (.t (K.ofNat 0))⟩, ⟨(some (K.ofNat 8)), none, .mv (.t (K.ofNat 1))⟩, ⟨(some (K.ofNat 9)), none, .call (.c (.fn (K.ofNat 16) [])) [(.t (K.ofNat 7)), (.t (K.ofNat 8))]⟩, ⟨(some (K.ofNat 6)), none, .as (.t (K.ofNat 9))⟩]
noncomputable def f26_r2 : List EOper := [⟨(some (K.ofNat 10)), none, .mv (.t (K.ofNat 6))⟩, ⟨(some (K.ofNat 11)), none, .bin .neq (.t (K.ofNat 10)) (.c (.i .i64 (.ofNat 0)))⟩]
noncomputable def f26_r3 : List EOper := [⟨(some (K.ofNat 12)), none, .mv (.t (K.ofNat 6))⟩, ⟨(some (K.ofNat 4)), none, .as (.c .sn)⟩, ⟨(some (K.ofNat 5)), none, .as (.t (K.ofNat 12))⟩]
noncomputable def f26_r4 : List EOper := [⟨(some (K.ofNat 13)), none, .mv (.t (K.ofNat 1))⟩, ⟨(some (K.ofNat 14)), none, .call (.c (.fn (K.ofNat 55) [])) [(.t (K.ofNat 13))]⟩, ⟨(some (K.ofNat 15)), none, .call (.c (.fn (K.ofNat 64) [])) [(.t (K.ofNat 14))]⟩, ⟨(some (K.ofNat 4)), none, .as (.t (K.ofNat 15))⟩, ⟨(some (K.ofNat 5)), none, .as (.c (.i .i64 (.ofNat 0)))⟩]
noncomputable def f26_c : EC := (.seq (.reg f26_r0) (.seq (.seq (.reg f26_r1) (.seq (.reg f26_r2) (.cond (.t (K.ofNat 11)) (.seq (.reg f26_r3) .ret) .skip))) (.seq (.reg f26_r4) .ret)))
noncomputable def f26 : EF := ⟨16, [.tmp (K.ofNat 4), .tmp (K.ofNat 5)], f26_c, none⟩
section
variable {fs : T EF} {ro : Option K}
noncomputable def hvS (C : List Int) (B : Nat → Bool) (t : Nat) : Int := fw .i64 (fw .i64 (C.getD (t + 1) 0 - (brS B (t + 1) : Int)) - (brS B (t + 2) : Int))
noncomputable def hollS (C : List Int) (B : Nat → Bool) : List Int := (List.range (C.length - 1)).map (hvS C B)
end
end Go.Ev
namespace Go.Ev
open Go Go.RowKit
noncomputable def f19_r0 : List EOper := [⟨(some (K.ofNat 4)), none, .as (.c .sn)⟩, ⟨(some (K.ofNat 5)), none, .as (.c (.i .i64 (.ofNat 0)))⟩]
noncomputable def f19_r1 : List EOper := [⟨(some (K.ofNat 10)), none, .mv (.t (K.ofNat 0))⟩, ⟨(some (K.ofNat 11)), none, .mv (.t (K.ofNat 1))⟩, ⟨(some (K.ofNat 12)), none, .call (.c (.fn (K.ofNat 16) [])) [(.t (K.ofNat 10)), (.t (K.ofNat 11))]⟩, ⟨(some (K.ofNat 6)), none, .as (.t (K.ofNat 12))⟩]
noncomputable def f19_r2 : List EOper := [⟨(some (K.ofNat 13)), none, .mv (.t (K.ofNat 6))⟩, ⟨(some (K.ofNat 14)), none, .bin .neq (.t (K.ofNat 13)) (.c (.i .i64 (.ofNat 0)))⟩]
noncomputable def f19_r3 : List EOper := [⟨(some (K.ofNat 15)), none, .mv (.t (K.ofNat 6))⟩, ⟨(some (K.ofNat 4)), none, .as (.c .sn)⟩, ⟨(some (K.ofNat 5)), none, .as (.t (K.ofNat 15))⟩]
noncomputable def f19_r4 : List EOper := [⟨(some (K.ofNat 16)), none, .mv (.t (K.ofNat 1))⟩, ⟨(some (K.ofNat 17)), none, .call (.c (.fn (K.ofNat 55) [])) [(.t (K.ofNat 16))]⟩, ⟨(some (K.ofNat 18)), none, .call (.c (.fn (K.ofNat 57) [])) [(.t (K.ofNat 17))]⟩, ⟨(some (K.ofNat 7)), none, .as (.t (K.ofNat 18))⟩]
noncomputable def f19_r5 : List EOper := [⟨(some (K.ofNat 19)), none, .mv (.t (K.ofNat 7))⟩, ⟨(some (K.ofNat 20)), none, .len (.t (K.ofNat 19))⟩, ⟨(some (K.ofNat 21)), none, .mv (.c (.i .i64 (.ofNat 0)))⟩]
noncomputable def f19_r6 : List EOper := [⟨(some (K.ofNat 22)), none, .bin .lss (.t (K.ofNat 21)) (.t (K.ofNat 20))⟩]
noncomputable def f19_r7 : List EOper := [⟨(some (K.ofNat 23)), none, .mv (.t (K.ofNat 21))⟩, ⟨(some (K.ofNat 8)), none, .as (.t (K.ofNat 23))⟩]
noncomputable def f19_r8 : List EOper := [⟨(some (K.ofNat 24)), none, .mv (.t (K.ofNat 8))⟩, ⟨(some (K.ofNat 9)), none, .as (.t (K.ofNat 24))⟩]
noncomputable def f19_r9 : List EOper := [⟨(some (K.ofNat 25)), none, .mv (.t (K.ofNat 9))⟩, ⟨(some (K.ofNat 26)), none, .bin .gtr (.t (K.ofNat 25)) (.c (.i .i64 (.ofNat 0)))⟩]
noncomputable def f19_r10 : List Stage := [⟨[⟨(some (K.ofNat 29)), none, .mv (.t (K.ofNat 7))⟩, ⟨(some (K.ofNat 30)), none, .mv (.t (K.ofNat 9))⟩, ⟨(some (K.ofNat 31)), none, .iads 1 (.t (K.ofNat 29)) (.t (K.ofNat 30))⟩, ⟨(some (K.ofNat 32)), none, .ld (.t (K.ofNat 31))⟩, ⟨(some (K.ofNat 33)), none, .mv (.t (K.ofNat 7))⟩, ⟨(some (K.ofNat 34)), none, .mv (.t (K.ofNat 9))⟩, ⟨(some (K.ofNat 35)), none, .bin .sub (.t (K.ofNat 34)) (.c (.i .i64 (.ofNat 1)))⟩, ⟨(some (K.ofNat 36)), none, .iads 1 (.t (K.ofNat 33)) (.t (K.ofNat 35))⟩, ⟨(some (K.ofNat 37)), none, .ld (.t (K.ofNat 36))⟩, ⟨(some (K.ofNat 38)), none, .bin .sub (.t (K.ofNat 32)) (.t (K.ofNat 37))⟩, ⟨(some (K.ofNat 39)), none, .iads 1 (.t (K.ofNat 29)) (.t (K.ofNat 30))⟩], [], (some ⟨none, none, .st 1 (.t (K.ofNat 39)) (.t (K.ofNat 38))⟩), []⟩, ⟨[], [], none, []⟩]
noncomputable def f19_r11 : List EOper := [⟨(some (K.ofNat 27)), none, .mv (.t (K.ofNat 9))⟩, ⟨(some (K.ofNat 28)), none, .bin .sub (.t (K.ofNat 27)) (.c (.i .i64 (.ofNat 1)))⟩, ⟨(some (K.ofNat 9)), none, .as (.t (K.ofNat 28))⟩]
noncomputable def f19_l0 : EC := (.seq (.seq (.reg f19_r9) (.cond (.t (K.ofNat 26)) .skip (.exit 2))) (.seq (.block 3 (.draw f19_r10)) (.reg f19_r11)))
noncomputable def f19_r12 : List EOper := [⟨(some (K.ofNat 40)), none, .bin .add (.t (K.ofNat 21)) (.c (.i .i64 (.ofNat 1)))⟩, ⟨(some (K.ofNat 21)), none, .mv (.t (K.ofNat 40))⟩]
noncomputable def f19_l1 : EC := (.seq (.reg f19_r6) (.seq (.cond (.t (K.ofNat 22)) .skip (.exit 0)) (.seq (.block 1 (.seq (.reg f19_r7) (.seq (.reg f19_r8) (.block 2 (.loop f19_l0))))) (.reg f19_r12))))
noncomputable def f19_r13 : List EOper := [⟨(some (K.ofNat 41)), none, .mv (.t (K.ofNat 7))⟩, ⟨(some (K.ofNat 4)), none, .as (.t (K.ofNat 41))⟩, ⟨(some (K.ofNat 5)), none, .as (.c (.i .i64 (.ofNat 0)))⟩]
noncomputable def f19_c : EC := (.seq (.reg f19_r0) (.seq (.seq (.reg f19_r1) (.seq (.reg f19_r2) (.cond (.t (K.ofNat 14)) (.seq (.reg f19_r3) .ret) .skip))) (.seq (.reg f19_r4) (.seq (.seq (.reg f19_r5) (.block 0 (.loop f19_l1))) (.seq (.reg f19_r13) .ret)))))
noncomputable def f19 : EF := ⟨42, [.tmp (K.ofNat 4), .tmp (K.ofNat 5)], f19_c, none⟩
noncomputable def f20_r0 : List EOper := [⟨(some (K.ofNat 4)), none, .as (.c (.i .i64 (.ofNat 0)))⟩, ⟨(some (K.ofNat 5)), none, .as (.c (.i .i64 (.ofNat 0)))⟩]
noncomputable def f20_r1 : List EOper := [⟨(some (K.ofNat 11)), none, .mv (.t (K.ofNat 0))⟩, ⟨(some (K.ofNat 12)), none, .mv (.t (K.ofNat 1))⟩, ⟨(some (K.ofNat 13)), none, .call (.c (.fn (K.ofNat 16) [])) [(.t (K.ofNat 11)), (.t (K.ofNat 12))]⟩, ⟨(some (K.ofNat 6)), none, .as (.t (K.ofNat 13))⟩]
noncomputable def f20_r2 : List EOper := [⟨(some (K.ofNat 14)), none, .mv (.t (K.ofNat 6))⟩, ⟨(some (K.ofNat 15)), none, .bin .neq (.t (K.ofNat 14)) (.c (.i .i64 (.ofNat 0)))⟩]
noncomputable def f20_r3 : List EOper := [⟨(some (K.ofNat 16)), none, .mv (.t (K.ofNat 6))⟩, ⟨(some (K.ofNat 4)), none, .as (.c (.i .i64 (.ofNat 0)))⟩, ⟨(some (K.ofNat 5)), none, .as (.t (K.ofNat 16))⟩]
noncomputable def f20_r4 : List EOper := [⟨(some (K.ofNat 7)), none, .as (.c (.i .i64 (.ofNat 0)))⟩, ⟨(some (K.ofNat 8)), none, .as (.c (.i .i64 (.ofNat 1)))⟩]
noncomputable def f20_r5 : List EOper := [⟨(some (K.ofNat 17)), none, .mv (.t (K.ofNat 1))⟩, ⟨(some (K.ofNat 18)), none, .call (.c (.fn (K.ofNat 55) [])) [(.t (K.ofNat 17))]⟩, ⟨(some (K.ofNat 19)), none, .call (.c (.fn (K.ofNat 57) [])) [(.t (K.ofNat 18))]⟩, ⟨(some (K.ofNat 20)), none, .slice 1 (.t (K.ofNat 19)) (some (.c (.i .i64 (.ofNat 1)))) none none⟩, ⟨(some (K.ofNat 21)), none, .len (.t (K.ofNat 20))⟩, ⟨(some (K.ofNat 22)), none, .mv (.c (.i .i64 (.ofNat 0)))⟩]
noncomputable def f20_r6 : List EOper := [⟨(some (K.ofNat 23)), none, .bin .lss (.t (K.ofNat 22)) (.t (K.ofNat 21))⟩]
noncomputable def f20_r7 : List EOper := [⟨(some (K.ofNat 24)), none, .iads 1 (.t (K.ofNat 20)) (.t (K.ofNat 22))⟩, ⟨(some (K.ofNat 25)), none, .ld (.t (K.ofNat 24))⟩, ⟨(some (K.ofNat 10)), none, .as (.t (K.ofNat 25))⟩]
noncomputable def f20_r8 : List EOper := [⟨(some (K.ofNat 26)), none, .mv (.t (K.ofNat 7))⟩, ⟨(some (K.ofNat 27)), none, .mv (.t (K.ofNat 8))⟩, ⟨(some (K.ofNat 28)), none, .mv (.t (K.ofNat 10))⟩, ⟨(some (K.ofNat 29)), none, .bin .mul (.t (K.ofNat 27)) (.t (K.ofNat 28))⟩, ⟨(some (K.ofNat 30)), none, .bin .add (.t (K.ofNat 26)) (.t (K.ofNat 29))⟩, ⟨(some (K.ofNat 7)), none, .as (.t (K.ofNat 30))⟩]
noncomputable def f20_r9 : List EOper := [⟨(some (K.ofNat 31)), none, .mv (.t (K.ofNat 8))⟩, ⟨(some (K.ofNat 32)), none, .neg (.t (K.ofNat 31))⟩, ⟨(some (K.ofNat 8)), none, .as (.t (K.ofNat 32))⟩]
noncomputable def f20_r10 : List EOper := [⟨(some (K.ofNat 33)), none, .bin .add (.t (K.ofNat 22)) (.c (.i .i64 (.ofNat 1)))⟩, ⟨(some (K.ofNat 22)), none, .mv (.t (K.ofNat 33))⟩]
noncomputable def f20_l0 : EC := (.seq (.reg f20_r6) (.seq (.cond (.t (K.ofNat 23)) .skip (.exit 0)) (.seq (.block 1 (.seq (.reg f20_r7) (.seq (.reg f20_r8) (.reg f20_r9)))) (.reg f20_r10))))
noncomputable def f20_r11 : List EOper := [⟨(some (K.ofNat 34)), none, .mv (.t (K.ofNat 7))⟩, ⟨(some (K.ofNat 4)), none, .as (.t (K.ofNat 34))⟩, ⟨(some (K.ofNat 5)), none, .as (.c (.i .i64 (.ofNat 0)))⟩]
noncomputable def f20_c : EC := (.seq (.reg f20_r0) (.seq (.seq (.reg f20_r1) (.seq (.reg f20_r2) (.cond (.t (K.ofNat 15)) (.seq (.reg f20_r3) .ret) .skip))) (.seq (.reg f20_r4) (.seq (.seq (.reg f20_r5) (.block 0 (.loop f20_l0))) (.seq (.reg f20_r11) .ret)))))
noncomputable def f20 : EF := ⟨35, [.tmp (K.ofNat 4), .tmp (K.ofNat 5)], f20_c, none⟩
section
variable {fs : T EF} {ro : Option K}
noncomputable def innerS : List Int → Nat → List Int
  | L, 0 => L
  | L, i + 1 => innerS (L.set (i + 1) (fw .i64 (L.getD (i + 1) 0 - L.getD i 0))) i
noncomputable def hsTo (L : List Int) (i : Nat) : List Int := (List.range i).foldl innerS L
noncomputable def hsS (L : List Int) : List Int := hsTo L L.length
/-- The sum with signs. -/
noncomputable def euS : List Int → Int → Int → Int
  | [], sum, _ => sum
  | x :: l, sum, sign => euS l (fw .i64 (sum + fw .i64 (sign * x))) (fw .i64 (isub 0 sign))
end
end Go.Ev
namespace Go.Ev
open Go Go.RowKit
section
variable {fs : T EF} {ro : Option K} {momL : Int → Int → List Int}
structure Made9 : Prop where
  m4 : ∀ n S, badMade n S = false → anyPos S = false → madeS n S = ([], 4)
  m8 : ∀ n S, badMade n S = false → anyPos S = true → madeS n S = if 10 < (piecesTo S 64).length then ([], 8) else (piecesTo S 64, 0)
end
end Go.Ev
namespace Go.Ev
open Go Go.RowKit
theorem xor_zero {a b : Nat} : a ^^^ b = 0 ↔ a = b := by
  constructor
  · intro h
    apply Nat.eq_of_testBit_eq
    intro i
    have := congrArg (fun n => Nat.testBit n i) h
    simp only [Nat.testBit_xor, Nat.zero_testBit] at this
    cases h1 : a.testBit i <;> cases h2 : b.testBit i <;> simp_all
  · rintro rfl; exact Nat.xor_self a
theorem ptI_nat {a b : Nat} (ha : a < 64) (hb : b < 64) : ptI (a : Int) (b : Int) = decide (a &&& b = a) := by
  unfold ptI
  rw [ibits_nat (by show a ≤ 9223372036854775807; omega) (by show b ≤ 9223372036854775807; omega), ieq_eq]
  have : (((Nat.xor a (Nat.land a b) : Nat) : Int) == Int.ofNat 0) = decide (a ^^^ (a &&& b) = 0) := by
    show ((((a ^^^ (a &&& b)) : Nat) : Int) == ((0 : Nat) : Int)) = _
    by_cases h : a ^^^ (a &&& b) = 0 <;> simp [h]
  rw [this]
  by_cases h : a &&& b = a
  · rw [decide_eq_true h, decide_eq_true (xor_zero.2 h.symm)]
  · rw [decide_eq_false h, decide_eq_false (fun e => h (xor_zero.1 e).symm)]
theorem sub_le {a b : Nat} (h : a &&& b = a) : a ≤ b := by rw [← h]; exact Nat.and_le_right
theorem sub_trans {a b c : Nat} (h1 : a &&& b = a) (h2 : b &&& c = b) : a &&& c = a := by
  rw [← h1, Nat.and_assoc, h2]
/-- All are sets of six corners. -/
def Sets (S : List Int) : Prop := ∀ s ∈ S, ∃ t : Nat, t < 64 ∧ s = (t : Int)
/-- A greatest number. -/
theorem exists_max : ∀ (S : List Int), S ≠ [] → ∃ m ∈ S, ∀ s ∈ S, s ≤ m
  | [], h => absurd rfl h
  | [x], _ => ⟨x, by simp, by simp⟩
  | x :: y :: l, _ => by
    obtain ⟨m, hm, h⟩ := exists_max (y :: l) (by simp)
    by_cases e : m ≤ x
    · exact ⟨x, by simp, fun s hs => by
        rcases List.mem_cons.1 hs with rfl | h1
        · exact Int.le_refl _
        · exact Int.le_trans (h s h1) e⟩
    · exact ⟨m, List.mem_cons_of_mem _ hm, fun s hs => by
        rcases List.mem_cons.1 hs with rfl | h1
        · omega
        · exact h s h1⟩
end Go.Ev
namespace Go.Ev
open Go Go.RowKit
noncomputable def f45_r0 : List EOper := [⟨(some (K.ofNat 4)), none, .as (.c (.b false))⟩]
noncomputable def f45_r1 : List EOper := [⟨(some (K.ofNat 5)), none, .as (.c (.i .i64 (.ofNat 0)))⟩]
noncomputable def f45_r2 : List EOper := [⟨(some (K.ofNat 6)), none, .mv (.t (K.ofNat 5))⟩, ⟨(some (K.ofNat 7)), none, .mv (.t (K.ofNat 0))⟩, ⟨(some (K.ofNat 8)), none, .len (.t (K.ofNat 7))⟩, ⟨(some (K.ofNat 9)), none, .bin .lss (.t (K.ofNat 6)) (.t (K.ofNat 8))⟩]
noncomputable def f45_r3 : List EOper := [⟨(some (K.ofNat 12)), none, .mv (.t (K.ofNat 1))⟩, ⟨(some (K.ofNat 13)), none, .mv (.t (K.ofNat 0))⟩, ⟨(some (K.ofNat 14)), none, .mv (.t (K.ofNat 5))⟩, ⟨(some (K.ofNat 15)), none, .iads 1 (.t (K.ofNat 13)) (.t (K.ofNat 14))⟩, ⟨(some (K.ofNat 16)), none, .ld (.t (K.ofNat 15))⟩, ⟨(some (K.ofNat 17)), none, .call (.c (.fn (K.ofNat 53) [])) [(.t (K.ofNat 12)), (.t (K.ofNat 16))]⟩]
noncomputable def f45_r4 : List EOper := [⟨(some (K.ofNat 4)), none, .as (.c (.b true))⟩]
noncomputable def f45_r5 : List EOper := [⟨(some (K.ofNat 10)), none, .mv (.t (K.ofNat 5))⟩, ⟨(some (K.ofNat 11)), none, .bin .add (.t (K.ofNat 10)) (.c (.i .i64 (.ofNat 1)))⟩, ⟨(some (K.ofNat 5)), none, .as (.t (K.ofNat 11))⟩]
noncomputable def f45_l0 : EC := (.seq (.seq (.reg f45_r2) (.cond (.t (K.ofNat 9)) .skip (.exit 0))) (.seq (.block 1 (.seq (.reg f45_r3) (.cond (.t (K.ofNat 17)) (.seq (.reg f45_r4) .ret) .skip))) (.reg f45_r5)))
noncomputable def f45_r6 : List EOper := [⟨(some (K.ofNat 4)), none, .as (.c (.b false))⟩]
noncomputable def f45_c : EC := (.seq (.reg f45_r0) (.seq (.seq (.reg f45_r1) (.block 0 (.loop f45_l0))) (.seq (.reg f45_r6) .ret)))
noncomputable def f45 : EF := ⟨18, [.tmp (K.ofNat 4)], f45_c, none⟩
noncomputable def f33_r0 : List EOper := [⟨(some (K.ofNat 4)), none, .as (.c .sn)⟩]
noncomputable def f33_r1 : List EOper := [⟨(some (K.ofNat 5)), none, .as (.c .sn)⟩]
noncomputable def f33_r2 : List EOper := [⟨(some (K.ofNat 6)), none, .as (.c (.i .i64 (.ofNat 0)))⟩]
noncomputable def f33_r3 : List EOper := [⟨(some (K.ofNat 7)), none, .mv (.t (K.ofNat 6))⟩, ⟨(some (K.ofNat 8)), none, .mv (.t (K.ofNat 0))⟩, ⟨(some (K.ofNat 9)), none, .bin .shl (.c (.i .i64 (.ofNat 1))) (.t (K.ofNat 8))⟩, ⟨(some (K.ofNat 10)), none, .bin .lss (.t (K.ofNat 7)) (.t (K.ofNat 9))⟩]
noncomputable def f33_r4 : List EOper := [⟨(some (K.ofNat 13)), none, .mv (.t (K.ofNat 1))⟩, ⟨(some (K.ofNat 14)), none, .mv (.t (K.ofNat 6))⟩, ⟨(some (K.ofNat 15)), none, .call (.c (.fn (K.ofNat 45) [])) [(.t (K.ofNat 13)), (.t (K.ofNat 14))]⟩]
noncomputable def f33_r5 : List EOper := [⟨(some (K.ofNat 16)), none, .mv (.t (K.ofNat 5))⟩, ⟨(some (K.ofNat 17)), none, .mv (.t (K.ofNat 6))⟩, ⟨(some (K.ofNat 18)), none, .bslice 1 1 [(.i .i64 (.ofNat 0))] [(0, 1, (.t (K.ofNat 17)))]⟩, ⟨(some (K.ofNat 19)), none, .app 1 (.t (K.ofNat 16)) (.t (K.ofNat 18))⟩, ⟨(some (K.ofNat 5)), none, .as (.t (K.ofNat 19))⟩]
noncomputable def f33_r6 : List EOper := [⟨(some (K.ofNat 11)), none, .mv (.t (K.ofNat 6))⟩, ⟨(some (K.ofNat 12)), none, .bin .add (.t (K.ofNat 11)) (.c (.i .i64 (.ofNat 1)))⟩, ⟨(some (K.ofNat 6)), none, .as (.t (K.ofNat 12))⟩]
noncomputable def f33_l0 : EC := (.seq (.seq (.reg f33_r3) (.cond (.t (K.ofNat 10)) .skip (.exit 0))) (.seq (.block 1 (.seq (.reg f33_r4) (.cond (.t (K.ofNat 15)) (.reg f33_r5) .skip))) (.reg f33_r6)))
noncomputable def f33_r7 : List EOper := [⟨(some (K.ofNat 20)), none, .mv (.t (K.ofNat 5))⟩, ⟨(some (K.ofNat 4)), none, .as (.t (K.ofNat 20))⟩]
noncomputable def f33_c : EC := (.seq (.reg f33_r0) (.seq (.reg f33_r1) (.seq (.seq (.reg f33_r2) (.block 0 (.loop f33_l0))) (.seq (.reg f33_r7) .ret))))
noncomputable def f33 : EF := ⟨21, [.tmp (K.ofNat 4)], f33_c, none⟩
noncomputable def f31_r0 : List EOper := [⟨(some (K.ofNat 4)), none, .as (.c .sn)⟩]
noncomputable def f31_r1 : List EOper := [⟨(some (K.ofNat 5)), none, .as (.c (.i .i64 (.ofNat 0)))⟩]
noncomputable def f31_r2 : List EOper := [⟨(some (K.ofNat 6)), none, .as (.c (.i .i64 (.ofNat 0)))⟩]
noncomputable def f31_r3 : List EOper := [⟨(some (K.ofNat 10)), none, .mv (.t (K.ofNat 6))⟩, ⟨(some (K.ofNat 11)), none, .mv (.t (K.ofNat 1))⟩, ⟨(some (K.ofNat 12)), none, .len (.t (K.ofNat 11))⟩, ⟨(some (K.ofNat 13)), none, .bin .lss (.t (K.ofNat 10)) (.t (K.ofNat 12))⟩]
noncomputable def f31_r4 : List EOper := [⟨(some (K.ofNat 16)), none, .mv (.t (K.ofNat 5))⟩, ⟨(some (K.ofNat 17)), none, .mv (.t (K.ofNat 1))⟩, ⟨(some (K.ofNat 18)), none, .mv (.t (K.ofNat 6))⟩, ⟨(some (K.ofNat 19)), none, .iads 1 (.t (K.ofNat 17)) (.t (K.ofNat 18))⟩, ⟨(some (K.ofNat 20)), none, .ld (.t (K.ofNat 19))⟩, ⟨(some (K.ofNat 21)), none, .call (.c (.fn (K.ofNat 52) [])) [(.t (K.ofNat 20))]⟩, ⟨(some (K.ofNat 22)), none, .max (.t (K.ofNat 16)) (.t (K.ofNat 21))⟩, ⟨(some (K.ofNat 5)), none, .as (.t (K.ofNat 22))⟩]
noncomputable def f31_r5 : List EOper := [⟨(some (K.ofNat 14)), none, .mv (.t (K.ofNat 6))⟩, ⟨(some (K.ofNat 15)), none, .bin .add (.t (K.ofNat 14)) (.c (.i .i64 (.ofNat 1)))⟩, ⟨(some (K.ofNat 6)), none, .as (.t (K.ofNat 15))⟩]
noncomputable def f31_l0 : EC := (.seq (.seq (.reg f31_r3) (.cond (.t (K.ofNat 13)) .skip (.exit 0))) (.seq (.block 1 (.reg f31_r4)) (.reg f31_r5)))
noncomputable def f31_r6 : List EOper := [⟨(some (K.ofNat 23)), none, .mv (.t (K.ofNat 5))⟩, ⟨(some (K.ofNat 24)), none, .bin .add (.t (K.ofNat 23)) (.c (.i .i64 (.ofNat 1)))⟩, ⟨(some (K.ofNat 25)), none, .mkslice 1 [(.i .i64 (.ofNat 0))] (.t (K.ofNat 24))⟩, ⟨(some (K.ofNat 7)), none, .as (.t (K.ofNat 25))⟩]
noncomputable def f31_r7 : List EOper := [⟨(some (K.ofNat 26)), none, .mv (.t (K.ofNat 0))⟩, ⟨(some (K.ofNat 27)), none, .mv (.t (K.ofNat 1))⟩, ⟨(some (K.ofNat 28)), none, .call (.c (.fn (K.ofNat 33) [])) [(.t (K.ofNat 26)), (.t (K.ofNat 27))]⟩, ⟨(some (K.ofNat 8)), none, .as (.t (K.ofNat 28))⟩]
noncomputable def f31_r8 : List EOper := [⟨(some (K.ofNat 9)), none, .as (.c (.i .i64 (.ofNat 0)))⟩]
noncomputable def f31_r9 : List EOper := [⟨(some (K.ofNat 29)), none, .mv (.t (K.ofNat 9))⟩, ⟨(some (K.ofNat 30)), none, .mv (.t (K.ofNat 8))⟩, ⟨(some (K.ofNat 31)), none, .len (.t (K.ofNat 30))⟩, ⟨(some (K.ofNat 32)), none, .bin .lss (.t (K.ofNat 29)) (.t (K.ofNat 31))⟩]
noncomputable def f31_r10 : List EOper := [⟨(some (K.ofNat 35)), none, .mv (.t (K.ofNat 7))⟩, ⟨(some (K.ofNat 36)), none, .mv (.t (K.ofNat 8))⟩, ⟨(some (K.ofNat 37)), none, .mv (.t (K.ofNat 9))⟩, ⟨(some (K.ofNat 38)), none, .iads 1 (.t (K.ofNat 36)) (.t (K.ofNat 37))⟩, ⟨(some (K.ofNat 39)), none, .ld (.t (K.ofNat 38))⟩, ⟨(some (K.ofNat 40)), none, .call (.c (.fn (K.ofNat 52) [])) [(.t (K.ofNat 39))]⟩, ⟨(some (K.ofNat 41)), none, .iads 1 (.t (K.ofNat 35)) (.t (K.ofNat 40))⟩, ⟨(some (K.ofNat 42)), none, .ld (.t (K.ofNat 41))⟩, ⟨(some (K.ofNat 43)), none, .bin .add (.t (K.ofNat 42)) (.c (.i .i64 (.ofNat 1)))⟩, ⟨(some (K.ofNat 44)), none, .iads 1 (.t (K.ofNat 35)) (.t (K.ofNat 40))⟩, ⟨none, none, .st 1 (.t (K.ofNat 44)) (.t (K.ofNat 43))⟩]
noncomputable def f31_r11 : List EOper := [⟨(some (K.ofNat 33)), none, .mv (.t (K.ofNat 9))⟩, ⟨(some (K.ofNat 34)), none, .bin .add (.t (K.ofNat 33)) (.c (.i .i64 (.ofNat 1)))⟩, ⟨(some (K.ofNat 9)), none, .as (.t (K.ofNat 34))⟩]
noncomputable def f31_l1 : EC := (.seq (.seq (.reg f31_r9) (.cond (.t (K.ofNat 32)) .skip (.exit 2))) (.seq (.block 3 (.reg f31_r10)) (.reg f31_r11)))
noncomputable def f31_r12 : List EOper := [⟨(some (K.ofNat 45)), none, .mv (.t (K.ofNat 7))⟩, ⟨(some (K.ofNat 4)), none, .as (.t (K.ofNat 45))⟩]
noncomputable def f31_c : EC := (.seq (.reg f31_r0) (.seq (.reg f31_r1) (.seq (.seq (.reg f31_r2) (.block 0 (.loop f31_l0))) (.seq (.reg f31_r6) (.seq (.reg f31_r7) (.seq (.seq (.reg f31_r8) (.block 2 (.loop f31_l1))) (.seq (.reg f31_r12) .ret)))))))
noncomputable def f31 : EF := ⟨46, [.tmp (K.ofNat 4)], f31_c, none⟩
noncomputable def f35_r0 : List EOper := [⟨(some (K.ofNat 2)), none, .as (.c (.i .i64 (.ofNat 0)))⟩]
noncomputable def f35_r1 : List EOper := [⟨(some (K.ofNat 3)), none, .as (.c (.i .i64 (.ofNat 0)))⟩]
noncomputable def f35_r2 : List EOper := [⟨(some (K.ofNat 4)), none, .as (.c (.i .i64 (.ofNat 1)))⟩]
noncomputable def f35_r3 : List EOper := [⟨(some (K.ofNat 5)), none, .mv (.t (K.ofNat 4))⟩, ⟨(some (K.ofNat 6)), none, .mv (.t (K.ofNat 0))⟩, ⟨(some (K.ofNat 7)), none, .len (.t (K.ofNat 6))⟩, ⟨(some (K.ofNat 8)), none, .bin .lss (.t (K.ofNat 5)) (.t (K.ofNat 7))⟩]
noncomputable def f35_r4 : List EOper := [⟨(some (K.ofNat 11)), none, .mv (.t (K.ofNat 3))⟩, ⟨(some (K.ofNat 12)), none, .mv (.t (K.ofNat 0))⟩, ⟨(some (K.ofNat 13)), none, .mv (.t (K.ofNat 4))⟩, ⟨(some (K.ofNat 14)), none, .iads 1 (.t (K.ofNat 12)) (.t (K.ofNat 13))⟩, ⟨(some (K.ofNat 15)), none, .ld (.t (K.ofNat 14))⟩, ⟨(some (K.ofNat 16)), none, .mv (.t (K.ofNat 4))⟩, ⟨(some (K.ofNat 17)), none, .bin .rem (.t (K.ofNat 16)) (.c (.i .i64 (.ofNat 2)))⟩, ⟨(some (K.ofNat 18)), none, .bin .mul (.c (.i .i64 (.ofNat 2))) (.t (K.ofNat 17))⟩, ⟨(some (K.ofNat 19)), none, .bin .sub (.t (K.ofNat 18)) (.c (.i .i64 (.ofNat 1)))⟩, ⟨(some (K.ofNat 20)), none, .bin .mul (.t (K.ofNat 15)) (.t (K.ofNat 19))⟩, ⟨(some (K.ofNat 21)), none, .bin .add (.t (K.ofNat 11)) (.t (K.ofNat 20))⟩, ⟨(some (K.ofNat 3)), none, .as (.t (K.ofNat 21))⟩]
noncomputable def f35_r5 : List EOper := [⟨(some (K.ofNat 9)), none, .mv (.t (K.ofNat 4))⟩, ⟨(some (K.ofNat 10)), none, .bin .add (.t (K.ofNat 9)) (.c (.i .i64 (.ofNat 1)))⟩, ⟨(some (K.ofNat 4)), none, .as (.t (K.ofNat 10))⟩]
noncomputable def f35_l0 : EC := (.seq (.seq (.reg f35_r3) (.cond (.t (K.ofNat 8)) .skip (.exit 0))) (.seq (.block 1 (.reg f35_r4)) (.reg f35_r5)))
noncomputable def f35_r6 : List EOper := [⟨(some (K.ofNat 22)), none, .mv (.t (K.ofNat 3))⟩, ⟨(some (K.ofNat 2)), none, .as (.t (K.ofNat 22))⟩]
noncomputable def f35_c : EC := (.seq (.reg f35_r0) (.seq (.reg f35_r1) (.seq (.seq (.reg f35_r2) (.block 0 (.loop f35_l0))) (.seq (.reg f35_r6) .ret))))
noncomputable def f35 : EF := ⟨23, [.tmp (K.ofNat 2)], f35_c, none⟩
section
variable {fs : T EF} {ro : Option K}
noncomputable def isF (S : List Int) (x : Int) : Bool := S.any fun s => ptI x s
noncomputable def facTo (S : List Int) (i : Nat) : List Int := ((List.range i).filter fun (k : Nat) => isF S (k : Int)).map fun (k : Nat) => (k : Int)
theorem pow_n {n : Int} (h1 : 1 ≤ n) (h6 : n ≤ 6) : 2 ^ n.toNat ≤ 64 ∧ ((2 ^ n.toNat : Nat) : Int) = (2 : Int) ^ n.toNat := by
  have : n = 1 ∨ n = 2 ∨ n = 3 ∨ n = 4 ∨ n = 5 ∨ n = 6 := by omega
  rcases this with rfl | rfl | rfl | rfl | rfl | rfl <;> decide
/-- The greatest number of elements. -/
noncomputable def maxS (S : List Int) : Nat := S.foldl (fun d s => max d (pop6 s.toNat)) 0
noncomputable def bump (C : List Int) (k : Nat) : List Int := C.set (pop6 k) (C.getD (pop6 k) 0 + 1)
noncomputable def rcnt (d : Nat) (l : List Nat) : List Int := l.foldl bump (List.replicate (d + 1) 0)
noncomputable def facN (S : List Int) (m : Nat) : List Nat := (List.range m).filter fun (k : Nat) => isF S (k : Int)
/-- The sum of the counts with signs, as the reference has it: from the i-th on. -/
noncomputable def reuS (L : List Int) : Nat → Nat → Int → Int
  | 0, _, sum => sum
  | t + 1, i, sum => reuS L t (i + 1) (fw .i64 (sum + fw .i64 (L.getD i 0 * fw .i64 (fw .i64 (2 * ((i : Int).tmod 2)) - 1))))
end
end Go.Ev
namespace Go.Ev
open Go Go.RowKit
noncomputable def f74_r0 : List EOper := [⟨(some (K.ofNat 2)), none, .as (.c (.i .i64 (.ofNat 0)))⟩]
noncomputable def f74_r1 : List EOper := [⟨(some (K.ofNat 3)), none, .as (.c .sn)⟩]
noncomputable def f74_r2 : List EOper := [⟨(some (K.ofNat 8)), none, .mv (.t (K.ofNat 3))⟩, ⟨(some (K.ofNat 9)), none, .mv (.t (K.ofNat 0))⟩, ⟨(some (K.ofNat 10)), none, .app 1 (.t (K.ofNat 8)) (.t (K.ofNat 9))⟩, ⟨(some (K.ofNat 3)), none, .as (.t (K.ofNat 10))⟩]
noncomputable def f74_r3 : List EOper := [⟨(some (K.ofNat 4)), none, .as (.c (.i .i64 (.ofNat 0)))⟩]
noncomputable def f74_r4 : List EOper := [⟨(some (K.ofNat 5)), none, .as (.c (.i .i64 (.ofNat 0)))⟩]
noncomputable def f74_r5 : List EOper := [⟨(some (K.ofNat 11)), none, .mv (.t (K.ofNat 5))⟩, ⟨(some (K.ofNat 12)), none, .mv (.t (K.ofNat 3))⟩, ⟨(some (K.ofNat 13)), none, .len (.t (K.ofNat 12))⟩, ⟨(some (K.ofNat 14)), none, .bin .lss (.t (K.ofNat 11)) (.t (K.ofNat 13))⟩]
noncomputable def f74_r6 : List EOper := [⟨(some (K.ofNat 17)), none, .mv (.t (K.ofNat 3))⟩, ⟨(some (K.ofNat 18)), none, .mv (.t (K.ofNat 5))⟩, ⟨(some (K.ofNat 19)), none, .iads 1 (.t (K.ofNat 17)) (.t (K.ofNat 18))⟩, ⟨(some (K.ofNat 20)), none, .ld (.t (K.ofNat 19))⟩, ⟨(some (K.ofNat 21)), none, .bin .eql (.t (K.ofNat 20)) (.c (.i .i64 (.ofNat 0)))⟩]
noncomputable def f74_r7 : List EOper := [⟨(some (K.ofNat 22)), none, .mv (.t (K.ofNat 4))⟩, ⟨(some (K.ofNat 23)), none, .bin .add (.t (K.ofNat 22)) (.c (.i .i64 (.ofNat 1)))⟩, ⟨(some (K.ofNat 4)), none, .as (.t (K.ofNat 23))⟩]
noncomputable def f74_r8 : List Stage := [⟨[⟨(some (K.ofNat 24)), none, .mv (.t (K.ofNat 3))⟩, ⟨(some (K.ofNat 25)), none, .mv (.t (K.ofNat 5))⟩, ⟨(some (K.ofNat 26)), none, .iads 1 (.t (K.ofNat 24)) (.t (K.ofNat 25))⟩, ⟨(some (K.ofNat 27)), none, .ld (.t (K.ofNat 26))⟩, ⟨(some (K.ofNat 28)), none, .mv (.t (K.ofNat 3))⟩, ⟨(some (K.ofNat 29)), none, .mv (.t (K.ofNat 5))⟩, ⟨(some (K.ofNat 30)), none, .iads 1 (.t (K.ofNat 28)) (.t (K.ofNat 29))⟩, ⟨(some (K.ofNat 31)), none, .ld (.t (K.ofNat 30))⟩, ⟨(some (K.ofNat 32)), none, .neg (.t (K.ofNat 31))⟩, ⟨(some (K.ofNat 33)), none, .bin .and (.t (K.ofNat 27)) (.t (K.ofNat 32))⟩], [], (some ⟨(some (K.ofNat 6)), none, .as (.t (K.ofNat 33))⟩), []⟩, ⟨[], [], none, []⟩]
noncomputable def f74_r9 : List EOper := [⟨(some (K.ofNat 34)), none, .mv (.t (K.ofNat 5))⟩, ⟨(some (K.ofNat 35)), none, .bin .add (.t (K.ofNat 34)) (.c (.i .i64 (.ofNat 1)))⟩, ⟨(some (K.ofNat 7)), none, .as (.t (K.ofNat 35))⟩]
noncomputable def f74_r10 : List EOper := [⟨(some (K.ofNat 36)), none, .mv (.t (K.ofNat 7))⟩, ⟨(some (K.ofNat 37)), none, .mv (.t (K.ofNat 3))⟩, ⟨(some (K.ofNat 38)), none, .len (.t (K.ofNat 37))⟩, ⟨(some (K.ofNat 39)), none, .bin .lss (.t (K.ofNat 36)) (.t (K.ofNat 38))⟩]
noncomputable def f74_r11 : List EOper := [⟨(some (K.ofNat 42)), none, .mv (.t (K.ofNat 3))⟩, ⟨(some (K.ofNat 43)), none, .mv (.t (K.ofNat 7))⟩, ⟨(some (K.ofNat 44)), none, .iads 1 (.t (K.ofNat 42)) (.t (K.ofNat 43))⟩, ⟨(some (K.ofNat 45)), none, .ld (.t (K.ofNat 44))⟩, ⟨(some (K.ofNat 46)), none, .mv (.t (K.ofNat 6))⟩, ⟨(some (K.ofNat 47)), none, .bin .and (.t (K.ofNat 45)) (.t (K.ofNat 46))⟩, ⟨(some (K.ofNat 48)), none, .bin .neq (.t (K.ofNat 47)) (.c (.i .i64 (.ofNat 0)))⟩]
noncomputable def f74_r12 : List Stage := [⟨[⟨(some (K.ofNat 49)), none, .mv (.t (K.ofNat 3))⟩, ⟨(some (K.ofNat 50)), none, .mv (.t (K.ofNat 7))⟩, ⟨(some (K.ofNat 51)), none, .mv (.t (K.ofNat 3))⟩, ⟨(some (K.ofNat 52)), none, .mv (.t (K.ofNat 7))⟩, ⟨(some (K.ofNat 53)), none, .iads 1 (.t (K.ofNat 51)) (.t (K.ofNat 52))⟩, ⟨(some (K.ofNat 54)), none, .ld (.t (K.ofNat 53))⟩, ⟨(some (K.ofNat 55)), none, .mv (.t (K.ofNat 3))⟩, ⟨(some (K.ofNat 56)), none, .mv (.t (K.ofNat 5))⟩, ⟨(some (K.ofNat 57)), none, .iads 1 (.t (K.ofNat 55)) (.t (K.ofNat 56))⟩, ⟨(some (K.ofNat 58)), none, .ld (.t (K.ofNat 57))⟩, ⟨(some (K.ofNat 59)), none, .bin .xor (.t (K.ofNat 54)) (.t (K.ofNat 58))⟩, ⟨(some (K.ofNat 60)), none, .iads 1 (.t (K.ofNat 49)) (.t (K.ofNat 50))⟩], [], (some ⟨none, none, .st 1 (.t (K.ofNat 60)) (.t (K.ofNat 59))⟩), []⟩, ⟨[], [], none, []⟩]
noncomputable def f74_r13 : List EOper := [⟨(some (K.ofNat 40)), none, .mv (.t (K.ofNat 7))⟩, ⟨(some (K.ofNat 41)), none, .bin .add (.t (K.ofNat 40)) (.c (.i .i64 (.ofNat 1)))⟩, ⟨(some (K.ofNat 7)), none, .as (.t (K.ofNat 41))⟩]
noncomputable def f74_l0 : EC := (.seq (.seq (.reg f74_r10) (.cond (.t (K.ofNat 39)) .skip (.exit 2))) (.seq (.block 3 (.seq (.reg f74_r11) (.cond (.t (K.ofNat 48)) (.draw f74_r12) .skip))) (.reg f74_r13)))
noncomputable def f74_r14 : List EOper := [⟨(some (K.ofNat 15)), none, .mv (.t (K.ofNat 5))⟩, ⟨(some (K.ofNat 16)), none, .bin .add (.t (K.ofNat 15)) (.c (.i .i64 (.ofNat 1)))⟩, ⟨(some (K.ofNat 5)), none, .as (.t (K.ofNat 16))⟩]
noncomputable def f74_l1 : EC := (.seq (.seq (.reg f74_r5) (.cond (.t (K.ofNat 14)) .skip (.exit 0))) (.seq (.block 1 (.seq (.seq (.reg f74_r6) (.cond (.t (K.ofNat 21)) (.exit 1) .skip)) (.seq (.reg f74_r7) (.seq (.draw f74_r8) (.seq (.reg f74_r9) (.block 2 (.loop f74_l0))))))) (.reg f74_r14)))
noncomputable def f74_r15 : List EOper := [⟨(some (K.ofNat 61)), none, .mv (.t (K.ofNat 4))⟩, ⟨(some (K.ofNat 2)), none, .as (.t (K.ofNat 61))⟩]
noncomputable def f74_c : EC := (.seq (.reg f74_r0) (.seq (.reg f74_r1) (.seq (.reg f74_r2) (.seq (.reg f74_r3) (.seq (.seq (.reg f74_r4) (.block 0 (.loop f74_l1))) (.seq (.reg f74_r15) .ret))))))
noncomputable def f74 : EF := ⟨62, [.tmp (K.ofNat 2)], f74_c, none⟩
noncomputable def f73_r0 : List EOper := [⟨(some (K.ofNat 4)), none, .as (.c .sn)⟩]
noncomputable def f73_r1 : List EOper := [⟨(some (K.ofNat 5)), none, .as (.c .sn)⟩]
noncomputable def f73_r2 : List EOper := [⟨(some (K.ofNat 6)), none, .as (.c (.i .i64 (.ofNat 0)))⟩]
noncomputable def f73_r3 : List EOper := [⟨(some (K.ofNat 9)), none, .mv (.t (K.ofNat 6))⟩, ⟨(some (K.ofNat 10)), none, .mv (.t (K.ofNat 0))⟩, ⟨(some (K.ofNat 11)), none, .len (.t (K.ofNat 10))⟩, ⟨(some (K.ofNat 12)), none, .bin .lss (.t (K.ofNat 9)) (.t (K.ofNat 11))⟩]
noncomputable def f73_r4 : List EOper := [⟨(some (K.ofNat 15)), none, .mv (.t (K.ofNat 0))⟩, ⟨(some (K.ofNat 16)), none, .mv (.t (K.ofNat 6))⟩, ⟨(some (K.ofNat 17)), none, .iads 1 (.t (K.ofNat 15)) (.t (K.ofNat 16))⟩, ⟨(some (K.ofNat 18)), none, .ld (.t (K.ofNat 17))⟩, ⟨(some (K.ofNat 19)), none, .call (.c (.fn (K.ofNat 52) [])) [(.t (K.ofNat 18))]⟩, ⟨(some (K.ofNat 20)), none, .mv (.t (K.ofNat 1))⟩, ⟨(some (K.ofNat 21)), none, .bin .neq (.t (K.ofNat 19)) (.t (K.ofNat 20))⟩]
noncomputable def f73_r5 : List EOper := [⟨(some (K.ofNat 7)), none, .as (.c (.i .i64 (.ofNat 0)))⟩]
noncomputable def f73_r6 : List EOper := [⟨(some (K.ofNat 8)), none, .as (.c (.i .i64 (.ofNat 0)))⟩]
noncomputable def f73_r7 : List EOper := [⟨(some (K.ofNat 22)), none, .mv (.t (K.ofNat 8))⟩, ⟨(some (K.ofNat 23)), none, .bin .lss (.t (K.ofNat 22)) (.c (.i .i64 (.ofNat 6)))⟩]
noncomputable def f73_r8 : List EOper := [⟨(some (K.ofNat 26)), none, .mv (.t (K.ofNat 0))⟩, ⟨(some (K.ofNat 27)), none, .mv (.t (K.ofNat 6))⟩, ⟨(some (K.ofNat 28)), none, .iads 1 (.t (K.ofNat 26)) (.t (K.ofNat 27))⟩, ⟨(some (K.ofNat 29)), none, .ld (.t (K.ofNat 28))⟩, ⟨(some (K.ofNat 30)), none, .mv (.t (K.ofNat 8))⟩, ⟨(some (K.ofNat 31)), none, .bin .shr (.t (K.ofNat 29)) (.t (K.ofNat 30))⟩, ⟨(some (K.ofNat 32)), none, .bin .rem (.t (K.ofNat 31)) (.c (.i .i64 (.ofNat 2)))⟩, ⟨(some (K.ofNat 33)), none, .bin .eql (.t (K.ofNat 32)) (.c (.i .i64 (.ofNat 1)))⟩]
noncomputable def f73_r9 : List Stage := [⟨[⟨(some (K.ofNat 34)), none, .mv (.t (K.ofNat 7))⟩, ⟨(some (K.ofNat 35)), none, .mv (.t (K.ofNat 0))⟩, ⟨(some (K.ofNat 36)), none, .mv (.t (K.ofNat 6))⟩, ⟨(some (K.ofNat 37)), none, .iads 1 (.t (K.ofNat 35)) (.t (K.ofNat 36))⟩, ⟨(some (K.ofNat 38)), none, .ld (.t (K.ofNat 37))⟩, ⟨(some (K.ofNat 39)), none, .mv (.t (K.ofNat 8))⟩, ⟨(some (K.ofNat 40)), none, .bin .shl (.c (.i .i64 (.ofNat 1))) (.t (K.ofNat 39))⟩, ⟨(some (K.ofNat 41)), none, .bin .andNot (.t (K.ofNat 38)) (.t (K.ofNat 40))⟩, ⟨(some (K.ofNat 42)), none, .bin .shl (.c (.i .i64 (.ofNat 1))) (.t (K.ofNat 41))⟩, ⟨(some (K.ofNat 43)), none, .bin .or (.t (K.ofNat 34)) (.t (K.ofNat 42))⟩], [], (some ⟨(some (K.ofNat 7)), none, .as (.t (K.ofNat 43))⟩), []⟩, ⟨[], [], none, []⟩]
noncomputable def f73_r10 : List EOper := [⟨(some (K.ofNat 24)), none, .mv (.t (K.ofNat 8))⟩, ⟨(some (K.ofNat 25)), none, .bin .add (.t (K.ofNat 24)) (.c (.i .i64 (.ofNat 1)))⟩, ⟨(some (K.ofNat 8)), none, .as (.t (K.ofNat 25))⟩]
noncomputable def f73_l0 : EC := (.seq (.seq (.reg f73_r7) (.cond (.t (K.ofNat 23)) .skip (.exit 2))) (.seq (.block 3 (.seq (.reg f73_r8) (.cond (.t (K.ofNat 33)) (.draw f73_r9) .skip))) (.reg f73_r10)))
noncomputable def f73_r11 : List EOper := [⟨(some (K.ofNat 44)), none, .mv (.t (K.ofNat 5))⟩, ⟨(some (K.ofNat 45)), none, .mv (.t (K.ofNat 7))⟩, ⟨(some (K.ofNat 46)), none, .bslice 1 1 [(.i .i64 (.ofNat 0))] [(0, 1, (.t (K.ofNat 45)))]⟩, ⟨(some (K.ofNat 47)), none, .app 1 (.t (K.ofNat 44)) (.t (K.ofNat 46))⟩, ⟨(some (K.ofNat 5)), none, .as (.t (K.ofNat 47))⟩]
noncomputable def f73_r12 : List EOper := [⟨(some (K.ofNat 13)), none, .mv (.t (K.ofNat 6))⟩, ⟨(some (K.ofNat 14)), none, .bin .add (.t (K.ofNat 13)) (.c (.i .i64 (.ofNat 1)))⟩, ⟨(some (K.ofNat 6)), none, .as (.t (K.ofNat 14))⟩]
noncomputable def f73_l1 : EC := (.seq (.seq (.reg f73_r3) (.cond (.t (K.ofNat 12)) .skip (.exit 0))) (.seq (.block 1 (.seq (.seq (.reg f73_r4) (.cond (.t (K.ofNat 21)) (.exit 1) .skip)) (.seq (.reg f73_r5) (.seq (.seq (.reg f73_r6) (.block 2 (.loop f73_l0))) (.reg f73_r11))))) (.reg f73_r12)))
noncomputable def f73_r13 : List EOper := [⟨(some (K.ofNat 48)), none, .mv (.t (K.ofNat 5))⟩, ⟨(some (K.ofNat 4)), none, .as (.t (K.ofNat 48))⟩]
noncomputable def f73_c : EC := (.seq (.reg f73_r0) (.seq (.reg f73_r1) (.seq (.seq (.reg f73_r2) (.block 0 (.loop f73_l1))) (.seq (.reg f73_r13) .ret))))
noncomputable def f73 : EF := ⟨49, [.tmp (K.ofNat 4)], f73_c, none⟩
section
variable {fs : T EF} {ro : Option K}
theorem Sl.unmap {α β : Type} {e : β → V} {f : α → β} {h : H} {v : V} {L : List α} (hs : Sl e h v (L.map f)) : Sl (fun x => e (f x)) h v L := by
  rcases hs with ⟨rfl, hl⟩ | ⟨id, off, m, cs, rfl, hb, hl, hm, hx⟩
  · have : L = [] := by simpa using hl
    exact .inl ⟨rfl, this⟩
  · exact .inr ⟨id, off, m, cs, by rw [List.length_map], hb, by simpa using hl, by simpa using hm, fun i hi => by have := hx i (by simpa using hi); simpa using this⟩
theorem or_n {m n : Nat} (hm : m < 9223372036854775808) (hn : n < 9223372036854775808) : binV .or (.i .i64 (m : Int)) (.i .i64 (n : Int)) = some (.i .i64 ((m ||| n : Nat) : Int)) := bin_or (by show _ ≤ 9223372036854775807; omega) (by show _ ≤ 9223372036854775807; omega)
theorem shl_i {n : Nat} (hn : n ≤ 62) : binV .shl (.i .i64 1) (.i .i64 (n : Int)) = some (.i .i64 ((2 ^ n : Nat) : Int)) := by
  have h2 : 2 ^ n ≤ 4611686018427387904 := Nat.pow_le_pow_right (by omega) hn
  have h3 : ((2 ^ n : Nat) : Int) ≤ 4611686018427387904 := Int.ofNat_le.2 h2
  have h4 : (0 : Int) ≤ ((2 ^ n : Nat) : Int) := Int.natCast_nonneg _
  rw [bin_shl (by omega), show min (n : Int).toNat (IntKind.bits .i64) = n by show min (n : Int).toNat 64 = n; omega, Int.one_mul, show (2 : Int) ^ n = ((2 ^ n : Nat) : Int) by simp]
  rw [fw64 (by omega) (by omega)]
theorem shr_i {m n : Nat} (hn : n ≤ 62) : binV .shr (.i .i64 (m : Int)) (.i .i64 (n : Int)) = some (.i .i64 ((m / 2 ^ n : Nat) : Int)) := by
  rw [bin_shr, show min n (IntKind.bits .i64) = n by show min n 64 = n; omega]
end
end Go.Ev
namespace Go.Ev
open Go Go.RowKit
noncomputable def f44_r0 : List EOper := [⟨(some (K.ofNat 4)), none, .as (.c .sn)⟩]
noncomputable def f44_r1 : List EOper := [⟨(some (K.ofNat 11)), none, .mv (.t (K.ofNat 0))⟩, ⟨(some (K.ofNat 12)), none, .mv (.t (K.ofNat 1))⟩, ⟨(some (K.ofNat 13)), none, .call (.c (.fn (K.ofNat 33) [])) [(.t (K.ofNat 11)), (.t (K.ofNat 12))]⟩, ⟨(some (K.ofNat 5)), none, .as (.t (K.ofNat 13))⟩]
noncomputable def f44_r2 : List EOper := [⟨(some (K.ofNat 14)), none, .mv (.t (K.ofNat 0))⟩, ⟨(some (K.ofNat 15)), none, .mv (.t (K.ofNat 1))⟩, ⟨(some (K.ofNat 16)), none, .call (.c (.fn (K.ofNat 31) [])) [(.t (K.ofNat 14)), (.t (K.ofNat 15))]⟩, ⟨(some (K.ofNat 17)), none, .len (.t (K.ofNat 16))⟩, ⟨(some (K.ofNat 18)), none, .bin .sub (.t (K.ofNat 17)) (.c (.i .i64 (.ofNat 1)))⟩, ⟨(some (K.ofNat 6)), none, .as (.t (K.ofNat 18))⟩]
noncomputable def f44_r3 : List EOper := [⟨(some (K.ofNat 7)), none, .as (.c .sn)⟩]
noncomputable def f44_r4 : List EOper := [⟨(some (K.ofNat 8)), none, .as (.c (.i .i64 (.ofNat 0)))⟩]
noncomputable def f44_r5 : List EOper := [⟨(some (K.ofNat 19)), none, .mv (.t (K.ofNat 8))⟩, ⟨(some (K.ofNat 20)), none, .mv (.t (K.ofNat 6))⟩, ⟨(some (K.ofNat 21)), none, .bin .lss (.t (K.ofNat 19)) (.t (K.ofNat 20))⟩]
noncomputable def f44_r6 : List EOper := [⟨(some (K.ofNat 24)), none, .mv (.t (K.ofNat 5))⟩, ⟨(some (K.ofNat 25)), none, .mv (.t (K.ofNat 8))⟩, ⟨(some (K.ofNat 26)), none, .bin .add (.t (K.ofNat 25)) (.c (.i .i64 (.ofNat 1)))⟩, ⟨(some (K.ofNat 27)), none, .call (.c (.fn (K.ofNat 73) [])) [(.t (K.ofNat 24)), (.t (K.ofNat 26))]⟩, ⟨(some (K.ofNat 28)), none, .mv (.t (K.ofNat 5))⟩, ⟨(some (K.ofNat 29)), none, .mv (.t (K.ofNat 8))⟩, ⟨(some (K.ofNat 30)), none, .bin .add (.t (K.ofNat 29)) (.c (.i .i64 (.ofNat 2)))⟩, ⟨(some (K.ofNat 31)), none, .call (.c (.fn (K.ofNat 73) [])) [(.t (K.ofNat 28)), (.t (K.ofNat 30))]⟩, ⟨(some (K.ofNat 9)), none, .as (.t (K.ofNat 27))⟩, ⟨(some (K.ofNat 10)), none, .as (.t (K.ofNat 31))⟩]
noncomputable def f44_r7 : List EOper := [⟨(some (K.ofNat 32)), none, .mv (.t (K.ofNat 7))⟩, ⟨(some (K.ofNat 33)), none, .mv (.t (K.ofNat 9))⟩, ⟨(some (K.ofNat 34)), none, .len (.t (K.ofNat 33))⟩, ⟨(some (K.ofNat 35)), none, .mv (.t (K.ofNat 9))⟩, ⟨(some (K.ofNat 36)), none, .call (.c (.fn (K.ofNat 74) [])) [(.t (K.ofNat 35))]⟩, ⟨(some (K.ofNat 37)), none, .bin .sub (.t (K.ofNat 34)) (.t (K.ofNat 36))⟩, ⟨(some (K.ofNat 38)), none, .mv (.t (K.ofNat 10))⟩, ⟨(some (K.ofNat 39)), none, .call (.c (.fn (K.ofNat 74) [])) [(.t (K.ofNat 38))]⟩, ⟨(some (K.ofNat 40)), none, .bin .sub (.t (K.ofNat 37)) (.t (K.ofNat 39))⟩, ⟨(some (K.ofNat 41)), none, .bslice 1 1 [(.i .i64 (.ofNat 0))] [(0, 1, (.t (K.ofNat 40)))]⟩, ⟨(some (K.ofNat 42)), none, .app 1 (.t (K.ofNat 32)) (.t (K.ofNat 41))⟩, ⟨(some (K.ofNat 7)), none, .as (.t (K.ofNat 42))⟩]
noncomputable def f44_r8 : List EOper := [⟨(some (K.ofNat 22)), none, .mv (.t (K.ofNat 8))⟩, ⟨(some (K.ofNat 23)), none, .bin .add (.t (K.ofNat 22)) (.c (.i .i64 (.ofNat 1)))⟩, ⟨(some (K.ofNat 8)), none, .as (.t (K.ofNat 23))⟩]
noncomputable def f44_l0 : EC := (.seq (.seq (.reg f44_r5) (.cond (.t (K.ofNat 21)) .skip (.exit 0))) (.seq (.block 1 (.seq (.reg f44_r6) (.reg f44_r7))) (.reg f44_r8)))
noncomputable def f44_r9 : List EOper := [⟨(some (K.ofNat 43)), none, .mv (.t (K.ofNat 7))⟩, ⟨(some (K.ofNat 4)), none, .as (.t (K.ofNat 43))⟩]
noncomputable def f44_c : EC := (.seq (.reg f44_r0) (.seq (.reg f44_r1) (.seq (.reg f44_r2) (.seq (.reg f44_r3) (.seq (.seq (.reg f44_r4) (.block 0 (.loop f44_l0))) (.seq (.reg f44_r9) .ret))))))
noncomputable def f44 : EF := ⟨44, [.tmp (K.ofNat 4)], f44_c, none⟩
noncomputable def f83_r0 : List EOper := [⟨(some (K.ofNat 2)), none, .as (.c (.i .i64 (.ofNat 0)))⟩]
noncomputable def f83_r1 : List EOper := [⟨(some (K.ofNat 3)), none, .as (.c (.i .i64 (.ofNat 0)))⟩]
noncomputable def f83_r2 : List EOper := [⟨(some (K.ofNat 6)), none, .mv (.t (K.ofNat 0))⟩, ⟨(some (K.ofNat 7)), none, .len (.t (K.ofNat 6))⟩, ⟨(some (K.ofNat 8)), none, .mv (.c (.i .i64 (.ofNat 0)))⟩]
noncomputable def f83_r3 : List EOper := [⟨(some (K.ofNat 9)), none, .bin .lss (.t (K.ofNat 8)) (.t (K.ofNat 7))⟩]
noncomputable def f83_r4 : List EOper := [⟨(some (K.ofNat 10)), none, .iads 1 (.t (K.ofNat 6)) (.t (K.ofNat 8))⟩, ⟨(some (K.ofNat 11)), none, .ld (.t (K.ofNat 10))⟩, ⟨(some (K.ofNat 5)), none, .as (.t (K.ofNat 11))⟩]
noncomputable def f83_r5 : List EOper := [⟨(some (K.ofNat 12)), none, .mv (.t (K.ofNat 3))⟩, ⟨(some (K.ofNat 13)), none, .mv (.t (K.ofNat 5))⟩, ⟨(some (K.ofNat 14)), none, .bin .or (.t (K.ofNat 12)) (.t (K.ofNat 13))⟩, ⟨(some (K.ofNat 3)), none, .as (.t (K.ofNat 14))⟩]
noncomputable def f83_r6 : List EOper := [⟨(some (K.ofNat 15)), none, .bin .add (.t (K.ofNat 8)) (.c (.i .i64 (.ofNat 1)))⟩, ⟨(some (K.ofNat 8)), none, .mv (.t (K.ofNat 15))⟩]
noncomputable def f83_l0 : EC := (.seq (.reg f83_r3) (.seq (.cond (.t (K.ofNat 9)) .skip (.exit 0)) (.seq (.block 1 (.seq (.reg f83_r4) (.reg f83_r5))) (.reg f83_r6))))
noncomputable def f83_r7 : List EOper := [⟨(some (K.ofNat 16)), none, .mv (.t (K.ofNat 3))⟩, ⟨(some (K.ofNat 2)), none, .as (.t (K.ofNat 16))⟩]
noncomputable def f83_c : EC := (.seq (.reg f83_r0) (.seq (.reg f83_r1) (.seq (.seq (.reg f83_r2) (.block 0 (.loop f83_l0))) (.seq (.reg f83_r7) .ret))))
noncomputable def f83 : EF := ⟨17, [.tmp (K.ofNat 2)], f83_c, none⟩
theorem f83_rs : f83.rs = [.tmp (K.ofNat 2)] := of_eq_true (eq_self _)
noncomputable def f65_r0 : List EOper := [⟨(some (K.ofNat 2)), none, .box 64 (.t (K.ofNat 0))⟩, ⟨(some (K.ofNat 3)), none, .box 1 (.t (K.ofNat 1))⟩, ⟨(some (K.ofNat 4)), none, .alloc 64 (List.replicate 64 (.b false))⟩]
noncomputable def f65_r1 : List EOper := [⟨(some (K.ofNat 5)), none, .alloc 64 (List.replicate 64 (.b false))⟩]
noncomputable def f65_r2 : List EOper := [⟨(some (K.ofNat 7)), none, .ldn 64 (.t (K.ofNat 2))⟩, ⟨(some (K.ofNat 8)), none, .call (.c (.fn (K.ofNat 78) [])) [(.t (K.ofNat 7))]⟩]
noncomputable def f65_r3 : List EOper := [⟨(some (K.ofNat 6)), none, .as (.t (K.ofNat 9))⟩]
noncomputable def f65_a0 : EC := (.reg f65_r3)
noncomputable def f65_r4 : List EOper := [⟨(some (K.ofNat 10)), none, .mv (.t (K.ofNat 6))⟩, ⟨(some (K.ofNat 11)), none, .mv (.t (K.ofNat 6))⟩, ⟨(some (K.ofNat 12)), none, .ld (.t (K.ofNat 3))⟩, ⟨(some (K.ofNat 13)), none, .bin .and (.t (K.ofNat 11)) (.t (K.ofNat 12))⟩, ⟨(some (K.ofNat 14)), none, .bin .eql (.t (K.ofNat 13)) (.c (.i .i64 (.ofNat 0)))⟩, ⟨(some (K.ofNat 15)), none, .mv (.t (K.ofNat 14))⟩, ⟨(some (K.ofNat 16)), (some ((K.ofNat 15), true)), .mv (.t (K.ofNat 6))⟩, ⟨(some (K.ofNat 17)), (some ((K.ofNat 15), true)), .ld (.t (K.ofNat 3))⟩, ⟨(some (K.ofNat 18)), (some ((K.ofNat 15), true)), .bslice 2 1 [(.i .i64 (.ofNat 0)), (.i .i64 (.ofNat 0))] [(0, 1, (.t (K.ofNat 16))), (1, 1, (.t (K.ofNat 17)))]⟩, ⟨(some (K.ofNat 19)), (some ((K.ofNat 15), true)), .call (.c (.fn (K.ofNat 83) [])) [(.t (K.ofNat 18))]⟩, ⟨(some (K.ofNat 20)), (some ((K.ofNat 15), true)), .iadr 64 1 (.t (K.ofNat 2)) (.t (K.ofNat 19))⟩, ⟨(some (K.ofNat 21)), (some ((K.ofNat 15), true)), .ld (.t (K.ofNat 20))⟩, ⟨(some (K.ofNat 22)), none, .pick (.t (K.ofNat 15)) (.t (K.ofNat 21)) (.c (.b false))⟩, ⟨(some (K.ofNat 23)), none, .iadr 64 1 (.t (K.ofNat 5)) (.t (K.ofNat 10))⟩, ⟨none, none, .st 1 (.t (K.ofNat 23)) (.t (K.ofNat 22))⟩]
noncomputable def f65_b0 : EC := (.block 1 (.reg f65_r4))
noncomputable def f65_r5 : List EOper := [⟨(some (K.ofNat 24)), none, .ldn 64 (.t (K.ofNat 5))⟩, ⟨none, none, .st 64 (.t (K.ofNat 4)) (.t (K.ofNat 24))⟩]
noncomputable def f65_c : EC := (.seq (.reg f65_r0) (.seq (.reg f65_r1) (.seq (.seq (.reg f65_r2) (.block 0 (.rangeF (.t (K.ofNat 8)) [(K.ofNat 9)] f65_a0 f65_b0))) (.seq (.reg f65_r5) .ret))))
noncomputable def f65 : EF := ⟨25, [.celln (K.ofNat 4) 64], f65_c, none⟩
section
variable {fs : T EF} {ro : Option K}
noncomputable def rhv (l : List Nat) (k : Nat) : Int := fw .i64 (fw .i64 (((rowsOf l (k + 1)).length : Int) - (rankS (rowsOf l (k + 1)) : Int)) - (rankS (rowsOf l (k + 2)) : Int))
noncomputable def rhTo (l : List Nat) (i : Nat) : List Int := (List.range i).map (rhv l)
/-- All of them together. -/
def joinS (L : List Nat) : Nat := L.foldl (fun s x => s ||| x) 0
theorem joinS_snoc {L : List Nat} {x : Nat} : joinS (L ++ [x]) = joinS L ||| x := by unfold joinS; rw [List.foldl_append]; rfl
theorem joinS_lt : ∀ {L : List Nat}, Small L → joinS L < 9223372036854775808 := by
  intro L
  refine snoc_ind (P := fun L => Small L → joinS L < 9223372036854775808) (fun _ => by unfold joinS; simp) (fun l x ih h => ?_) L
  rw [joinS_snoc]
  exact Nat.or_lt_two_pow (n := 63) (ih fun y hy => h y (List.mem_append_left _ hy)) (h x (by simp))
def f83_I (h : H) (v : V) (L : List Nat) (i : Nat) (fr : Fr) (h1 : H) : Prop := h1 = h ∧ i ≤ L.length ∧ fr.get (K.ofNat 3) = some (.i .i64 (joinS (L.take i) : Int)) ∧ fr.get (K.ofNat 6) = some (v) ∧ fr.get (K.ofNat 7) = some (.i .i64 (L.length : Int)) ∧ fr.get (K.ofNat 8) = some (.i .i64 (i : Int))
theorem f83_ret {h : H} {v : V} {L : List Nat} (hs : Sl nE h v L) (hsm : Small L) (hn : L.length ≤ 1000) :
    Ret fs f83 [v] h fun u h' => u = .i .i64 (joinS L : Int) ∧ h' = h := by
  apply ret_of rfl
  show W fs none f83_c _ _ _
  unfold f83_c
  simp (disch := omega) only [f83_r0, f83_r1, f83_r2, w_reg, w_seq, w_block, seqK_n, x_nil, x_mv, x_as, x_len, kx, rvP_ok, ev_t, ev_c, getV_some, putD_some, frame_1, of0, getK_set, Nat.reduceEqDiff, ↓reduceIte, hs.len]
  refine W_loop (f83_I h v L) (fun i => L.length - i) ?_ 0 ⟨rfl, Nat.zero_le _, by simp (disch := omega) only [Option.some.injEq, getK_set, Nat.reduceEqDiff, ↓reduceIte, and_self, Int.natCast_zero, List.take_zero]; simp [joinS]⟩
  rintro i fr h1 ⟨rfl, hi, g3, g6, g7, g8⟩
  unfold f83_l0
  by_cases hlt : i < L.length
  · have hlt' : (i : Int) < (L.length : Int) := by omega
    obtain ⟨q, hp1, hp2⟩ := hs.at i hlt
    have hx := hsm.at hlt
    have hj : joinS (L.take i) < 9223372036854775808 := joinS_lt fun y hy => hsm y (List.mem_of_mem_take hy)
    have hn : joinS (L.take (i + 1)) = joinS (L.take i) ||| L[i] := by rw [List.take_succ_eq_append_getElem hlt, joinS_snoc]
    simp (disch := omega) only [f83_r3, f83_r4, f83_r5, f83_r6, w_skip, w_reg, w_seq, w_cond, w_block, seqK_n, atK_n, loopK_n, ckB_b, cbB_b, true_and, x_nil, x_mv, x_as, x_ld, x_bin, x_iads, kx, rvP_ok, okv_some, ev_t, ev_c, getV_some, putD_some, bin_add, bin_lss, of1, getK_set, Nat.reduceEqDiff, ↓reduceIte, g3, g6, g7, g8, hlt', decide_true, hp1, hp2, nE, or_n hj hx, fw64]
    exact ⟨i + 1, by omega, rfl, hlt, by rw [hn]; simp (disch := omega) only [getK_set, Nat.reduceEqDiff, ↓reduceIte, g6, g7, and_self, Int.natCast_add, Int.natCast_one]⟩
  · obtain rfl : i = L.length := by omega
    have hlt' : ¬ (L.length : Int) < (L.length : Int) := by omega
    rw [List.take_length] at g3
    simp (disch := omega) only [f83_r3, f83_r7, f83_rs, w_reg, w_seq, w_cond, w_exit, w_ret, seqK_n, seqK_e, atK_e, loopK_e, ckB_b, cbB_b, retK_r, x_nil, x_mv, x_as, x_bin, kx, rvP_ok, okv_some, ev_t, getV_some, putD_some, bin_lss, oGet_s, readRs_nil, readRs_t, retV_1, Option.some.injEq, exists_eq_left', getK_set, Nat.reduceEqDiff, ↓reduceIte, Bool.false_eq_true, g3, g7, g8, hlt', decide_false, and_self]
theorem fill_2 {fr : Fr} {x y : EO} {z1 z2 : V} : fillE fr [z1, z2] [(0, 1, x), (1, 1, y)] = oGet (cellsN 1 (ev fr x)) none fun cs => oGet (cellsN 1 (ev fr y)) none fun ds => some (setMany (setMany [z1, z2] 0 cs) 1 ds) := of_eq_true (eq_self _)
theorem set_2 {z1 z2 a b : V} : setMany (setMany [z1, z2] 0 [a]) 1 [b] = [a, b] := of_eq_true (eq_self _)
theorem Sl.lit2 {α : Type} {e : α → V} {h : H} {x y : α} : Sl e (h.new (.cells (2 * 1) [e x, e y])) (.sl h.nx 0 2 1) [x, y] := by
  refine .inr ⟨h.nx, 0, 2 * 1, [e x, e y], rfl, get_new_same, rfl, by simp, fun i hi => ?_⟩
  have : i = 0 ∨ i = 1 := by simp at hi; omega
  rcases this with rfl | rfl <;> rfl
noncomputable def lk (B : Nat → Bool) (f x : Nat) : Bool := decide (x &&& f = 0) && B (x ||| f)
noncomputable def linkB (B : Nat → Bool) (f x : Nat) : Bool := decide (x ∈ mem64 B) && lk B f x
structure LnkI (b : Nat) (h : H) (B : Nat → Bool) (f : Nat) (id2 id3 id4 id5 idf idl : K) (A : Nat → Bool) (lb : Blk) (h1 : H) : Prop where
  gr : Grow b h h1
  e2 : h1.get id2 = .cells 64 (boolV B)
  e3 : h1.get id3 = .cells 1 [nE f]
  e4 : h1.get id4 = .cells 64 (List.replicate 64 (.b false))
  e5 : Ar V.b h1 id5 (arr A 64)
  ef : h1.get idf = .cells 64 (boolV B)
  el : h1.get idl = lb
  nx : idl.nat + 1 ≤ h1.nx.nat
  o2 : id2.nat < id3.nat
  o3 : id3.nat < id4.nat
  o4 : id4.nat < id5.nat
  o5 : id5.nat < idf.nat
  of : idf.nat < idl.nat
  ob : b ≤ id2.nat
section
variable {b : Nat} {h h1 h2 : H} {B A A' : Nat → Bool} {f : Nat} {id2 id3 id4 id5 idf idl : K} {lb : Blk}
theorem LnkI.loop (t : LnkI b h B f id2 id3 id4 id5 idf idl A lb h1) (lb' : Blk) : LnkI b h B f id2 id3 id4 id5 idf idl A lb' (h1.put idl lb') := by
  have := t.nx; have := t.o2; have := t.o3; have := t.o4; have := t.o5; have := t.of; have := t.ob
  exact ⟨t.gr.trans (Grow.put (by omega) (by omega) _), by rw [get_put_other (kNe (by omega))]; exact t.e2, by rw [get_put_other (kNe (by omega))]; exact t.e3, by rw [get_put_other (kNe (by omega))]; exact t.e4, t.e5.same (by rw [get_put_other (kNe (by omega))]), by rw [get_put_other (kNe (by omega))]; exact t.ef, get_put_same, t.nx, t.o2, t.o3, t.o4, t.o5, t.of, t.ob⟩
theorem LnkI.grow (t : LnkI b h B f id2 id3 id4 id5 idf idl A lb h1) (g : Grow h1.nx.nat h1 h2) : LnkI b h B f id2 id3 id4 id5 idf idl A lb h2 := by
  have := t.nx; have := t.o2; have := t.o3; have := t.o4; have := t.o5; have := t.of; have := t.ob; have := g.nx
  exact ⟨t.gr.trans (g.low (by omega)), by rw [g.old _ (by omega)]; exact t.e2, by rw [g.old _ (by omega)]; exact t.e3, by rw [g.old _ (by omega)]; exact t.e4, t.e5.same (by rw [g.old _ (by omega)]), by rw [g.old _ (by omega)]; exact t.ef, by rw [g.old _ (by omega)]; exact t.el, by omega, t.o2, t.o3, t.o4, t.o5, t.of, t.ob⟩
theorem LnkI.put (t : LnkI b h B f id2 id3 id4 id5 idf idl A lb h1) {cs : List V} (ha : Ar V.b (h1.put id5 (.cells 64 cs)) id5 (arr A' 64)) : LnkI b h B f id2 id3 id4 id5 idf idl A' lb (h1.put id5 (.cells 64 cs)) := by
  have := t.nx; have := t.o2; have := t.o3; have := t.o4; have := t.o5; have := t.of; have := t.ob
  exact ⟨t.gr.trans (Grow.put (by omega) (by omega) _), by rw [get_put_other (kNe (by omega))]; exact t.e2, by rw [get_put_other (kNe (by omega))]; exact t.e3, by rw [get_put_other (kNe (by omega))]; exact t.e4, ha, by rw [get_put_other (kNe (by omega)).symm]; exact t.ef, by rw [get_put_other (kNe (by omega)).symm]; exact t.el, t.nx, t.o2, t.o3, t.o4, t.o5, t.of, t.ob⟩
end
end
end Go.Ev
namespace Go.Ev
open Go Go.RowKit
noncomputable def f27_r0 : List EOper := [⟨(some (K.ofNat 6)), none, .as (.c .sn)⟩, ⟨(some (K.ofNat 7)), none, .as (.c (.i .i64 (.ofNat 0)))⟩]
noncomputable def f27_r1 : List EOper := [⟨(some (K.ofNat 10)), none, .mv (.t (K.ofNat 0))⟩, ⟨(some (K.ofNat 11)), none, .mv (.t (K.ofNat 1))⟩, ⟨(some (K.ofNat 12)), none, .call (.c (.fn (K.ofNat 16) [])) [(.t (K.ofNat 10)), (.t (K.ofNat 11))]⟩, ⟨(some (K.ofNat 8)), none, .as (.t (K.ofNat 12))⟩]
noncomputable def f27_r2 : List EOper := [⟨(some (K.ofNat 13)), none, .mv (.t (K.ofNat 8))⟩, ⟨(some (K.ofNat 14)), none, .bin .neq (.t (K.ofNat 13)) (.c (.i .i64 (.ofNat 0)))⟩]
noncomputable def f27_r3 : List EOper := [⟨(some (K.ofNat 15)), none, .mv (.t (K.ofNat 8))⟩, ⟨(some (K.ofNat 6)), none, .as (.c .sn)⟩, ⟨(some (K.ofNat 7)), none, .as (.t (K.ofNat 15))⟩]
noncomputable def f27_r4 : List EOper := [⟨(some (K.ofNat 16)), none, .mv (.t (K.ofNat 1))⟩, ⟨(some (K.ofNat 17)), none, .call (.c (.fn (K.ofNat 55) [])) [(.t (K.ofNat 16))]⟩, ⟨(some (K.ofNat 9)), none, .alloc 64 (List.replicate 64 (.b false))⟩, ⟨none, none, .st 64 (.t (K.ofNat 9)) (.t (K.ofNat 17))⟩]
noncomputable def f27_r5 : List EOper := [⟨(some (K.ofNat 18)), none, .mv (.t (K.ofNat 2))⟩, ⟨(some (K.ofNat 19)), none, .bin .lss (.t (K.ofNat 18)) (.c (.i .i64 (.ofNat 0)))⟩, ⟨(some (K.ofNat 20)), none, .mv (.t (K.ofNat 19))⟩, ⟨(some (K.ofNat 21)), (some ((K.ofNat 20), false)), .mv (.t (K.ofNat 2))⟩, ⟨(some (K.ofNat 22)), (some ((K.ofNat 20), false)), .bin .geq (.t (K.ofNat 21)) (.c (.i .i64 (.ofNat 64)))⟩, ⟨(some (K.ofNat 23)), none, .pick (.t (K.ofNat 20)) (.c (.b true)) (.t (K.ofNat 22))⟩, ⟨(some (K.ofNat 24)), none, .mv (.t (K.ofNat 23))⟩, ⟨(some (K.ofNat 25)), (some ((K.ofNat 24), false)), .mv (.t (K.ofNat 2))⟩, ⟨(some (K.ofNat 26)), (some ((K.ofNat 24), false)), .iadr 64 1 (.t (K.ofNat 9)) (.t (K.ofNat 25))⟩, ⟨(some (K.ofNat 27)), (some ((K.ofNat 24), false)), .ld (.t (K.ofNat 26))⟩, ⟨(some (K.ofNat 28)), (some ((K.ofNat 24), false)), .not (.t (K.ofNat 27))⟩, ⟨(some (K.ofNat 29)), none, .pick (.t (K.ofNat 24)) (.c (.b true)) (.t (K.ofNat 28))⟩]
noncomputable def f27_r6 : List EOper := [⟨(some (K.ofNat 6)), none, .as (.c .sn)⟩, ⟨(some (K.ofNat 7)), none, .as (.c (.i .i64 (.ofNat 1)))⟩]
noncomputable def f27_r7 : List EOper := [⟨(some (K.ofNat 30)), none, .ldn 64 (.t (K.ofNat 9))⟩, ⟨(some (K.ofNat 31)), none, .mv (.t (K.ofNat 2))⟩, ⟨(some (K.ofNat 32)), none, .call (.c (.fn (K.ofNat 65) [])) [(.t (K.ofNat 30)), (.t (K.ofNat 31))]⟩, ⟨(some (K.ofNat 33)), none, .call (.c (.fn (K.ofNat 66) [])) [(.t (K.ofNat 32))]⟩, ⟨(some (K.ofNat 6)), none, .as (.t (K.ofNat 33))⟩, ⟨(some (K.ofNat 7)), none, .as (.c (.i .i64 (.ofNat 0)))⟩]
noncomputable def f27_c : EC := (.seq (.reg f27_r0) (.seq (.seq (.reg f27_r1) (.seq (.reg f27_r2) (.cond (.t (K.ofNat 14)) (.seq (.reg f27_r3) .ret) .skip))) (.seq (.reg f27_r4) (.seq (.seq (.reg f27_r5) (.cond (.t (K.ofNat 29)) (.seq (.reg f27_r6) .ret) .skip)) (.seq (.reg f27_r7) .ret)))))
noncomputable def f27 : EF := ⟨34, [.tmp (K.ofNat 6), .tmp (K.ofNat 7)], f27_c, none⟩
noncomputable def f46_r0 : List EOper := [⟨(some (K.ofNat 6)), none, .as (.c .sn)⟩]
noncomputable def f46_r1 : List EOper := [⟨(some (K.ofNat 7)), none, .as (.c .sn)⟩]
noncomputable def f46_r2 : List EOper := [⟨(some (K.ofNat 8)), none, .as (.c (.i .i64 (.ofNat 0)))⟩]
noncomputable def f46_r3 : List EOper := [⟨(some (K.ofNat 9)), none, .mv (.t (K.ofNat 8))⟩, ⟨(some (K.ofNat 10)), none, .mv (.t (K.ofNat 0))⟩, ⟨(some (K.ofNat 11)), none, .bin .shl (.c (.i .i64 (.ofNat 1))) (.t (K.ofNat 10))⟩, ⟨(some (K.ofNat 12)), none, .bin .lss (.t (K.ofNat 9)) (.t (K.ofNat 11))⟩]
noncomputable def f46_r4 : List EOper := [⟨(some (K.ofNat 15)), none, .mv (.t (K.ofNat 8))⟩, ⟨(some (K.ofNat 16)), none, .mv (.t (K.ofNat 2))⟩, ⟨(some (K.ofNat 17)), none, .bin .and (.t (K.ofNat 15)) (.t (K.ofNat 16))⟩, ⟨(some (K.ofNat 18)), none, .bin .eql (.t (K.ofNat 17)) (.c (.i .i64 (.ofNat 0)))⟩, ⟨(some (K.ofNat 19)), none, .mv (.t (K.ofNat 18))⟩, ⟨(some (K.ofNat 20)), (some ((K.ofNat 19), true)), .mv (.t (K.ofNat 1))⟩, ⟨(some (K.ofNat 21)), (some ((K.ofNat 19), true)), .mv (.t (K.ofNat 8))⟩, ⟨(some (K.ofNat 22)), (some ((K.ofNat 19), true)), .mv (.t (K.ofNat 2))⟩, ⟨(some (K.ofNat 23)), (some ((K.ofNat 19), true)), .bin .or (.t (K.ofNat 21)) (.t (K.ofNat 22))⟩, ⟨(some (K.ofNat 24)), (some ((K.ofNat 19), true)), .call (.c (.fn (K.ofNat 45) [])) [(.t (K.ofNat 20)), (.t (K.ofNat 23))]⟩, ⟨(some (K.ofNat 25)), none, .pick (.t (K.ofNat 19)) (.t (K.ofNat 24)) (.c (.b false))⟩]
noncomputable def f46_r5 : List EOper := [⟨(some (K.ofNat 26)), none, .mv (.t (K.ofNat 7))⟩, ⟨(some (K.ofNat 27)), none, .mv (.t (K.ofNat 8))⟩, ⟨(some (K.ofNat 28)), none, .bslice 1 1 [(.i .i64 (.ofNat 0))] [(0, 1, (.t (K.ofNat 27)))]⟩, ⟨(some (K.ofNat 29)), none, .app 1 (.t (K.ofNat 26)) (.t (K.ofNat 28))⟩, ⟨(some (K.ofNat 7)), none, .as (.t (K.ofNat 29))⟩]
noncomputable def f46_r6 : List EOper := [⟨(some (K.ofNat 13)), none, .mv (.t (K.ofNat 8))⟩, ⟨(some (K.ofNat 14)), none, .bin .add (.t (K.ofNat 13)) (.c (.i .i64 (.ofNat 1)))⟩, ⟨(some (K.ofNat 8)), none, .as (.t (K.ofNat 14))⟩]
noncomputable def f46_l0 : EC := (.seq (.seq (.reg f46_r3) (.cond (.t (K.ofNat 12)) .skip (.exit 0))) (.seq (.block 1 (.seq (.reg f46_r4) (.cond (.t (K.ofNat 25)) (.reg f46_r5) .skip))) (.reg f46_r6)))
noncomputable def f46_r7 : List EOper := [⟨(some (K.ofNat 30)), none, .mv (.t (K.ofNat 7))⟩, ⟨(some (K.ofNat 31)), none, .call (.c (.fn (K.ofNat 49) [])) [(.t (K.ofNat 30))]⟩, ⟨(some (K.ofNat 6)), none, .as (.t (K.ofNat 31))⟩]
noncomputable def f46_c : EC := (.seq (.reg f46_r0) (.seq (.reg f46_r1) (.seq (.seq (.reg f46_r2) (.block 0 (.loop f46_l0))) (.seq (.reg f46_r7) .ret))))
noncomputable def f46 : EF := ⟨32, [.tmp (K.ofNat 6)], f46_c, none⟩
noncomputable def f68_r0 : List EOper := [⟨(some (K.ofNat 2)), none, .box 64 (.t (K.ofNat 0))⟩, ⟨(some (K.ofNat 4)), none, .alloc 64 (List.replicate 64 (.b false))⟩]
noncomputable def f68_r1 : List EOper := [⟨(some (K.ofNat 5)), none, .alloc 64 (List.replicate 64 (.b false))⟩]
noncomputable def f68_r2 : List EOper := [⟨(some (K.ofNat 8)), none, .mv (.t (K.ofNat 1))⟩, ⟨(some (K.ofNat 9)), none, .bin .shl (.c (.i .i64 (.ofNat 1))) (.t (K.ofNat 8))⟩, ⟨(some (K.ofNat 10)), none, .bin .sub (.t (K.ofNat 9)) (.c (.i .i64 (.ofNat 1)))⟩, ⟨(some (K.ofNat 6)), none, .as (.t (K.ofNat 10))⟩]
noncomputable def f68_r3 : List EOper := [⟨(some (K.ofNat 11)), none, .mv (.t (K.ofNat 6))⟩, ⟨(some (K.ofNat 12)), none, .bin .add (.t (K.ofNat 11)) (.c (.i .i64 (.ofNat 1)))⟩, ⟨(some (K.ofNat 13)), none, .mv (.c (.i .i64 (.ofNat 0)))⟩]
noncomputable def f68_r4 : List EOper := [⟨(some (K.ofNat 14)), none, .bin .lss (.t (K.ofNat 13)) (.t (K.ofNat 12))⟩]
noncomputable def f68_r5 : List EOper := [⟨(some (K.ofNat 15)), none, .mv (.t (K.ofNat 13))⟩, ⟨(some (K.ofNat 7)), none, .as (.t (K.ofNat 15))⟩]
noncomputable def f68_r6 : List EOper := [⟨(some (K.ofNat 16)), none, .mv (.t (K.ofNat 7))⟩, ⟨(some (K.ofNat 17)), none, .mv (.t (K.ofNat 6))⟩, ⟨(some (K.ofNat 18)), none, .mv (.t (K.ofNat 7))⟩, ⟨(some (K.ofNat 19)), none, .bin .andNot (.t (K.ofNat 17)) (.t (K.ofNat 18))⟩, ⟨(some (K.ofNat 20)), none, .iadr 64 1 (.t (K.ofNat 2)) (.t (K.ofNat 19))⟩, ⟨(some (K.ofNat 21)), none, .ld (.t (K.ofNat 20))⟩, ⟨(some (K.ofNat 22)), none, .not (.t (K.ofNat 21))⟩, ⟨(some (K.ofNat 23)), none, .iadr 64 1 (.t (K.ofNat 5)) (.t (K.ofNat 16))⟩, ⟨none, none, .st 1 (.t (K.ofNat 23)) (.t (K.ofNat 22))⟩]
noncomputable def f68_r7 : List EOper := [⟨(some (K.ofNat 24)), none, .bin .add (.t (K.ofNat 13)) (.c (.i .i64 (.ofNat 1)))⟩, ⟨(some (K.ofNat 13)), none, .mv (.t (K.ofNat 24))⟩]
noncomputable def f68_l0 : EC := (.seq (.reg f68_r4) (.seq (.cond (.t (K.ofNat 14)) .skip (.exit 0)) (.seq (.block 1 (.seq (.reg f68_r5) (.reg f68_r6))) (.reg f68_r7))))
noncomputable def f68_r8 : List EOper := [⟨(some (K.ofNat 25)), none, .ldn 64 (.t (K.ofNat 5))⟩, ⟨none, none, .st 64 (.t (K.ofNat 4)) (.t (K.ofNat 25))⟩]
noncomputable def f68_c : EC := (.seq (.reg f68_r0) (.seq (.reg f68_r1) (.seq (.reg f68_r2) (.seq (.seq (.reg f68_r3) (.block 0 (.loop f68_l0))) (.seq (.reg f68_r8) .ret)))))
noncomputable def f68 : EF := ⟨26, [.celln (K.ofNat 4) 64], f68_c, none⟩
noncomputable def f28_r0 : List EOper := [⟨(some (K.ofNat 4)), none, .as (.c .sn)⟩, ⟨(some (K.ofNat 5)), none, .as (.c (.i .i64 (.ofNat 0)))⟩]
noncomputable def f28_r1 : List EOper := [⟨(some (K.ofNat 7)), none, .mv (.t (K.ofNat 0))⟩, ⟨(some (K.ofNat 8)), none, .mv (.t (K.ofNat 1))⟩, ⟨(some (K.ofNat 9)), none, .call (.c (.fn (K.ofNat 16) [])) [(.t (K.ofNat 7)), (.t (K.ofNat 8))]⟩, ⟨(some (K.ofNat 6)), none, .as (.t (K.ofNat 9))⟩]
noncomputable def f28_r2 : List EOper := [⟨(some (K.ofNat 10)), none, .mv (.t (K.ofNat 6))⟩, ⟨(some (K.ofNat 11)), none, .bin .neq (.t (K.ofNat 10)) (.c (.i .i64 (.ofNat 0)))⟩]
noncomputable def f28_r3 : List EOper := [⟨(some (K.ofNat 12)), none, .mv (.t (K.ofNat 6))⟩, ⟨(some (K.ofNat 4)), none, .as (.c .sn)⟩, ⟨(some (K.ofNat 5)), none, .as (.t (K.ofNat 12))⟩]
noncomputable def f28_r4 : List EOper := [⟨(some (K.ofNat 13)), none, .mv (.t (K.ofNat 1))⟩, ⟨(some (K.ofNat 14)), none, .call (.c (.fn (K.ofNat 55) [])) [(.t (K.ofNat 13))]⟩, ⟨(some (K.ofNat 15)), none, .mv (.t (K.ofNat 0))⟩, ⟨(some (K.ofNat 16)), none, .call (.c (.fn (K.ofNat 68) [])) [(.t (K.ofNat 14)), (.t (K.ofNat 15))]⟩, ⟨(some (K.ofNat 17)), none, .call (.c (.fn (K.ofNat 67) [])) [(.t (K.ofNat 16))]⟩, ⟨(some (K.ofNat 18)), none, .ext (.t (K.ofNat 17)) 0⟩, ⟨(some (K.ofNat 19)), none, .ext (.t (K.ofNat 17)) 1⟩, ⟨(some (K.ofNat 4)), none, .as (.t (K.ofNat 18))⟩, ⟨(some (K.ofNat 5)), none, .as (.t (K.ofNat 19))⟩]
noncomputable def f28_c : EC := (.seq (.reg f28_r0) (.seq (.seq (.reg f28_r1) (.seq (.reg f28_r2) (.cond (.t (K.ofNat 11)) (.seq (.reg f28_r3) .ret) .skip))) (.seq (.reg f28_r4) .ret)))
noncomputable def f28 : EF := ⟨20, [.tmp (K.ofNat 4), .tmp (K.ofNat 5)], f28_c, none⟩
noncomputable def f47_r0 : List EOper := [⟨(some (K.ofNat 4)), none, .as (.c .sn)⟩]
noncomputable def f47_r1 : List EOper := [⟨(some (K.ofNat 5)), none, .as (.c .sn)⟩]
noncomputable def f47_r2 : List EOper := [⟨(some (K.ofNat 8)), none, .mv (.t (K.ofNat 0))⟩, ⟨(some (K.ofNat 9)), none, .bin .shl (.c (.i .i64 (.ofNat 1))) (.t (K.ofNat 8))⟩, ⟨(some (K.ofNat 10)), none, .bin .sub (.t (K.ofNat 9)) (.c (.i .i64 (.ofNat 1)))⟩, ⟨(some (K.ofNat 6)), none, .as (.t (K.ofNat 10))⟩]
noncomputable def f47_r3 : List EOper := [⟨(some (K.ofNat 7)), none, .as (.c (.i .i64 (.ofNat 0)))⟩]
noncomputable def f47_r4 : List EOper := [⟨(some (K.ofNat 11)), none, .mv (.t (K.ofNat 7))⟩, ⟨(some (K.ofNat 12)), none, .mv (.t (K.ofNat 6))⟩, ⟨(some (K.ofNat 13)), none, .bin .leq (.t (K.ofNat 11)) (.t (K.ofNat 12))⟩]
noncomputable def f47_r5 : List EOper := [⟨(some (K.ofNat 16)), none, .mv (.t (K.ofNat 1))⟩, ⟨(some (K.ofNat 17)), none, .mv (.t (K.ofNat 6))⟩, ⟨(some (K.ofNat 18)), none, .mv (.t (K.ofNat 7))⟩, ⟨(some (K.ofNat 19)), none, .bin .andNot (.t (K.ofNat 17)) (.t (K.ofNat 18))⟩, ⟨(some (K.ofNat 20)), none, .call (.c (.fn (K.ofNat 45) [])) [(.t (K.ofNat 16)), (.t (K.ofNat 19))]⟩, ⟨(some (K.ofNat 21)), none, .not (.t (K.ofNat 20))⟩]
noncomputable def f47_r6 : List EOper := [⟨(some (K.ofNat 22)), none, .mv (.t (K.ofNat 5))⟩, ⟨(some (K.ofNat 23)), none, .mv (.t (K.ofNat 7))⟩, ⟨(some (K.ofNat 24)), none, .bslice 1 1 [(.i .i64 (.ofNat 0))] [(0, 1, (.t (K.ofNat 23)))]⟩, ⟨(some (K.ofNat 25)), none, .app 1 (.t (K.ofNat 22)) (.t (K.ofNat 24))⟩, ⟨(some (K.ofNat 5)), none, .as (.t (K.ofNat 25))⟩]
noncomputable def f47_r7 : List EOper := [⟨(some (K.ofNat 14)), none, .mv (.t (K.ofNat 7))⟩, ⟨(some (K.ofNat 15)), none, .bin .add (.t (K.ofNat 14)) (.c (.i .i64 (.ofNat 1)))⟩, ⟨(some (K.ofNat 7)), none, .as (.t (K.ofNat 15))⟩]
noncomputable def f47_l0 : EC := (.seq (.seq (.reg f47_r4) (.cond (.t (K.ofNat 13)) .skip (.exit 0))) (.seq (.block 1 (.seq (.reg f47_r5) (.cond (.t (K.ofNat 21)) (.reg f47_r6) .skip))) (.reg f47_r7)))
noncomputable def f47_r8 : List EOper := [⟨(some (K.ofNat 26)), none, .mv (.t (K.ofNat 5))⟩, ⟨(some (K.ofNat 27)), none, .call (.c (.fn (K.ofNat 49) [])) [(.t (K.ofNat 26))]⟩, ⟨(some (K.ofNat 4)), none, .as (.t (K.ofNat 27))⟩]
noncomputable def f47_c : EC := (.seq (.reg f47_r0) (.seq (.reg f47_r1) (.seq (.reg f47_r2) (.seq (.seq (.reg f47_r3) (.block 0 (.loop f47_l0))) (.seq (.reg f47_r8) .ret)))))
noncomputable def f47 : EF := ⟨28, [.tmp (K.ofNat 4)], f47_c, none⟩
section
variable {fs : T EF} {ro : Option K}
/-- Is it no face? -/
noncomputable def badF (B : Nat → Bool) (f : Int) : Bool := decide (f < 0) || (decide (64 ≤ f) || !B f.toNat)
noncomputable def lkR (S : List Int) (f i : Nat) : List Int := ((List.range i).filter fun (x : Nat) => decide (x &&& f = 0) && isF S ((x ||| f : Nat) : Int)).map fun (k : Nat) => (k : Int)
noncomputable def dualTo (B : Nat → Bool) (a i : Nat) (x : Nat) : Bool := decide (x < i) && !B (lessC a x)
theorem less_le {a x : Nat} : lessC a x ≤ a := by
  show a ^^^ (a &&& x) ≤ a
  have : a ^^^ (a &&& x) = a &&& (a ^^^ (a &&& x)) := by
    apply Nat.eq_of_testBit_eq
    intro i
    simp only [Nat.testBit_xor, Nat.testBit_and]
    cases a.testBit i <;> cases x.testBit i <;> rfl
  rw [this]; exact Nat.and_le_left
noncomputable def dualB (B : Nat → Bool) (a : Nat) : Nat → Bool := dualTo B a (a + 1)
noncomputable def duR (S : List Int) (a i : Nat) : List Int := ((List.range i).filter fun (x : Nat) => !isF S (lessC a x : Int)).map fun (k : Nat) => (k : Int)
end
end Go.Ev
namespace Go.Ev
open Go Go.RowKit
noncomputable def f58_r0 : List EOper := [⟨(some (K.ofNat 2)), none, .as (.c (.b false))⟩]
noncomputable def f58_r1 : List EOper := [⟨(some (K.ofNat 5)), none, .mv (.t (K.ofNat 0))⟩, ⟨(some (K.ofNat 6)), none, .len (.t (K.ofNat 5))⟩, ⟨(some (K.ofNat 7)), none, .mv (.c (.i .i64 (.ofNat 0)))⟩]
noncomputable def f58_r2 : List EOper := [⟨(some (K.ofNat 8)), none, .bin .lss (.t (K.ofNat 7)) (.t (K.ofNat 6))⟩]
noncomputable def f58_r3 : List EOper := [⟨(some (K.ofNat 9)), none, .iads 1 (.t (K.ofNat 5)) (.t (K.ofNat 7))⟩, ⟨(some (K.ofNat 10)), none, .ld (.t (K.ofNat 9))⟩, ⟨(some (K.ofNat 4)), none, .as (.t (K.ofNat 10))⟩]
noncomputable def f58_r4 : List Stage := [⟨[⟨(some (K.ofNat 11)), none, .mv (.t (K.ofNat 4))⟩, ⟨(some (K.ofNat 13)), none, .mv (.t (K.ofNat 0))⟩, ⟨(some (K.ofNat 14)), none, .iads 1 (.t (K.ofNat 13)) (.c (.i .i64 (.ofNat 0)))⟩, ⟨(some (K.ofNat 15)), none, .ld (.t (K.ofNat 14))⟩], [], (some ⟨(some (K.ofNat 12)), none, .call (.c (.fn (K.ofNat 75) [])) [(.t (K.ofNat 11))]⟩), []⟩, ⟨[], [⟨(some (K.ofNat 13)), none, .mv (.t (K.ofNat 0))⟩, ⟨(some (K.ofNat 14)), none, .iads 1 (.t (K.ofNat 13)) (.c (.i .i64 (.ofNat 0)))⟩, ⟨(some (K.ofNat 15)), none, .ld (.t (K.ofNat 14))⟩], (some ⟨(some (K.ofNat 16)), none, .call (.c (.fn (K.ofNat 75) [])) [(.t (K.ofNat 15))]⟩), []⟩, ⟨[⟨(some (K.ofNat 17)), none, .bin .neq (.t (K.ofNat 12)) (.t (K.ofNat 16))⟩], [], none, []⟩]
noncomputable def f58_r5 : List EOper := [⟨(some (K.ofNat 2)), none, .as (.c (.b false))⟩]
noncomputable def f58_r6 : List EOper := [⟨(some (K.ofNat 18)), none, .bin .add (.t (K.ofNat 7)) (.c (.i .i64 (.ofNat 1)))⟩, ⟨(some (K.ofNat 7)), none, .mv (.t (K.ofNat 18))⟩]
noncomputable def f58_l0 : EC := (.seq (.reg f58_r2) (.seq (.cond (.t (K.ofNat 8)) .skip (.exit 0)) (.seq (.block 1 (.seq (.reg f58_r3) (.seq (.draw f58_r4) (.cond (.t (K.ofNat 17)) (.seq (.reg f58_r5) .ret) .skip)))) (.reg f58_r6))))
noncomputable def f58_r7 : List EOper := [⟨(some (K.ofNat 2)), none, .as (.c (.b true))⟩]
noncomputable def f58_c : EC := (.seq (.reg f58_r0) (.seq (.seq (.reg f58_r1) (.block 0 (.loop f58_l0))) (.seq (.reg f58_r7) .ret)))
noncomputable def f58 : EF := ⟨19, [.tmp (K.ofNat 2)], f58_c, none⟩
theorem f58_rs : f58.rs = [.tmp (K.ofNat 2)] := of_eq_true (eq_self _)
noncomputable def f61_r0 : List EOper := [⟨(some (K.ofNat 2)), none, .box 1 (.t (K.ofNat 0))⟩, ⟨(some (K.ofNat 3)), none, .box 1 (.t (K.ofNat 1))⟩, ⟨(some (K.ofNat 4)), none, .as (.c (.i .i64 (.ofNat 0)))⟩]
noncomputable def f61_r1 : List EOper := [⟨(some (K.ofNat 5)), none, .alloc 1 [(.i .i64 (.ofNat 0))]⟩, ⟨none, none, .st 1 (.t (K.ofNat 5)) (.c (.i .i64 (.ofNat 0)))⟩]
noncomputable def f61_r2 : List EOper := [⟨(some (K.ofNat 9)), none, .ld (.t (K.ofNat 2))⟩, ⟨(some (K.ofNat 10)), none, .call (.c (.fn (K.ofNat 82) [])) [(.t (K.ofNat 9))]⟩]
noncomputable def f61_r3 : List EOper := [⟨(some (K.ofNat 6)), none, .as (.t (K.ofNat 11))⟩]
noncomputable def f61_a0 : EC := (.reg f61_r3)
noncomputable def f61_r4 : List EOper := [⟨(some (K.ofNat 12)), none, .ld (.t (K.ofNat 3))⟩, ⟨(some (K.ofNat 13)), none, .len (.t (K.ofNat 12))⟩, ⟨(some (K.ofNat 14)), none, .mv (.c (.i .i64 (.ofNat 0)))⟩]
noncomputable def f61_r5 : List EOper := [⟨(some (K.ofNat 15)), none, .bin .lss (.t (K.ofNat 14)) (.t (K.ofNat 13))⟩]
noncomputable def f61_r6 : List EOper := [⟨(some (K.ofNat 16)), none, .iads 1 (.t (K.ofNat 12)) (.t (K.ofNat 14))⟩, ⟨(some (K.ofNat 17)), none, .ld (.t (K.ofNat 16))⟩, ⟨(some (K.ofNat 8)), none, .as (.t (K.ofNat 17))⟩]
noncomputable def f61_r7 : List EOper := [⟨(some (K.ofNat 18)), none, .ld (.t (K.ofNat 2))⟩, ⟨(some (K.ofNat 19)), none, .mv (.t (K.ofNat 6))⟩, ⟨(some (K.ofNat 20)), none, .bin .andNot (.t (K.ofNat 18)) (.t (K.ofNat 19))⟩, ⟨(some (K.ofNat 21)), none, .mv (.t (K.ofNat 8))⟩, ⟨(some (K.ofNat 22)), none, .call (.c (.fn (K.ofNat 54) [])) [(.t (K.ofNat 20)), (.t (K.ofNat 21))]⟩]
noncomputable def f61_r8 : List EOper := [⟨(some (K.ofNat 23)), none, .ld (.t (K.ofNat 5))⟩, ⟨(some (K.ofNat 24)), none, .mv (.t (K.ofNat 6))⟩, ⟨(some (K.ofNat 25)), none, .bslice 2 1 [(.i .i64 (.ofNat 0)), (.i .i64 (.ofNat 0))] [(0, 1, (.t (K.ofNat 23))), (1, 1, (.t (K.ofNat 24)))]⟩, ⟨(some (K.ofNat 26)), none, .call (.c (.fn (K.ofNat 83) [])) [(.t (K.ofNat 25))]⟩, ⟨none, none, .st 1 (.t (K.ofNat 5)) (.t (K.ofNat 26))⟩]
noncomputable def f61_r9 : List EOper := [⟨(some (K.ofNat 27)), none, .bin .add (.t (K.ofNat 14)) (.c (.i .i64 (.ofNat 1)))⟩, ⟨(some (K.ofNat 14)), none, .mv (.t (K.ofNat 27))⟩]
noncomputable def f61_l0 : EC := (.seq (.reg f61_r5) (.seq (.cond (.t (K.ofNat 15)) .skip (.exit 2)) (.seq (.block 3 (.seq (.reg f61_r6) (.seq (.reg f61_r7) (.cond (.t (K.ofNat 22)) (.reg f61_r8) .skip)))) (.reg f61_r9))))
noncomputable def f61_b0 : EC := (.block 1 (.seq (.reg f61_r4) (.block 2 (.loop f61_l0))))
noncomputable def f61_r10 : List EOper := [⟨(some (K.ofNat 28)), none, .ld (.t (K.ofNat 5))⟩, ⟨(some (K.ofNat 4)), none, .as (.t (K.ofNat 28))⟩]
noncomputable def f61_c : EC := (.seq (.reg f61_r0) (.seq (.reg f61_r1) (.seq (.seq (.reg f61_r2) (.block 0 (.rangeF (.t (K.ofNat 10)) [(K.ofNat 11)] f61_a0 f61_b0))) (.seq (.reg f61_r10) .ret))))
noncomputable def f61 : EF := ⟨29, [.tmp (K.ofNat 4)], f61_c, none⟩
theorem f61_rs : f61.rs = [.tmp (K.ofNat 4)] := of_eq_true (eq_self _)
noncomputable def f80_r0 : List EOper := [⟨(some (K.ofNat 4)), none, .as (.c (.b false))⟩]
noncomputable def f80_r1 : List EOper := [⟨(some (K.ofNat 8)), none, .mv (.t (K.ofNat 0))⟩, ⟨(some (K.ofNat 9)), none, .mv (.t (K.ofNat 1))⟩, ⟨(some (K.ofNat 10)), none, .call (.c (.fn (K.ofNat 61) [])) [(.t (K.ofNat 8)), (.t (K.ofNat 9))]⟩, ⟨(some (K.ofNat 5)), none, .as (.t (K.ofNat 10))⟩]
noncomputable def f80_r2 : List EOper := [⟨(some (K.ofNat 11)), none, .mv (.t (K.ofNat 1))⟩, ⟨(some (K.ofNat 12)), none, .len (.t (K.ofNat 11))⟩, ⟨(some (K.ofNat 13)), none, .mv (.c (.i .i64 (.ofNat 0)))⟩]
noncomputable def f80_r3 : List EOper := [⟨(some (K.ofNat 14)), none, .bin .lss (.t (K.ofNat 13)) (.t (K.ofNat 12))⟩]
noncomputable def f80_r4 : List EOper := [⟨(some (K.ofNat 15)), none, .iads 1 (.t (K.ofNat 11)) (.t (K.ofNat 13))⟩, ⟨(some (K.ofNat 16)), none, .ld (.t (K.ofNat 15))⟩, ⟨(some (K.ofNat 7)), none, .as (.t (K.ofNat 16))⟩]
noncomputable def f80_r5 : List EOper := [⟨(some (K.ofNat 17)), none, .mv (.t (K.ofNat 5))⟩, ⟨(some (K.ofNat 18)), none, .mv (.t (K.ofNat 7))⟩, ⟨(some (K.ofNat 19)), none, .call (.c (.fn (K.ofNat 54) [])) [(.t (K.ofNat 17)), (.t (K.ofNat 18))]⟩]
noncomputable def f80_r6 : List EOper := [⟨(some (K.ofNat 4)), none, .as (.c (.b false))⟩]
noncomputable def f80_r7 : List EOper := [⟨(some (K.ofNat 20)), none, .bin .add (.t (K.ofNat 13)) (.c (.i .i64 (.ofNat 1)))⟩, ⟨(some (K.ofNat 13)), none, .mv (.t (K.ofNat 20))⟩]
noncomputable def f80_l0 : EC := (.seq (.reg f80_r3) (.seq (.cond (.t (K.ofNat 14)) .skip (.exit 0)) (.seq (.block 1 (.seq (.reg f80_r4) (.seq (.reg f80_r5) (.cond (.t (K.ofNat 19)) (.seq (.reg f80_r6) .ret) .skip)))) (.reg f80_r7))))
noncomputable def f80_r8 : List EOper := [⟨(some (K.ofNat 4)), none, .as (.c (.b true))⟩]
noncomputable def f80_c : EC := (.seq (.reg f80_r0) (.seq (.reg f80_r1) (.seq (.seq (.reg f80_r2) (.block 0 (.loop f80_l0))) (.seq (.reg f80_r8) .ret))))
noncomputable def f80 : EF := ⟨21, [.tmp (K.ofNat 4)], f80_c, none⟩
theorem f80_rs : f80.rs = [.tmp (K.ofNat 4)] := of_eq_true (eq_self _)
section
variable {fs : T EF} {ro : Option K}
noncomputable def pureS (S : List Int) : Bool := S.all fun s => decide (pop6 s.toNat = pop6 (S.headD 0).toNat)
def f58_I (h : H) (v : V) (S : List Int) (i : Nat) (fr : Fr) (h1 : H) : Prop := h1 = h ∧ i ≤ S.length ∧ (S.take i).all (fun s => decide (pop6 s.toNat = pop6 (S.headD 0).toNat)) = true ∧ fr.get (K.ofNat 0) = some (v) ∧ fr.get (K.ofNat 5) = some (v) ∧ fr.get (K.ofNat 6) = some (.i .i64 (S.length : Int)) ∧ fr.get (K.ofNat 7) = some (.i .i64 (i : Int))
theorem f58_ret {h : H} {v : V} {S : List Int} (hp75 : ∀ m : Nat, m < 64 → ∀ h P, CallP fs (.fn (K.ofNat 75) []) [.i .i64 (m : Int)] h P = P (.i .i64 (pop6 m : Int)) h)
    (hv : Sl iE h v S) (hS : S.length ≤ 1000000) (hsets : Sets S) :
    Ret fs f58 [v] h fun u h' => u = .b (pureS S) ∧ h' = h := by
  apply ret_of rfl
  show W fs none f58_c _ _ _
  unfold f58_c
  simp (disch := omega) only [f58_r0, f58_r1, w_reg, w_seq, w_block, seqK_n, x_nil, x_mv, x_as, x_len, kx, rvP_ok, ev_t, ev_c, getV_some, putD_some, frame_1, of0, getK_set, Nat.reduceEqDiff, ↓reduceIte, hv.len]
  refine W_loop (f58_I h v S) (fun i => S.length - i) ?_ 0 ⟨rfl, Nat.zero_le _, by simp, by simp (disch := omega) only [getK_set, Nat.reduceEqDiff, ↓reduceIte, and_self, Int.natCast_zero]⟩
  rintro i fr h1 ⟨rfl, hi, hal, g0, g5, g6, g7⟩
  unfold f58_l0
  by_cases hlt : i < S.length
  · have hlt' : (i : Int) < (S.length : Int) := by omega
    obtain ⟨p, hp1, hp2⟩ := hv.at i hlt
    obtain ⟨q, hq1, hq2, hq3⟩ := hv.atb 0 (by omega)
    have hq1' : ∀ k h1, iadsV 1 v (.i k 0) h1 = .ok q h1 := fun k h1 => hq1 k h1
    obtain ⟨a, ha, hae⟩ := hsets S[i] (List.getElem_mem hlt)
    obtain ⟨b, hb, hbe⟩ := hsets S[0] (List.getElem_mem (by omega))
    have hd : S.headD 0 = S[0] := by cases S with | nil => simp at hlt | cons x l => rfl
    have hs := all_snoc (p := fun s => decide (pop6 s.toNat = pop6 (S.headD 0).toNat)) hlt
    rw [hal, Bool.true_and] at hs
    simp only [hd, hae, hbe, Int.toNat_natCast] at hs
    rw [hae] at hp2
    rw [hbe] at hq2
    by_cases e : pop6 a = pop6 b
    · have e' : ¬ ((pop6 a : Nat) : Int) ≠ ((pop6 b : Nat) : Int) := by omega
      rw [decide_eq_true e] at hs
      simp (disch := omega) only [f58_r2, f58_r3, f58_r4, f58_r6, w_skip, w_reg, w_draw, w_seq, w_cond, w_block, seqK_n, atK_n, loopK_n, ckB_b, cbB_b, true_and, x_nil, x_mv, x_as, x_ld, x_bin, x_iads, x_call, kx, kg, xg_nil, xg_mv, xg_ld, xg_bin, xg_iads, xd_cons, fresh_nil, stK_n, stK_s, stay_nil, stay_cons, again_ok, stay_mv, beq_i, stay_iads, stay_ld, rvP_ok, okv_some, ev_t, ev_c, evs_nil, evs_cons, getV_some, putD_some, bin_add, bin_neq, bin_lss, of0, of1, getK_set, Nat.reduceEqDiff, ↓reduceIte, Bool.false_eq_true, g0, g5, g6, g7, hlt', decide_true, hp1, hp2, iE, hq1', hq2, hq3, hv.beq, hp75 _ ha, hp75 _ hb, e', decide_false, and_self, fw64]
      exact ⟨i + 1, by omega, rfl, hlt, by rw [← hs]; simp only [hd, hbe, Int.toNat_natCast], by simp (disch := omega) only [getK_set, Nat.reduceEqDiff, ↓reduceIte, g0, g5, g6, and_self, Int.natCast_add, Int.natCast_one]⟩
    · have e' : ¬ ((pop6 a : Nat) : Int) = ((pop6 b : Nat) : Int) := by omega
      have hf : pureS S = false := by
        unfold pureS
        rw [List.all_eq_false]
        refine ⟨S[i], List.getElem_mem hlt, ?_⟩
        rw [hd, hae, hbe]
        simpa using e
      simp (disch := omega) only [f58_r2, f58_r3, f58_r4, f58_r5, f58_rs, w_skip, w_reg, w_draw, w_seq, w_cond, w_block, w_ret, seqK_n, seqK_r, atK_r, loopK_r, ckB_b, cbB_b, retK_r, x_nil, x_as, x_ld, x_bin, x_iads, x_call, kx, kg, xg_nil, xg_mv, xg_ld, xg_bin, xg_iads, xd_cons, fresh_nil, stK_n, stK_s, stay_nil, stay_cons, again_ok, stay_mv, beq_i, stay_iads, stay_ld, rvP_ok, okv_some, ev_t, ev_c, evs_nil, evs_cons, getV_some, putD_some, bin_neq, bin_lss, oGet_s, readRs_nil, readRs_t, retV_1, of0, Option.some.injEq, exists_eq_left', getK_set, Nat.reduceEqDiff, ↓reduceIte, g0, g5, g6, g7, hlt', decide_true, hp1, hp2, iE, hq1', hq2, hq3, hv.beq, hp75 _ ha, hp75 _ hb, ne_eq, e', not_false_eq_true, decide_true, hf, and_self]
  · obtain rfl : i = S.length := by omega
    have hlt' : ¬ (S.length : Int) < (S.length : Int) := by omega
    rw [List.take_length] at hal
    have hf : pureS S = true := hal
    simp (disch := omega) only [f58_r2, f58_r7, f58_rs, w_reg, w_seq, w_cond, w_exit, w_ret, seqK_n, seqK_e, atK_e, loopK_e, ckB_b, cbB_b, retK_r, x_nil, x_as, x_bin, kx, rvP_ok, okv_some, ev_t, ev_c, getV_some, putD_some, bin_lss, oGet_s, readRs_nil, readRs_t, retV_1, Option.some.injEq, exists_eq_left', getK_set, ↓reduceIte, Bool.false_eq_true, g6, g7, hlt', decide_false, hf, and_self]
/-- The new part: the corners whose opposite side lies in a piece before. -/
noncomputable def oppS (x c : Nat) (S : List Int) : Bool := S.any fun y => ptI (lessC x c : Int) y
noncomputable def npTo (x : Nat) (S : List Int) (j : Nat) : Nat := ((cornN x).take j).foldl (fun s c => if oppS x c S = true then s ||| c else s) 0
noncomputable def newPS (x : Nat) (S : List Int) : Nat := (cornN x).foldl (fun s c => if oppS x c S = true then s ||| c else s) 0
theorem npTo_succ {x : Nat} {S : List Int} {j : Nat} (hj : j < (cornN x).length) : npTo x S (j + 1) = if oppS x (cornN x)[j] S = true then npTo x S j ||| (cornN x)[j] else npTo x S j := by
  unfold npTo; rw [List.take_succ_eq_append_getElem hj, List.foldl_append]; rfl
theorem npTo_lt {x : Nat} {S : List Int} (hx : x < 64) : ∀ j, j ≤ (cornN x).length → npTo x S j < 64
  | 0, _ => by unfold npTo; simp
  | j + 1, hj => by
    rw [npTo_succ hj]
    have ih := npTo_lt (S := S) hx j (by omega)
    have h1 := (less_lt x hx _ (List.getElem_mem hj)).1
    split
    · exact Nat.or_lt_two_pow (n := 6) ih (by omega)
    · exact ih
structure NpI (b : Nat) (h : H) (id2 id3 id5 idf idl : K) (x : Nat) (v : V) (s : Nat) (lb : Blk) (h1 : H) : Prop where
  gr : Grow b h h1
  e2 : h1.get id2 = .cells 1 [nE x]
  e3 : h1.get id3 = .cells 1 [v]
  e5 : h1.get id5 = .cells 1 [nE s]
  ef : h1.get idf = .cells 1 [nE x]
  el : h1.get idl = lb
  nx : idl.nat + 1 ≤ h1.nx.nat
  o2 : id2.nat < id3.nat
  o3 : id3.nat < id5.nat
  o5 : id5.nat < idf.nat
  of : idf.nat < idl.nat
  ob : b ≤ id2.nat
section
variable {b : Nat} {h h1 h2 : H} {id2 id3 id5 idf idl : K} {x s s' : Nat} {v : V} {lb : Blk}
theorem NpI.loop (t : NpI b h id2 id3 id5 idf idl x v s lb h1) (lb' : Blk) : NpI b h id2 id3 id5 idf idl x v s lb' (h1.put idl lb') := by
  have := t.nx; have := t.o2; have := t.o3; have := t.o5; have := t.of; have := t.ob
  exact ⟨t.gr.trans (Grow.put (by omega) (by omega) _), by rw [get_put_other (kNe (by omega))]; exact t.e2, by rw [get_put_other (kNe (by omega))]; exact t.e3, by rw [get_put_other (kNe (by omega))]; exact t.e5, by rw [get_put_other (kNe (by omega))]; exact t.ef, get_put_same, t.nx, t.o2, t.o3, t.o5, t.of, t.ob⟩
theorem NpI.grow (t : NpI b h id2 id3 id5 idf idl x v s lb h1) (g : Grow h1.nx.nat h1 h2) : NpI b h id2 id3 id5 idf idl x v s lb h2 := by
  have := t.nx; have := t.o2; have := t.o3; have := t.o5; have := t.of; have := t.ob; have := g.nx
  exact ⟨t.gr.trans (g.low (by omega)), by rw [g.old _ (by omega)]; exact t.e2, by rw [g.old _ (by omega)]; exact t.e3, by rw [g.old _ (by omega)]; exact t.e5, by rw [g.old _ (by omega)]; exact t.ef, by rw [g.old _ (by omega)]; exact t.el, by omega, t.o2, t.o3, t.o5, t.of, t.ob⟩
theorem NpI.put (t : NpI b h id2 id3 id5 idf idl x v s lb h1) : NpI b h id2 id3 id5 idf idl x v s' lb (h1.put id5 (.cells 1 [nE s'])) := by
  have := t.nx; have := t.o2; have := t.o3; have := t.o5; have := t.of; have := t.ob
  exact ⟨t.gr.trans (Grow.put (by omega) (by omega) _), by rw [get_put_other (kNe (by omega))]; exact t.e2, by rw [get_put_other (kNe (by omega))]; exact t.e3, get_put_same, by rw [get_put_other (kNe (by omega)).symm]; exact t.ef, by rw [get_put_other (kNe (by omega)).symm]; exact t.el, t.nx, t.o2, t.o3, t.o5, t.of, t.ob⟩
end
def f61_I (b : Nat) (h : H) (id2 id3 id5 idf idl : K) (x c s0 : Nat) (v : V) (S : List Int) (lb : Blk) (j : Nat) (fr : Fr) (h1 : H) : Prop := j ≤ S.length ∧ NpI b h id2 id3 id5 idf idl x v (if oppS x c (S.take j) = true then s0 ||| c else s0) lb h1 ∧ fr.get (K.ofNat 2) = some (.p id2 0) ∧ fr.get (K.ofNat 3) = some (.p id3 0) ∧ fr.get (K.ofNat 5) = some (.p id5 0) ∧ fr.get (K.ofNat 6) = some (.i .i64 (c : Int)) ∧ fr.get (K.ofNat 12) = some (v) ∧ fr.get (K.ofNat 13) = some (.i .i64 (S.length : Int)) ∧ fr.get (K.ofNat 14) = some (.i .i64 (j : Int))
theorem f61_inner {Q : Ex → Fr → H → Prop} {h h0 : H} {id2 id3 id5 idf idl : K} {x c s0 : Nat} {v : V} {S : List Int} {lb : Blk} {fr : Fr}
    (hp : ∀ a b h P, CallP fs (.fn (K.ofNat 54) []) [.i .i64 a, .i .i64 b] h P = P (.b (ptI a b)) h) (h83 : fs.get (K.ofNat 83) = some f83) (hv : Sl iE h v S) (hc : HC h) (hS : S.length ≤ 1000000) (hx : x < 64) (hcl : c ≤ 32) (hs0 : s0 < 64)
    (hi : f61_I h.nx.nat h id2 id3 id5 idf idl x c s0 v S lb 0 fr h0)
    (hq : ∀ fr h1, NpI h.nx.nat h id2 id3 id5 idf idl x v (if oppS x c S = true then s0 ||| c else s0) lb h1 → fr.get (K.ofNat 2) = some (.p id2 0) ∧ fr.get (K.ofNat 3) = some (.p id3 0) ∧ fr.get (K.ofNat 5) = some (.p id5 0) → Q (.exit 2) fr h1) :
    W fs ro (.loop f61_l0) Q fr h0 := by
  refine W_loop (f61_I h.nx.nat h id2 id3 id5 idf idl x c s0 v S lb) (fun j => S.length - j) ?_ 0 hi
  clear hi fr h0
  rintro j fr h1 ⟨hj, ht, g2, g3, g5, g6, g12, g13, g14⟩
  have hc1 := ht.gr.hc hc
  have hv1 := hv.grow hc ht.gr
  unfold f61_l0
  by_cases hlt : j < S.length
  · have hlt' : (j : Int) < (S.length : Int) := by omega
    obtain ⟨p, hp1, hp2⟩ := hv1.at j hlt
    have ld2 : loadV h1 (.p id2 0) one? = .ok (.i .i64 (x : Int)) h1 := load_p ht.e2 rfl
    have hs : oppS x c (S.take (j + 1)) = (oppS x c (S.take j) || ptI (lessC x c : Int) S[j]) := any_snoc hlt
    cases e : ptI (lessC x c : Int) S[j]
    · rw [e, Bool.or_false] at hs
      simp (disch := omega) only [f61_r5, f61_r6, f61_r7, f61_r9, w_skip, w_reg, w_seq, w_cond, w_block, seqK_n, atK_n, loopK_n, ckB_b, cbB_b, true_and, x_nil, x_mv, x_as, x_ld, x_bin, x_iads, x_call, kx, rvP_ok, okv_some, ev_t, ev_c, evs_nil, evs_cons, getV_some, putD_some, bin_add, bin_lss, of1, getK_set, Nat.reduceEqDiff, ↓reduceIte, Bool.false_eq_true, g2, g6, g12, g13, g14, hlt', decide_true, hp1, hp2, iE, ld2, andNot_n (show x < 9223372036854775808 by omega) (show c < 9223372036854775808 by omega), hp, e, fw64]
      exact ⟨j + 1, by omega, hlt, by rw [hs]; exact ht, by simp (disch := omega) only [getK_set, Nat.reduceEqDiff, ↓reduceIte, g2, g3, g5, g6, g12, g13, and_self, Int.natCast_add, Int.natCast_one]⟩
    · rw [e, Bool.or_true] at hs
      -- what is there so far
      obtain ⟨s1, hs1, hs1l, hs1c⟩ : ∃ s1, (if oppS x c (S.take j) = true then s0 ||| c else s0) = s1 ∧ s1 < 64 ∧ s1 ||| c = s0 ||| c := by
        have h1 : s0 ||| c < 64 := Nat.or_lt_two_pow (n := 6) hs0 (by omega)
        by_cases e2 : oppS x c (S.take j) = true
        · exact ⟨_, rfl, by rw [if_pos e2]; exact h1, by rw [if_pos e2, Nat.or_assoc, Nat.or_self]⟩
        · exact ⟨_, rfl, by rw [if_neg e2]; exact hs0, by rw [if_neg e2]⟩
      rw [hs1] at ht
      have ld5 : loadV h1 (.p id5 0) one? = .ok (.i .i64 (s1 : Int)) h1 := load_p ht.e5 rfl
      have g8 : Grow h1.nx.nat h1 (h1.new (.cells (2 * 1) [nE s1, nE c])) := Grow.new (Nat.le_refl _) _
      have ht8 := ht.grow g8
      have hjn : joinS [s1, c] = s0 ||| c := by rw [← hs1c]; simp [joinS]
      simp (disch := omega) only [f61_r5, f61_r6, f61_r7, f61_r8, w_skip, w_reg, w_seq, w_cond, w_block, seqK_n, ckB_b, cbB_b, true_and, x_nil, x_mv, x_as, x_bslice, x_ld, x_bin, x_iads, x_call, kx, rvP_ok, okv_some, ev_t, ev_c, evs_nil, evs_cons, getV_some, putD_some, bin_lss, oGet_s, cells1_i, of0, getK_set, Nat.reduceEqDiff, ↓reduceIte, g2, g5, g6, g12, g13, g14, hlt', decide_true, hp1, hp2, iE, ld2, ld5, andNot_n (show x < 9223372036854775808 by omega) (show c < 9223372036854775808 by omega), hp, e, fill_2, set_2]
      refine (callP_0 (ef := f83) h83 rfl (f83_ret (L := [s1, c]) (Sl.lit2 (e := nE)) (fun y hy => by simp at hy; omega) (by simp))).mono ?_
      rintro u h8 ⟨rfl, rfl⟩
      rw [show [nE s1, nE c] = [V.i .i64 (s1 : Int), V.i .i64 (c : Int)] from rfl] at *
      generalize h1.new (.cells (2 * 1) [V.i .i64 (s1 : Int), V.i .i64 (c : Int)]) = h8 at *
      have hst : storeV h8 1 (.p id5 0) (.i .i64 ((s0 ||| c : Nat) : Int)) = .ok undefV (h8.put id5 (.cells 1 [nE (s0 ||| c)])) := by
        rw [store_p ht8.e5 rfl (by omega)]; rfl
      simp (disch := omega) only [f61_r9, w_reg, seqK_n, atK_n, loopK_n, x_nil, x_mv, x_st, x_bin, kx, rvP_ok, okv_some, ev_t, ev_c, getV_some, putD_some, putD_none, bin_add, of1, getK_set, Nat.reduceEqDiff, ↓reduceIte, g5, g14, hjn, hst, fw64]
      exact ⟨j + 1, by omega, hlt, by rw [hs, if_pos rfl]; exact ht8.put, by simp (disch := omega) only [getK_set, Nat.reduceEqDiff, ↓reduceIte, g2, g3, g5, g6, g12, g13, and_self, Int.natCast_add, Int.natCast_one]⟩
  · obtain rfl : j = S.length := by omega
    have hlt' : ¬ (S.length : Int) < (S.length : Int) := by omega
    rw [List.take_length] at ht
    simp (disch := omega) only [f61_r5, w_reg, w_seq, w_cond, w_exit, seqK_n, seqK_e, loopK_e, ckB_b, cbB_b, true_and, x_nil, x_bin, kx, rvP_ok, okv_some, ev_t, getV_some, putD_some, bin_lss, getK_set, ↓reduceIte, Bool.false_eq_true, g13, g14, hlt', decide_false]
    exact hq _ _ ht (by simp (disch := omega) only [getK_set, Nat.reduceEqDiff, ↓reduceIte, g2, g3, g5, and_self])
theorem f61_ret {h : H} {x : Nat} {v : V} {S : List Int} {ef : EF} (hp : ∀ a b h P, CallP fs (.fn (K.ofNat 54) []) [.i .i64 a, .i .i64 b] h P = P (.b (ptI a b)) h)
    (h82 : fs.get (K.ofNat 82) = some f82) (h92 : fs.get (K.ofNat 92) = some coF) (h54 : fs.get (K.ofNat 54) = some ef) (hn : ef.nv = some (flatG partG)) (h83 : fs.get (K.ofNat 83) = some f83) (hv : Sl iE h v S) (hc : HC h) (hS : S.length ≤ 1000000) (hx : x < 64) :
    Ret fs f61 [nE x, v] h fun u h' => u = nE (newPS x S) ∧ Grow h.nx.nat h h' := by
  apply ret_of rfl
  show W fs none f61_c _ _ _
  unfold f61_c
  have hcn : cellsN 1 (nE x) = some [nE x] := rfl
  have g1 : Grow h.nx.nat h (h.new (.cells 1 [nE x])) := Grow.new (Nat.le_refl _) _
  have n1 := nx_new h (.cells 1 [nE x])
  have e2 : (h.new (.cells 1 [nE x])).get h.nx = .cells 1 [nE x] := get_new_same
  have n2 := nx_new (h.new (.cells 1 [nE x])) (.cells 1 [v])
  have n3 := nx_new ((h.new (.cells 1 [nE x])).new (.cells 1 [v])) (.cells 1 [nE 0])
  have hu0 : V.i .i64 0 = nE 0 := rfl
  have st5 : storeV (((h.new (.cells 1 [nE x])).new (.cells 1 [v])).new (.cells 1 [nE 0])) 1 (.p ((h.new (.cells 1 [nE x])).new (.cells 1 [v])).nx 0) (nE 0) = .ok undefV ((((h.new (.cells 1 [nE x])).new (.cells 1 [v])).new (.cells 1 [nE 0])).put ((h.new (.cells 1 [nE x])).new (.cells 1 [v])).nx (.cells 1 [nE 0])) := by
    rw [store_p get_new_same rfl (by omega)]; rfl
  have ld2 : loadV ((((h.new (.cells 1 [nE x])).new (.cells 1 [v])).new (.cells 1 [nE 0])).put ((h.new (.cells 1 [nE x])).new (.cells 1 [v])).nx (.cells 1 [nE 0])) (.p h.nx 0) one? = .ok (nE x) _ := load_p (by rw [get_put_other (kNe (by omega)), get_new_old (by omega), get_new_old (by omega)]; exact e2) rfl
  simp (disch := omega) only [f61_r0, f61_r1, f61_r2, w_reg, w_seq, seqK_n, x_nil, x_as, x_alloc, x_box, x_ld, x_st, x_call, kx, rvP_ok, ev_t, ev_c, evs_nil, evs_cons, getV_some, putD_some, putD_none, oGet_s, frame_2, of0, getK_set, Nat.reduceEqDiff, ↓reduceIte, hcn, hv.one, hu0, st5, ld2]
  have e3 : ((((h.new (.cells 1 [nE x])).new (.cells 1 [v])).new (.cells 1 [nE 0])).put ((h.new (.cells 1 [nE x])).new (.cells 1 [v])).nx (.cells 1 [nE 0])).get (h.new (.cells 1 [nE x])).nx = .cells 1 [v] := by rw [get_put_other (kNe (by omega)), get_new_old (by omega), get_new_same]
  have e5 : ((((h.new (.cells 1 [nE x])).new (.cells 1 [v])).new (.cells 1 [nE 0])).put ((h.new (.cells 1 [nE x])).new (.cells 1 [v])).nx (.cells 1 [nE 0])).get ((h.new (.cells 1 [nE x])).new (.cells 1 [v])).nx = .cells 1 [nE 0] := get_put_same
  have e2' : ((((h.new (.cells 1 [nE x])).new (.cells 1 [v])).new (.cells 1 [nE 0])).put ((h.new (.cells 1 [nE x])).new (.cells 1 [v])).nx (.cells 1 [nE 0])).get h.nx = .cells 1 [nE x] := by rw [get_put_other (kNe (by omega)), get_new_old (by omega), get_new_old (by omega)]; exact e2
  have gg : Grow h.nx.nat h ((((h.new (.cells 1 [nE x])).new (.cells 1 [v])).new (.cells 1 [nE 0])).put ((h.new (.cells 1 [nE x])).new (.cells 1 [v])).nx (.cells 1 [nE 0])) := ((g1.trans (Grow.new (by omega) _)).trans (Grow.new (by omega) _)).trans (Grow.put (by omega) (by omega) _)
  have n4 : ((((h.new (.cells 1 [nE x])).new (.cells 1 [v])).new (.cells 1 [nE 0])).put ((h.new (.cells 1 [nE x])).new (.cells 1 [v])).nx (.cells 1 [nE 0])).nx.nat = (((h.new (.cells 1 [nE x])).new (.cells 1 [v])).new (.cells 1 [nE 0])).nx.nat := rfl
  generalize (((h.new (.cells 1 [nE x])).new (.cells 1 [v])).new (.cells 1 [nE 0])).put ((h.new (.cells 1 [nE x])).new (.cells 1 [v])).nx (.cells 1 [nE 0]) = h4 at *
  generalize hid5 : ((h.new (.cells 1 [nE x])).new (.cells 1 [v])).nx = id5 at *
  generalize hid3 : (h.new (.cells 1 [nE x])).nx = id3 at *
  refine (callP_0 (ef := f82) h82 rfl (f82_ret (x := (x : Int)))).mono ?_
  rintro u h3 ⟨rfl, rfl⟩
  simp (disch := omega) only [w_block, seqK_n, x_nil, kx, putD_some]
  have n5 := nx_new h4 (.cells 1 [nE x])
  have ga : Grow h4.nx.nat h4 (h4.new (.cells 1 [nE x])) := Grow.new (Nat.le_refl _) _
  have ef : (h4.new (.cells 1 [nE x])).get h4.nx = .cells 1 [nE x] := get_new_same
  rw [← ga.old _ (by omega)] at e2' e3 e5
  replace gg := gg.trans (ga.low (b := h.nx.nat) (by omega))
  rw [show V.i .i64 (x : Int) = nE x from rfl]
  generalize hh5 : h4.new (.cells 1 [nE x]) = h5 at *
  generalize hfr1 : T.set (K.ofNat 10) (V.fn (K.ofNat 92) [V.p h4.nx 0]) _ = fr1
  have f10 : fr1.get (K.ofNat 10) = some (.fn (K.ofNat 92) [.p h4.nx 0]) := by rw [← hfr1]; simp (disch := omega) only [getK_set, ↓reduceIte]
  have f2 : fr1.get (K.ofNat 2) = some (.p h.nx 0) := by rw [← hfr1]; simp (disch := omega) only [getK_set, Nat.reduceEqDiff, ↓reduceIte]
  have f3 : fr1.get (K.ofNat 3) = some (.p id3 0) := by rw [← hfr1]; simp (disch := omega) only [getK_set, Nat.reduceEqDiff, ↓reduceIte]
  have f5 : fr1.get (K.ofNat 5) = some (.p id5 0) := by rw [← hfr1]; simp (disch := omega) only [getK_set, Nat.reduceEqDiff, ↓reduceIte]
  clear hfr1
  have n6 := nx_new h5 (rdyB fr1 [(K.ofNat 11)] f61_a0 f61_b0)
  have hnew : Grow h5.nx.nat h5 (h5.new (rdyB fr1 [(K.ofNat 11)] f61_a0 f61_b0)) := Grow.new (Nat.le_refl _) _
  have hy := corner_yields (fs := fs) (idp := h4.nx) (S := (x : Int)) h92 h54 hn
  rw [cornN_ys] at hy
  refine W_range (k := (K.ofNat 92)) (caps := [.p h4.nx 0]) (N := fun h => h.get h4.nx = .cells 1 [nE x]) (ys := (cornN x).map nE) rfl (by simp (disch := omega) only [ev_t, getV_some, f10]) hy
    (fun j h6 => ∃ lb, NpI h.nx.nat h h.nx id3 id5 h4.nx h5.nx x v (npTo x S j) lb h6) (fun _ _ => False) (fun i h5 ⟨lb, ht⟩ => ht.ef)
    ⟨_, gg.trans (hnew.low (by omega)), by rw [hnew.old _ (by omega)]; exact e2', by rw [hnew.old _ (by omega)]; exact e3, by rw [hnew.old _ (by omega)]; exact e5, by rw [hnew.old _ (by omega)]; exact ef, get_new_same, by omega, by omega, by omega, by omega, by omega, Nat.le_refl _⟩ ?_ ?_ (fun _ _ _ hf => hf.elim)
  · rintro j h6 hj ⟨lb, ht⟩ hrd
    have hj' : j < (cornN x).length := by simpa using hj
    obtain rfl : lb = rdyB fr1 [(K.ofNat 11)] f61_a0 f61_b0 := ht.el.symm.trans hrd
    rw [List.getElem_map]
    rw [show ∀ Q fr h, W fs (some h5.nx) f61_a0 Q fr h = X fs f61_r3 (Q .normal) fr h from fun _ _ _ => rfl]
    simp (disch := omega) only [f61_r3, rndA_n, x_nil, x_as, ev_t, getV_some, putD_some, getK_set, ↓reduceIte]
    refine ⟨ht.el, ?_⟩
    have ht7 := ht.loop (bsyB fr1 [(K.ofNat 11)] f61_a0 f61_b0)
    generalize h6.put h5.nx (bsyB fr1 [(K.ofNat 11)] f61_a0 f61_b0) = h7 at *
    obtain ⟨c1, c2⟩ := less_lt x hx _ (List.getElem_mem hj')
    have hs := npTo_succ (S := S) hj'
    have hb := npTo_lt (S := S) hx j (by omega)
    have ld3 : loadV h7 (.p id3 0) one? = .ok v h7 := load_p ht7.e3 rfl
    rw [show ∀ Q fr h, W fs (some h5.nx) f61_b0 Q fr h = X fs f61_r4 (seqK (W fs (some h5.nx) (.block 2 (.loop f61_l0))) (atK 1 Q) .normal) fr h from fun _ _ _ => rfl]
    simp (disch := omega) only [f61_r4, w_block, seqK_n, x_nil, x_mv, x_ld, x_len, kx, rvP_ok, ev_t, ev_c, getV_some, putD_some, of0, getK_set, Nat.reduceEqDiff, ↓reduceIte, f3, ld3, (hv.grow hc ht7.gr).len]
    refine f61_inner (h := h) (x := x) (c := (cornN x)[j]) (s0 := npTo x S j) (v := v) (S := S) hp h83 hv hc hS hx c1 hb ⟨Nat.zero_le _, by rw [List.take_zero, show oppS x (cornN x)[j] [] = false from rfl]; exact ht7, by simp (disch := omega) only [getK_set, Nat.reduceEqDiff, ↓reduceIte, f2, f3, f5, nE, and_self, Int.natCast_zero]⟩ ?_
    rintro fr h8 ht8 ⟨g2, g3, g5⟩
    rw [← hs] at ht8
    simp (disch := omega) only [atK_n, atK_e, rndK_n, ↓reduceIte]
    exact ⟨ht8.el, _, ht8.loop _⟩
  · rintro h6 ⟨lb, ht⟩
    have ht2 := ht.loop .dead
    rw [List.length_map, show npTo x S (cornN x).length = newPS x S by unfold npTo newPS; rw [List.take_length]] at ht2
    have ld5 : loadV (h6.put h5.nx .dead) (.p id5 0) one? = .ok (nE (newPS x S)) (h6.put h5.nx .dead) := load_p ht2.e5 rfl
    simp (disch := omega) only [f61_r10, f61_rs, w_reg, w_seq, w_ret, seqK_n, atK_n, true_and, retK_r, x_nil, x_as, x_ld, kx, rvP_ok, ev_t, getV_some, putD_some, oGet_s, readRs_nil, readRs_t, retV_1, Option.some.injEq, exists_eq_left', getK_set, ↓reduceIte, f5, ld5, true_and]
    exact ht2.gr
noncomputable def fitS (x : Nat) (S : List Int) : Bool := S.all fun y => !ptI (newPS x S : Int) y
def f80_I (h : H) (v : V) (S : List Int) (d : Nat) (i : Nat) (fr : Fr) (h1 : H) : Prop := h1 = h ∧ i ≤ S.length ∧ (S.take i).all (fun y => !ptI (d : Int) y) = true ∧ fr.get (K.ofNat 5) = some (.i .i64 (d : Int)) ∧ fr.get (K.ofNat 11) = some (v) ∧ fr.get (K.ofNat 12) = some (.i .i64 (S.length : Int)) ∧ fr.get (K.ofNat 13) = some (.i .i64 (i : Int))
theorem f80_ret {h : H} {x : Nat} {v : V} {S : List Int} {ef : EF} (hp : ∀ a b h P, CallP fs (.fn (K.ofNat 54) []) [.i .i64 a, .i .i64 b] h P = P (.b (ptI a b)) h)
    (h82 : fs.get (K.ofNat 82) = some f82) (h92 : fs.get (K.ofNat 92) = some coF) (h54 : fs.get (K.ofNat 54) = some ef) (hn : ef.nv = some (flatG partG)) (h83 : fs.get (K.ofNat 83) = some f83) (h61 : fs.get (K.ofNat 61) = some f61) (hv : Sl iE h v S) (hc : HC h) (hS : S.length ≤ 1000000) (hx : x < 64) :
    Ret fs f80 [.i .i64 (x : Int), v] h fun u h' => u = .b (fitS x S) ∧ Grow h.nx.nat h h' := by
  apply ret_of rfl
  show W fs none f80_c _ _ _
  unfold f80_c
  simp (disch := omega) only [f80_r0, f80_r1, w_reg, w_seq, seqK_n, x_nil, x_mv, x_as, x_call, ev_t, ev_c, evs_nil, evs_cons, getV_some, putD_some, frame_2, getK_set, Nat.reduceEqDiff, ↓reduceIte]
  refine (callP_0 (ef := f61) h61 rfl (f61_ret (x := x) hp h82 h92 h54 hn h83 hv hc hS hx)).mono ?_
  rintro u h1 ⟨rfl, g1⟩
  have hv1 := hv.grow hc g1
  rw [show nE (newPS x S) = V.i .i64 (newPS x S : Int) from rfl]
  simp (disch := omega) only [f80_r2, w_reg, w_seq, w_block, seqK_n, x_nil, x_mv, x_as, x_len, kx, rvP_ok, ev_t, ev_c, getV_some, putD_some, of0, getK_set, Nat.reduceEqDiff, ↓reduceIte, hv1.len]
  refine W_loop (f80_I h1 v S (newPS x S)) (fun i => S.length - i) ?_ 0 ⟨rfl, Nat.zero_le _, by simp, by simp (disch := omega) only [getK_set, Nat.reduceEqDiff, ↓reduceIte, and_self, Int.natCast_zero]⟩
  rintro i fr h2 ⟨rfl, hi, hal, g5, g11, g12, g13⟩
  unfold f80_l0
  by_cases hlt : i < S.length
  · have hlt' : (i : Int) < (S.length : Int) := by omega
    obtain ⟨p, hp1, hp2⟩ := hv1.at i hlt
    have hs := all_snoc (p := fun y => !ptI (newPS x S : Int) y) hlt
    rw [hal, Bool.true_and] at hs
    cases e : ptI (newPS x S : Int) S[i]
    · rw [e] at hs
      simp (disch := omega) only [f80_r3, f80_r4, f80_r5, f80_r7, w_skip, w_reg, w_seq, w_cond, w_block, seqK_n, atK_n, loopK_n, ckB_b, cbB_b, true_and, x_nil, x_mv, x_as, x_ld, x_bin, x_iads, x_call, kx, rvP_ok, okv_some, ev_t, ev_c, evs_nil, evs_cons, getV_some, putD_some, bin_add, bin_lss, of1, getK_set, Nat.reduceEqDiff, ↓reduceIte, Bool.false_eq_true, g5, g11, g12, g13, hlt', decide_true, hp1, hp2, iE, hp, e, fw64]
      exact ⟨i + 1, by omega, rfl, hlt, hs, by simp (disch := omega) only [getK_set, Nat.reduceEqDiff, ↓reduceIte, g5, g11, g12, and_self, Int.natCast_add, Int.natCast_one]⟩
    · have hf : fitS x S = false := by
        unfold fitS
        rw [List.all_eq_false]
        exact ⟨S[i], List.getElem_mem hlt, by rw [e]; simp⟩
      simp (disch := omega) only [f80_r3, f80_r4, f80_r5, f80_r6, f80_rs, w_skip, w_reg, w_seq, w_cond, w_block, w_ret, seqK_n, seqK_r, atK_r, loopK_r, ckB_b, cbB_b, true_and, retK_r, x_nil, x_mv, x_as, x_ld, x_bin, x_iads, x_call, kx, rvP_ok, okv_some, ev_t, ev_c, evs_nil, evs_cons, getV_some, putD_some, bin_lss, oGet_s, readRs_nil, readRs_t, retV_1, Option.some.injEq, exists_eq_left', getK_set, Nat.reduceEqDiff, ↓reduceIte, g5, g11, g12, g13, hlt', decide_true, hp1, hp2, iE, hp, e, hf, true_and]
      exact g1
  · obtain rfl : i = S.length := by omega
    have hlt' : ¬ (S.length : Int) < (S.length : Int) := by omega
    rw [List.take_length] at hal
    have hf : fitS x S = true := hal
    simp (disch := omega) only [f80_r3, f80_r8, f80_rs, w_reg, w_seq, w_cond, w_exit, w_ret, seqK_n, seqK_e, atK_e, loopK_e, ckB_b, cbB_b, true_and, retK_r, x_nil, x_as, x_bin, kx, rvP_ok, okv_some, ev_t, ev_c, getV_some, putD_some, bin_lss, oGet_s, readRs_nil, readRs_t, retV_1, Option.some.injEq, exists_eq_left', getK_set, ↓reduceIte, Bool.false_eq_true, g12, g13, hlt', decide_false, hf, true_and]
    exact g1
end
end Go.Ev
