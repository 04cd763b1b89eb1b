/-
  Functions of the seat: the search for collapses (findCollapses's closure).
  Functions of the seat: findCollapses, Collapse; collapsed and Left of no collapses.
  What passes Check is a complex.
  The law ShellsChecks.
-/
import Derived.Test.YtneacehpoaambaaPh
import Derived.Test.YtneacehpoaambaaPe
import Derived.Test.YtneacehpoaambaaPf
import Derived.Test.YtneacehpoaambaaPg
namespace Go.Ev
open Go Go.RowKit
noncomputable def f85_r0 : List EOper := [⟨(some (K.ofNat 4)), none, .box 64 (.t (K.ofNat 0))⟩, ⟨(some (K.ofNat 5)), none, .as (.c (.b false))⟩]
noncomputable def f85_r1 : List EOper := [⟨(some (K.ofNat 10)), none, .ldn 64 (.t (K.ofNat 4))⟩, ⟨(some (K.ofNat 11)), none, .call (.c (.fn (K.ofNat 86) [])) [(.t (K.ofNat 10))]⟩, ⟨(some (K.ofNat 6)), none, .alloc 1 [(.b false)]⟩, ⟨none, none, .st 1 (.t (K.ofNat 6)) (.t (K.ofNat 11))⟩]
noncomputable def f85_r2 : List EOper := [⟨(some (K.ofNat 12)), none, .ld (.t (K.ofNat 6))⟩, ⟨(some (K.ofNat 13)), none, .mv (.t (K.ofNat 12))⟩, ⟨(some (K.ofNat 14)), (some ((K.ofNat 13), false)), .ld (.t (K.ofNat 1))⟩, ⟨(some (K.ofNat 15)), (some ((K.ofNat 13), false)), .ldn 64 (.t (K.ofNat 4))⟩, ⟨(some (K.ofNat 16)), (some ((K.ofNat 13), false)), .look 67 (.many (List.replicate 64 none)) (.b false) (.t (K.ofNat 14)) (.t (K.ofNat 15)) false⟩, ⟨(some (K.ofNat 17)), none, .pick (.t (K.ofNat 13)) (.c (.b true)) (.t (K.ofNat 16))⟩]
noncomputable def f85_r3 : List EOper := [⟨(some (K.ofNat 18)), none, .ld (.t (K.ofNat 6))⟩, ⟨(some (K.ofNat 5)), none, .as (.t (K.ofNat 18))⟩]
noncomputable def f85_r4 : List EOper := [⟨(some (K.ofNat 19)), none, .ld (.t (K.ofNat 1))⟩, ⟨(some (K.ofNat 20)), none, .ldn 64 (.t (K.ofNat 4))⟩, ⟨none, none, .mupd 67 (.many (List.replicate 64 none)) (.t (K.ofNat 19)) (.t (K.ofNat 20)) (.c (.b true))⟩]
noncomputable def f85_r5 : List EOper := [⟨(some (K.ofNat 21)), none, .ldn 64 (.t (K.ofNat 4))⟩, ⟨(some (K.ofNat 22)), none, .call (.c (.fn (K.ofNat 78) [])) [(.t (K.ofNat 21))]⟩]
noncomputable def f85_r6 : List EOper := [⟨(some (K.ofNat 7)), none, .as (.t (K.ofNat 23))⟩]
noncomputable def f85_a0 : EC := (.reg f85_r6)
noncomputable def f85_r7 : List EOper := [⟨(some (K.ofNat 25)), none, .ldn 64 (.t (K.ofNat 4))⟩, ⟨(some (K.ofNat 26)), none, .mv (.t (K.ofNat 7))⟩, ⟨(some (K.ofNat 27)), none, .call (.c (.fn (K.ofNat 87) [])) [(.t (K.ofNat 25)), (.t (K.ofNat 26))]⟩, ⟨(some (K.ofNat 24)), none, .mv (.t (K.ofNat 27))⟩, ⟨(some (K.ofNat 28)), none, .ext (.t (K.ofNat 24)) 0⟩, ⟨(some (K.ofNat 29)), none, .ext (.t (K.ofNat 24)) 1⟩, ⟨(some (K.ofNat 8)), none, .alloc 2 [(.i .i64 (.ofNat 0)), (.i .i64 (.ofNat 0))]⟩, ⟨none, none, .st 2 (.t (K.ofNat 8)) (.t (K.ofNat 28))⟩, ⟨(some (K.ofNat 9)), none, .as (.t (K.ofNat 29))⟩]
noncomputable def f85_r8 : List EOper := [⟨(some (K.ofNat 30)), none, .mv (.t (K.ofNat 9))⟩, ⟨(some (K.ofNat 31)), none, .not (.t (K.ofNat 30))⟩]
noncomputable def f85_r9 : List EOper := [⟨(some (K.ofNat 32)), none, .ld (.t (K.ofNat 2))⟩, ⟨(some (K.ofNat 33)), none, .fadr 0 (.t (K.ofNat 8))⟩, ⟨(some (K.ofNat 34)), none, .ld (.t (K.ofNat 33))⟩, ⟨(some (K.ofNat 35)), none, .fadr 1 (.t (K.ofNat 8))⟩, ⟨(some (K.ofNat 36)), none, .ld (.t (K.ofNat 35))⟩, ⟨(some (K.ofNat 37)), none, .build [(.i .i64 (.ofNat 0)), (.i .i64 (.ofNat 0))] [(0, 1, (.t (K.ofNat 34))), (1, 1, (.t (K.ofNat 36)))]⟩, ⟨(some (K.ofNat 38)), none, .bslice 1 2 [(.i .i64 (.ofNat 0)), (.i .i64 (.ofNat 0))] [(0, 2, (.t (K.ofNat 37)))]⟩, ⟨(some (K.ofNat 39)), none, .app 2 (.t (K.ofNat 32)) (.t (K.ofNat 38))⟩, ⟨none, none, .st 1 (.t (K.ofNat 2)) (.t (K.ofNat 39))⟩]
noncomputable def f85_r10 : List Stage := [⟨[⟨(some (K.ofNat 40)), none, .ld (.t (K.ofNat 3))⟩, ⟨(some (K.ofNat 41)), none, .ldn 64 (.t (K.ofNat 4))⟩, ⟨(some (K.ofNat 42)), none, .ldn 2 (.t (K.ofNat 8))⟩], [], (some ⟨(some (K.ofNat 43)), none, .call (.c (.fn (K.ofNat 88) [])) [(.t (K.ofNat 41)), (.t (K.ofNat 42))]⟩), []⟩, ⟨[], [⟨(some (K.ofNat 40)), none, .ld (.t (K.ofNat 3))⟩], (some ⟨(some (K.ofNat 44)), none, .call (.t (K.ofNat 40)) [(.t (K.ofNat 43))]⟩), []⟩, ⟨[], [], none, []⟩]
noncomputable def f85_r11 : List EOper := [⟨none, none, .st 1 (.t (K.ofNat 6)) (.c (.b true))⟩]
noncomputable def f85_r12 : List EOper := [⟨(some (K.ofNat 45)), none, .ld (.t (K.ofNat 2))⟩, ⟨(some (K.ofNat 46)), none, .ld (.t (K.ofNat 2))⟩, ⟨(some (K.ofNat 47)), none, .len (.t (K.ofNat 46))⟩, ⟨(some (K.ofNat 48)), none, .bin .sub (.t (K.ofNat 47)) (.c (.i .i64 (.ofNat 1)))⟩, ⟨(some (K.ofNat 49)), none, .slice 2 (.t (K.ofNat 45)) none (some (.t (K.ofNat 48))) none⟩, ⟨none, none, .st 1 (.t (K.ofNat 2)) (.t (K.ofNat 49))⟩]
noncomputable def f85_b0 : EC := (.block 1 (.seq (.reg f85_r7) (.seq (.seq (.reg f85_r8) (.cond (.t (K.ofNat 31)) (.exit 1) .skip)) (.seq (.reg f85_r9) (.seq (.seq (.draw f85_r10) (.cond (.t (K.ofNat 44)) (.seq (.reg f85_r11) (.exit 0)) .skip)) (.reg f85_r12))))))
noncomputable def f85_r13 : List EOper := [⟨(some (K.ofNat 50)), none, .ld (.t (K.ofNat 6))⟩, ⟨(some (K.ofNat 5)), none, .as (.t (K.ofNat 50))⟩]
noncomputable def f85_c : EC := (.seq (.reg f85_r0) (.scope (.seq (.reg f85_r1) (.seq (.seq (.reg f85_r2) (.cond (.t (K.ofNat 17)) (.seq (.reg f85_r3) .ret) .skip)) (.seq (.reg f85_r4) (.seq .skip (.seq (.seq (.reg f85_r5) (.block 0 (.rangeF (.t (K.ofNat 22)) [(K.ofNat 23)] f85_a0 f85_b0))) (.seq (.reg f85_r13) .ret))))))))
noncomputable def f85 : EF := ⟨51, [.tmp (K.ofNat 5)], f85_c, none⟩
theorem f85_rs : f85.rs = [.tmp (K.ofNat 5)] := of_eq_true (eq_self _)
section
variable {fs : T EF} {ro : Option K}
/-- What the search needs to call. -/
structure Calls85 (fs : T EF) : Prop where
  p54 : ∀ a b h P, CallP fs (.fn (K.ofNat 54) []) [.i .i64 a, .i .i64 b] h P = P (.b (ptI a b)) h
  pt : ∃ ef, fs.get (K.ofNat 54) = some ef ∧ ef.nv = some (flatG partG)
  c55 : fs.get (K.ofNat 55) = some f55
  c78 : fs.get (K.ofNat 78) = some f78
  c82 : fs.get (K.ofNat 82) = some f82
  c85 : fs.get (K.ofNat 85) = some f85
  c86 : fs.get (K.ofNat 86) = some f86
  c87 : fs.get (K.ofNat 87) = some f87
  c88 : fs.get (K.ofNat 88) = some f88
  c91 : fs.get (K.ofNat 91) = some alF
  c92 : fs.get (K.ofNat 92) = some coF
structure Post85 (b c : Nat) (h0 : H) (d : CIds) (B : Nat → Bool) (M : List (List Bool)) (C : List (Nat × Nat)) (w : V) (h : H) (r : Bool) (h' : H) : Prop where
  ex : ∃ M' C' w', CSt b c h0 d M' C' w' h' ∧ KeptC c h w h' w' ∧ (r = true → ∃ D, C' = C ++ D ∧ SeqC B D) ∧ (r = false → C' = C ∧ MoreC M M' ∧ ¬ ToC B)
theorem beq_caps {d : CIds} {k : K} : beqV (.fn k (capsC d)) (.fn k (capsC d)) = true := by
  show (k.beq k && (beqV (.p d.T 0) (.p d.T 0) && (beqV (.p d.F 0) (.p d.F 0) && (beqV (.p d.W 0) (.p d.W 0) && true)))) = true
  have hp : ∀ k : K, beqV (.p k 0) (.p k 0) = true := fun k => by
    show (k.beq k && Nat.beq 0 0) = true
    rw [K.beq_refl]; rfl
  rw [hp, hp, hp, K.beq_refl]; rfl
theorem fill_p {fr : Fr} {x : EO} {z1 z2 a b : V} (hx : ev fr x = .agg [a, b]) : fillE fr [z1, z2] [(0, 2, x)] = some [a, b] := by
  show oGet (cellsN 2 (ev fr x)) none (fun cs => some (setMany [z1, z2] 0 cs)) = _
  rw [hx, cells2]; rfl
def f85_Q (b c : Nat) (h0 : H) (d : CIds) (B : Nat → Bool) (M : List (List Bool)) (C : List (Nat × Nat)) (w : V) (h : H) (id6 : K) (e : Ex) (h8 : H) : Prop := e = .exit 0 ∧ ∃ M1 C1 w1, CSt b c h0 d M1 C1 w1 h8 ∧ KeptC c h w h8 w1 ∧ h8.get id6 = .cells 1 [.b true] ∧ ∃ D, C1 = C ++ D ∧ SeqC B D
def f85_I (b c : Nat) (h0 : H) (d : CIds) (B : Nat → Bool) (M : List (List Bool)) (C : List (Nat × Nat)) (w : V) (h : H) (id4 id6 kf idl : K) (j : Nat) (h8 : H) : Prop := ∃ M1 w1 lb, FoI b c h0 d B M1 C w1 h w id4 id6 kf idl lb h8 ∧ MoreC (M ++ [arr B 64]) M1 ∧ ∀ x ∈ (mem64 B).take j, ∀ o, colS B (x : Int) = some o → ¬ ToC (lessB B x o)
theorem f85_body {b c : Nat} {h0 h : H} {d : CIds} {B : Nat → Bool} {M : List (List Bool)} {C : List (Nat × Nat)} {w : V} {id4 id6 kf idl : K} {fr1 : Fr} (k : Calls85 fs) (kd : CIdsOk b c d) (hc0 : HC h0) (hB : Low B) (hcard : C.length + card B ≤ 64) (tr : TrC M (card B))
    (f2 : fr1.get (K.ofNat 2) = some (.p d.F 0)) (f3 : fr1.get (K.ofNat 3) = some (.p d.W 0)) (f4 : fr1.get (K.ofNat 4) = some (.p id4 0)) (f6 : fr1.get (K.ofNat 6) = some (.p id6 0))
    (ih : ∀ (B2 : Nat → Bool) (M2 : List (List Bool)) (C2 : List (Nat × Nat)) (w2 : V) (h2 : H), card B2 < card B → Low B2 → C2.length + card B2 ≤ 64 → TrC M2 (card B2) → CSt b c h0 d M2 C2 w2 h2 → CallP fs (.fn (K.ofNat 85) (capsC d)) [.agg (boolV B2)] h2 fun r h' => ∃ x, r = .b x ∧ Post85 b c h0 d B2 M2 C2 w2 h2 x h')
    (j : Nat) (h8 : H) (hj : j < (mem64 B).length) (hi : f85_I b c h0 d B M C w h id4 id6 kf idl j h8) (hrd : h8.get idl = rdyB fr1 [(K.ofNat 23)] f85_a0 f85_b0) :
    W fs (some idl) f85_a0 (rndA fs idl fr1 [(K.ofNat 23)] f85_a0 f85_b0 (f85_I b c h0 d B M C w h id4 id6 kf idl (j + 1)) (f85_Q b c h0 d B M C w h id6)) (fr1.set (K.ofNat 23) (.i .i64 ((mem64 B)[j] : Int))) h8 := by
  obtain ⟨M1, w1, lb, ht, hmore, hno⟩ := hi
  obtain rfl : lb = rdyB fr1 [(K.ofNat 23)] f85_a0 f85_b0 := ht.el.symm.trans hrd
  have htk : (mem64 B).take (j + 1) = (mem64 B).take j ++ [(mem64 B)[j]] := List.take_succ_eq_append_getElem hj
  have hxm := List.getElem_mem hj
  generalize (mem64 B)[j] = x at *
  have hx64 : x < 64 := by
    unfold mem64 at hxm
    exact List.mem_range.1 (List.mem_filter.1 hxm).1
  rw [show ∀ Q fr h, W fs (some idl) f85_a0 Q fr h = X fs f85_r6 (Q .normal) fr h from fun _ _ _ => rfl]
  simp (disch := omega) only [f85_r6, rndA_n, x_nil, x_as, ev_t, getV_some, putD_some, getK_set, ↓reduceIte]
  refine ⟨ht.el, ?_⟩
  have ht9 := ht.loop kd (bsyB fr1 [(K.ofNat 23)] f85_a0 f85_b0)
  generalize h8.put idl (bsyB fr1 [(K.ofNat 23)] f85_a0 f85_b0) = h9 at *
  have hc9 := ht9.st.hc hc0
  have hA9 : Ar V.b h9 id4 (arr B 64) := by unfold Ar; rw [arr_len]; exact ht9.e4
  have ld9 := hA9.ldn (n := 64) (by rw [arr_len])
  rw [show ∀ Q fr h, W fs (some idl) f85_b0 Q fr h = W fs (some idl) (.block 1 (.seq (.reg f85_r7) (.seq (.seq (.reg f85_r8) (.cond (.t (K.ofNat 31)) (.exit 1) .skip)) (.seq (.reg f85_r9) (.seq (.seq (.draw f85_r10) (.cond (.t (K.ofNat 44)) (.seq (.reg f85_r11) (.exit 0)) .skip)) (.reg f85_r12)))))) Q fr h from fun _ _ _ => rfl]
  simp (disch := omega) only [f85_r7, w_reg, w_seq, w_block, x_mv, x_ldn, x_call, kx, rvP_ok, ev_t, ev_c, evs_nil, evs_cons, getV_some, putD_some, of0, getK_set, Nat.reduceEqDiff, ↓reduceIte, f4, ld9]
  refine (callP_0 (ef := f87) k.c87 rfl (f87_ret (B := B) (f := (x : Int)) k.p54 k.c78 k.c91 hc9)).mono ?_
  rintro u h10 ⟨rfl, g10⟩
  have n11 := nx_new h10 (.cells 2 [.i .i64 0, .i .i64 0])
  have g11 : Grow h10.nx.nat h10 (h10.new (.cells 2 [.i .i64 0, .i .i64 0])) := Grow.new (Nat.le_refl _) _
  have e11 : (h10.new (.cells 2 [.i .i64 0, .i .i64 0])).get h10.nx = .cells 2 [.i .i64 0, .i .i64 0] := get_new_same
  generalize hh11 : h10.new (.cells 2 [.i .i64 0, .i .i64 0]) = h11 at *
  have nx10 := g10.nx
  cases hcol : colS B (x : Int) with
  | none =>
    have hcv : colV B (x : Int) = .tup [.agg [.i .i64 0, .i .i64 0], .b false] := by unfold colV; rw [hcol]
    have s12 := st2 (c := .i .i64 0) (d := .i .i64 0) e11
    have g12 : Grow h9.nx.nat h9 (h11.put h10.nx (.cells 2 [.i .i64 0, .i .i64 0])) := g10.trans ((g11.low (by omega)).trans (Grow.put (by omega) (by omega) _))
    have ht12 := ht9.next (ht9.st.grow hc0 kd g12) (KeptC.grow g12)
    simp (disch := omega) only [f85_r8, w_reg, w_seq, w_cond, w_exit, seqK_n, seqK_e, atK_e, ckB_b, cbB_b, true_and, rndK_n, x_nil, x_mv, x_as, x_alloc, x_st, x_not, x_ext, kx, rvP_ok, okv_some, ev_t, getV_some, putD_some, putD_none, onB_b, onTup_t, nth0, nth1, getK_set, Nat.reduceEqDiff, ↓reduceIte, Bool.not_false, hcv, hh11, s12]
    refine ⟨ht12.el, M1, w1, _, ht12.loop kd _, hmore, fun y hy o ho => ?_⟩
    rw [htk] at hy
    rcases List.mem_append.1 hy with hy | hy
    · exact hno y hy o ho
    · rw [List.mem_singleton.1 hy, hcol] at ho; cases ho
  | some o =>
    obtain ⟨m, em, hm1, hm64, hBm, hov, ho64, hBo, hne⟩ := col_mem hcol
    obtain rfl : x = m := by omega
    have hcv : colV B (x : Int) = .tup [.agg [.i .i64 (x : Int), .i .i64 (o : Int)], .b true] := by unfold colV; rw [hcol]
    have s12 := st2 (c := .i .i64 (x : Int)) (d := .i .i64 (o : Int)) e11
    have e12 : (h11.put h10.nx (.cells 2 [.i .i64 (x : Int), .i .i64 (o : Int)])).get h10.nx = .cells 2 [.i .i64 (x : Int), .i .i64 (o : Int)] := get_put_same
    have n12 : (h11.put h10.nx (.cells 2 [.i .i64 (x : Int), .i .i64 (o : Int)])).nx.nat = h10.nx.nat + 1 := n11
    have g12 : Grow h9.nx.nat h9 (h11.put h10.nx (.cells 2 [.i .i64 (x : Int), .i .i64 (o : Int)])) := g10.trans ((g11.low (by omega)).trans (Grow.put (by omega) (by omega) _))
    have ht12 := ht9.next (ht9.st.grow hc0 kd g12) (KeptC.grow g12)
    have lw := ht9.st.sw.lt hc9
    simp (disch := omega) only [f85_r8, w_skip, w_reg, w_seq, w_cond, seqK_n, ckB_b, cbB_b, true_and, x_nil, x_mv, x_as, x_alloc, x_st, x_not, x_ext, kx, rvP_ok, okv_some, ev_t, getV_some, putD_some, putD_none, onB_b, onTup_t, nth0, nth1, getK_set, Nat.reduceEqDiff, ↓reduceIte, Bool.false_eq_true, Bool.not_true, hcv, hh11, s12]
    generalize h11.put h10.nx (.cells 2 [.i .i64 (x : Int), .i .i64 (o : Int)]) = h12 at *
    have hc12 := ht12.st.hc hc0
    obtain ⟨w2, h13, p1, p2, st13, kp13⟩ := ht12.st.push hc0 kd (x, o) (by omega)
    change appV 2 (h12.new (.cells (1 * 2) [.i .i64 (x : Int), .i .i64 (o : Int)])) w1 (.sl h12.nx 0 1 2) = _ at p1
    have e8n : NotIn h10.nx w1 := fun off n sz e => by have := lw _ _ _ _ e; omega
    have hnx9 := ht9.st.nx
    obtain ⟨q1, q2⟩ := kp13.2 h10.nx (by omega) (by omega) e8n
    have ht13 := ht12.next st13 kp13
    have fp : ∀ fr : Fr, fr.get (K.ofNat 37) = some (.agg [.i .i64 (x : Int), .i .i64 (o : Int)]) → fillE fr [.i .i64 0, .i .i64 0] [(0, 2, .t (K.ofNat 37))] = some [.i .i64 (x : Int), .i .i64 (o : Int)] := fun fr g => fill_p (by rw [ev_t, g]; rfl)
    simp (disch := omega) only [f85_r9, x_build, x_bslice, x_ld, x_fadr, kx, rvP_ok, ev_t, getV_some, putD_some, onP_p, oGet_s, cells1_i, of0, getK_set, Nat.reduceEqDiff, ↓reduceIte, f2, ht12.st.ldF, ld20 e12, ld21 e12, fill_2, set_2]
    rw [fp _ (by simp (disch := omega) only [getK_set, ↓reduceIte])]
    simp (disch := omega) only [w_draw, w_seq, seqK_n, x_nil, x_st, x_app, kx, rvP_ok, ev_t, getV_some, putD_some, putD_none, oGet_s, getK_set, Nat.reduceEqDiff, ↓reduceIte, f2, p1, p2]
    have e13 : (h13.put d.F (.cells 1 [w2])).get h10.nx = .cells 2 [.i .i64 (x : Int), .i .i64 (o : Int)] := q1.trans e12
    clear p1 p2 fp s12 e12 e11 hh11
    have hnx13 := kp13.1
    generalize h13.put d.F (.cells 1 [w2]) = h14 at *
    have hA14 : Ar V.b h14 id4 (arr B 64) := by unfold Ar; rw [arr_len]; exact ht13.e4
    have ld14 := hA14.ldn (n := 64) (by rw [arr_len])
    have hc14 := st13.hc hc0
    simp (disch := omega) only [f85_r10, true_and, x_call, kg, xg_nil, xg_ld, xg_ldn, xd_cons, fresh_nil, stK_s, stay_nil, rvP_ok, ev_t, ev_c, evs_nil, evs_cons, getV_some, putD_some, getK_set, Nat.reduceEqDiff, ↓reduceIte, f3, f4, st13.ldW, ld14, ldn2 e13]
    refine (callP_0 (ef := f88) k.c88 rfl (f88_ret (B := B) hx64 ho64 hc14)).mono ?_
    rintro u h15 ⟨rfl, g15⟩
    have st15 := st13.grow hc0 kd g15
    have hcl := card_less (o := o) hx64 hBm
    simp (disch := omega) only [true_and, x_nil, x_call, kx, xg_nil, xd_cons, fresh_nil, stK_s, stay_nil, stay_cons, again_ok, stay_ld, ev_t, evs_nil, evs_cons, getV_some, putD_some, getK_set, Nat.reduceEqDiff, ↓reduceIte, f3, st15.ldW, beq_caps, and_self]
    have tr1 : TrC M1 (card (lessB B x o)) := (tr.add hB hcl).more hmore
    refine (ih (lessB B x o) M1 (C ++ [(x, o)]) w2 h15 hcl (low_less hB) (by simp; omega) tr1 st15).mono ?_
    rintro r h16 ⟨y, rfl, po⟩
    obtain ⟨M9, C9, w9, st9, kp9, hy1, hy0⟩ := po.ex
    have kp19 : KeptC c h14 w2 h16 w9 := (KeptC.grow g15).trans kp9
    have ht16 := ht13.next st9 kp19
    cases y
    · obtain ⟨rfl, hm9, hn9⟩ := hy0 rfl
      obtain ⟨wa, s1, s2, s3, s4⟩ := st9.pop kd
      have hsub : fw .i64 (((C ++ [(x, o)]).length : Int) - 1) = (C.length : Int) := by
        have : (C ++ [(x, o)]).length = C.length + 1 := by simp
        rw [fw64 (by omega) (by omega)]; omega
      simp (disch := omega) only [f85_r12, w_skip, w_reg, w_cond, seqK_n, atK_n, ckB_b, cbB_b, true_and, rndK_n, x_nil, x_ld, x_st, x_bin, x_slice, sliceV_eq, Option.map_none, Option.map_some, x_len, kx, xg_nil, xd_cons, fresh_nil, stK_n, stay_nil, rvP_ok, okv_some, ev_t, ev_c, getV_some, putD_some, putD_none, bin_sub, of1, getK_set, Nat.reduceEqDiff, ↓reduceIte, Bool.false_eq_true, f2, st9.ldF, st9.sw.len, hsub, s1, s2]
      have ht17 := ht16.next s3 s4
      refine ⟨ht17.el, M9, wa, _, ht17.loop kd _, hmore.trans hm9, fun y hy o' ho' => ?_⟩
      rw [htk] at hy
      rcases List.mem_append.1 hy with hy | hy
      · exact hno y hy o' ho'
      · rw [List.mem_singleton.1 hy, hcol] at ho'
        rw [List.mem_singleton.1 hy]
        cases ho'; exact hn9
    · obtain ⟨D, rfl, hD⟩ := hy1 rfl
      have s6 := st1 (c := .b true) ht16.e6 rfl
      simp (disch := omega) only [f85_r11, w_reg, w_seq, w_cond, w_exit, seqK_n, seqK_e, atK_e, ckB_b, cbB_b, true_and, rndK_e, x_nil, x_st, kx, xg_nil, xd_cons, fresh_nil, stK_n, stay_nil, rvP_ok, ev_t, ev_c, getV_some, putD_some, putD_none, getK_set, Nat.reduceEqDiff, ↓reduceIte, f6, s6]
      obtain ⟨l1, l2, l3⟩ := ht16.ll
      obtain ⟨m1, m2, m3, m4⟩ := ht16.lc (id6, .cells 1 [.b false]) (by simp)
      have := ht16.o4; have := ht16.o6; have := ht16.of; have := ht16.ol
      have st17 := st9.beside kd (x := .cells 1 [.b true]) m3 m4 m2
      have st18 := st17.beside kd (x := .dead) l2 (by rw [nx_put]; exact l3) l1
      refine ⟨by rw [get_put_other (kNe (by omega)).symm]; exact ht16.el, rfl, M9, _, w9, st18, (ht16.kp.above (by omega)).above (by omega), ?_, (x, o) :: D, by simp, hcol, hD⟩
      rw [get_put_other (kNe (by omega)), get_put_same]
theorem f85_step {b c : Nat} {h0 h : H} {d : CIds} {B : Nat → Bool} {M : List (List Bool)} {C : List (Nat × Nat)} {w : V} (k : Calls85 fs) (kd : CIdsOk b c d) (hc0 : HC h0) (hB : Low B) (hcard : C.length + card B ≤ 64) (tr : TrC M (card B)) (st : CSt b c h0 d M C w h)
    (ih : ∀ (B2 : Nat → Bool) (M2 : List (List Bool)) (C2 : List (Nat × Nat)) (w2 : V) (h2 : H), card B2 < card B → Low B2 → C2.length + card B2 ≤ 64 → TrC M2 (card B2) → CSt b c h0 d M2 C2 w2 h2 → CallP fs (.fn (K.ofNat 85) (capsC d)) [.agg (boolV B2)] h2 fun r h' => ∃ x, r = .b x ∧ Post85 b c h0 d B2 M2 C2 w2 h2 x h') :
    Ret fs f85 (.agg (boolV B) :: capsC d) h fun r h' => ∃ x, r = .b x ∧ Post85 b c h0 d B M C w h x h' := by
  apply ret_of rfl
  show W fs none f85_c _ _ _
  unfold f85_c capsC
  have hc := st.hc hc0
  have nxh := st.nx
  have kk := kd
  obtain ⟨a1, a2, a3, a4, a5⟩ := kk
  have n1 := nx_new h (.cells 64 (boolV B))
  have g1 : Grow h.nx.nat h (h.new (.cells 64 (boolV B))) := Grow.new (Nat.le_refl _) _
  have e1 : (h.new (.cells 64 (boolV B))).get h.nx = .cells 64 (boolV B) := get_new_same
  have hA1 : Ar V.b (h.new (.cells 64 (boolV B))) h.nx (arr B 64) := Ar.box
  have ld1 := hA1.ldn (n := 64) (by rw [arr_len])
  have hc1 := g1.hc hc
  simp (disch := omega) only [f85_r0, f85_r1, w_reg, w_seq, w_scope, seqK_n, x_nil, x_as, x_box, x_ldn, x_call, kx, rvP_ok, ev_t, ev_c, evs_nil, evs_cons, getV_some, putD_some, oGet_s, frame_4, getK_set, Nat.reduceEqDiff, ↓reduceIte, frame_4, cells64 (boolV_len (B := B)), ld1]
  generalize h.new (.cells 64 (boolV B)) = h1 at *
  obtain ⟨ef, pt1, pt2⟩ := k.pt
  refine (callP_0 (ef := f86) k.c86 rfl (f86_ret (B := B) k.p54 k.c82 k.c92 pt1 pt2 k.c55 hc1)).mono ?_
  rintro u h2 ⟨rfl, g2⟩
  have nx2 := g2.nx
  have n3 := nx_new h2 (.cells 1 [.b false])
  have g3 : Grow h2.nx.nat h2 (h2.new (.cells 1 [.b false])) := Grow.new (Nat.le_refl _) _
  have e3 : (h2.new (.cells 1 [.b false])).get h2.nx = .cells 1 [.b false] := get_new_same
  have s4 := st1 (c := .b (cornB B)) e3 rfl
  have e4 : ((h2.new (.cells 1 [.b false])).put h2.nx (.cells 1 [.b (cornB B)])).get h2.nx = .cells 1 [.b (cornB B)] := get_put_same
  have g4 : Grow h2.nx.nat (h2.new (.cells 1 [.b false])) ((h2.new (.cells 1 [.b false])).put h2.nx (.cells 1 [.b (cornB B)])) := Grow.put (Nat.le_refl _) (by omega) _
  have n4 : ((h2.new (.cells 1 [.b false])).put h2.nx (.cells 1 [.b (cornB B)])).nx.nat = h2.nx.nat + 1 := n3
  have g24 := g3.trans g4
  have gg : Grow h.nx.nat h ((h2.new (.cells 1 [.b false])).put h2.nx (.cells 1 [.b (cornB B)])) := g1.trans ((g2.low (by omega)).trans (g24.low (by omega)))
  simp (disch := omega) only [w_reg, w_seq, seqK_n, x_nil, x_alloc, x_st, kx, rvP_ok, ev_t, getV_some, putD_some, putD_none, getK_set, Nat.reduceEqDiff, ↓reduceIte, s4]
  generalize (h2.new (.cells 1 [.b false])).put h2.nx (.cells 1 [.b (cornB B)]) = h4 at *
  have st4 := st.grow hc0 kd gg
  have ld6 : loadV h4 (.p h2.nx 0) one? = .ok (.b (cornB B)) h4 := load_p e4 rfl
  have e14 : h4.get h.nx = .cells 64 (boolV B) := by rw [g24.old _ (by omega), g2.old _ (by omega)]; exact e1
  have hA4 : Ar V.b h4 h.nx (arr B 64) := by unfold Ar; rw [arr_len]; exact e14
  have ld4 := hA4.ldn (n := 64) (by rw [arr_len])
  cases hcb : cornB B
  · rw [hcb] at ld6 e4
    have lk := st4.eM.look (n := 64) (L := arr B 64) arr_len tr.len
    by_cases em : arr B 64 ∈ M
    · rw [decide_eq_true em] at lk
      change lookV 67 _ _ _ _ (.agg ((arr B 64).map V.b)) _ = _ at lk
      simp (disch := omega) only [f85_r2, f85_r3, f85_rs, w_reg, w_seq, w_cond, w_ret, seqK_n, seqK_r, ckB_b, cbB_b, okG_b, asG_f, true_and, retK_r, x_nil, x_g, x_mv, x_as, x_pick, x_ld, x_ldn, x_look, kx, rvP_ok, ev_t, ev_c, getV_some, putD_some, pick_b, oGet_s, readRs_nil, readRs_t, retV_1, Option.some.injEq, exists_eq_left', getK_set, Nat.reduceEqDiff, ↓reduceIte, Bool.false_eq_true, Bool.not_false, ld6, st4.ldT, ld4, lk]
      exact ⟨false, rfl, M, C, w, st4, KeptC.grow gg, fun h => (by cases h), fun _ => ⟨rfl, MoreC.refl, tr.hit hB em⟩⟩
    · rw [decide_eq_false em] at lk
      change lookV 67 _ _ _ _ (.agg ((arr B 64).map V.b)) _ = _ at lk
      obtain ⟨mp1, mp2⟩ := st4.eM.put (n := 64) (L := arr B 64) arr_len tr.len em
      change mupdV 67 _ _ _ (.agg ((arr B 64).map V.b)) _ = _ at mp1
      have st5 := st4.mark kd mp2
      have kp5 : KeptC c h w (h4.put d.M (.map 67 (ents (M ++ [arr B 64])))) w := (KeptC.grow gg).trans (KeptC.put (by omega))
      have hA5 : Ar V.b (h4.put d.M (.map 67 (ents (M ++ [arr B 64])))) h.nx (arr B 64) := hA4.same (get_put_other (kNe (by omega)).symm)
      have e65 : (h4.put d.M (.map 67 (ents (M ++ [arr B 64])))).get h2.nx = .cells 1 [.b false] := by rw [get_put_other (kNe (by omega)).symm]; exact e4
      have e15 : (h4.put d.M (.map 67 (ents (M ++ [arr B 64])))).get h.nx = .cells 64 (boolV B) := by rw [get_put_other (kNe (by omega)).symm]; exact e14
      have ld5 := hA5.ldn (n := 64) (by rw [arr_len])
      have n5 : (h4.put d.M (.map 67 (ents (M ++ [arr B 64])))).nx.nat = h2.nx.nat + 1 := n4
      simp (disch := omega) only [f85_r2, f85_r4, f85_r5, w_skip, w_reg, w_seq, w_cond, seqK_n, ckB_b, cbB_b, okG_b, asG_f, true_and, x_nil, x_g, x_mv, x_pick, x_ld, x_ldn, x_look, x_mupd, x_call, kx, rvP_ok, ev_t, ev_c, evs_nil, evs_cons, getV_some, putD_some, putD_none, pick_b, getK_set, Nat.reduceEqDiff, ↓reduceIte, Bool.false_eq_true, Bool.not_false, ld6, st4.ldT, ld4, lk, mp1, ld5]
      generalize h4.put d.M (.map 67 (ents (M ++ [arr B 64]))) = h5 at *
      refine (callP_0 (ef := f78) k.c78 rfl (f78_ret (boolV_len (B := B)))).mono ?_
      rintro u h6 ⟨rfl, rfl⟩
      have n6 := nx_new h5 (.cells 64 (boolV B))
      have g6 : Grow h5.nx.nat h5 (h5.new (.cells 64 (boolV B))) := Grow.new (Nat.le_refl _) _
      have e6 : (h5.new (.cells 64 (boolV B))).get h5.nx = .cells 64 (boolV B) := get_new_same
      simp (disch := omega) only [w_block, seqK_n, x_nil, kx, putD_some]
      generalize h5.new (.cells 64 (boolV B)) = h6 at *
      generalize hfr1 : T.set (K.ofNat 22) (V.fn (K.ofNat 91) [V.p h5.nx 0]) _ = fr1
      have f22 : fr1.get (K.ofNat 22) = some (.fn (K.ofNat 91) [.p h5.nx 0]) := by rw [← hfr1]; simp (disch := omega) only [getK_set, ↓reduceIte]
      have f2 : fr1.get (K.ofNat 2) = some (.p d.F 0) := by rw [← hfr1]; simp (disch := omega) only [getK_set, Nat.reduceEqDiff, ↓reduceIte]
      have f3 : fr1.get (K.ofNat 3) = some (.p d.W 0) := by rw [← hfr1]; simp (disch := omega) only [getK_set, Nat.reduceEqDiff, ↓reduceIte]
      have f4 : fr1.get (K.ofNat 4) = some (.p h.nx 0) := by rw [← hfr1]; simp (disch := omega) only [getK_set, Nat.reduceEqDiff, ↓reduceIte]
      have f6 : fr1.get (K.ofNat 6) = some (.p h2.nx 0) := by rw [← hfr1]; simp (disch := omega) only [getK_set, Nat.reduceEqDiff, ↓reduceIte]
      clear hfr1
      have n7 := nx_new h6 (rdyB fr1 [(K.ofNat 23)] f85_a0 f85_b0)
      have g7 : Grow h6.nx.nat h6 (h6.new (rdyB fr1 [(K.ofNat 23)] f85_a0 f85_b0)) := Grow.new (Nat.le_refl _) _
      have g57 : Grow h5.nx.nat h5 (h6.new (rdyB fr1 [(K.ofNat 23)] f85_a0 f85_b0)) := g6.trans (g7.low (by omega))
      have lw := st.sw.lt hc
      have nin : ∀ id : K, h.nx.nat ≤ id.nat → NotIn id w := fun id hi off n sz e => by have := lw _ _ _ _ e; omega
      have t0 : FoI b c h0 d B (M ++ [arr B 64]) C w h w h.nx h2.nx h5.nx h6.nx (rdyB fr1 [(K.ofNat 23)] f85_a0 f85_b0) (h6.new (rdyB fr1 [(K.ofNat 23)] f85_a0 f85_b0)) := by
        refine ⟨st5.grow hc0 kd g57, kp5.trans (KeptC.grow g57), fun p hp => ?_, Nat.le_refl _, by omega, by omega, by omega⟩
        simp only [List.mem_cons, List.not_mem_nil, or_false] at hp
        rcases hp with rfl | rfl | rfl | rfl
        · exact ⟨by show (h6.new _).get h.nx = _; rw [g57.old _ (by omega)]; exact e15, nin _ (Nat.le_refl _), nxh, by show h.nx.nat < _; omega⟩
        · exact ⟨by show (h6.new _).get h2.nx = _; rw [g57.old _ (by omega)]; exact e65, nin _ (by show h.nx.nat ≤ h2.nx.nat; omega), by show c ≤ h2.nx.nat; omega, by show h2.nx.nat < _; omega⟩
        · exact ⟨by show (h6.new _).get h5.nx = _; rw [g7.old _ (by omega)]; exact e6, nin _ (by show h.nx.nat ≤ h5.nx.nat; omega), by show c ≤ h5.nx.nat; omega, by show h5.nx.nat < _; omega⟩
        · exact ⟨get_new_same, nin _ (by show h.nx.nat ≤ h6.nx.nat; omega), by show c ≤ h6.nx.nat; omega, by show h6.nx.nat < _; omega⟩
      have hlen := ysOf_len (B := B)
      refine W_range (k := (K.ofNat 91)) (caps := [.p h5.nx 0]) (N := fun h => h.get h5.nx = .cells 64 (boolV B)) (ys := ysOf B) rfl (by simp (disch := omega) only [ev_t, getV_some, f22]) (all_yields k.c91 boolV_at)
        (f85_I b c h0 d B M C w h h.nx h2.nx h5.nx h6.nx) (f85_Q b c h0 d B M C w h h2.nx) (fun i h8 ⟨M1, w1, lb, ht, _⟩ => ht.ef)
        ⟨_, _, _, t0, MoreC.refl, fun x hx => by simp at hx⟩ ?_ ?_ ?_
      · intro j h8 hj hi hrd
        rw [ysOf_at hj]
        exact f85_body k kd hc0 hB hcard tr f2 f3 f4 f6 ih j h8 (by omega) hi hrd
      · rintro h8 ⟨M1, w1, lb, ht, hmore, hno⟩
        rw [hlen, List.take_length] at hno
        have nt := no_col hcb hno
        have ht2 := ht.loop kd .dead
        have ld8 : loadV (h8.put h6.nx .dead) (.p h2.nx 0) one? = .ok (.b false) _ := load_p ht2.e6 rfl
        simp (disch := omega) only [f85_r13, f85_rs, w_reg, w_seq, w_ret, seqK_n, atK_n, retK_r, x_nil, x_as, x_ld, kx, rvP_ok, ev_t, getV_some, putD_some, oGet_s, readRs_nil, readRs_t, retV_1, Option.some.injEq, exists_eq_left', getK_set, ↓reduceIte, f6, ld8]
        exact ⟨false, rfl, M1, C, w1, ht2.st, ht2.kp, fun h => (by cases h), fun _ => ⟨rfl, (MoreC.add hB nt).trans hmore, nt⟩⟩
      · rintro e h8 hne ⟨rfl, M1, C1, w1, s8, k8, e8, hD⟩
        have ld8 : loadV h8 (.p h2.nx 0) one? = .ok (.b true) _ := load_p e8 rfl
        simp (disch := omega) only [f85_r13, f85_rs, w_reg, w_seq, w_ret, seqK_n, atK_e, retK_r, x_nil, x_as, x_ld, kx, rvP_ok, ev_t, getV_some, putD_some, oGet_s, readRs_nil, readRs_t, retV_1, Option.some.injEq, exists_eq_left', getK_set, ↓reduceIte, f6, ld8]
        exact ⟨true, rfl, M1, C1, w1, s8, k8, fun _ => hD, fun h => (by cases h)⟩
  · rw [hcb] at ld6
    simp (disch := omega) only [f85_r2, f85_r3, f85_rs, w_reg, w_seq, w_cond, w_ret, seqK_n, seqK_r, ckB_b, cbB_b, okG_b, asG_f, true_and, retK_r, x_nil, x_g, x_mv, x_as, x_pick, x_ld, kx, rvP_ok, ev_t, ev_c, getV_some, putD_some, pick_b, oGet_s, readRs_nil, readRs_t, retV_1, Option.some.injEq, exists_eq_left', getK_set, Nat.reduceEqDiff, ↓reduceIte, Bool.false_eq_true, Bool.not_true, ld6]
    exact ⟨true, rfl, M, C, w, st4, KeptC.grow gg, fun _ => ⟨[], by simp, hcb⟩, fun h => (by cases h)⟩
theorem f85_ret {b c : Nat} {h0 : H} {d : CIds} (k : Calls85 fs) (kd : CIdsOk b c d) (hc0 : HC h0) :
    ∀ (n : Nat) (B : Nat → Bool) (M : List (List Bool)) (C : List (Nat × Nat)) (w : V) (h : H), card B ≤ n → Low B → C.length + card B ≤ 64 → TrC M (card B) → CSt b c h0 d M C w h →
      Ret fs f85 (.agg (boolV B) :: capsC d) h fun r h' => ∃ x, r = .b x ∧ Post85 b c h0 d B M C w h x h' := by
  intro n
  induction n with
  | zero =>
    intro B M C w h hn hB hcd tr st
    exact f85_step k kd hc0 hB hcd tr st fun B2 _ _ _ _ h2 => absurd h2 (by omega)
  | succ n ih =>
    intro B M C w h hn hB hcd tr st
    exact f85_step k kd hc0 hB hcd tr st fun B2 M2 C2 w2 h2 hlt hB2 hc2 tr2 st2 => callP_c k.c85 rfl (ih B2 M2 C2 w2 h2 (by omega) hB2 hc2 tr2 st2)
end
end Go.Ev
namespace Go.Ev
open Go Go.RowKit
noncomputable def f62_r0 : List EOper := [⟨(some (K.ofNat 1)), none, .box 64 (.t (K.ofNat 0))⟩, ⟨(some (K.ofNat 2)), none, .as (.c .sn)⟩, ⟨(some (K.ofNat 3)), none, .as (.c (.b false))⟩]
noncomputable def f62_r1 : List EOper := [⟨(some (K.ofNat 7)), none, .ldn 64 (.t (K.ofNat 1))⟩, ⟨(some (K.ofNat 8)), none, .call (.c (.fn (K.ofNat 84) [])) [(.t (K.ofNat 7))]⟩]
noncomputable def f62_r2 : List EOper := [⟨(some (K.ofNat 2)), none, .as (.c .sn)⟩, ⟨(some (K.ofNat 3)), none, .as (.c (.b false))⟩]
noncomputable def f62_r3 : List EOper := [⟨(some (K.ofNat 4)), none, .alloc 1 [.sn]⟩]
noncomputable def f62_r4 : List EOper := [⟨(some (K.ofNat 9)), none, .mkmap 67⟩, ⟨(some (K.ofNat 5)), none, .alloc 1 [.mn]⟩, ⟨none, none, .st 1 (.t (K.ofNat 5)) (.t (K.ofNat 9))⟩]
noncomputable def f62_r5 : List EOper := [⟨(some (K.ofNat 6)), none, .alloc 1 [.fnil]⟩]
noncomputable def f62_r6 : List EOper := [⟨(some (K.ofNat 10)), none, .mkfn (K.ofNat 85) [(.t (K.ofNat 5)), (.t (K.ofNat 4)), (.t (K.ofNat 6))]⟩, ⟨none, none, .st 1 (.t (K.ofNat 6)) (.t (K.ofNat 10))⟩]
noncomputable def f62_r7 : List EOper := [⟨(some (K.ofNat 11)), none, .ld (.t (K.ofNat 6))⟩, ⟨(some (K.ofNat 12)), none, .ldn 64 (.t (K.ofNat 1))⟩, ⟨(some (K.ofNat 13)), none, .call (.t (K.ofNat 11)) [(.t (K.ofNat 12))]⟩, ⟨(some (K.ofNat 14)), none, .not (.t (K.ofNat 13))⟩]
noncomputable def f62_r8 : List EOper := [⟨(some (K.ofNat 2)), none, .as (.c .sn)⟩, ⟨(some (K.ofNat 3)), none, .as (.c (.b false))⟩]
noncomputable def f62_r9 : List EOper := [⟨(some (K.ofNat 15)), none, .ld (.t (K.ofNat 4))⟩, ⟨(some (K.ofNat 2)), none, .as (.t (K.ofNat 15))⟩, ⟨(some (K.ofNat 3)), none, .as (.c (.b true))⟩]
noncomputable def f62_c : EC := (.seq (.reg f62_r0) (.seq (.seq (.reg f62_r1) (.cond (.t (K.ofNat 8)) (.seq (.reg f62_r2) .ret) .skip)) (.seq (.reg f62_r3) (.seq (.reg f62_r4) (.seq (.reg f62_r5) (.seq (.reg f62_r6) (.seq (.seq (.reg f62_r7) (.cond (.t (K.ofNat 14)) (.seq (.reg f62_r8) .ret) .skip)) (.seq (.reg f62_r9) .ret))))))))
noncomputable def f62 : EF := ⟨16, [.tmp (K.ofNat 2), .tmp (K.ofNat 3)], f62_c, none⟩
theorem f62_rs : f62.rs = [.tmp (K.ofNat 2), .tmp (K.ofNat 3)] := of_eq_true (eq_self _)
noncomputable def f24_r0 : List EOper := [⟨(some (K.ofNat 4)), none, .as (.c .sn)⟩, ⟨(some (K.ofNat 5)), none, .as (.c (.b false))⟩, ⟨(some (K.ofNat 6)), none, .as (.c (.i .i64 (.ofNat 0)))⟩]
noncomputable def f24_r1 : List EOper := [⟨(some (K.ofNat 10)), none, .mv (.t (K.ofNat 0))⟩, ⟨(some (K.ofNat 11)), none, .mv (.t (K.ofNat 1))⟩, ⟨(some (K.ofNat 12)), none, .call (.c (.fn (K.ofNat 16) [])) [(.t (K.ofNat 10)), (.t (K.ofNat 11))]⟩, ⟨(some (K.ofNat 7)), none, .as (.t (K.ofNat 12))⟩]
noncomputable def f24_r2 : List EOper := [⟨(some (K.ofNat 13)), none, .mv (.t (K.ofNat 7))⟩, ⟨(some (K.ofNat 14)), none, .bin .neq (.t (K.ofNat 13)) (.c (.i .i64 (.ofNat 0)))⟩]
noncomputable def f24_r3 : List EOper := [⟨(some (K.ofNat 15)), none, .mv (.t (K.ofNat 7))⟩, ⟨(some (K.ofNat 4)), none, .as (.c .sn)⟩, ⟨(some (K.ofNat 5)), none, .as (.c (.b false))⟩, ⟨(some (K.ofNat 6)), none, .as (.t (K.ofNat 15))⟩]
noncomputable def f24_r4 : List EOper := [⟨(some (K.ofNat 17)), none, .mv (.t (K.ofNat 1))⟩, ⟨(some (K.ofNat 18)), none, .call (.c (.fn (K.ofNat 55) [])) [(.t (K.ofNat 17))]⟩, ⟨(some (K.ofNat 19)), none, .call (.c (.fn (K.ofNat 62) [])) [(.t (K.ofNat 18))]⟩, ⟨(some (K.ofNat 16)), none, .mv (.t (K.ofNat 19))⟩, ⟨(some (K.ofNat 20)), none, .ext (.t (K.ofNat 16)) 0⟩, ⟨(some (K.ofNat 21)), none, .ext (.t (K.ofNat 16)) 1⟩, ⟨(some (K.ofNat 8)), none, .as (.t (K.ofNat 20))⟩, ⟨(some (K.ofNat 9)), none, .as (.t (K.ofNat 21))⟩]
noncomputable def f24_r5 : List EOper := [⟨(some (K.ofNat 22)), none, .mv (.t (K.ofNat 8))⟩, ⟨(some (K.ofNat 23)), none, .mv (.t (K.ofNat 9))⟩, ⟨(some (K.ofNat 4)), none, .as (.t (K.ofNat 22))⟩, ⟨(some (K.ofNat 5)), none, .as (.t (K.ofNat 23))⟩, ⟨(some (K.ofNat 6)), none, .as (.c (.i .i64 (.ofNat 0)))⟩]
noncomputable def f24_c : EC := (.seq (.reg f24_r0) (.seq (.seq (.reg f24_r1) (.seq (.reg f24_r2) (.cond (.t (K.ofNat 14)) (.seq (.reg f24_r3) .ret) .skip))) (.seq (.reg f24_r4) (.seq (.reg f24_r5) .ret))))
noncomputable def f24 : EF := ⟨24, [.tmp (K.ofNat 4), .tmp (K.ofNat 5), .tmp (K.ofNat 6)], f24_c, none⟩
theorem f24_rs : f24.rs = [.tmp (K.ofNat 4), .tmp (K.ofNat 5), .tmp (K.ofNat 6)] := of_eq_true (eq_self _)
noncomputable def f63_r0 : List EOper := [⟨(some (K.ofNat 2)), none, .box 64 (.t (K.ofNat 0))⟩, ⟨(some (K.ofNat 4)), none, .alloc 64 (List.replicate 64 (.b false))⟩, ⟨(some (K.ofNat 5)), none, .as (.c (.b false))⟩]
noncomputable def f63_r1 : List EOper := [⟨(some (K.ofNat 10)), none, .mv (.t (K.ofNat 1))⟩, ⟨(some (K.ofNat 11)), none, .len (.t (K.ofNat 10))⟩, ⟨(some (K.ofNat 12)), none, .mv (.c (.i .i64 (.ofNat 0)))⟩]
noncomputable def f63_r2 : List EOper := [⟨(some (K.ofNat 13)), none, .bin .lss (.t (K.ofNat 12)) (.t (K.ofNat 11))⟩]
noncomputable def f63_r3 : List EOper := [⟨(some (K.ofNat 14)), none, .iads 2 (.t (K.ofNat 10)) (.t (K.ofNat 12))⟩, ⟨(some (K.ofNat 15)), none, .ldn 2 (.t (K.ofNat 14))⟩, ⟨(some (K.ofNat 7)), none, .alloc 2 [(.i .i64 (.ofNat 0)), (.i .i64 (.ofNat 0))]⟩, ⟨none, none, .st 2 (.t (K.ofNat 7)) (.t (K.ofNat 15))⟩]
noncomputable def f63_r4 : List EOper := [⟨(some (K.ofNat 17)), none, .ldn 64 (.t (K.ofNat 2))⟩, ⟨(some (K.ofNat 18)), none, .iadr 2 1 (.t (K.ofNat 7)) (.c (.i .i64 (.ofNat 0)))⟩, ⟨(some (K.ofNat 19)), none, .ld (.t (K.ofNat 18))⟩, ⟨(some (K.ofNat 20)), none, .call (.c (.fn (K.ofNat 87) [])) [(.t (K.ofNat 17)), (.t (K.ofNat 19))]⟩, ⟨(some (K.ofNat 16)), none, .mv (.t (K.ofNat 20))⟩, ⟨(some (K.ofNat 21)), none, .ext (.t (K.ofNat 16)) 0⟩, ⟨(some (K.ofNat 22)), none, .ext (.t (K.ofNat 16)) 1⟩, ⟨(some (K.ofNat 8)), none, .alloc 2 [(.i .i64 (.ofNat 0)), (.i .i64 (.ofNat 0))]⟩, ⟨none, none, .st 2 (.t (K.ofNat 8)) (.t (K.ofNat 21))⟩, ⟨(some (K.ofNat 9)), none, .as (.t (K.ofNat 22))⟩]
noncomputable def f63_r5 : List EOper := [⟨(some (K.ofNat 23)), none, .mv (.t (K.ofNat 9))⟩, ⟨(some (K.ofNat 24)), none, .not (.t (K.ofNat 23))⟩, ⟨(some (K.ofNat 25)), none, .mv (.t (K.ofNat 24))⟩, ⟨(some (K.ofNat 26)), (some ((K.ofNat 25), false)), .ldn 2 (.t (K.ofNat 8))⟩, ⟨(some (K.ofNat 27)), (some ((K.ofNat 25), false)), .iadr 2 1 (.t (K.ofNat 7)) (.c (.i .i64 (.ofNat 0)))⟩, ⟨(some (K.ofNat 28)), (some ((K.ofNat 25), false)), .ld (.t (K.ofNat 27))⟩, ⟨(some (K.ofNat 29)), (some ((K.ofNat 25), false)), .iadr 2 1 (.t (K.ofNat 7)) (.c (.i .i64 (.ofNat 1)))⟩, ⟨(some (K.ofNat 30)), (some ((K.ofNat 25), false)), .ld (.t (K.ofNat 29))⟩, ⟨(some (K.ofNat 31)), (some ((K.ofNat 25), false)), .build [(.i .i64 (.ofNat 0)), (.i .i64 (.ofNat 0))] [(0, 1, (.t (K.ofNat 28))), (1, 1, (.t (K.ofNat 30)))]⟩, ⟨(some (K.ofNat 32)), (some ((K.ofNat 25), false)), .eqk (.many [(some .i64), (some .i64)]) true (.t (K.ofNat 26)) (.t (K.ofNat 31))⟩, ⟨(some (K.ofNat 33)), none, .pick (.t (K.ofNat 25)) (.c (.b true)) (.t (K.ofNat 32))⟩]
noncomputable def f63_r6 : List EOper := [⟨(some (K.ofNat 34)), none, .build (List.replicate 64 (.b false)) []⟩, ⟨none, none, .st 64 (.t (K.ofNat 4)) (.t (K.ofNat 34))⟩, ⟨(some (K.ofNat 5)), none, .as (.c (.b false))⟩]
noncomputable def f63_r7 : List EOper := [⟨(some (K.ofNat 35)), none, .ldn 64 (.t (K.ofNat 2))⟩, ⟨(some (K.ofNat 36)), none, .ldn 2 (.t (K.ofNat 8))⟩, ⟨(some (K.ofNat 37)), none, .call (.c (.fn (K.ofNat 88) [])) [(.t (K.ofNat 35)), (.t (K.ofNat 36))]⟩, ⟨none, none, .st 64 (.t (K.ofNat 2)) (.t (K.ofNat 37))⟩]
noncomputable def f63_r8 : List EOper := [⟨(some (K.ofNat 38)), none, .bin .add (.t (K.ofNat 12)) (.c (.i .i64 (.ofNat 1)))⟩, ⟨(some (K.ofNat 12)), none, .mv (.t (K.ofNat 38))⟩]
noncomputable def f63_l0 : EC := (.seq (.reg f63_r2) (.seq (.cond (.t (K.ofNat 13)) .skip (.exit 0)) (.seq (.block 1 (.seq (.reg f63_r3) (.seq (.reg f63_r4) (.seq (.seq (.reg f63_r5) (.cond (.t (K.ofNat 33)) (.seq (.reg f63_r6) .ret) .skip)) (.reg f63_r7))))) (.reg f63_r8))))
noncomputable def f63_r9 : List EOper := [⟨(some (K.ofNat 39)), none, .ldn 64 (.t (K.ofNat 2))⟩, ⟨none, none, .st 64 (.t (K.ofNat 4)) (.t (K.ofNat 39))⟩, ⟨(some (K.ofNat 5)), none, .as (.c (.b true))⟩]
noncomputable def f63_c : EC := (.seq (.reg f63_r0) (.seq (.seq (.reg f63_r1) (.block 0 (.loop f63_l0))) (.seq (.reg f63_r9) .ret)))
noncomputable def f63 : EF := ⟨40, [.celln (K.ofNat 4) 64, .tmp (K.ofNat 5)], f63_c, none⟩
theorem f63_rs : f63.rs = [.celln (K.ofNat 4) 64, .tmp (K.ofNat 5)] := of_eq_true (eq_self _)
noncomputable def f25_r0 : List EOper := [⟨(some (K.ofNat 6)), none, .as (.c .sn)⟩, ⟨(some (K.ofNat 7)), none, .as (.c (.b false))⟩, ⟨(some (K.ofNat 8)), none, .as (.c (.i .i64 (.ofNat 0)))⟩]
noncomputable def f25_r1 : List EOper := [⟨(some (K.ofNat 12)), none, .mv (.t (K.ofNat 0))⟩, ⟨(some (K.ofNat 13)), none, .mv (.t (K.ofNat 1))⟩, ⟨(some (K.ofNat 14)), none, .call (.c (.fn (K.ofNat 16) [])) [(.t (K.ofNat 12)), (.t (K.ofNat 13))]⟩, ⟨(some (K.ofNat 9)), none, .as (.t (K.ofNat 14))⟩]
noncomputable def f25_r2 : List EOper := [⟨(some (K.ofNat 15)), none, .mv (.t (K.ofNat 9))⟩, ⟨(some (K.ofNat 16)), none, .bin .neq (.t (K.ofNat 15)) (.c (.i .i64 (.ofNat 0)))⟩]
noncomputable def f25_r3 : List EOper := [⟨(some (K.ofNat 17)), none, .mv (.t (K.ofNat 9))⟩, ⟨(some (K.ofNat 6)), none, .as (.c .sn)⟩, ⟨(some (K.ofNat 7)), none, .as (.c (.b false))⟩, ⟨(some (K.ofNat 8)), none, .as (.t (K.ofNat 17))⟩]
noncomputable def f25_r4 : List EOper := [⟨(some (K.ofNat 19)), none, .mv (.t (K.ofNat 1))⟩, ⟨(some (K.ofNat 20)), none, .call (.c (.fn (K.ofNat 55) [])) [(.t (K.ofNat 19))]⟩, ⟨(some (K.ofNat 21)), none, .mv (.t (K.ofNat 2))⟩, ⟨(some (K.ofNat 22)), none, .call (.c (.fn (K.ofNat 63) [])) [(.t (K.ofNat 20)), (.t (K.ofNat 21))]⟩, ⟨(some (K.ofNat 18)), none, .mv (.t (K.ofNat 22))⟩, ⟨(some (K.ofNat 23)), none, .ext (.t (K.ofNat 18)) 0⟩, ⟨(some (K.ofNat 24)), none, .ext (.t (K.ofNat 18)) 1⟩, ⟨(some (K.ofNat 10)), none, .alloc 64 (List.replicate 64 (.b false))⟩, ⟨none, none, .st 64 (.t (K.ofNat 10)) (.t (K.ofNat 23))⟩, ⟨(some (K.ofNat 11)), none, .as (.t (K.ofNat 24))⟩]
noncomputable def f25_r5 : List EOper := [⟨(some (K.ofNat 25)), none, .ldn 64 (.t (K.ofNat 10))⟩, ⟨(some (K.ofNat 26)), none, .call (.c (.fn (K.ofNat 56) [])) [(.t (K.ofNat 25))]⟩, ⟨(some (K.ofNat 27)), none, .mv (.t (K.ofNat 11))⟩, ⟨(some (K.ofNat 6)), none, .as (.t (K.ofNat 26))⟩, ⟨(some (K.ofNat 7)), none, .as (.t (K.ofNat 27))⟩, ⟨(some (K.ofNat 8)), none, .as (.c (.i .i64 (.ofNat 0)))⟩]
noncomputable def f25_c : EC := (.seq (.reg f25_r0) (.seq (.seq (.reg f25_r1) (.seq (.reg f25_r2) (.cond (.t (K.ofNat 16)) (.seq (.reg f25_r3) .ret) .skip))) (.seq (.reg f25_r4) (.seq (.reg f25_r5) .ret))))
noncomputable def f25 : EF := ⟨28, [.tmp (K.ofNat 6), .tmp (K.ofNat 7), .tmp (K.ofNat 8)], f25_c, none⟩
theorem f25_rs : f25.rs = [.tmp (K.ofNat 6), .tmp (K.ofNat 7), .tmp (K.ofNat 8)] := of_eq_true (eq_self _)
section
variable {fs : T EF} {ro : Option K}
structure Calls62 (fs : T EF) : Prop extends Calls85 fs where
  p75 : ∀ m : Nat, m < 64 → ∀ h P, CallP fs (.fn (K.ofNat 75) []) [.i .i64 (m : Int)] h P = P (.i .i64 (pop6 m : Int)) h
  c57 : fs.get (K.ofNat 57) = some f57
  c62 : fs.get (K.ofNat 62) = some f62
  c64 : fs.get (K.ofNat 64) = some f64
  c84 : fs.get (K.ofNat 84) = some f84
  c89 : fs.get (K.ofNat 89) = some f89
  c93 : fs.get (K.ofNat 93) = some f93
  c94 : fs.get (K.ofNat 94) = some f94
theorem f62_ret {h : H} {B : Nat → Bool} (k : Calls62 fs) (hB : Low B) (hne : 1 ≤ (cntS (mem64 B)).length) (hc : HC h) :
    Ret fs f62 [.agg (boolV B)] h fun r h' => ∃ x u, r = .tup [u, .b x] ∧ Grow h.nx.nat h h' ∧ (x = true → holB B = false ∧ ∃ D, Sk 2 pE h' u D ∧ Own h.nx.nat u ∧ SeqC B D) ∧ (x = false → u = .sn ∧ (holB B = true ∨ ¬ ToC B)) := by
  apply ret_of rfl
  show W fs none f62_c _ _ _
  unfold f62_c
  have n1 := nx_new h (.cells 64 (boolV B))
  have g1 : Grow h.nx.nat h (h.new (.cells 64 (boolV B))) := Grow.new (Nat.le_refl _) _
  have hA1 : Ar V.b (h.new (.cells 64 (boolV B))) h.nx (arr B 64) := Ar.box
  have ld1 := hA1.ldn (n := 64) (by rw [arr_len])
  have hc1 := g1.hc hc
  simp (disch := omega) only [f62_r0, f62_r1, w_reg, w_seq, seqK_n, x_nil, x_as, x_box, x_ldn, x_call, kx, rvP_ok, ev_t, ev_c, evs_nil, evs_cons, getV_some, putD_some, oGet_s, frame_1, getK_set, Nat.reduceEqDiff, ↓reduceIte, cells64 (boolV_len (B := B)), ld1]
  generalize h.new (.cells 64 (boolV B)) = h1 at *
  obtain ⟨ef, pt1, pt2⟩ := k.pt
  refine (callP_0 (ef := f84) k.c84 rfl (f84_ret (B := B) k.p75 k.c57 k.c78 k.c91 k.c82 k.c92 pt1 pt2 k.c93 k.c94 k.c89 k.c64 hc1 hne)).mono ?_
  rintro u h2 ⟨rfl, g2⟩
  have nx2 := g2.nx
  have g12 : Grow h.nx.nat h h2 := g1.trans (g2.low (by omega))
  cases hh : holB B
  · have n3 := nx_new h2 (.cells 1 [.sn])
    have g3 : Grow h2.nx.nat h2 (h2.new (.cells 1 [.sn])) := Grow.new (Nat.le_refl _) _
    have e3 : (h2.new (.cells 1 [.sn])).get h2.nx = .cells 1 [.sn] := get_new_same
    simp (disch := omega) only [f62_r3, w_skip, w_reg, w_seq, w_cond, seqK_n, ckB_b, cbB_b, true_and, x_nil, x_alloc, kx, ev_t, getV_some, putD_some, getK_set, ↓reduceIte, Bool.false_eq_true]
    generalize h2.new (.cells 1 [.sn]) = h3 at *
    have n4 := nx_new h3 (.map 67 [])
    have g4 : Grow h3.nx.nat h3 (h3.new (.map 67 [])) := Grow.new (Nat.le_refl _) _
    have e4 : (h3.new (.map 67 [])).get h3.nx = .map 67 [] := get_new_same
    have n5 := nx_new (h3.new (.map 67 [])) (.cells 1 [.mn])
    have g5 : Grow (h3.new (.map 67 [])).nx.nat (h3.new (.map 67 [])) ((h3.new (.map 67 [])).new (.cells 1 [.mn])) := Grow.new (Nat.le_refl _) _
    have s5 := st1 (h := (h3.new (.map 67 [])).new (.cells 1 [.mn])) (id := (h3.new (.map 67 [])).nx) (a := .mn) (c := .m h3.nx) get_new_same rfl
    have g6 : Grow (h3.new (.map 67 [])).nx.nat ((h3.new (.map 67 [])).new (.cells 1 [.mn])) (((h3.new (.map 67 [])).new (.cells 1 [.mn])).put (h3.new (.map 67 [])).nx (.cells 1 [.m h3.nx])) := Grow.put (Nat.le_refl _) (by omega) _
    have e6 : (((h3.new (.map 67 [])).new (.cells 1 [.mn])).put (h3.new (.map 67 [])).nx (.cells 1 [.m h3.nx])).get (h3.new (.map 67 [])).nx = .cells 1 [.m h3.nx] := get_put_same
    have n6 : (((h3.new (.map 67 [])).new (.cells 1 [.mn])).put (h3.new (.map 67 [])).nx (.cells 1 [.m h3.nx])).nx.nat = ((h3.new (.map 67 [])).new (.cells 1 [.mn])).nx.nat := rfl
    simp (disch := omega) only [f62_r4, w_reg, w_seq, seqK_n, x_nil, x_alloc, x_st, x_mkmap, kx, rvP_ok, ev_t, getV_some, putD_some, putD_none, getK_set, Nat.reduceEqDiff, ↓reduceIte, s5]
    generalize h3.new (.map 67 []) = h4 at *
    generalize h4.new (.cells 1 [.mn]) = h5 at *
    generalize h5.put h4.nx (.cells 1 [.m h3.nx]) = h6 at *
    have n7 := nx_new h6 (.cells 1 [.fnil])
    have g7 : Grow h6.nx.nat h6 (h6.new (.cells 1 [.fnil])) := Grow.new (Nat.le_refl _) _
    have s8 := st1 (h := h6.new (.cells 1 [.fnil])) (id := h6.nx) (a := .fnil) (c := .fn (K.ofNat 85) [.p h4.nx 0, .p h2.nx 0, .p h6.nx 0]) get_new_same rfl
    have g8 : Grow h6.nx.nat (h6.new (.cells 1 [.fnil])) ((h6.new (.cells 1 [.fnil])).put h6.nx (.cells 1 [.fn (K.ofNat 85) [.p h4.nx 0, .p h2.nx 0, .p h6.nx 0]])) := Grow.put (Nat.le_refl _) (by omega) _
    have e8 : ((h6.new (.cells 1 [.fnil])).put h6.nx (.cells 1 [.fn (K.ofNat 85) [.p h4.nx 0, .p h2.nx 0, .p h6.nx 0]])).get h6.nx = .cells 1 [.fn (K.ofNat 85) [.p h4.nx 0, .p h2.nx 0, .p h6.nx 0]] := get_put_same
    have n8 : ((h6.new (.cells 1 [.fnil])).put h6.nx (.cells 1 [.fn (K.ofNat 85) [.p h4.nx 0, .p h2.nx 0, .p h6.nx 0]])).nx.nat = h6.nx.nat + 1 := n7
    simp (disch := omega) only [f62_r5, f62_r6, w_reg, w_seq, seqK_n, x_nil, x_alloc, x_st, x_mkfn, kx, rvP_ok, ev_t, evs_nil, evs_cons, getV_some, putD_some, putD_none, getK_set, Nat.reduceEqDiff, ↓reduceIte, s8]
    generalize (h6.new (.cells 1 [.fnil])).put h6.nx (.cells 1 [.fn (K.ofNat 85) [.p h4.nx 0, .p h2.nx 0, .p h6.nx 0]]) = h8 at *
    have z6 : Grow h6.nx.nat h6 h8 := g7.trans g8
    have z4 : Grow h4.nx.nat h4 h8 := (g5.trans g6).trans (z6.low (by omega))
    have z3 : Grow h3.nx.nat h3 h8 := g4.trans (z4.low (by omega))
    have z2 : Grow h2.nx.nat h2 h8 := g3.trans (z3.low (by omega))
    have hc2 := g12.hc hc
    have kd : CIdsOk h2.nx.nat h8.nx.nat ⟨h2.nx, h3.nx, h4.nx, h6.nx⟩ := by
      constructor
      · show h2.nx.nat ≤ h2.nx.nat; omega
      · show h2.nx.nat < h3.nx.nat; omega
      · show h3.nx.nat < h4.nx.nat; omega
      · show h4.nx.nat < h6.nx.nat; omega
      · show h6.nx.nat < h8.nx.nat; omega
    have st : CSt h2.nx.nat h8.nx.nat h2 ⟨h2.nx, h3.nx, h4.nx, h6.nx⟩ [] [] .sn h8 := by
      refine ⟨z2, Nat.le_refl _, ?_, ?_, ?_, e8, Sk.nil, Own.sn⟩
      · show h8.get h2.nx = _; rw [z3.old _ (by omega)]; exact e3
      · show h8.get h3.nx = _; rw [z4.old _ (by omega)]; exact e4
      · show h8.get h4.nx = _; rw [z6.old _ (by omega)]; exact e6
    have ldW := st.ldW
    change loadV h8 (.p h6.nx 0) one? = .ok (.fn (K.ofNat 85) (capsC ⟨h2.nx, h3.nx, h4.nx, h6.nx⟩)) h8 at ldW
    have hA8 : Ar V.b h8 h.nx (arr B 64) := (hA1.same (g2.old _ (by omega))).same (z2.old _ (by omega))
    have ld8 := hA8.ldn (n := 64) (by rw [arr_len])
    have hcard : card B ≤ 64 := mem64_len
    simp (disch := omega) only [f62_r7, x_ld, x_ldn, x_call, kx, rvP_ok, ev_t, evs_nil, evs_cons, getV_some, putD_some, getK_set, Nat.reduceEqDiff, ↓reduceIte, ldW, ld8]
    refine (callP_c k.c85 rfl (f85_ret k.toCalls85 kd hc2 64 B [] [] .sn h8 hcard hB (by simpa using hcard) (fun x hx => by cases hx) st)).mono ?_
    rintro r h9 ⟨x, rfl, po⟩
    obtain ⟨M9, C9, w9, st9, k9, y1, y0⟩ := po.ex
    have gr : Grow h.nx.nat h h9 := g12.trans (st9.gr.low (by omega))
    cases x
    · obtain ⟨_, _, hn⟩ := y0 rfl
      simp (disch := omega) only [f62_r8, f62_rs, w_reg, w_seq, w_cond, w_ret, seqK_n, seqK_r, ckB_b, cbB_b, true_and, retK_r, x_nil, x_as, x_not, kx, rvP_ok, ev_t, ev_c, getV_some, putD_some, onB_b, oGet_s, readRs_nil, readRs_t, retV_2, Option.some.injEq, exists_eq_left', getK_set, Nat.reduceEqDiff, ↓reduceIte, Bool.not_false]
      exact ⟨false, .sn, rfl, gr, fun h => (by cases h), fun _ => ⟨rfl, .inr hn⟩⟩
    · obtain ⟨D, hCD, hD⟩ := y1 rfl
      obtain rfl : C9 = D := by simpa using hCD
      have ldF := st9.ldF
      change loadV h9 (.p h2.nx 0) one? = _ at ldF
      have ow := st9.ow.low (b := h.nx.nat) (by omega)
      simp (disch := omega) only [f62_r9, f62_rs, w_skip, w_reg, w_seq, w_cond, w_ret, seqK_n, ckB_b, cbB_b, true_and, retK_r, x_nil, x_as, x_ld, x_not, kx, rvP_ok, ev_t, ev_c, getV_some, putD_some, onB_b, oGet_s, readRs_nil, readRs_t, retV_2, Option.some.injEq, exists_eq_left', getK_set, Nat.reduceEqDiff, ↓reduceIte, Bool.false_eq_true, Bool.not_true, ldF]
      exact ⟨true, w9, rfl, gr, fun _ => ⟨C9, st9.sw, ow, hD⟩, fun h => (by cases h)⟩
  · simp (disch := omega) only [f62_r2, f62_rs, w_reg, w_seq, w_cond, w_ret, seqK_n, seqK_r, ckB_b, cbB_b, true_and, retK_r, x_nil, x_as, kx, ev_t, ev_c, getV_some, putD_some, oGet_s, readRs_nil, readRs_t, retV_2, Option.some.injEq, exists_eq_left', getK_set, Nat.reduceEqDiff, ↓reduceIte]
    exact ⟨false, .sn, rfl, g12, fun h => (by cases h), fun _ => ⟨rfl, .inl trivial⟩⟩
/-- A family, and nothing beyond. -/
def lowB (B : Nat → Bool) (i : Nat) : Bool := decide (i < 64) && B i
theorem low_low {B : Nat → Bool} : Low (lowB B) := fun i hi => by unfold lowB; rw [decide_eq_false (by omega)]; rfl
theorem lowB_at {B : Nat → Bool} {i : Nat} (hi : i < 64) : lowB B i = B i := by unfold lowB; rw [decide_eq_true hi]; rfl
theorem lowB_V {B : Nat → Bool} : boolV (lowB B) = boolV B := by
  unfold boolV
  rw [arr_congr fun i hi => lowB_at hi]
theorem lowB_mem {B : Nat → Bool} : mem64 (lowB B) = mem64 B := by
  unfold mem64
  exact List.filter_congr fun i hi => lowB_at (List.mem_range.1 hi)
structure Calls24 (fs : T EF) : Prop extends Calls62 fs where
  c16 : fs.get (K.ofNat 16) = some f16
/-- Collapse, of what is a complex. -/
theorem f24_ret {h : H} {v : V} {S : List Int} {n : Int} (k : Calls24 fs) (hv : Sl iE h v S) (hc : HC h) (hS : S.length ≤ 1000000) (hchk : chkS n S = 0) (hne : 1 ≤ (cntS (mem64 (famB S))).length) :
    Ret fs f24 [.i .i64 n, v] h fun r h' => ∃ x u, r = .tup [u, .b x, .i .i64 0] ∧ Grow h.nx.nat h h' ∧ (x = true → holB (lowB (famB S)) = false ∧ ∃ D, Sk 2 pE h' u D ∧ Own h.nx.nat u ∧ SeqC (lowB (famB S)) D) ∧ (x = false → u = .sn ∧ (holB (lowB (famB S)) = true ∨ ¬ ToC (lowB (famB S)))) := by
  apply ret_of rfl
  show W fs none f24_c _ _ _
  unfold f24_c
  have ne0 : decide ((0 : Int) ≠ 0) = false := rfl
  simp (disch := omega) only [f24_r0, f24_r1, w_reg, w_seq, seqK_n, x_nil, x_mv, x_as, x_call, ev_t, ev_c, evs_nil, evs_cons, getV_some, putD_some, frame_2, of0, getK_set, Nat.reduceEqDiff, ↓reduceIte]
  refine (callP_0 (ef := f16) k.c16 rfl (f16_ret (n := n) k.p54 hv)).mono ?_
  rintro r h1 ⟨rfl, rfl⟩
  rw [hchk]
  simp (disch := omega) only [f24_r2, f24_r4, w_skip, w_reg, w_seq, w_cond, seqK_n, ckB_b, cbB_b, true_and, x_nil, x_mv, x_as, x_bin, x_call, kx, rvP_ok, okv_some, ev_t, ev_c, evs_nil, evs_cons, getV_some, putD_some, bin_neq, of0, getK_set, Nat.reduceEqDiff, ↓reduceIte, Bool.false_eq_true, ne0]
  refine (callP_0 (ef := f55) k.c55 rfl (f55_ret (S := S) k.p54 hv hc hS)).mono ?_
  rintro u h2 ⟨rfl, g2⟩
  rw [famB_list, ← lowB_V]
  simp (disch := omega) only [x_call, kx, ev_t, ev_c, evs_nil, evs_cons, getV_some, putD_some, getK_set, ↓reduceIte]
  refine (callP_0 (ef := f62) k.c62 rfl (f62_ret (B := lowB (famB S)) k.toCalls62 low_low (by rw [lowB_mem]; exact hne) (g2.hc hc))).mono ?_
  rintro r h3 ⟨x, u, rfl, g3, yes, no⟩
  simp (disch := omega) only [f24_r5, f24_rs, w_reg, w_seq, w_ret, seqK_n, retK_r, x_nil, x_mv, x_as, x_ext, kx, rvP_ok, okv_some, ev_t, ev_c, getV_some, putD_some, onTup_t, oGet_s, nth0, nth1, readRs_nil, readRs_t, retV_2, of0, Option.some.injEq, exists_eq_left', getK_set, Nat.reduceEqDiff, ↓reduceIte]
  have nx2 := g2.nx
  refine ⟨x, u, rfl, g2.trans (g3.low (by omega)), fun h => ?_, no⟩
  obtain ⟨a, D, b, c, d⟩ := yes h
  exact ⟨a, D, b, c.low (by omega), d⟩
theorem f24_err {h : H} {v : V} {S : List Int} {n : Int} (hp : ∀ a b h P, CallP fs (.fn (K.ofNat 54) []) [.i .i64 a, .i .i64 b] h P = P (.b (ptI a b)) h) (h16 : fs.get (K.ofNat 16) = some f16)
    (hv : Sl iE h v S) (hchk : chkS n S ≠ 0) :
    Ret fs f24 [.i .i64 n, v] h fun r h' => r = .tup [.sn, .b false, .i .i64 (chkS n S)] ∧ h' = h := by
  apply ret_of rfl
  show W fs none f24_c _ _ _
  unfold f24_c
  simp (disch := omega) only [f24_r0, f24_r1, w_reg, w_seq, seqK_n, x_nil, x_mv, x_as, x_call, ev_t, ev_c, evs_nil, evs_cons, getV_some, putD_some, frame_2, of0, getK_set, Nat.reduceEqDiff, ↓reduceIte]
  refine (callP_0 (ef := f16) h16 rfl (f16_ret (n := n) hp hv)).mono ?_
  rintro r h1 ⟨rfl, rfl⟩
  have ne0 : decide (chkS n S ≠ 0) = true := decide_eq_true hchk
  simp (disch := omega) only [f24_r2, f24_r3, f24_rs, w_reg, w_seq, w_cond, w_ret, seqK_n, seqK_r, ckB_b, cbB_b, retK_r, x_nil, x_mv, x_as, x_bin, kx, rvP_ok, okv_some, ev_t, ev_c, getV_some, putD_some, bin_neq, oGet_s, readRs_nil, readRs_t, retV_2, of0, Option.some.injEq, exists_eq_left', getK_set, Nat.reduceEqDiff, ↓reduceIte, ne0, and_self]
/-- No collapses leave all. -/
theorem f63_nil {h : H} {B : Nat → Bool} : Ret fs f63 [.agg (boolV B), .sn] h fun r h' => r = .tup [.agg (boolV B), .b true] ∧ Grow h.nx.nat h h' := by
  apply ret_of rfl
  show W fs none f63_c _ _ _
  unfold f63_c
  have n1 := nx_new h (.cells 64 (boolV B))
  have g1 : Grow h.nx.nat h (h.new (.cells 64 (boolV B))) := Grow.new (Nat.le_refl _) _
  have hA1 : Ar V.b (h.new (.cells 64 (boolV B))) h.nx (arr B 64) := Ar.box
  have n2 := nx_new (h.new (.cells 64 (boolV B))) (.cells 64 (List.replicate 64 (.b false)))
  have g2 : Grow (h.new (.cells 64 (boolV B))).nx.nat (h.new (.cells 64 (boolV B))) ((h.new (.cells 64 (boolV B))).new (.cells 64 (List.replicate 64 (.b false)))) := Grow.new (Nat.le_refl _) _
  have e2 : ((h.new (.cells 64 (boolV B))).new (.cells 64 (List.replicate 64 (.b false)))).get (h.new (.cells 64 (boolV B))).nx = .cells 64 (List.replicate 64 (.b false)) := get_new_same
  have hA2 : Ar V.b ((h.new (.cells 64 (boolV B))).new (.cells 64 (List.replicate 64 (.b false)))) h.nx (arr B 64) := hA1.same (get_new_old (by omega))
  have ld2 := hA2.ldn (n := 64) (by rw [arr_len])
  have s2 := out_st (F := B) (List.length_replicate ..) e2
  have lz : lenV .sn ((h.new (.cells 64 (boolV B))).new (.cells 64 (List.replicate 64 (.b false)))) = .ok (.i .i64 0) _ := rfl
  simp (disch := omega) only [f63_r0, f63_r1, w_reg, w_seq, w_block, seqK_n, x_nil, x_mv, x_as, x_alloc, x_box, x_len, kx, rvP_ok, ev_t, ev_c, getV_some, putD_some, oGet_s, frame_2, of0, getK_set, Nat.reduceEqDiff, ↓reduceIte, cells64 (boolV_len (B := B)), lz]
  refine W_loop (fun (_ : Nat) fr h1 => h1 = (h.new (.cells 64 (boolV B))).new (.cells 64 (List.replicate 64 (.b false))) ∧ fr.get (K.ofNat 2) = some (.p h.nx 0) ∧ fr.get (K.ofNat 4) = some (.p (h.new (.cells 64 (boolV B))).nx 0) ∧ fr.get (K.ofNat 11) = some (.i .i64 0) ∧ fr.get (K.ofNat 12) = some (.i .i64 0)) (fun _ => 0) ?_ 0 ⟨rfl, by simp (disch := omega) only [getK_set, Nat.reduceEqDiff, ↓reduceIte, and_self]⟩
  rintro i fr h1 ⟨rfl, g2', g4, g11, g12⟩
  unfold f63_l0
  change storeV _ 64 _ (.agg ((arr B 64).map V.b)) = _ at s2
  simp (disch := omega) only [f63_r2, f63_r9, f63_rs, w_reg, w_seq, w_cond, w_exit, w_ret, seqK_n, seqK_e, atK_e, loopK_e, ckB_b, cbB_b, true_and, retK_r, x_nil, x_as, x_ldn, x_st, x_bin, kx, rvP_ok, okv_some, ev_t, ev_c, getV_some, putD_some, putD_none, bin_lss, oGet_s, readRs_nil, readRs_t, readRs_n, retV_2, Option.some.injEq, exists_eq_left', getK_set, Nat.reduceEqDiff, ↓reduceIte, Bool.false_eq_true, g2', g4, g11, g12, Int.lt_irrefl, decide_false, ld2, s2, readRs_n, out_rd]
  have hk : (h.new (.cells 64 (boolV B))).nx.nat < ((h.new (.cells 64 (boolV B))).new (.cells 64 (List.replicate 64 (.b false)))).nx.nat := by omega
  exact g1.trans ((g2.low (by omega)).trans (Grow.put (by omega) hk _))
/-- Left of no collapses, of what is a complex. -/
theorem f25_nil {h : H} {v : V} {S : List Int} {n : Int} (hp : ∀ a b h P, CallP fs (.fn (K.ofNat 54) []) [.i .i64 a, .i .i64 b] h P = P (.b (ptI a b)) h) (h16 : fs.get (K.ofNat 16) = some f16) (h55 : fs.get (K.ofNat 55) = some f55) (h63 : fs.get (K.ofNat 63) = some f63) (h56 : fs.get (K.ofNat 56) = some f56) (h77 : fs.get (K.ofNat 77) = some f77) (h90 : fs.get (K.ofNat 90) = some f90) (h78 : fs.get (K.ofNat 78) = some f78) (h91 : fs.get (K.ofNat 91) = some alF)
    (hv : Sl iE h v S) (hc : HC h) (hS : S.length ≤ 1000000) (hchk : chkS n S = 0) :
    Ret fs f25 [.i .i64 n, v, .sn] h fun r h' => ∃ u, r = .tup [u, .b true, .i .i64 0] ∧ Sl iE h' u (memI (famB S)) ∧ Own h.nx.nat u ∧ Grow h.nx.nat h h' := by
  apply ret_of rfl
  show W fs none f25_c _ _ _
  unfold f25_c
  have ne0 : decide ((0 : Int) ≠ 0) = false := rfl
  simp (disch := omega) only [f25_r0, f25_r1, w_reg, w_seq, seqK_n, x_nil, x_mv, x_as, x_call, ev_t, ev_c, evs_nil, evs_cons, getV_some, putD_some, frame_3, of0, getK_set, Nat.reduceEqDiff, ↓reduceIte]
  refine (callP_0 (ef := f16) h16 rfl (f16_ret (n := n) hp hv)).mono ?_
  rintro r h1 ⟨rfl, rfl⟩
  rw [hchk]
  simp (disch := omega) only [f25_r2, f25_r4, w_skip, w_reg, w_seq, w_cond, seqK_n, ckB_b, cbB_b, true_and, x_nil, x_mv, x_as, x_bin, x_call, kx, rvP_ok, okv_some, ev_t, ev_c, evs_nil, evs_cons, getV_some, putD_some, bin_neq, of0, getK_set, Nat.reduceEqDiff, ↓reduceIte, Bool.false_eq_true, ne0]
  refine (callP_0 (ef := f55) h55 rfl (f55_ret (S := S) hp hv hc hS)).mono ?_
  rintro u h2 ⟨rfl, g2⟩
  rw [famB_list]
  simp (disch := omega) only [x_mv, x_call, kx, ev_t, ev_c, evs_nil, evs_cons, getV_some, putD_some, getK_set, Nat.reduceEqDiff, ↓reduceIte]
  refine (callP_0 (ef := f63) h63 rfl f63_nil).mono ?_
  rintro r h3 ⟨rfl, g3⟩
  have nx2 := g2.nx
  have nx3 := g3.nx
  have n4 := nx_new h3 (.cells 64 (List.replicate 64 (.b false)))
  have g4 : Grow h3.nx.nat h3 (h3.new (.cells 64 (List.replicate 64 (.b false)))) := Grow.new (Nat.le_refl _) _
  have e4 : (h3.new (.cells 64 (List.replicate 64 (.b false)))).get h3.nx = .cells 64 (List.replicate 64 (.b false)) := get_new_same
  have s4 := out_st (F := famB S) (List.length_replicate ..) e4
  have g5 : Grow h3.nx.nat (h3.new (.cells 64 (List.replicate 64 (.b false)))) ((h3.new (.cells 64 (List.replicate 64 (.b false)))).put h3.nx (.cells 64 (boolV (famB S)))) := Grow.put (Nat.le_refl _) (by omega) _
  have hA5 : Ar V.b ((h3.new (.cells 64 (List.replicate 64 (.b false)))).put h3.nx (.cells 64 (boolV (famB S)))) h3.nx (arr (famB S) 64) := by unfold Ar; rw [get_put_same, arr_len]; rfl
  have n5 : ((h3.new (.cells 64 (List.replicate 64 (.b false)))).put h3.nx (.cells 64 (boolV (famB S)))).nx.nat = h3.nx.nat + 1 := n4
  have gr : Grow h1.nx.nat h1 ((h3.new (.cells 64 (List.replicate 64 (.b false)))).put h3.nx (.cells 64 (boolV (famB S)))) := g2.trans ((g3.low (by omega)).trans ((g4.trans g5).low (by omega)))
  simp (disch := omega) only [w_reg, w_seq, seqK_n, x_nil, x_mv, x_as, x_alloc, x_st, x_ext, kx, rvP_ok, okv_some, ev_t, getV_some, putD_some, putD_none, onTup_t, nth0, nth1, getK_set, Nat.reduceEqDiff, ↓reduceIte, s4]
  generalize (h3.new (.cells 64 (List.replicate 64 (.b false)))).put h3.nx (.cells 64 (boolV (famB S))) = h5 at *
  have ld5 := hA5.ldn (n := 64) (by rw [arr_len])
  change loadV _ _ _ = .ok (.agg (boolV (famB S))) _ at ld5
  simp (disch := omega) only [f25_r5, x_ldn, x_call, kx, rvP_ok, ev_t, ev_c, evs_nil, evs_cons, getV_some, putD_some, of0, getK_set, Nat.reduceEqDiff, ↓reduceIte, ld5]
  refine (callP_0 (ef := f56) h56 rfl (f56_ret (B := famB S) h77 h90 h78 h91 (gr.hc hc))).mono ?_
  rintro u h6 ⟨hs, ho, g6⟩
  simp (disch := omega) only [f25_rs, w_ret, seqK_n, retK_r, x_nil, x_mv, x_as, kx, ev_t, ev_c, getV_some, putD_some, oGet_s, readRs_nil, readRs_t, retV_2, Option.some.injEq, exists_eq_left', getK_set, Nat.reduceEqDiff, ↓reduceIte]
  exact ⟨u, rfl, hs, ho.low (by omega), gr.trans (g6.low (by omega))⟩
theorem f25_err {h : H} {v w : V} {S : List Int} {n : Int} (hp : ∀ a b h P, CallP fs (.fn (K.ofNat 54) []) [.i .i64 a, .i .i64 b] h P = P (.b (ptI a b)) h) (h16 : fs.get (K.ofNat 16) = some f16)
    (hv : Sl iE h v S) (hchk : chkS n S ≠ 0) :
    Ret fs f25 [.i .i64 n, v, w] h fun r h' => r = .tup [.sn, .b false, .i .i64 (chkS n S)] ∧ h' = h := by
  apply ret_of rfl
  show W fs none f25_c _ _ _
  unfold f25_c
  simp (disch := omega) only [f25_r0, f25_r1, w_reg, w_seq, seqK_n, x_nil, x_mv, x_as, x_call, ev_t, ev_c, evs_nil, evs_cons, getV_some, putD_some, frame_3, of0, getK_set, Nat.reduceEqDiff, ↓reduceIte]
  refine (callP_0 (ef := f16) h16 rfl (f16_ret (n := n) hp hv)).mono ?_
  rintro r h1 ⟨rfl, rfl⟩
  have ne0 : decide (chkS n S ≠ 0) = true := decide_eq_true hchk
  simp (disch := omega) only [f25_r2, f25_r3, f25_rs, w_reg, w_seq, w_cond, w_ret, seqK_n, seqK_r, ckB_b, cbB_b, retK_r, x_nil, x_mv, x_as, x_bin, kx, rvP_ok, okv_some, ev_t, ev_c, getV_some, putD_some, bin_neq, oGet_s, readRs_nil, readRs_t, retV_2, of0, Option.some.injEq, exists_eq_left', getK_set, Nat.reduceEqDiff, ↓reduceIte, ne0, and_self]
end
end Go.Ev
namespace Go.Ev
open Go Go.RowKit
theorem chk_in {n : Int} {P : List Int} (h : chkS n P = 0) : 1 ≤ n ∧ n ≤ 6 ∧ 1 ≤ P.length ∧ P.length ≤ 10 ∧ ∀ i (hi : i < P.length), 1 ≤ P[i] ∧ P[i] < 2 ^ n.toNat ∧ ∀ k (hk : k < i), P[k] < P[i] ∧ ptI P[k] P[i] = false := by
  unfold chkS at h
  split at h
  · cases h
  · split at h
    · rename_i h1 h2
      unfold goodS at h2
      simp only [Bool.and_eq_true, decide_eq_true_eq] at h2
      obtain ⟨⟨h3, h4⟩, h5⟩ := h2
      exact ⟨by omega, by omega, h3, h4, fun i hi => (okAt_iff hi).1 (List.all_eq_true.1 h5 i (List.mem_range.2 hi))⟩
    · cases h
theorem chk_cpx {n : Int} {P : List Int} (h : chkS n P = 0) : Cpx n P := by
  obtain ⟨h1, h6, hl1, hl, hi⟩ := chk_in h
  obtain ⟨hpw, hpe⟩ := pow_n h1 h6
  refine cpx_of h1 h6 (fun e => by rw [e] at hl1; simp at hl1) hl (List.pairwise_iff_getElem.2 fun i j hi' hj hij => ((hi j hj).2.2 i hij).1) (fun x hx => ?_) fun x hx y hy => ?_
  · obtain ⟨i, hi', rfl⟩ := List.mem_iff_getElem.1 hx
    exact ⟨(hi i hi').1, (hi i hi').2.1⟩
  · obtain ⟨a, ha, rfl⟩ := List.mem_iff_getElem.1 hx
    obtain ⟨b, hb, rfl⟩ := List.mem_iff_getElem.1 hy
    rcases Nat.lt_trichotomy a b with e | e | e
    · exact .inr ((hi b hb).2.2 a e).2
    · subst e; exact .inl rfl
    · right
      rw [← Bool.not_eq_true]
      intro ht
      have h2 := hi a ha
      have h3 := hi b hb
      have := pt_le (by omega) (by omega) (by omega) (by omega) ht
      have := (h2.2.2 b e).1
      omega
theorem chk_zero {n : Int} {P : List Int} (h : chkS n P = 0) : famB P 0 = true := by
  have cp := chk_cpx h
  obtain ⟨Q, rfl, an⟩ := cp.ex
  have hne : Q ≠ [] := fun e => cp.ne (by rw [e]; rfl)
  obtain ⟨y, hy⟩ := List.exists_mem_of_ne_nil Q hne
  exact (fam_cast an.lt (by omega)).2 ⟨y, hy, Nat.zero_and y⟩
theorem chk_cnt {n : Int} {P : List Int} (h : chkS n P = 0) : 1 ≤ (cntS (mem64 (famB P))).length := by
  have h0 : (0 : Nat) ∈ mem64 (famB P) := by unfold mem64; rw [List.mem_filter, List.mem_range]; exact ⟨by omega, chk_zero h⟩
  have := (cnt_len (d := 6) (mem64 (famB P)) fun k _ => pop6_le).2.1 0 h0
  omega
end Go.Ev
namespace Go.Ev
open Go Go.RowKit
noncomputable def f3_r0 : List EOper := [⟨(some (K.ofNat 4)), none, .as (.c (.b false))⟩]
noncomputable def f3_r1 : List EOper := [⟨(some (K.ofNat 34)), none, .mv (.t (K.ofNat 1))⟩, ⟨(some (K.ofNat 35)), none, .call (.c (.fn (K.ofNat 14) [])) [(.t (K.ofNat 34)), (.c (.i .i64 (.ofNat 20)))]⟩, ⟨(some (K.ofNat 5)), none, .as (.t (K.ofNat 35))⟩]
noncomputable def f3_r2 : List EOper := [⟨(some (K.ofNat 36)), none, .mv (.t (K.ofNat 0))⟩, ⟨(some (K.ofNat 37)), none, .mv (.t (K.ofNat 5))⟩, ⟨(some (K.ofNat 38)), none, .call (.c (.fn (K.ofNat 15) [])) [(.t (K.ofNat 36)), (.t (K.ofNat 37))]⟩, ⟨(some (K.ofNat 6)), none, .as (.t (K.ofNat 38))⟩]
noncomputable def f3_r3 : List EOper := [⟨(some (K.ofNat 39)), none, .mv (.t (K.ofNat 0))⟩, ⟨(some (K.ofNat 40)), none, .mv (.t (K.ofNat 5))⟩, ⟨(some (K.ofNat 41)), none, .call (.c (.fn (K.ofNat 16) [])) [(.t (K.ofNat 39)), (.t (K.ofNat 40))]⟩, ⟨(some (K.ofNat 42)), none, .mv (.t (K.ofNat 6))⟩, ⟨(some (K.ofNat 43)), none, .bin .neq (.t (K.ofNat 41)) (.t (K.ofNat 42))⟩]
noncomputable def f3_r4 : List EOper := [⟨(some (K.ofNat 4)), none, .as (.c (.b false))⟩]
noncomputable def f3_r5 : List EOper := [⟨(some (K.ofNat 45)), none, .mv (.t (K.ofNat 0))⟩, ⟨(some (K.ofNat 46)), none, .mv (.t (K.ofNat 5))⟩, ⟨(some (K.ofNat 47)), none, .call (.c (.fn (K.ofNat 17) [])) [(.t (K.ofNat 45)), (.t (K.ofNat 46))]⟩, ⟨(some (K.ofNat 44)), none, .mv (.t (K.ofNat 47))⟩, ⟨(some (K.ofNat 48)), none, .ext (.t (K.ofNat 44)) 0⟩, ⟨(some (K.ofNat 49)), none, .ext (.t (K.ofNat 44)) 1⟩, ⟨(some (K.ofNat 7)), none, .as (.t (K.ofNat 48))⟩, ⟨(some (K.ofNat 8)), none, .as (.t (K.ofNat 49))⟩]
noncomputable def f3_r6 : List EOper := [⟨(some (K.ofNat 51)), none, .mv (.t (K.ofNat 0))⟩, ⟨(some (K.ofNat 52)), none, .mv (.t (K.ofNat 5))⟩, ⟨(some (K.ofNat 53)), none, .call (.c (.fn (K.ofNat 18) [])) [(.t (K.ofNat 51)), (.t (K.ofNat 52))]⟩, ⟨(some (K.ofNat 50)), none, .mv (.t (K.ofNat 53))⟩, ⟨(some (K.ofNat 54)), none, .ext (.t (K.ofNat 50)) 0⟩, ⟨(some (K.ofNat 55)), none, .ext (.t (K.ofNat 50)) 1⟩, ⟨(some (K.ofNat 9)), none, .as (.t (K.ofNat 54))⟩, ⟨(some (K.ofNat 10)), none, .as (.t (K.ofNat 55))⟩]
noncomputable def f3_r7 : List EOper := [⟨(some (K.ofNat 57)), none, .mv (.t (K.ofNat 0))⟩, ⟨(some (K.ofNat 58)), none, .mv (.t (K.ofNat 5))⟩, ⟨(some (K.ofNat 59)), none, .call (.c (.fn (K.ofNat 19) [])) [(.t (K.ofNat 57)), (.t (K.ofNat 58))]⟩, ⟨(some (K.ofNat 56)), none, .mv (.t (K.ofNat 59))⟩, ⟨(some (K.ofNat 60)), none, .ext (.t (K.ofNat 56)) 0⟩, ⟨(some (K.ofNat 61)), none, .ext (.t (K.ofNat 56)) 1⟩, ⟨(some (K.ofNat 11)), none, .as (.t (K.ofNat 60))⟩, ⟨(some (K.ofNat 12)), none, .as (.t (K.ofNat 61))⟩]
noncomputable def f3_r8 : List EOper := [⟨(some (K.ofNat 63)), none, .mv (.t (K.ofNat 0))⟩, ⟨(some (K.ofNat 64)), none, .mv (.t (K.ofNat 5))⟩, ⟨(some (K.ofNat 65)), none, .call (.c (.fn (K.ofNat 20) [])) [(.t (K.ofNat 63)), (.t (K.ofNat 64))]⟩, ⟨(some (K.ofNat 62)), none, .mv (.t (K.ofNat 65))⟩, ⟨(some (K.ofNat 66)), none, .ext (.t (K.ofNat 62)) 0⟩, ⟨(some (K.ofNat 67)), none, .ext (.t (K.ofNat 62)) 1⟩, ⟨(some (K.ofNat 13)), none, .as (.t (K.ofNat 66))⟩, ⟨(some (K.ofNat 14)), none, .as (.t (K.ofNat 67))⟩]
noncomputable def f3_r9 : List EOper := [⟨(some (K.ofNat 69)), none, .mv (.t (K.ofNat 0))⟩, ⟨(some (K.ofNat 70)), none, .mv (.t (K.ofNat 5))⟩, ⟨(some (K.ofNat 71)), none, .call (.c (.fn (K.ofNat 21) [])) [(.t (K.ofNat 69)), (.t (K.ofNat 70))]⟩, ⟨(some (K.ofNat 68)), none, .mv (.t (K.ofNat 71))⟩, ⟨(some (K.ofNat 72)), none, .ext (.t (K.ofNat 68)) 0⟩, ⟨(some (K.ofNat 73)), none, .ext (.t (K.ofNat 68)) 1⟩, ⟨(some (K.ofNat 74)), none, .ext (.t (K.ofNat 68)) 2⟩, ⟨(some (K.ofNat 15)), none, .as (.t (K.ofNat 72))⟩, ⟨(some (K.ofNat 16)), none, .as (.t (K.ofNat 73))⟩, ⟨(some (K.ofNat 17)), none, .as (.t (K.ofNat 74))⟩]
noncomputable def f3_r10 : List EOper := [⟨(some (K.ofNat 76)), none, .mv (.t (K.ofNat 0))⟩, ⟨(some (K.ofNat 77)), none, .mv (.t (K.ofNat 5))⟩, ⟨(some (K.ofNat 78)), none, .call (.c (.fn (K.ofNat 22) [])) [(.t (K.ofNat 76)), (.t (K.ofNat 77)), (.c .sn)]⟩, ⟨(some (K.ofNat 75)), none, .mv (.t (K.ofNat 78))⟩, ⟨(some (K.ofNat 79)), none, .ext (.t (K.ofNat 75)) 0⟩, ⟨(some (K.ofNat 80)), none, .ext (.t (K.ofNat 75)) 1⟩, ⟨(some (K.ofNat 18)), none, .as (.t (K.ofNat 79))⟩, ⟨(some (K.ofNat 19)), none, .as (.t (K.ofNat 80))⟩]
noncomputable def f3_r11 : List EOper := [⟨(some (K.ofNat 82)), none, .mv (.t (K.ofNat 0))⟩, ⟨(some (K.ofNat 83)), none, .mv (.t (K.ofNat 5))⟩, ⟨(some (K.ofNat 84)), none, .call (.c (.fn (K.ofNat 23) [])) [(.t (K.ofNat 82)), (.t (K.ofNat 83)), (.c .sn)]⟩, ⟨(some (K.ofNat 81)), none, .mv (.t (K.ofNat 84))⟩, ⟨(some (K.ofNat 85)), none, .ext (.t (K.ofNat 81)) 0⟩, ⟨(some (K.ofNat 86)), none, .ext (.t (K.ofNat 81)) 1⟩, ⟨(some (K.ofNat 20)), none, .as (.t (K.ofNat 85))⟩, ⟨(some (K.ofNat 21)), none, .as (.t (K.ofNat 86))⟩]
noncomputable def f3_r12 : List EOper := [⟨(some (K.ofNat 88)), none, .mv (.t (K.ofNat 0))⟩, ⟨(some (K.ofNat 89)), none, .mv (.t (K.ofNat 5))⟩, ⟨(some (K.ofNat 90)), none, .call (.c (.fn (K.ofNat 24) [])) [(.t (K.ofNat 88)), (.t (K.ofNat 89))]⟩, ⟨(some (K.ofNat 87)), none, .mv (.t (K.ofNat 90))⟩, ⟨(some (K.ofNat 91)), none, .ext (.t (K.ofNat 87)) 0⟩, ⟨(some (K.ofNat 92)), none, .ext (.t (K.ofNat 87)) 1⟩, ⟨(some (K.ofNat 93)), none, .ext (.t (K.ofNat 87)) 2⟩, ⟨(some (K.ofNat 22)), none, .as (.t (K.ofNat 91))⟩, ⟨(some (K.ofNat 23)), none, .as (.t (K.ofNat 92))⟩, ⟨(some (K.ofNat 24)), none, .as (.t (K.ofNat 93))⟩]
noncomputable def f3_r13 : List EOper := [⟨(some (K.ofNat 95)), none, .mv (.t (K.ofNat 0))⟩, ⟨(some (K.ofNat 96)), none, .mv (.t (K.ofNat 5))⟩, ⟨(some (K.ofNat 97)), none, .call (.c (.fn (K.ofNat 25) [])) [(.t (K.ofNat 95)), (.t (K.ofNat 96)), (.c .sn)]⟩, ⟨(some (K.ofNat 94)), none, .mv (.t (K.ofNat 97))⟩, ⟨(some (K.ofNat 98)), none, .ext (.t (K.ofNat 94)) 0⟩, ⟨(some (K.ofNat 99)), none, .ext (.t (K.ofNat 94)) 1⟩, ⟨(some (K.ofNat 100)), none, .ext (.t (K.ofNat 94)) 2⟩, ⟨(some (K.ofNat 25)), none, .as (.t (K.ofNat 98))⟩, ⟨(some (K.ofNat 26)), none, .as (.t (K.ofNat 99))⟩, ⟨(some (K.ofNat 27)), none, .as (.t (K.ofNat 100))⟩]
noncomputable def f3_r14 : List EOper := [⟨(some (K.ofNat 102)), none, .mv (.t (K.ofNat 0))⟩, ⟨(some (K.ofNat 103)), none, .mv (.t (K.ofNat 5))⟩, ⟨(some (K.ofNat 104)), none, .call (.c (.fn (K.ofNat 26) [])) [(.t (K.ofNat 102)), (.t (K.ofNat 103))]⟩, ⟨(some (K.ofNat 101)), none, .mv (.t (K.ofNat 104))⟩, ⟨(some (K.ofNat 105)), none, .ext (.t (K.ofNat 101)) 0⟩, ⟨(some (K.ofNat 106)), none, .ext (.t (K.ofNat 101)) 1⟩, ⟨(some (K.ofNat 28)), none, .as (.t (K.ofNat 105))⟩, ⟨(some (K.ofNat 29)), none, .as (.t (K.ofNat 106))⟩]
noncomputable def f3_r15 : List EOper := [⟨(some (K.ofNat 108)), none, .mv (.t (K.ofNat 0))⟩, ⟨(some (K.ofNat 109)), none, .mv (.t (K.ofNat 5))⟩, ⟨(some (K.ofNat 110)), none, .call (.c (.fn (K.ofNat 27) [])) [(.t (K.ofNat 108)), (.t (K.ofNat 109)), (.c (.i .i64 (.ofNat 0)))]⟩, ⟨(some (K.ofNat 107)), none, .mv (.t (K.ofNat 110))⟩, ⟨(some (K.ofNat 111)), none, .ext (.t (K.ofNat 107)) 0⟩, ⟨(some (K.ofNat 112)), none, .ext (.t (K.ofNat 107)) 1⟩, ⟨(some (K.ofNat 30)), none, .as (.t (K.ofNat 111))⟩, ⟨(some (K.ofNat 31)), none, .as (.t (K.ofNat 112))⟩]
noncomputable def f3_r16 : List EOper := [⟨(some (K.ofNat 114)), none, .mv (.t (K.ofNat 0))⟩, ⟨(some (K.ofNat 115)), none, .mv (.t (K.ofNat 5))⟩, ⟨(some (K.ofNat 116)), none, .call (.c (.fn (K.ofNat 28) [])) [(.t (K.ofNat 114)), (.t (K.ofNat 115))]⟩, ⟨(some (K.ofNat 113)), none, .mv (.t (K.ofNat 116))⟩, ⟨(some (K.ofNat 117)), none, .ext (.t (K.ofNat 113)) 0⟩, ⟨(some (K.ofNat 118)), none, .ext (.t (K.ofNat 113)) 1⟩, ⟨(some (K.ofNat 32)), none, .as (.t (K.ofNat 117))⟩, ⟨(some (K.ofNat 33)), none, .as (.t (K.ofNat 118))⟩]
noncomputable def f3_r17 : List EOper := [⟨(some (K.ofNat 119)), none, .mv (.t (K.ofNat 6))⟩, ⟨(some (K.ofNat 120)), none, .bin .eql (.t (K.ofNat 119)) (.c (.i .i64 (.ofNat 0)))⟩]
noncomputable def f3_r18 : List EOper := [⟨(some (K.ofNat 121)), none, .mv (.t (K.ofNat 8))⟩, ⟨(some (K.ofNat 122)), none, .bin .eql (.t (K.ofNat 121)) (.c (.i .i64 (.ofNat 0)))⟩, ⟨(some (K.ofNat 123)), none, .mv (.t (K.ofNat 122))⟩, ⟨(some (K.ofNat 124)), (some ((K.ofNat 123), true)), .mv (.t (K.ofNat 10))⟩, ⟨(some (K.ofNat 125)), (some ((K.ofNat 123), true)), .bin .eql (.t (K.ofNat 124)) (.c (.i .i64 (.ofNat 0)))⟩, ⟨(some (K.ofNat 126)), none, .pick (.t (K.ofNat 123)) (.t (K.ofNat 125)) (.c (.b false))⟩, ⟨(some (K.ofNat 127)), none, .mv (.t (K.ofNat 126))⟩, ⟨(some (K.ofNat 128)), (some ((K.ofNat 127), true)), .mv (.t (K.ofNat 12))⟩, ⟨(some (K.ofNat 129)), (some ((K.ofNat 127), true)), .bin .eql (.t (K.ofNat 128)) (.c (.i .i64 (.ofNat 0)))⟩, ⟨(some (K.ofNat 130)), none, .pick (.t (K.ofNat 127)) (.t (K.ofNat 129)) (.c (.b false))⟩, ⟨(some (K.ofNat 131)), none, .mv (.t (K.ofNat 130))⟩, ⟨(some (K.ofNat 132)), (some ((K.ofNat 131), true)), .mv (.t (K.ofNat 14))⟩, ⟨(some (K.ofNat 133)), (some ((K.ofNat 131), true)), .bin .eql (.t (K.ofNat 132)) (.c (.i .i64 (.ofNat 0)))⟩, ⟨(some (K.ofNat 134)), none, .pick (.t (K.ofNat 131)) (.t (K.ofNat 133)) (.c (.b false))⟩, ⟨(some (K.ofNat 135)), none, .mv (.t (K.ofNat 134))⟩, ⟨(some (K.ofNat 136)), (some ((K.ofNat 135), true)), .mv (.t (K.ofNat 17))⟩, ⟨(some (K.ofNat 137)), (some ((K.ofNat 135), true)), .bin .eql (.t (K.ofNat 136)) (.c (.i .i64 (.ofNat 0)))⟩, ⟨(some (K.ofNat 138)), none, .pick (.t (K.ofNat 135)) (.t (K.ofNat 137)) (.c (.b false))⟩, ⟨(some (K.ofNat 139)), none, .mv (.t (K.ofNat 138))⟩, ⟨(some (K.ofNat 140)), (some ((K.ofNat 139), true)), .mv (.t (K.ofNat 19))⟩, ⟨(some (K.ofNat 141)), (some ((K.ofNat 139), true)), .bin .eql (.t (K.ofNat 140)) (.c (.i .i64 (.ofNat 0)))⟩, ⟨(some (K.ofNat 142)), none, .pick (.t (K.ofNat 139)) (.t (K.ofNat 141)) (.c (.b false))⟩, ⟨(some (K.ofNat 143)), none, .mv (.t (K.ofNat 142))⟩, ⟨(some (K.ofNat 144)), (some ((K.ofNat 143), true)), .mv (.t (K.ofNat 21))⟩, ⟨(some (K.ofNat 145)), (some ((K.ofNat 143), true)), .bin .eql (.t (K.ofNat 144)) (.c (.i .i64 (.ofNat 1)))⟩, ⟨(some (K.ofNat 146)), none, .pick (.t (K.ofNat 143)) (.t (K.ofNat 145)) (.c (.b false))⟩, ⟨(some (K.ofNat 147)), none, .mv (.t (K.ofNat 146))⟩, ⟨(some (K.ofNat 148)), (some ((K.ofNat 147), true)), .mv (.t (K.ofNat 24))⟩, ⟨(some (K.ofNat 149)), (some ((K.ofNat 147), true)), .bin .eql (.t (K.ofNat 148)) (.c (.i .i64 (.ofNat 0)))⟩, ⟨(some (K.ofNat 150)), none, .pick (.t (K.ofNat 147)) (.t (K.ofNat 149)) (.c (.b false))⟩, ⟨(some (K.ofNat 151)), none, .mv (.t (K.ofNat 150))⟩, ⟨(some (K.ofNat 152)), (some ((K.ofNat 151), true)), .mv (.t (K.ofNat 27))⟩, ⟨(some (K.ofNat 153)), (some ((K.ofNat 151), true)), .bin .eql (.t (K.ofNat 152)) (.c (.i .i64 (.ofNat 0)))⟩, ⟨(some (K.ofNat 154)), none, .pick (.t (K.ofNat 151)) (.t (K.ofNat 153)) (.c (.b false))⟩, ⟨(some (K.ofNat 155)), none, .mv (.t (K.ofNat 154))⟩, ⟨(some (K.ofNat 156)), (some ((K.ofNat 155), true)), .mv (.t (K.ofNat 29))⟩, ⟨(some (K.ofNat 157)), (some ((K.ofNat 155), true)), .bin .eql (.t (K.ofNat 156)) (.c (.i .i64 (.ofNat 0)))⟩, ⟨(some (K.ofNat 158)), none, .pick (.t (K.ofNat 155)) (.t (K.ofNat 157)) (.c (.b false))⟩, ⟨(some (K.ofNat 159)), none, .mv (.t (K.ofNat 158))⟩, ⟨(some (K.ofNat 160)), (some ((K.ofNat 159), true)), .mv (.t (K.ofNat 31))⟩, ⟨(some (K.ofNat 161)), (some ((K.ofNat 159), true)), .bin .eql (.t (K.ofNat 160)) (.c (.i .i64 (.ofNat 0)))⟩, ⟨(some (K.ofNat 162)), none, .pick (.t (K.ofNat 159)) (.t (K.ofNat 161)) (.c (.b false))⟩, ⟨(some (K.ofNat 163)), none, .mv (.t (K.ofNat 162))⟩, ⟨(some (K.ofNat 164)), (some ((K.ofNat 163), true)), .call (.c (.fn (K.ofNat 29) [])) []⟩, ⟨(some (K.ofNat 165)), none, .pick (.t (K.ofNat 163)) (.t (K.ofNat 164)) (.c (.b false))⟩, ⟨(some (K.ofNat 4)), none, .as (.t (K.ofNat 165))⟩]
noncomputable def f3_r19 : List EOper := [⟨(some (K.ofNat 166)), none, .mv (.t (K.ofNat 8))⟩, ⟨(some (K.ofNat 167)), none, .mv (.t (K.ofNat 6))⟩, ⟨(some (K.ofNat 168)), none, .bin .eql (.t (K.ofNat 166)) (.t (K.ofNat 167))⟩, ⟨(some (K.ofNat 169)), none, .mv (.t (K.ofNat 168))⟩, ⟨(some (K.ofNat 170)), (some ((K.ofNat 169), true)), .mv (.t (K.ofNat 10))⟩, ⟨(some (K.ofNat 171)), (some ((K.ofNat 169), true)), .mv (.t (K.ofNat 6))⟩, ⟨(some (K.ofNat 172)), (some ((K.ofNat 169), true)), .bin .eql (.t (K.ofNat 170)) (.t (K.ofNat 171))⟩, ⟨(some (K.ofNat 173)), none, .pick (.t (K.ofNat 169)) (.t (K.ofNat 172)) (.c (.b false))⟩, ⟨(some (K.ofNat 174)), none, .mv (.t (K.ofNat 173))⟩, ⟨(some (K.ofNat 175)), (some ((K.ofNat 174), true)), .mv (.t (K.ofNat 12))⟩, ⟨(some (K.ofNat 176)), (some ((K.ofNat 174), true)), .mv (.t (K.ofNat 6))⟩, ⟨(some (K.ofNat 177)), (some ((K.ofNat 174), true)), .bin .eql (.t (K.ofNat 175)) (.t (K.ofNat 176))⟩, ⟨(some (K.ofNat 178)), none, .pick (.t (K.ofNat 174)) (.t (K.ofNat 177)) (.c (.b false))⟩, ⟨(some (K.ofNat 179)), none, .mv (.t (K.ofNat 178))⟩, ⟨(some (K.ofNat 180)), (some ((K.ofNat 179), true)), .mv (.t (K.ofNat 14))⟩, ⟨(some (K.ofNat 181)), (some ((K.ofNat 179), true)), .mv (.t (K.ofNat 6))⟩, ⟨(some (K.ofNat 182)), (some ((K.ofNat 179), true)), .bin .eql (.t (K.ofNat 180)) (.t (K.ofNat 181))⟩, ⟨(some (K.ofNat 183)), none, .pick (.t (K.ofNat 179)) (.t (K.ofNat 182)) (.c (.b false))⟩, ⟨(some (K.ofNat 184)), none, .mv (.t (K.ofNat 183))⟩, ⟨(some (K.ofNat 185)), (some ((K.ofNat 184), true)), .mv (.t (K.ofNat 17))⟩, ⟨(some (K.ofNat 186)), (some ((K.ofNat 184), true)), .mv (.t (K.ofNat 6))⟩, ⟨(some (K.ofNat 187)), (some ((K.ofNat 184), true)), .bin .eql (.t (K.ofNat 185)) (.t (K.ofNat 186))⟩, ⟨(some (K.ofNat 188)), none, .pick (.t (K.ofNat 184)) (.t (K.ofNat 187)) (.c (.b false))⟩, ⟨(some (K.ofNat 189)), none, .mv (.t (K.ofNat 188))⟩, ⟨(some (K.ofNat 190)), (some ((K.ofNat 189), true)), .mv (.t (K.ofNat 19))⟩, ⟨(some (K.ofNat 191)), (some ((K.ofNat 189), true)), .mv (.t (K.ofNat 6))⟩, ⟨(some (K.ofNat 192)), (some ((K.ofNat 189), true)), .bin .eql (.t (K.ofNat 190)) (.t (K.ofNat 191))⟩, ⟨(some (K.ofNat 193)), none, .pick (.t (K.ofNat 189)) (.t (K.ofNat 192)) (.c (.b false))⟩, ⟨(some (K.ofNat 194)), none, .mv (.t (K.ofNat 193))⟩, ⟨(some (K.ofNat 195)), (some ((K.ofNat 194), true)), .mv (.t (K.ofNat 21))⟩, ⟨(some (K.ofNat 196)), (some ((K.ofNat 194), true)), .mv (.t (K.ofNat 6))⟩, ⟨(some (K.ofNat 197)), (some ((K.ofNat 194), true)), .bin .eql (.t (K.ofNat 195)) (.t (K.ofNat 196))⟩, ⟨(some (K.ofNat 198)), none, .pick (.t (K.ofNat 194)) (.t (K.ofNat 197)) (.c (.b false))⟩, ⟨(some (K.ofNat 199)), none, .mv (.t (K.ofNat 198))⟩, ⟨(some (K.ofNat 200)), (some ((K.ofNat 199), true)), .mv (.t (K.ofNat 24))⟩, ⟨(some (K.ofNat 201)), (some ((K.ofNat 199), true)), .mv (.t (K.ofNat 6))⟩, ⟨(some (K.ofNat 202)), (some ((K.ofNat 199), true)), .bin .eql (.t (K.ofNat 200)) (.t (K.ofNat 201))⟩, ⟨(some (K.ofNat 203)), none, .pick (.t (K.ofNat 199)) (.t (K.ofNat 202)) (.c (.b false))⟩, ⟨(some (K.ofNat 204)), none, .mv (.t (K.ofNat 203))⟩, ⟨(some (K.ofNat 205)), (some ((K.ofNat 204), true)), .mv (.t (K.ofNat 27))⟩, ⟨(some (K.ofNat 206)), (some ((K.ofNat 204), true)), .mv (.t (K.ofNat 6))⟩, ⟨(some (K.ofNat 207)), (some ((K.ofNat 204), true)), .bin .eql (.t (K.ofNat 205)) (.t (K.ofNat 206))⟩, ⟨(some (K.ofNat 208)), none, .pick (.t (K.ofNat 204)) (.t (K.ofNat 207)) (.c (.b false))⟩, ⟨(some (K.ofNat 209)), none, .mv (.t (K.ofNat 208))⟩, ⟨(some (K.ofNat 210)), (some ((K.ofNat 209), true)), .mv (.t (K.ofNat 29))⟩, ⟨(some (K.ofNat 211)), (some ((K.ofNat 209), true)), .mv (.t (K.ofNat 6))⟩, ⟨(some (K.ofNat 212)), (some ((K.ofNat 209), true)), .bin .eql (.t (K.ofNat 210)) (.t (K.ofNat 211))⟩, ⟨(some (K.ofNat 213)), none, .pick (.t (K.ofNat 209)) (.t (K.ofNat 212)) (.c (.b false))⟩, ⟨(some (K.ofNat 214)), none, .mv (.t (K.ofNat 213))⟩, ⟨(some (K.ofNat 215)), (some ((K.ofNat 214), true)), .mv (.t (K.ofNat 31))⟩, ⟨(some (K.ofNat 216)), (some ((K.ofNat 214), true)), .mv (.t (K.ofNat 6))⟩, ⟨(some (K.ofNat 217)), (some ((K.ofNat 214), true)), .bin .eql (.t (K.ofNat 215)) (.t (K.ofNat 216))⟩, ⟨(some (K.ofNat 218)), none, .pick (.t (K.ofNat 214)) (.t (K.ofNat 217)) (.c (.b false))⟩, ⟨(some (K.ofNat 219)), none, .mv (.t (K.ofNat 218))⟩, ⟨(some (K.ofNat 220)), (some ((K.ofNat 219), true)), .mv (.t (K.ofNat 33))⟩, ⟨(some (K.ofNat 221)), (some ((K.ofNat 219), true)), .mv (.t (K.ofNat 6))⟩, ⟨(some (K.ofNat 222)), (some ((K.ofNat 219), true)), .bin .eql (.t (K.ofNat 220)) (.t (K.ofNat 221))⟩, ⟨(some (K.ofNat 223)), none, .pick (.t (K.ofNat 219)) (.t (K.ofNat 222)) (.c (.b false))⟩, ⟨(some (K.ofNat 224)), none, .mv (.t (K.ofNat 223))⟩, ⟨(some (K.ofNat 225)), (some ((K.ofNat 224), true)), .mv (.t (K.ofNat 16))⟩, ⟨(some (K.ofNat 226)), (some ((K.ofNat 224), true)), .not (.t (K.ofNat 225))⟩, ⟨(some (K.ofNat 227)), none, .pick (.t (K.ofNat 224)) (.t (K.ofNat 226)) (.c (.b false))⟩, ⟨(some (K.ofNat 228)), none, .mv (.t (K.ofNat 227))⟩, ⟨(some (K.ofNat 229)), (some ((K.ofNat 228), true)), .mv (.t (K.ofNat 23))⟩, ⟨(some (K.ofNat 230)), (some ((K.ofNat 228), true)), .not (.t (K.ofNat 229))⟩, ⟨(some (K.ofNat 231)), none, .pick (.t (K.ofNat 228)) (.t (K.ofNat 230)) (.c (.b false))⟩, ⟨(some (K.ofNat 232)), none, .mv (.t (K.ofNat 231))⟩, ⟨(some (K.ofNat 233)), (some ((K.ofNat 232), true)), .mv (.t (K.ofNat 26))⟩, ⟨(some (K.ofNat 234)), (some ((K.ofNat 232), true)), .not (.t (K.ofNat 233))⟩, ⟨(some (K.ofNat 235)), none, .pick (.t (K.ofNat 232)) (.t (K.ofNat 234)) (.c (.b false))⟩, ⟨(some (K.ofNat 236)), none, .mv (.t (K.ofNat 235))⟩, ⟨(some (K.ofNat 237)), (some ((K.ofNat 236), true)), .mv (.t (K.ofNat 7))⟩, ⟨(some (K.ofNat 238)), (some ((K.ofNat 236), true)), .len (.t (K.ofNat 237))⟩, ⟨(some (K.ofNat 239)), (some ((K.ofNat 236), true)), .mv (.t (K.ofNat 9))⟩, ⟨(some (K.ofNat 240)), (some ((K.ofNat 236), true)), .len (.t (K.ofNat 239))⟩, ⟨(some (K.ofNat 241)), (some ((K.ofNat 236), true)), .bin .add (.t (K.ofNat 238)) (.t (K.ofNat 240))⟩, ⟨(some (K.ofNat 242)), (some ((K.ofNat 236), true)), .mv (.t (K.ofNat 11))⟩, ⟨(some (K.ofNat 243)), (some ((K.ofNat 236), true)), .len (.t (K.ofNat 242))⟩, ⟨(some (K.ofNat 244)), (some ((K.ofNat 236), true)), .bin .add (.t (K.ofNat 241)) (.t (K.ofNat 243))⟩, ⟨(some (K.ofNat 245)), (some ((K.ofNat 236), true)), .mv (.t (K.ofNat 13))⟩, ⟨(some (K.ofNat 246)), (some ((K.ofNat 236), true)), .bin .add (.t (K.ofNat 244)) (.t (K.ofNat 245))⟩, ⟨(some (K.ofNat 247)), (some ((K.ofNat 236), true)), .mv (.t (K.ofNat 15))⟩, ⟨(some (K.ofNat 248)), (some ((K.ofNat 236), true)), .len (.t (K.ofNat 247))⟩, ⟨(some (K.ofNat 249)), (some ((K.ofNat 236), true)), .bin .add (.t (K.ofNat 246)) (.t (K.ofNat 248))⟩, ⟨(some (K.ofNat 250)), (some ((K.ofNat 236), true)), .mv (.t (K.ofNat 20))⟩, ⟨(some (K.ofNat 251)), (some ((K.ofNat 236), true)), .len (.t (K.ofNat 250))⟩, ⟨(some (K.ofNat 252)), (some ((K.ofNat 236), true)), .bin .add (.t (K.ofNat 249)) (.t (K.ofNat 251))⟩, ⟨(some (K.ofNat 253)), (some ((K.ofNat 236), true)), .mv (.t (K.ofNat 22))⟩, ⟨(some (K.ofNat 254)), (some ((K.ofNat 236), true)), .len (.t (K.ofNat 253))⟩, ⟨(some (K.ofNat 255)), (some ((K.ofNat 236), true)), .bin .add (.t (K.ofNat 252)) (.t (K.ofNat 254))⟩, ⟨(some (K.ofNat 256)), (some ((K.ofNat 236), true)), .mv (.t (K.ofNat 25))⟩, ⟨(some (K.ofNat 257)), (some ((K.ofNat 236), true)), .len (.t (K.ofNat 256))⟩, ⟨(some (K.ofNat 258)), (some ((K.ofNat 236), true)), .bin .add (.t (K.ofNat 255)) (.t (K.ofNat 257))⟩, ⟨(some (K.ofNat 259)), (some ((K.ofNat 236), true)), .mv (.t (K.ofNat 28))⟩, ⟨(some (K.ofNat 260)), (some ((K.ofNat 236), true)), .len (.t (K.ofNat 259))⟩, ⟨(some (K.ofNat 261)), (some ((K.ofNat 236), true)), .bin .add (.t (K.ofNat 258)) (.t (K.ofNat 260))⟩, ⟨(some (K.ofNat 262)), (some ((K.ofNat 236), true)), .mv (.t (K.ofNat 30))⟩, ⟨(some (K.ofNat 263)), (some ((K.ofNat 236), true)), .len (.t (K.ofNat 262))⟩, ⟨(some (K.ofNat 264)), (some ((K.ofNat 236), true)), .bin .add (.t (K.ofNat 261)) (.t (K.ofNat 263))⟩, ⟨(some (K.ofNat 265)), (some ((K.ofNat 236), true)), .mv (.t (K.ofNat 32))⟩, ⟨(some (K.ofNat 266)), (some ((K.ofNat 236), true)), .len (.t (K.ofNat 265))⟩, ⟨(some (K.ofNat 267)), (some ((K.ofNat 236), true)), .bin .add (.t (K.ofNat 264)) (.t (K.ofNat 266))⟩, ⟨(some (K.ofNat 268)), (some ((K.ofNat 236), true)), .bin .eql (.t (K.ofNat 267)) (.c (.i .i64 (.ofNat 0)))⟩, ⟨(some (K.ofNat 269)), none, .pick (.t (K.ofNat 236)) (.t (K.ofNat 268)) (.c (.b false))⟩, ⟨(some (K.ofNat 270)), none, .mv (.t (K.ofNat 269))⟩, ⟨(some (K.ofNat 271)), (some ((K.ofNat 270), true)), .call (.c (.fn (K.ofNat 29) [])) []⟩, ⟨(some (K.ofNat 272)), none, .pick (.t (K.ofNat 270)) (.t (K.ofNat 271)) (.c (.b false))⟩, ⟨(some (K.ofNat 4)), none, .as (.t (K.ofNat 272))⟩]
noncomputable def f3_c : EC := (.seq (.reg f3_r0) (.seq (.reg f3_r1) (.seq (.reg f3_r2) (.seq (.seq (.reg f3_r3) (.cond (.t (K.ofNat 43)) (.seq (.reg f3_r4) .ret) .skip)) (.seq (.reg f3_r5) (.seq (.reg f3_r6) (.seq (.reg f3_r7) (.seq (.reg f3_r8) (.seq (.reg f3_r9) (.seq (.reg f3_r10) (.seq (.reg f3_r11) (.seq (.reg f3_r12) (.seq (.reg f3_r13) (.seq (.reg f3_r14) (.seq (.reg f3_r15) (.seq (.reg f3_r16) (.seq (.seq (.reg f3_r17) (.cond (.t (K.ofNat 120)) (.seq (.reg f3_r18) .ret) .skip)) (.seq (.reg f3_r19) .ret))))))))))))))))))
noncomputable def f3 : EF := ⟨273, [.tmp (K.ofNat 4)], f3_c, none⟩
theorem f3_rs : f3.rs = [.tmp (K.ofNat 4)] := of_eq_true (eq_self _)
section
variable {fs : T EF} {ro : Option K}
theorem f27_err {h : H} {v : V} {S : List Int} {n f : Int} (hp : ∀ a b h P, CallP fs (.fn (K.ofNat 54) []) [.i .i64 a, .i .i64 b] h P = P (.b (ptI a b)) h) (h16 : fs.get (K.ofNat 16) = some f16)
    (hv : Sl iE h v S) (hchk : chkS n S ≠ 0) :
    Ret fs f27 [.i .i64 n, v, .i .i64 f] h fun r h' => r = .tup [.sn, .i .i64 (chkS n S)] ∧ h' = h := by
  apply ret_of rfl
  show W fs none f27_c _ _ _
  unfold f27_c
  simp (disch := omega) only [f27_r0, f27_r1, w_reg, w_seq, seqK_n, x_nil, x_mv, x_as, x_call, ev_t, ev_c, evs_nil, evs_cons, getV_some, putD_some, frame_3, of0, getK_set, Nat.reduceEqDiff, ↓reduceIte]
  refine (callP_0 (ef := f16) h16 rfl (f16_ret (n := n) hp hv)).mono ?_
  rintro r h1 ⟨rfl, rfl⟩
  have ne0 : decide (chkS n S ≠ 0) = true := decide_eq_true hchk
  simp (disch := omega) only [f27_r2, f27_r3, f27_rs, w_reg, w_seq, w_cond, w_ret, seqK_n, seqK_r, ckB_b, cbB_b, retK_r, x_nil, x_mv, x_as, x_bin, kx, rvP_ok, okv_some, ev_t, ev_c, getV_some, putD_some, bin_neq, oGet_s, readRs_nil, readRs_t, retV_2, of0, Option.some.injEq, exists_eq_left', getK_set, Nat.reduceEqDiff, ↓reduceIte, ne0, and_self]
theorem f28_err {h : H} {v : V} {S : List Int} {n : Int} (hp : ∀ a b h P, CallP fs (.fn (K.ofNat 54) []) [.i .i64 a, .i .i64 b] h P = P (.b (ptI a b)) h) (h16 : fs.get (K.ofNat 16) = some f16)
    (hv : Sl iE h v S) (hchk : chkS n S ≠ 0) :
    Ret fs f28 [.i .i64 n, v] h fun r h' => r = .tup [.sn, .i .i64 (chkS n S)] ∧ h' = h := by
  apply ret_of rfl
  show W fs none f28_c _ _ _
  unfold f28_c
  simp (disch := omega) only [f28_r0, f28_r1, w_reg, w_seq, seqK_n, x_nil, x_mv, x_as, x_call, ev_t, ev_c, evs_nil, evs_cons, getV_some, putD_some, frame_2, of0, getK_set, Nat.reduceEqDiff, ↓reduceIte]
  refine (callP_0 (ef := f16) h16 rfl (f16_ret (n := n) hp hv)).mono ?_
  rintro r h1 ⟨rfl, rfl⟩
  have ne0 : decide (chkS n S ≠ 0) = true := decide_eq_true hchk
  simp (disch := omega) only [f28_r2, f28_r3, f28_rs, w_reg, w_seq, w_cond, w_ret, seqK_n, seqK_r, ckB_b, cbB_b, retK_r, x_nil, x_mv, x_as, x_bin, kx, rvP_ok, okv_some, ev_t, ev_c, getV_some, putD_some, bin_neq, oGet_s, readRs_nil, readRs_t, retV_2, of0, Option.some.injEq, exists_eq_left', getK_set, Nat.reduceEqDiff, ↓reduceIte, ne0, and_self]
structure Calls3 (fs : T EF) : Prop extends Calls24 fs, Calls23 fs where
  p53 : ∀ a b h P, CallP fs (.fn (K.ofNat 53) []) [.i .i64 a, .i .i64 b] h P = P (.b (ptI a b)) h
  aw : ∀ h P, CallP fs (.fn (K.ofNat 29) []) [] h P = P (.b true) h
  c14 : fs.get (K.ofNat 14) = some f14
  c15 : fs.get (K.ofNat 15) = some f15
  c17 : fs.get (K.ofNat 17) = some f17
  c18 : fs.get (K.ofNat 18) = some f18
  c19 : fs.get (K.ofNat 19) = some f19
  c20 : fs.get (K.ofNat 20) = some f20
  c21 : fs.get (K.ofNat 21) = some f21
  c22 : fs.get (K.ofNat 22) = some f22
  c23 : fs.get (K.ofNat 23) = some f23
  c24 : fs.get (K.ofNat 24) = some f24
  c25 : fs.get (K.ofNat 25) = some f25
  c26 : fs.get (K.ofNat 26) = some f26
  c27 : fs.get (K.ofNat 27) = some f27
  c28 : fs.get (K.ofNat 28) = some f28
  c56 : fs.get (K.ofNat 56) = some f56
  c59 : fs.get (K.ofNat 59) = some f59
  c63 : fs.get (K.ofNat 63) = some f63
  c65 : fs.get (K.ofNat 65) = some f65
  c66 : fs.get (K.ofNat 66) = some f66
  c67 : fs.get (K.ofNat 67) = some f67
  c68 : fs.get (K.ofNat 68) = some f68
  c77 : fs.get (K.ofNat 77) = some f77
  c90 : fs.get (K.ofNat 90) = some f90
set_option maxRecDepth 100000 in
theorem f3_ret {h : H} {v : V} {L : List Int} {n : Int} (k : Calls3 fs) (hv : Sr iE h v L) (hc : HC h) : Ret fs f3 [.i .i64 n, v] h fun u h' => u = .b true ∧ Grow h.nx.nat h h' := by
  apply ret_of rfl
  show W fs none f3_c _ _ _
  unfold f3_c
  simp (disch := omega) only [f3_r0, f3_r1, w_reg, w_seq, seqK_n, x_nil, x_mv, x_as, x_call, ev_t, ev_c, evs_nil, evs_cons, getV_some, putD_some, frame_2, getK_set, Nat.reduceEqDiff, ↓reduceIte]
  refine (callP_0 (ef := f14) k.c14 rfl (f14_sr (m := 20) hv hc (by omega))).mono ?_
  rintro u h1 ⟨hs1, _, g1⟩
  have hPl : (L.take 20).length ≤ 20 := by rw [List.length_take]; omega
  generalize L.take 20 = P at *
  have hP : P.length ≤ 1000000 := by omega
  have hc1 := g1.hc hc
  obtain ⟨ef, pt1, pt2⟩ := k.pt
  simp (disch := omega) only [f3_r2, w_reg, w_seq, seqK_n, x_nil, x_mv, x_as, x_call, kx, ev_t, ev_c, evs_nil, evs_cons, getV_some, putD_some, getK_set, Nat.reduceEqDiff, ↓reduceIte]
  refine (callP_0 (ef := f15) k.c15 rfl (f15_ret (n := n) k.p53 hs1 hP)).mono ?_
  rintro x h2 ⟨rfl, rfl⟩
  simp (disch := omega) only [f3_r3, w_reg, w_seq, seqK_n, x_nil, x_mv, x_as, x_call, kx, ev_t, ev_c, evs_nil, evs_cons, getV_some, putD_some, getK_set, Nat.reduceEqDiff, ↓reduceIte]
  refine (callP_0 (ef := f16) k.c16 rfl (f16_ret (n := n) k.p54 hs1)).mono ?_
  rintro x h2 ⟨rfl, rfl⟩
  have nw : ¬ chkS n P ≠ chkS n P := fun h => h rfl
  simp (disch := omega) only [f3_r5, w_skip, w_reg, w_seq, w_cond, seqK_n, ckB_b, cbB_b, true_and, x_nil, x_mv, x_bin, x_call, kx, rvP_ok, okv_some, ev_t, ev_c, evs_nil, evs_cons, getV_some, putD_some, bin_neq, getK_set, Nat.reduceEqDiff, ↓reduceIte, Bool.false_eq_true, nw, decide_false]
  refine (callP_0 (ef := f17) k.c17 rfl (f17_ret (n := n) k.p54 k.c16 k.c55 k.c56 k.c77 k.c90 k.c78 k.c91 hs1 hc1 hP)).mono ?_
  rintro r h2 ⟨a, rfl, hsa, _, g2⟩
  have hc2 := g2.hc hc1
  have hs2 := hs1.grow hc1 g2
  simp (disch := omega) only [f3_r6, w_reg, w_seq, seqK_n, x_nil, x_mv, x_as, x_ext, x_call, kx, rvP_ok, okv_some, ev_t, ev_c, evs_nil, evs_cons, getV_some, putD_some, onTup_t, nth0, nth1, getK_set, Nat.reduceEqDiff, ↓reduceIte]
  refine (callP_0 (ef := f18) k.c18 rfl (f18_ret (n := n) k.p54 k.p75 k.c16 k.c55 k.c57 k.c78 k.c91 hs2 hc2 hP)).mono ?_
  rintro r h3 ⟨b, rfl, hsb, _, g3⟩
  have hc3 := g3.hc hc2
  have hs3 := hs2.grow hc2 g3
  simp (disch := omega) only [f3_r7, w_reg, w_seq, seqK_n, x_nil, x_mv, x_as, x_ext, x_call, kx, rvP_ok, okv_some, ev_t, ev_c, evs_nil, evs_cons, getV_some, putD_some, onTup_t, nth0, nth1, getK_set, Nat.reduceEqDiff, ↓reduceIte]
  refine (callP_0 (ef := f19) k.c19 rfl (f19_ret (n := n) k.p54 k.p75 k.c16 k.c55 k.c57 k.c78 k.c91 hs3 hc3 hP)).mono ?_
  rintro r h4 ⟨c, rfl, hsc, _, g4⟩
  have hc4 := g4.hc hc3
  have hs4 := hs3.grow hc3 g4
  simp (disch := omega) only [f3_r8, w_reg, w_seq, seqK_n, x_nil, x_mv, x_as, x_ext, x_call, kx, rvP_ok, okv_some, ev_t, ev_c, evs_nil, evs_cons, getV_some, putD_some, onTup_t, nth0, nth1, getK_set, Nat.reduceEqDiff, ↓reduceIte]
  refine (callP_0 (ef := f20) k.c20 rfl (f20_ret (n := n) k.p54 k.p75 k.c16 k.c55 k.c57 k.c78 k.c91 hs4 hc4 hP chk_cnt)).mono ?_
  rintro r h5 ⟨rfl, g5⟩
  have hc5 := g5.hc hc4
  have hs5 := hs4.grow hc4 g5
  have q1 := g1.nx; have q2 := g2.nx; have q3 := g3.nx; have q4 := g4.nx; have q5 := g5.nx
  have g05 : Grow h.nx.nat h h5 := g1.trans ((g2.low (by omega)).trans ((g3.low (by omega)).trans ((g4.low (by omega)).trans (g5.low (by omega)))))
  by_cases e : chkS n P = 0
  · have cp := chk_cpx e
    have hz := chk_zero e
    obtain ⟨n1, n6, _⟩ := chk_in e
    have hcn := chk_cnt e
    obtain ⟨Q, rfl, an⟩ := cp.ex
    have hQne : Q ≠ [] := fun e => cp.ne (by rw [e]; rfl)
    have hQ0 : 0 < Q.length := List.length_pos_iff.2 hQne
    have nosh : ∀ O, ¬ ShP Q [] O := fun O sh => by
      have h1 := congrArg List.length sh.eq
      have h2 := sh.len
      rw [castL_len'] at h1
      simp at h1; omega
    simp (disch := omega) only [f3_r9, w_reg, w_seq, seqK_n, x_nil, x_mv, x_as, x_ext, x_call, kx, rvP_ok, okv_some, ev_t, ev_c, evs_nil, evs_cons, getV_some, putD_some, onTup_t, nth0, nth1, getK_set, Nat.reduceEqDiff, ↓reduceIte, e]
    refine (callP_0 (ef := f21) k.c21 rfl (f21_ret (n := n) k.toCalls79 k.p75 k.c16 k.c58 k.c59 hs5 hc5 an e)).mono ?_
    rintro r h6 ⟨x, s, rfl, g6, _, _⟩
    have hc6 := g6.hc hc5
    have hs6 := hs5.grow hc5 g6
    simp (disch := omega) only [f3_r10, w_reg, w_seq, seqK_n, x_nil, x_mv, x_as, x_ext, x_call, kx, rvP_ok, okv_some, ev_t, ev_c, evs_nil, evs_cons, getV_some, putD_some, onTup_t, nth0, nth1, nth2, getK_set, Nat.reduceEqDiff, ↓reduceIte]
    refine (callP_0 (ef := f22) k.c22 rfl (f22_ret (n := n) (S := []) k.toCalls23 hs6 Sl.nil hc6 an e)).mono ?_
    rintro r h7 ⟨rfl, g7⟩
    have hc7 := g7.hc hc6
    have hs7 := hs6.grow hc6 g7
    simp (disch := omega) only [f3_r11, w_reg, w_seq, seqK_n, x_nil, x_mv, x_as, x_ext, x_call, kx, rvP_ok, okv_some, ev_t, ev_c, evs_nil, evs_cons, getV_some, putD_some, onTup_t, nth0, nth1, getK_set, Nat.reduceEqDiff, ↓reduceIte]
    refine (callP_0 (ef := f23) k.c23 rfl (f23_ret (n := n) (S := []) k.toCalls23 hs7 Sl.nil hc7 an e)).mono ?_
    rintro r h8 ⟨t, e1, rfl, g8, _, hcase⟩
    have he1 : e1 = 1 := by
      rcases hcase with ⟨_, O, sh, _⟩ | ⟨h, _⟩
      · exact absurd sh (nosh O)
      · exact h
    subst he1
    have hc8 := g8.hc hc7
    have hs8 := hs7.grow hc7 g8
    simp (disch := omega) only [f3_r12, w_reg, w_seq, seqK_n, x_nil, x_mv, x_as, x_ext, x_call, kx, rvP_ok, okv_some, ev_t, ev_c, evs_nil, evs_cons, getV_some, putD_some, onTup_t, nth0, nth1, getK_set, Nat.reduceEqDiff, ↓reduceIte]
    refine (callP_0 (ef := f24) k.c24 rfl (f24_ret (n := n) k.toCalls24 hs8 hc8 hP e hcn)).mono ?_
    rintro r h9 ⟨y, q, rfl, g9, _, _⟩
    have hc9 := g9.hc hc8
    have hs9 := hs8.grow hc8 g9
    simp (disch := omega) only [f3_r13, w_reg, w_seq, seqK_n, x_nil, x_mv, x_as, x_ext, x_call, kx, rvP_ok, okv_some, ev_t, ev_c, evs_nil, evs_cons, getV_some, putD_some, onTup_t, nth0, nth1, nth2, getK_set, Nat.reduceEqDiff, ↓reduceIte]
    refine (callP_0 (ef := f25) k.c25 rfl (f25_nil (n := n) k.p54 k.c16 k.c55 k.c63 k.c56 k.c77 k.c90 k.c78 k.c91 hs9 hc9 hP e)).mono ?_
    rintro r h10 ⟨rr, rfl, _, _, g10⟩
    have hc10 := g10.hc hc9
    have hs10 := hs9.grow hc9 g10
    simp (disch := omega) only [f3_r14, w_reg, w_seq, seqK_n, x_nil, x_mv, x_as, x_ext, x_call, kx, rvP_ok, okv_some, ev_t, ev_c, evs_nil, evs_cons, getV_some, putD_some, onTup_t, nth0, nth1, nth2, getK_set, Nat.reduceEqDiff, ↓reduceIte]
    refine (callP_0 (ef := f26) k.c26 rfl (f26_ret (n := n) k.p54 k.p75 k.c16 k.c55 k.c57 k.c78 k.c91 k.c82 k.c92 pt1 pt2 k.c93 k.c94 k.c89 k.c64 hs10 hc10 hP chk_cnt)).mono ?_
    rintro r h11 ⟨hu, rfl, _, _, g11⟩
    have hc11 := g11.hc hc10
    have hs11 := hs10.grow hc10 g11
    simp (disch := omega) only [f3_r15, w_reg, w_seq, seqK_n, x_nil, x_mv, x_as, x_ext, x_call, kx, rvP_ok, okv_some, ev_t, ev_c, evs_nil, evs_cons, getV_some, putD_some, onTup_t, nth0, nth1, of0, getK_set, Nat.reduceEqDiff, ↓reduceIte, e]
    refine (callP_0 (ef := f27) k.c27 rfl (f27_ret (n := n) (f := 0) k.p54 k.c16 k.c55 k.c78 k.c91 k.c83 k.c65 k.c66 hs11 hc11 hP e)).mono ?_
    rintro r h12 ⟨w, rfl, _, _, g12⟩
    have hc12 := g12.hc hc11
    have hs12 := hs11.grow hc11 g12
    have badz : (if badF (famB (castL Q)) 0 = true then (1 : Int) else 0) = 0 := by
      have : badF (famB (castL Q)) 0 = false := by
        unfold badF
        rw [show famB (castL Q) (0 : Int).toNat = true from hz]; rfl
      rw [this]; rfl
    rw [badz]
    simp (disch := omega) only [f3_r16, w_reg, w_seq, seqK_n, x_nil, x_mv, x_as, x_ext, x_call, kx, rvP_ok, okv_some, ev_t, ev_c, evs_nil, evs_cons, getV_some, putD_some, onTup_t, nth0, nth1, getK_set, Nat.reduceEqDiff, ↓reduceIte]
    refine (callP_0 (ef := f28) k.c28 rfl (f28_ret (n := n) k.p54 k.c16 k.c55 k.c78 k.c91 k.c68 k.c67 k.c66 hs12 hc12 hP e n1 n6)).mono ?_
    rintro r h13 ⟨yy, rfl, _, g13⟩
    have eq0 : decide ((0 : Int) = 0) = true := rfl
    have eq1 : decide ((1 : Int) = 1) = true := rfl
    simp (disch := omega) only [f3_r17, f3_r18, f3_rs, w_reg, w_seq, w_cond, w_ret, seqK_n, seqK_r, ckB_b, cbB_b, okG_b, asG_t, true_and, retK_r, x_nil, x_g, x_mv, x_as, x_pick, x_bin, x_ext, x_call, kx, rvP_ok, okv_some, ev_t, ev_c, evs_nil, getV_some, putD_some, bin_eql, pick_b, onTup_t, oGet_s, nth0, nth1, readRs_nil, readRs_t, retV_1, of0, of1, Option.some.injEq, exists_eq_left', getK_set, Nat.reduceEqDiff, ↓reduceIte, decide_eq_true_eq, k.aw, true_and]
    have q6 := g6.nx; have q7 := g7.nx; have q8 := g8.nx; have q9 := g9.nx; have q10 := g10.nx; have q11 := g11.nx; have q12 := g12.nx
    exact g05.trans ((g6.low (by omega)).trans ((g7.low (by omega)).trans ((g8.low (by omega)).trans ((g9.low (by omega)).trans ((g10.low (by omega)).trans ((g11.low (by omega)).trans ((g12.low (by omega)).trans (g13.low (by omega)))))))))
  · rw [if_neg e] at hsa hsb hsc
    simp (disch := omega) only [f3_r9, w_reg, w_seq, seqK_n, x_nil, x_mv, x_as, x_ext, x_call, kx, rvP_ok, okv_some, ev_t, ev_c, evs_nil, evs_cons, getV_some, putD_some, onTup_t, nth0, nth1, getK_set, Nat.reduceEqDiff, ↓reduceIte]
    refine (callP_0 (ef := f21) k.c21 rfl (f21_err (n := n) k.p54 k.c16 hs5 e)).mono ?_
    rintro r h6 ⟨rfl, rfl⟩
    simp (disch := omega) only [f3_r10, w_reg, w_seq, seqK_n, x_nil, x_mv, x_as, x_ext, x_call, kx, rvP_ok, okv_some, ev_t, ev_c, evs_nil, evs_cons, getV_some, putD_some, onTup_t, nth0, nth1, nth2, getK_set, Nat.reduceEqDiff, ↓reduceIte]
    refine (callP_0 (ef := f22) k.c22 rfl (f22_err (n := n) (w := .sn) k.p54 k.c16 hs5 e)).mono ?_
    rintro r h6 ⟨rfl, rfl⟩
    simp (disch := omega) only [f3_r11, w_reg, w_seq, seqK_n, x_nil, x_mv, x_as, x_ext, x_call, kx, rvP_ok, okv_some, ev_t, ev_c, evs_nil, evs_cons, getV_some, putD_some, onTup_t, nth0, nth1, getK_set, Nat.reduceEqDiff, ↓reduceIte]
    refine (callP_0 (ef := f23) k.c23 rfl (f23_err (n := n) (w := .sn) k.p54 k.c16 hs5 e)).mono ?_
    rintro r h6 ⟨rfl, rfl⟩
    simp (disch := omega) only [f3_r12, w_reg, w_seq, seqK_n, x_nil, x_mv, x_as, x_ext, x_call, kx, rvP_ok, okv_some, ev_t, ev_c, evs_nil, evs_cons, getV_some, putD_some, onTup_t, nth0, nth1, getK_set, Nat.reduceEqDiff, ↓reduceIte]
    refine (callP_0 (ef := f24) k.c24 rfl (f24_err (n := n) k.p54 k.c16 hs5 e)).mono ?_
    rintro r h6 ⟨rfl, rfl⟩
    simp (disch := omega) only [f3_r13, w_reg, w_seq, seqK_n, x_nil, x_mv, x_as, x_ext, x_call, kx, rvP_ok, okv_some, ev_t, ev_c, evs_nil, evs_cons, getV_some, putD_some, onTup_t, nth0, nth1, nth2, getK_set, Nat.reduceEqDiff, ↓reduceIte]
    refine (callP_0 (ef := f25) k.c25 rfl (f25_err (n := n) (w := .sn) k.p54 k.c16 hs5 e)).mono ?_
    rintro r h6 ⟨rfl, rfl⟩
    simp (disch := omega) only [f3_r14, w_reg, w_seq, seqK_n, x_nil, x_mv, x_as, x_ext, x_call, kx, rvP_ok, okv_some, ev_t, ev_c, evs_nil, evs_cons, getV_some, putD_some, onTup_t, nth0, nth1, nth2, getK_set, Nat.reduceEqDiff, ↓reduceIte]
    refine (callP_0 (ef := f26) k.c26 rfl (f26_ret (n := n) k.p54 k.p75 k.c16 k.c55 k.c57 k.c78 k.c91 k.c82 k.c92 pt1 pt2 k.c93 k.c94 k.c89 k.c64 hs5 hc5 hP chk_cnt)).mono ?_
    rintro r h11 ⟨hu, rfl, hsu, _, g11⟩
    rw [if_neg e] at hsu
    have hc11 := g11.hc hc5
    have hs11 := hs5.grow hc5 g11
    simp (disch := omega) only [f3_r15, w_reg, w_seq, seqK_n, x_nil, x_mv, x_as, x_ext, x_call, kx, rvP_ok, okv_some, ev_t, ev_c, evs_nil, evs_cons, getV_some, putD_some, onTup_t, nth0, nth1, of0, getK_set, Nat.reduceEqDiff, ↓reduceIte]
    refine (callP_0 (ef := f27) k.c27 rfl (f27_err (n := n) (f := 0) k.p54 k.c16 hs11 e)).mono ?_
    rintro r h12 ⟨rfl, rfl⟩
    simp (disch := omega) only [f3_r16, w_reg, w_seq, seqK_n, x_nil, x_mv, x_as, x_ext, x_call, kx, rvP_ok, okv_some, ev_t, ev_c, evs_nil, evs_cons, getV_some, putD_some, onTup_t, nth0, nth1, getK_set, Nat.reduceEqDiff, ↓reduceIte]
    refine (callP_0 (ef := f28) k.c28 rfl (f28_err (n := n) k.p54 k.c16 hs11 e)).mono ?_
    rintro r h13 ⟨rfl, rfl⟩
    have eqw : decide (chkS n P = chkS n P) = true := decide_eq_true rfl
    have eqz : decide ((0 : Int) = 0) = true := rfl
    have l0 : ∀ h1, lenV .sn h1 = .ok (.i .i64 0) h1 := fun _ => rfl
    have la : ∀ h1, lenV a h1 = .ok (.i .i64 0) h1 := fun h1 => hsa.len h1
    have lb : ∀ h1, lenV b h1 = .ok (.i .i64 0) h1 := fun h1 => hsb.len h1
    have lc : ∀ h1, lenV c h1 = .ok (.i .i64 0) h1 := fun h1 => hsc.len h1
    have lu : ∀ h1, lenV hu h1 = .ok (.i .i64 0) h1 := fun h1 => hsu.len h1
    have f00 : fw .i64 ((0 : Int) + 0) = 0 := rfl
    simp (disch := omega) only [f3_r17, f3_r19, f3_rs, w_skip, w_reg, w_seq, w_cond, w_ret, seqK_n, ckB_b, cbB_b, okG_b, asG_t, true_and, retK_r, x_nil, x_g, x_mv, x_as, x_pick, x_bin, x_not, x_ext, x_call, x_len, kx, rvP_ok, okv_some, ev_t, ev_c, evs_nil, getV_some, putD_some, bin_add, bin_eql, pick_b, onB_b, onTup_t, oGet_s, nth0, nth1, readRs_nil, readRs_t, retV_1, of0, Option.some.injEq, exists_eq_left', getK_set, Nat.reduceEqDiff, ↓reduceIte, Bool.false_eq_true, decide_eq_true_eq, Bool.not_false, e, decide_false, l0, la, lb, lc, lu, f00, k.aw, true_and]
    exact g05.trans (g11.low (by omega))
end
end Go.Ev
