/-
  The law ShellsMcMullen.
-/
import Derived.Test.YtneacehpoaambaaPg
namespace Go.Ev
open Go Go.RowKit
noncomputable def f10_r0 : List EOper := [⟨(some (K.ofNat 4)), none, .as (.c (.b false))⟩]
noncomputable def f10_r1 : List EOper := [⟨(some (K.ofNat 18)), none, .mv (.t (K.ofNat 0))⟩, ⟨(some (K.ofNat 19)), none, .mv (.t (K.ofNat 1))⟩, ⟨(some (K.ofNat 20)), none, .call (.c (.fn (K.ofNat 38) [])) [(.t (K.ofNat 18)), (.t (K.ofNat 19))]⟩, ⟨(some (K.ofNat 17)), none, .mv (.t (K.ofNat 20))⟩, ⟨(some (K.ofNat 21)), none, .ext (.t (K.ofNat 17)) 0⟩, ⟨(some (K.ofNat 22)), none, .ext (.t (K.ofNat 17)) 1⟩, ⟨(some (K.ofNat 5)), none, .as (.t (K.ofNat 21))⟩, ⟨(some (K.ofNat 6)), none, .as (.t (K.ofNat 22))⟩]
noncomputable def f10_r2 : List EOper := [⟨(some (K.ofNat 24)), none, .mv (.t (K.ofNat 5))⟩, ⟨(some (K.ofNat 25)), none, .mv (.t (K.ofNat 6))⟩, ⟨(some (K.ofNat 26)), none, .call (.c (.fn (K.ofNat 21) [])) [(.t (K.ofNat 24)), (.t (K.ofNat 25))]⟩, ⟨(some (K.ofNat 23)), none, .mv (.t (K.ofNat 26))⟩, ⟨(some (K.ofNat 27)), none, .ext (.t (K.ofNat 23)) 0⟩, ⟨(some (K.ofNat 28)), none, .ext (.t (K.ofNat 23)) 1⟩, ⟨(some (K.ofNat 29)), none, .ext (.t (K.ofNat 23)) 2⟩, ⟨(some (K.ofNat 7)), none, .as (.t (K.ofNat 27))⟩, ⟨(some (K.ofNat 8)), none, .as (.t (K.ofNat 28))⟩, ⟨(some (K.ofNat 9)), none, .as (.t (K.ofNat 29))⟩]
noncomputable def f10_r3 : List EOper := [⟨(some (K.ofNat 31)), none, .mv (.t (K.ofNat 5))⟩, ⟨(some (K.ofNat 32)), none, .mv (.t (K.ofNat 6))⟩, ⟨(some (K.ofNat 33)), none, .call (.c (.fn (K.ofNat 19) [])) [(.t (K.ofNat 31)), (.t (K.ofNat 32))]⟩, ⟨(some (K.ofNat 30)), none, .mv (.t (K.ofNat 33))⟩, ⟨(some (K.ofNat 34)), none, .ext (.t (K.ofNat 30)) 0⟩, ⟨(some (K.ofNat 35)), none, .ext (.t (K.ofNat 30)) 1⟩, ⟨(some (K.ofNat 10)), none, .as (.t (K.ofNat 34))⟩, ⟨(some (K.ofNat 11)), none, .as (.t (K.ofNat 35))⟩]
noncomputable def f10_r4 : List EOper := [⟨(some (K.ofNat 36)), none, .mv (.t (K.ofNat 9))⟩, ⟨(some (K.ofNat 37)), none, .bin .neq (.t (K.ofNat 36)) (.c (.i .i64 (.ofNat 0)))⟩, ⟨(some (K.ofNat 38)), none, .mv (.t (K.ofNat 37))⟩, ⟨(some (K.ofNat 39)), (some ((K.ofNat 38), false)), .mv (.t (K.ofNat 11))⟩, ⟨(some (K.ofNat 40)), (some ((K.ofNat 38), false)), .bin .neq (.t (K.ofNat 39)) (.c (.i .i64 (.ofNat 0)))⟩, ⟨(some (K.ofNat 41)), none, .pick (.t (K.ofNat 38)) (.c (.b true)) (.t (K.ofNat 40))⟩]
noncomputable def f10_r5 : List EOper := [⟨(some (K.ofNat 4)), none, .as (.c (.b false))⟩]
noncomputable def f10_r6 : List EOper := [⟨(some (K.ofNat 42)), none, .mv (.t (K.ofNat 8))⟩, ⟨(some (K.ofNat 43)), none, .not (.t (K.ofNat 42))⟩]
noncomputable def f10_r7 : List EOper := [⟨(some (K.ofNat 44)), none, .call (.c (.fn (K.ofNat 29) [])) []⟩, ⟨(some (K.ofNat 4)), none, .as (.t (K.ofNat 44))⟩]
noncomputable def f10_r8 : List EOper := [⟨(some (K.ofNat 46)), none, .mv (.t (K.ofNat 5))⟩, ⟨(some (K.ofNat 47)), none, .mv (.t (K.ofNat 6))⟩, ⟨(some (K.ofNat 48)), none, .mv (.t (K.ofNat 7))⟩, ⟨(some (K.ofNat 49)), none, .call (.c (.fn (K.ofNat 23) [])) [(.t (K.ofNat 46)), (.t (K.ofNat 47)), (.t (K.ofNat 48))]⟩, ⟨(some (K.ofNat 45)), none, .mv (.t (K.ofNat 49))⟩, ⟨(some (K.ofNat 50)), none, .ext (.t (K.ofNat 45)) 0⟩, ⟨(some (K.ofNat 51)), none, .ext (.t (K.ofNat 45)) 1⟩, ⟨(some (K.ofNat 12)), none, .as (.t (K.ofNat 50))⟩, ⟨(some (K.ofNat 13)), none, .as (.t (K.ofNat 51))⟩]
noncomputable def f10_r9 : List EOper := [⟨(some (K.ofNat 52)), none, .mv (.t (K.ofNat 13))⟩, ⟨(some (K.ofNat 53)), none, .bin .neq (.t (K.ofNat 52)) (.c (.i .i64 (.ofNat 0)))⟩, ⟨(some (K.ofNat 54)), none, .mv (.t (K.ofNat 53))⟩, ⟨(some (K.ofNat 55)), (some ((K.ofNat 54), false)), .mv (.t (K.ofNat 12))⟩, ⟨(some (K.ofNat 56)), (some ((K.ofNat 54), false)), .len (.t (K.ofNat 55))⟩, ⟨(some (K.ofNat 57)), (some ((K.ofNat 54), false)), .mv (.t (K.ofNat 6))⟩, ⟨(some (K.ofNat 58)), (some ((K.ofNat 54), false)), .len (.t (K.ofNat 57))⟩, ⟨(some (K.ofNat 59)), (some ((K.ofNat 54), false)), .bin .neq (.t (K.ofNat 56)) (.t (K.ofNat 58))⟩, ⟨(some (K.ofNat 60)), none, .pick (.t (K.ofNat 54)) (.c (.b true)) (.t (K.ofNat 59))⟩, ⟨(some (K.ofNat 61)), none, .mv (.t (K.ofNat 60))⟩, ⟨(some (K.ofNat 62)), (some ((K.ofNat 61), false)), .mv (.t (K.ofNat 12))⟩, ⟨(some (K.ofNat 63)), (some ((K.ofNat 61), false)), .iads 1 (.t (K.ofNat 62)) (.c (.i .i64 (.ofNat 0)))⟩, ⟨(some (K.ofNat 64)), (some ((K.ofNat 61), false)), .ld (.t (K.ofNat 63))⟩, ⟨(some (K.ofNat 65)), (some ((K.ofNat 61), false)), .bin .neq (.t (K.ofNat 64)) (.c (.i .i64 (.ofNat 0)))⟩, ⟨(some (K.ofNat 66)), none, .pick (.t (K.ofNat 61)) (.c (.b true)) (.t (K.ofNat 65))⟩, ⟨(some (K.ofNat 67)), none, .mv (.t (K.ofNat 66))⟩, ⟨(some (K.ofNat 68)), (some ((K.ofNat 67), false)), .mv (.t (K.ofNat 10))⟩, ⟨(some (K.ofNat 69)), (some ((K.ofNat 67), false)), .len (.t (K.ofNat 68))⟩, ⟨(some (K.ofNat 70)), (some ((K.ofNat 67), false)), .bin .lss (.t (K.ofNat 69)) (.c (.i .i64 (.ofNat 1)))⟩, ⟨(some (K.ofNat 71)), none, .pick (.t (K.ofNat 67)) (.c (.b true)) (.t (K.ofNat 70))⟩, ⟨(some (K.ofNat 72)), none, .mv (.t (K.ofNat 71))⟩, ⟨(some (K.ofNat 73)), (some ((K.ofNat 72), false)), .mv (.t (K.ofNat 10))⟩, ⟨(some (K.ofNat 74)), (some ((K.ofNat 72), false)), .len (.t (K.ofNat 73))⟩, ⟨(some (K.ofNat 75)), (some ((K.ofNat 72), false)), .bin .gtr (.t (K.ofNat 74)) (.c (.i .i64 (.ofNat 7)))⟩, ⟨(some (K.ofNat 76)), none, .pick (.t (K.ofNat 72)) (.c (.b true)) (.t (K.ofNat 75))⟩]
noncomputable def f10_r10 : List EOper := [⟨(some (K.ofNat 4)), none, .as (.c (.b false))⟩]
noncomputable def f10_r11 : List EOper := [⟨(some (K.ofNat 77)), none, .mv (.t (K.ofNat 10))⟩, ⟨(some (K.ofNat 78)), none, .len (.t (K.ofNat 77))⟩, ⟨(some (K.ofNat 79)), none, .mkslice 1 [(.i .i64 (.ofNat 0))] (.t (K.ofNat 78))⟩, ⟨(some (K.ofNat 14)), none, .as (.t (K.ofNat 79))⟩]
noncomputable def f10_r12 : List EOper := [⟨(some (K.ofNat 15)), none, .as (.c (.i .i64 (.ofNat 0)))⟩]
noncomputable def f10_r13 : List EOper := [⟨(some (K.ofNat 80)), none, .mv (.t (K.ofNat 15))⟩, ⟨(some (K.ofNat 81)), none, .mv (.t (K.ofNat 12))⟩, ⟨(some (K.ofNat 82)), none, .len (.t (K.ofNat 81))⟩, ⟨(some (K.ofNat 83)), none, .bin .lss (.t (K.ofNat 80)) (.t (K.ofNat 82))⟩]
noncomputable def f10_r14 : List EOper := [⟨(some (K.ofNat 86)), none, .mv (.t (K.ofNat 12))⟩, ⟨(some (K.ofNat 87)), none, .mv (.t (K.ofNat 15))⟩, ⟨(some (K.ofNat 88)), none, .iads 1 (.t (K.ofNat 86)) (.t (K.ofNat 87))⟩, ⟨(some (K.ofNat 89)), none, .ld (.t (K.ofNat 88))⟩, ⟨(some (K.ofNat 90)), none, .bin .and (.t (K.ofNat 89)) (.c (.i .i64 (.ofNat 63)))⟩, ⟨(some (K.ofNat 91)), none, .call (.c (.fn (K.ofNat 52) [])) [(.t (K.ofNat 90))]⟩, ⟨(some (K.ofNat 16)), none, .as (.t (K.ofNat 91))⟩]
noncomputable def f10_r15 : List EOper := [⟨(some (K.ofNat 92)), none, .mv (.t (K.ofNat 16))⟩, ⟨(some (K.ofNat 93)), none, .mv (.t (K.ofNat 10))⟩, ⟨(some (K.ofNat 94)), none, .len (.t (K.ofNat 93))⟩, ⟨(some (K.ofNat 95)), none, .bin .geq (.t (K.ofNat 92)) (.t (K.ofNat 94))⟩]
noncomputable def f10_r16 : List EOper := [⟨(some (K.ofNat 4)), none, .as (.c (.b false))⟩]
noncomputable def f10_r17 : List EOper := [⟨(some (K.ofNat 96)), none, .mv (.t (K.ofNat 14))⟩, ⟨(some (K.ofNat 97)), none, .mv (.t (K.ofNat 16))⟩, ⟨(some (K.ofNat 98)), none, .iads 1 (.t (K.ofNat 96)) (.t (K.ofNat 97))⟩, ⟨(some (K.ofNat 99)), none, .ld (.t (K.ofNat 98))⟩, ⟨(some (K.ofNat 100)), none, .bin .add (.t (K.ofNat 99)) (.c (.i .i64 (.ofNat 1)))⟩, ⟨(some (K.ofNat 101)), none, .iads 1 (.t (K.ofNat 96)) (.t (K.ofNat 97))⟩, ⟨none, none, .st 1 (.t (K.ofNat 101)) (.t (K.ofNat 100))⟩]
noncomputable def f10_r18 : List EOper := [⟨(some (K.ofNat 84)), none, .mv (.t (K.ofNat 15))⟩, ⟨(some (K.ofNat 85)), none, .bin .add (.t (K.ofNat 84)) (.c (.i .i64 (.ofNat 1)))⟩, ⟨(some (K.ofNat 15)), none, .as (.t (K.ofNat 85))⟩]
noncomputable def f10_l0 : EC := (.seq (.seq (.reg f10_r13) (.cond (.t (K.ofNat 83)) .skip (.exit 0))) (.seq (.block 1 (.seq (.reg f10_r14) (.seq (.seq (.reg f10_r15) (.cond (.t (K.ofNat 95)) (.seq (.reg f10_r16) .ret) .skip)) (.reg f10_r17)))) (.reg f10_r18)))
noncomputable def f10_r19 : List EOper := [⟨(some (K.ofNat 102)), none, .mv (.t (K.ofNat 14))⟩, ⟨(some (K.ofNat 103)), none, .mv (.t (K.ofNat 10))⟩, ⟨(some (K.ofNat 104)), none, .call (.c (.fn (K.ofNat 32) [])) [(.t (K.ofNat 102)), (.t (K.ofNat 103))]⟩, ⟨(some (K.ofNat 105)), none, .mv (.t (K.ofNat 104))⟩, ⟨(some (K.ofNat 106)), (some ((K.ofNat 105), true)), .call (.c (.fn (K.ofNat 29) [])) []⟩, ⟨(some (K.ofNat 107)), none, .pick (.t (K.ofNat 105)) (.t (K.ofNat 106)) (.c (.b false))⟩, ⟨(some (K.ofNat 4)), none, .as (.t (K.ofNat 107))⟩]
noncomputable def f10_c : EC := (.seq (.reg f10_r0) (.seq (.reg f10_r1) (.seq (.reg f10_r2) (.seq (.reg f10_r3) (.seq (.seq (.reg f10_r4) (.cond (.t (K.ofNat 41)) (.seq (.reg f10_r5) .ret) .skip)) (.seq (.seq (.reg f10_r6) (.cond (.t (K.ofNat 43)) (.seq (.reg f10_r7) .ret) .skip)) (.seq (.reg f10_r8) (.seq (.seq (.reg f10_r9) (.cond (.t (K.ofNat 76)) (.seq (.reg f10_r10) .ret) .skip)) (.seq (.reg f10_r11) (.seq (.seq (.reg f10_r12) (.block 0 (.loop f10_l0))) (.seq (.reg f10_r19) .ret)))))))))))
noncomputable def f10 : EF := ⟨108, [.tmp (K.ofNat 4)], f10_c, none⟩
theorem f10_rs : f10.rs = [.tmp (K.ofNat 4)] := of_eq_true (eq_self _)
section
variable {fs : T EF} {ro : Option K}
structure Calls10 (fs : T EF) : Prop extends Calls23 fs where
  p53 : ∀ a b h P, CallP fs (.fn (K.ofNat 53) []) [.i .i64 a, .i .i64 b] h P = P (.b (ptI a b)) h
  p52 : ∀ m : Nat, m < 64 → ∀ h P, CallP fs (.fn (K.ofNat 52) []) [.i .i64 (m : Int)] h P = P (.i .i64 (pop6 m : Int)) h
  aw : ∀ h P, CallP fs (.fn (K.ofNat 29) []) [] h P = P (.b true) h
  c32 : ∀ h v u L M P, Sl iE h v L → Sl iE h u M → L.length ≤ 1000000 → P (.b (decide (L = M))) h → CallP fs (.fn (K.ofNat 32) []) [v, u] h P
  c19 : fs.get (K.ofNat 19) = some f19
  c21 : fs.get (K.ofNat 21) = some f21
  c23 : fs.get (K.ofNat 23) = some f23
  c30 : fs.get (K.ofNat 30) = some f30
  c38 : fs.get (K.ofNat 38) = some f38
  c49 : fs.get (K.ofNat 49) = some f49
  c55 : fs.get (K.ofNat 55) = some f55
  c57 : fs.get (K.ofNat 57) = some f57
  c59 : fs.get (K.ofNat 59) = some f59
  c78 : fs.get (K.ofNat 78) = some f78
  c91 : fs.get (K.ofNat 91) = some alF
theorem bump_set {d : Nat} {l : List Nat} {j : Nat} (hj : j < l.length) (hl : pop6 l[j] < (rcnt d (l.take j)).length) : rcnt d (l.take (j + 1)) = (rcnt d (l.take j)).set (pop6 l[j]) ((rcnt d (l.take j))[pop6 l[j]] + 1) := by
  rw [List.take_succ_eq_append_getElem hj, rcnt_snoc]
  unfold bump
  rw [show (rcnt d (l.take j)).getD (pop6 l[j]) 0 = (rcnt d (l.take j))[pop6 l[j]] by simp [List.getD, hl]]
def f10_I (h : H) (d : Nat) (R : List Nat) (t c m : V) (i : Nat) (fr : Fr) (h1 : H) : Prop := i ≤ R.length ∧ Sl iE h1 m (rcnt d (R.take i)) ∧ Grow h.nx.nat h h1 ∧ fr.get (K.ofNat 10) = some (c) ∧ fr.get (K.ofNat 12) = some (t) ∧ fr.get (K.ofNat 14) = some (m) ∧ fr.get (K.ofNat 15) = some (.i .i64 (i : Int))
theorem f10_ret {h : H} {v : V} {L : List Int} {n : Int} (k : Calls10 fs) (hv : Sl iE h v L) (hc : HC h) : Ret fs f10 [.i .i64 n, v] h fun u h' => u = .b true ∧ Grow h.nx.nat h h' := by
  apply ret_of rfl
  show W fs none f10_c _ _ _
  unfold f10_c
  obtain ⟨n1, n6⟩ := tameN_in n
  obtain ⟨Q', hq', an'⟩ := (cpx_tame n L).ex
  have ne0 : decide ((0 : Int) ≠ 0) = false := rfl
  simp (disch := omega) only [f10_r0, f10_r1, w_reg, w_seq, seqK_n, x_nil, x_mv, x_as, x_call, ev_t, ev_c, evs_nil, evs_cons, getV_some, putD_some, frame_2, getK_set, Nat.reduceEqDiff, ↓reduceIte]
  refine (callP_0 (ef := f38) k.c38 rfl (f38_ret (n := n) k.p53 k.p52 k.c49 k.c30 hv hc (by rw [hq']; exact sets_map an'.lt))).mono ?_
  rintro r h1 ⟨u, rfl, hsu, _, gr1⟩
  have cp := cpx_pure n L
  generalize pureL ((tameP (tameN n) L).take 10) ((tameP (tameN n) L).take 10) = P at *
  generalize tameN n = N at *
  clear hq' an'
  have hc1 := gr1.hc hc
  have mchk := cp.chk
  obtain ⟨Q, rfl, an⟩ := cp.ex
  have hQl := an.len
  have hP : (castL Q).length ≤ 1000000 := by rw [castL_len']; omega
  simp (disch := omega) only [f10_r2, w_reg, w_seq, seqK_n, x_nil, x_mv, x_as, x_ext, x_call, kx, rvP_ok, okv_some, ev_t, ev_c, evs_nil, evs_cons, getV_some, putD_some, onTup_t, nth0, nth1, getK_set, Nat.reduceEqDiff, ↓reduceIte]
  refine (callP_0 (ef := f21) k.c21 rfl (f21_ret (n := N) k.toCalls79 k.p75 k.c16 k.c58 k.c59 hsu hc1 an mchk)).mono ?_
  rintro r h2 ⟨x, s, rfl, gr2, yes, no⟩
  have hc2 := gr2.hc hc1
  have hsu2 := hsu.grow hc1 gr2
  simp (disch := omega) only [f10_r3, w_reg, w_seq, seqK_n, x_nil, x_mv, x_as, x_ext, x_call, kx, rvP_ok, okv_some, ev_t, ev_c, evs_nil, evs_cons, getV_some, putD_some, onTup_t, nth0, nth1, nth2, getK_set, Nat.reduceEqDiff, ↓reduceIte]
  refine (callP_0 (ef := f19) k.c19 rfl (f19_ret (n := N) k.p54 k.p75 k.c16 k.c55 k.c57 k.c78 k.c91 hsu2 hc2 hP)).mono ?_
  rintro r h3 ⟨c, rfl, hsc, _, gr3⟩
  rw [if_pos mchk] at hsc
  have hc3 := gr3.hc hc2
  have hsu3 := hsu2.grow hc2 gr3
  have q1 := gr1.nx; have q2 := gr2.nx; have q3 := gr3.nx
  have g13 : Grow h.nx.nat h h3 := gr1.trans ((gr2.low (by omega)).trans (gr3.low (by omega)))
  simp (disch := omega) only [f10_r4, w_skip, w_reg, w_seq, w_cond, seqK_n, ckB_b, cbB_b, okG_b, asG_f, true_and, x_nil, x_g, x_mv, x_as, x_pick, x_bin, x_ext, kx, rvP_ok, okv_some, ev_t, ev_c, getV_some, putD_some, bin_neq, pick_b, onTup_t, nth0, nth1, of0, getK_set, Nat.reduceEqDiff, ↓reduceIte, Bool.false_eq_true, Bool.not_false, mchk, ne0]
  cases x
  · simp (disch := omega) only [f10_r6, f10_r7, f10_rs, w_reg, w_seq, w_cond, w_ret, seqK_n, seqK_r, ckB_b, cbB_b, true_and, retK_r, x_nil, x_mv, x_as, x_not, x_call, kx, rvP_ok, ev_t, ev_c, evs_nil, getV_some, putD_some, onB_b, oGet_s, readRs_nil, readRs_t, retV_1, Option.some.injEq, exists_eq_left', getK_set, Nat.reduceEqDiff, ↓reduceIte, Bool.not_false, k.aw]
    exact g13
  · obtain ⟨hp, O, hsO, _, ho, hl⟩ := yes rfl
    have hsO3 : Sl iE h3 s (castL O) := Sl.map (f := fun (k : Nat) => (k : Int)) (hsO.grow hc2 gr3)
    simp (disch := omega) only [f10_r6, f10_r8, w_skip, w_reg, w_seq, w_cond, seqK_n, ckB_b, cbB_b, true_and, x_nil, x_mv, x_not, x_call, kx, rvP_ok, ev_t, ev_c, evs_nil, evs_cons, getV_some, putD_some, onB_b, getK_set, Nat.reduceEqDiff, ↓reduceIte, Bool.false_eq_true, Bool.not_true]
    refine (callP_0 (ef := f23) k.c23 rfl (f23_ret (n := N) k.toCalls23 hsu3 hsO3 hc3 an mchk)).mono ?_
    rintro r h4 ⟨t, e, rfl, gr4, _, hcase⟩
    have hcase : e = 0 ∧ Sl nE h4 t (newsO Q O) := by
      rcases hcase with ⟨h1, O', sh, h2⟩ | ⟨_, _, h2⟩
      · have := castL_inj sh.eq
        subst this; exact ⟨h1, h2⟩
      · exact absurd ⟨rfl, ho, hl, hp⟩ (h2 O)
    obtain ⟨rfl, hst⟩ := hcase
    have hc4 := gr4.hc hc3
    have hsu4 := hsu3.grow hc3 gr4
    have hsc4 := hsc.grow hc3 gr4
    have hQne : Q ≠ [] := fun e => cp.ne (by rw [e]; rfl)
    obtain ⟨d, hd⟩ : ∃ d, ∀ y ∈ Q, pop6 y = d := ⟨pop6 ((castL Q).headD 0).toNat, fun y hy => by
      unfold pureS at hp
      have := List.all_eq_true.1 hp (y : Int) (List.mem_map.2 ⟨y, hy, rfl⟩)
      rw [decide_eq_true_eq] at this
      exact this⟩
    obtain ⟨y, hy⟩ := List.exists_mem_of_ne_nil Q hQne
    have hd6 : d ≤ 6 := by rw [← hd y hy]; exact pop6_le
    rw [mc an hQne hd ho hl] at hsc4
    have hpops := newsO_pop an hd ho
    have hnl : (newsO Q O).length = Q.length := by rw [newsO_len, hl]
    have hQ0 : 0 < Q.length := List.length_pos_iff.2 hQne
    have hn0 : (newsO Q O)[0]'(by omega) = 0 := by
      rw [newsO_at (by omega), List.take_zero]
      unfold newPS
      have : ∀ l : List Nat, l.foldl (fun s c => if oppS (Q.getD O[0] 0) c (castL (pcsO Q [])) = true then s ||| c else s) 0 = 0 := by
        intro l
        induction l with
        | nil => rfl
        | cons a l ih => exact ih
      exact this _
    obtain ⟨p, hp1, hp2⟩ := hst.at 0 (by omega)
    rw [hn0] at hp2
    have hp1' : ∀ k h1, iadsV 1 t (.i k 0) h1 = .ok p h1 := fun k h1 => hp1 k h1
    have hcl := rcnt_len (d := d) (newsO Q O)
    have e1 : ¬ ((newsO Q O).length : Int) ≠ ((castL Q).length : Int) := by rw [castL_len']; omega
    have e2 : ¬ ((rcnt d (newsO Q O)).length : Int) < 1 := by omega
    have e3 : ¬ Int.ofNat 7 < ((rcnt d (newsO Q O)).length : Int) := by
      show ¬ (7 : Int) < _
      omega
    have e4 : ¬ ((0 : Nat) : Int) ≠ 0 := by decide
    simp (disch := omega) only [f10_r9, w_skip, w_reg, w_seq, w_cond, seqK_n, ckB_b, cbB_b, okG_b, asG_f, true_and, x_nil, x_g, x_mv, x_as, x_pick, x_ld, x_bin, x_iads, x_ext, x_len, kx, rvP_ok, okv_some, ev_t, ev_c, getV_some, putD_some, bin_neq, bin_lss, bin_gtr, pick_b, onTup_t, nth0, nth1, of0, of1, getK_set, Nat.reduceEqDiff, ↓reduceIte, Bool.false_eq_true, Bool.not_false, ne0, hst.len, hsu4.len, e1, hp1', hp2, nE, e4, hsc4.len, e2, e3, decide_false]
    clear hn0 hp1 hp1' hp2 e1 e2 e3 e4
    generalize hR : newsO Q O = R at *
    have hml : (rcnt d R).length ≤ 1000000 := by omega
    have gn : Grow h4.nx.nat h4 (h4.new (.cells ((rcnt d R).length * 1) (rep [.i .i64 0] (rcnt d R).length))) := Grow.new (Nat.le_refl _) _
    have hsl := mks_sl (h := h4) (n := (rcnt d R).length)
    have hcn := gn.hc hc4
    rw [show List.replicate (rcnt d R).length (0 : Int) = rcnt d (R.take 0) by rw [hcl]; rfl] at hsl
    simp (disch := omega) only [f10_r11, f10_r12, w_reg, w_seq, w_block, seqK_n, x_nil, x_mv, x_as, x_mks, x_len, kx, rvP_ok, ev_t, ev_c, getV_some, putD_some, of0, getK_set, Nat.reduceEqDiff, ↓reduceIte, hsc4.len, mks_ints hml]
    generalize h4.new (.cells ((rcnt d R).length * 1) (rep [.i .i64 0] (rcnt d R).length)) = h5 at *
    refine W_loop (f10_I h4 d R t c (.sl h4.nx 0 (rcnt d R).length 1)) (fun i => R.length - i) ?_ 0 ⟨Nat.zero_le _, hsl, gn, by simp (disch := omega) only [getK_set, Nat.reduceEqDiff, ↓reduceIte, and_self, Int.natCast_zero]⟩
    clear hsl gn hcn
    rintro i fr h6 ⟨hi, hsm, gr6, g10, g12, g14, g15⟩
    have hc6 := gr6.hc hc4
    have hst6 := hst.grow hc4 gr6
    have hsc6 := hsc4.grow hc4 gr6
    unfold f10_l0
    by_cases hlt : i < R.length
    · have hlt' : (i : Int) < (R.length : Int) := by omega
      obtain ⟨p, hp1, hp2⟩ := hst6.at i hlt
      obtain ⟨hz64, hzd⟩ := hpops _ (List.getElem_mem hlt)
      have hrl := rcnt_len (d := d) (R.take i)
      have hml2 : pop6 R[i] < (rcnt d (R.take i)).length := by omega
      have hbs := bump_set hlt hml2
      have hbd := rcnt_bd (d := d) (R.take i) _ (List.getElem_mem hml2)
      have htl : (R.take i).length ≤ 10 := by rw [List.length_take]; omega
      obtain ⟨q, hq1, hq2⟩ := hsm.at _ hml2
      obtain ⟨p2, id, m2, cs2, q1, q2, q3, ⟨off, nn, sz, q4⟩, q5⟩ := hsm.st hml2 (x := (rcnt d (R.take i))[pop6 R[i]] + 1) (c := .i .i64 ((rcnt d (R.take i))[pop6 R[i]] + 1)) rfl rfl hc6
      have hpp : p2 = q := by
        have h1' := hq1 .i64 h6
        have h2' := q1 .i64 h6
        rw [h1'] at h2'
        cases h2'; rfl
      subst hpp
      have hid : h4.nx = id := by cases q4; rfl
      generalize hx : (rcnt d (R.take i))[pop6 R[i]] = x at *
      have hfw : fw .i64 (x + 1) = x + 1 := fw64 (by omega) (by omega)
      have h63 : binV .and (.i .i64 (R[i] : Int)) (.i .i64 (.ofNat 63)) = some (.i .i64 (R[i] : Int)) := by
        show binV .and (.i .i64 (R[i] : Int)) (.i .i64 ((63 : Nat) : Int)) = _
        rw [and_n kmi (by omega) (by omega), show R[i] &&& 63 = R[i] from by have := Nat.and_two_pow_sub_one_of_lt_two_pow (n := 6) (x := R[i]) hz64; exact this]
      have e5 : ¬ ((rcnt d R).length : Int) ≤ (pop6 R[i] : Int) := by omega
      simp (disch := omega) only [f10_r13, f10_r14, f10_r15, w_skip, w_reg, w_seq, w_cond, w_block, seqK_n, ckB_b, cbB_b, true_and, x_nil, x_mv, x_as, x_ld, x_bin, x_iads, x_call, x_len, kx, rvP_ok, okv_some, ev_t, ev_c, evs_nil, evs_cons, getV_some, putD_some, bin_lss, bin_geq, getK_set, Nat.reduceEqDiff, ↓reduceIte, Bool.false_eq_true, g10, g12, g15, hst6.len, hlt', decide_true, hp1, hp2, nE, h63, k.p52 _ hz64, hsc6.len, e5, decide_false]
      simp (disch := omega) only [f10_r17, f10_r18, w_reg, seqK_n, atK_n, loopK_n, x_nil, x_mv, x_as, x_ld, x_st, x_bin, x_iads, kx, rvP_ok, okv_some, ev_t, ev_c, getV_some, putD_some, putD_none, bin_add, of1, getK_set, Nat.reduceEqDiff, ↓reduceIte, g14, g15, hq1, hq2, iE, hfw, q2, fw64]
      refine ⟨i + 1, by omega, hlt, by rw [hbs]; exact q3, gr6.trans (Grow.put (by rw [← hid]; exact Nat.le_refl _) q5 _), by simp (disch := omega) only [getK_set, Nat.reduceEqDiff, ↓reduceIte, g10, g12, g14, and_self, Int.natCast_add, Int.natCast_one]⟩
    · obtain rfl : i = R.length := by omega
      rw [List.take_length] at hsm
      simp (disch := omega) only [f10_r13, f10_r19, w_reg, w_seq, w_cond, w_exit, seqK_n, seqK_e, atK_e, loopK_e, ckB_b, cbB_b, true_and, x_nil, x_mv, x_bin, x_call, x_len, kx, rvP_ok, okv_some, ev_t, ev_c, evs_nil, evs_cons, getV_some, putD_some, bin_lss, getK_set, Nat.reduceEqDiff, ↓reduceIte, Bool.false_eq_true, g10, g12, g14, g15, hst6.len, Int.lt_irrefl, decide_false]
      refine k.c32 _ _ _ _ _ _ hsm hsc6 hml ?_
      simp (disch := omega) only [f10_rs, w_ret, seqK_n, okG_b, asG_t, true_and, retK_r, x_nil, x_g, x_mv, x_as, x_pick, x_call, kx, rvP_ok, ev_t, ev_c, evs_nil, getV_some, putD_some, pick_b, oGet_s, readRs_nil, readRs_t, retV_1, Option.some.injEq, exists_eq_left', getK_set, Nat.reduceEqDiff, ↓reduceIte, decide_true, k.aw]
      have q4 := gr4.nx
      exact g13.trans ((gr4.low (by omega)).trans (gr6.low (by omega)))
end
end Go.Ev
