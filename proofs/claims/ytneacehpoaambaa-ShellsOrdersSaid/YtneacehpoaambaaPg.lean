/-
  Functions of the seat: arranged, shelled.
  Functions of the seat: News.
  The reference's test of an order says whether it is a shelling; the reference's new parts are those of the program.
  Functions of the seat: IsShelling; the reference's News.
  The law ShellsShells.
  The law ShellsOrders.
-/
import Derived.Test.YtneacehpoaambaaPf
namespace Go.Ev
open Go Go.RowKit
noncomputable def f81_r0 : List EOper := [⟨(some (K.ofNat 4)), none, .as (.c .sn)⟩, ⟨(some (K.ofNat 5)), none, .as (.c (.b false))⟩]
noncomputable def f81_r1 : List EOper := [⟨(some (K.ofNat 10)), none, .mv (.t (K.ofNat 1))⟩, ⟨(some (K.ofNat 11)), none, .len (.t (K.ofNat 10))⟩, ⟨(some (K.ofNat 12)), none, .mv (.t (K.ofNat 0))⟩, ⟨(some (K.ofNat 13)), none, .len (.t (K.ofNat 12))⟩, ⟨(some (K.ofNat 14)), none, .bin .neq (.t (K.ofNat 11)) (.t (K.ofNat 13))⟩]
noncomputable def f81_r2 : List EOper := [⟨(some (K.ofNat 4)), none, .as (.c .sn)⟩, ⟨(some (K.ofNat 5)), none, .as (.c (.b false))⟩]
noncomputable def f81_r3 : List EOper := [⟨(some (K.ofNat 6)), none, .alloc 10 (List.replicate 10 (.b false))⟩]
noncomputable def f81_r4 : List EOper := [⟨(some (K.ofNat 7)), none, .as (.c .sn)⟩]
noncomputable def f81_r5 : List EOper := [⟨(some (K.ofNat 15)), none, .mv (.t (K.ofNat 1))⟩, ⟨(some (K.ofNat 16)), none, .len (.t (K.ofNat 15))⟩, ⟨(some (K.ofNat 17)), none, .mv (.c (.i .i64 (.ofNat 0)))⟩]
noncomputable def f81_r6 : List EOper := [⟨(some (K.ofNat 18)), none, .bin .lss (.t (K.ofNat 17)) (.t (K.ofNat 16))⟩]
noncomputable def f81_r7 : List EOper := [⟨(some (K.ofNat 19)), none, .iads 1 (.t (K.ofNat 15)) (.t (K.ofNat 17))⟩, ⟨(some (K.ofNat 20)), none, .ld (.t (K.ofNat 19))⟩, ⟨(some (K.ofNat 9)), none, .as (.t (K.ofNat 20))⟩]
noncomputable def f81_r8 : List EOper := [⟨(some (K.ofNat 21)), none, .mv (.t (K.ofNat 9))⟩, ⟨(some (K.ofNat 22)), none, .bin .lss (.t (K.ofNat 21)) (.c (.i .i64 (.ofNat 0)))⟩, ⟨(some (K.ofNat 23)), none, .mv (.t (K.ofNat 22))⟩, ⟨(some (K.ofNat 24)), (some ((K.ofNat 23), false)), .mv (.t (K.ofNat 9))⟩, ⟨(some (K.ofNat 25)), (some ((K.ofNat 23), false)), .mv (.t (K.ofNat 0))⟩, ⟨(some (K.ofNat 26)), (some ((K.ofNat 23), false)), .len (.t (K.ofNat 25))⟩, ⟨(some (K.ofNat 27)), (some ((K.ofNat 23), false)), .bin .geq (.t (K.ofNat 24)) (.t (K.ofNat 26))⟩, ⟨(some (K.ofNat 28)), none, .pick (.t (K.ofNat 23)) (.c (.b true)) (.t (K.ofNat 27))⟩, ⟨(some (K.ofNat 29)), none, .mv (.t (K.ofNat 28))⟩, ⟨(some (K.ofNat 30)), (some ((K.ofNat 29), false)), .mv (.t (K.ofNat 9))⟩, ⟨(some (K.ofNat 31)), (some ((K.ofNat 29), false)), .iadr 10 1 (.t (K.ofNat 6)) (.t (K.ofNat 30))⟩, ⟨(some (K.ofNat 32)), (some ((K.ofNat 29), false)), .ld (.t (K.ofNat 31))⟩, ⟨(some (K.ofNat 33)), none, .pick (.t (K.ofNat 29)) (.c (.b true)) (.t (K.ofNat 32))⟩]
noncomputable def f81_r9 : List EOper := [⟨(some (K.ofNat 4)), none, .as (.c .sn)⟩, ⟨(some (K.ofNat 5)), none, .as (.c (.b false))⟩]
noncomputable def f81_r10 : List EOper := [⟨(some (K.ofNat 34)), none, .mv (.t (K.ofNat 9))⟩, ⟨(some (K.ofNat 35)), none, .iadr 10 1 (.t (K.ofNat 6)) (.t (K.ofNat 34))⟩, ⟨none, none, .st 1 (.t (K.ofNat 35)) (.c (.b true))⟩]
noncomputable def f81_r11 : List EOper := [⟨(some (K.ofNat 36)), none, .mv (.t (K.ofNat 7))⟩, ⟨(some (K.ofNat 37)), none, .mv (.t (K.ofNat 0))⟩, ⟨(some (K.ofNat 38)), none, .mv (.t (K.ofNat 9))⟩, ⟨(some (K.ofNat 39)), none, .iads 1 (.t (K.ofNat 37)) (.t (K.ofNat 38))⟩, ⟨(some (K.ofNat 40)), none, .ld (.t (K.ofNat 39))⟩, ⟨(some (K.ofNat 41)), none, .bslice 1 1 [(.i .i64 (.ofNat 0))] [(0, 1, (.t (K.ofNat 40)))]⟩, ⟨(some (K.ofNat 42)), none, .app 1 (.t (K.ofNat 36)) (.t (K.ofNat 41))⟩, ⟨(some (K.ofNat 7)), none, .as (.t (K.ofNat 42))⟩]
noncomputable def f81_r12 : List EOper := [⟨(some (K.ofNat 43)), none, .bin .add (.t (K.ofNat 17)) (.c (.i .i64 (.ofNat 1)))⟩, ⟨(some (K.ofNat 17)), none, .mv (.t (K.ofNat 43))⟩]
noncomputable def f81_l0 : EC := (.seq (.reg f81_r6) (.seq (.cond (.t (K.ofNat 18)) .skip (.exit 0)) (.seq (.block 1 (.seq (.reg f81_r7) (.seq (.seq (.reg f81_r8) (.cond (.t (K.ofNat 33)) (.seq (.reg f81_r9) .ret) .skip)) (.seq (.reg f81_r10) (.reg f81_r11))))) (.reg f81_r12))))
noncomputable def f81_r13 : List EOper := [⟨(some (K.ofNat 44)), none, .mv (.t (K.ofNat 7))⟩, ⟨(some (K.ofNat 4)), none, .as (.t (K.ofNat 44))⟩, ⟨(some (K.ofNat 5)), none, .as (.c (.b true))⟩]
noncomputable def f81_c : EC := (.seq (.reg f81_r0) (.seq (.seq (.reg f81_r1) (.cond (.t (K.ofNat 14)) (.seq (.reg f81_r2) .ret) .skip)) (.seq (.reg f81_r3) (.seq (.reg f81_r4) (.seq (.seq (.reg f81_r5) (.block 0 (.loop f81_l0))) (.seq (.reg f81_r13) .ret))))))
noncomputable def f81 : EF := ⟨45, [.tmp (K.ofNat 4), .tmp (K.ofNat 5)], f81_c, none⟩
theorem f81_rs : f81.rs = [.tmp (K.ofNat 4), .tmp (K.ofNat 5)] := of_eq_true (eq_self _)
noncomputable def f60_r0 : List EOper := [⟨(some (K.ofNat 4)), none, .as (.c .sn)⟩, ⟨(some (K.ofNat 5)), none, .as (.c (.b false))⟩]
noncomputable def f60_r1 : List EOper := [⟨(some (K.ofNat 11)), none, .mv (.t (K.ofNat 0))⟩, ⟨(some (K.ofNat 12)), none, .mv (.t (K.ofNat 1))⟩, ⟨(some (K.ofNat 13)), none, .call (.c (.fn (K.ofNat 81) [])) [(.t (K.ofNat 11)), (.t (K.ofNat 12))]⟩, ⟨(some (K.ofNat 10)), none, .mv (.t (K.ofNat 13))⟩, ⟨(some (K.ofNat 14)), none, .ext (.t (K.ofNat 10)) 0⟩, ⟨(some (K.ofNat 15)), none, .ext (.t (K.ofNat 10)) 1⟩, ⟨(some (K.ofNat 6)), none, .as (.t (K.ofNat 14))⟩, ⟨(some (K.ofNat 7)), none, .as (.t (K.ofNat 15))⟩]
noncomputable def f60_r2 : List EOper := [⟨(some (K.ofNat 16)), none, .mv (.t (K.ofNat 7))⟩, ⟨(some (K.ofNat 17)), none, .not (.t (K.ofNat 16))⟩, ⟨(some (K.ofNat 18)), none, .mv (.t (K.ofNat 17))⟩, ⟨(some (K.ofNat 19)), (some ((K.ofNat 18), false)), .mv (.t (K.ofNat 0))⟩, ⟨(some (K.ofNat 20)), (some ((K.ofNat 18), false)), .call (.c (.fn (K.ofNat 58) [])) [(.t (K.ofNat 19))]⟩, ⟨(some (K.ofNat 21)), (some ((K.ofNat 18), false)), .not (.t (K.ofNat 20))⟩, ⟨(some (K.ofNat 22)), none, .pick (.t (K.ofNat 18)) (.c (.b true)) (.t (K.ofNat 21))⟩]
noncomputable def f60_r3 : List EOper := [⟨(some (K.ofNat 4)), none, .as (.c .sn)⟩, ⟨(some (K.ofNat 5)), none, .as (.c (.b false))⟩]
noncomputable def f60_r4 : List EOper := [⟨(some (K.ofNat 23)), none, .mv (.t (K.ofNat 6))⟩, ⟨(some (K.ofNat 24)), none, .len (.t (K.ofNat 23))⟩, ⟨(some (K.ofNat 25)), none, .mv (.c (.i .i64 (.ofNat 0)))⟩]
noncomputable def f60_r5 : List EOper := [⟨(some (K.ofNat 26)), none, .bin .lss (.t (K.ofNat 25)) (.t (K.ofNat 24))⟩]
noncomputable def f60_r6 : List EOper := [⟨(some (K.ofNat 27)), none, .mv (.t (K.ofNat 25))⟩, ⟨(some (K.ofNat 28)), none, .iads 1 (.t (K.ofNat 23)) (.t (K.ofNat 25))⟩, ⟨(some (K.ofNat 29)), none, .ld (.t (K.ofNat 28))⟩, ⟨(some (K.ofNat 8)), none, .as (.t (K.ofNat 27))⟩, ⟨(some (K.ofNat 9)), none, .as (.t (K.ofNat 29))⟩]
noncomputable def f60_r7 : List EOper := [⟨(some (K.ofNat 30)), none, .mv (.t (K.ofNat 9))⟩, ⟨(some (K.ofNat 31)), none, .mv (.t (K.ofNat 6))⟩, ⟨(some (K.ofNat 32)), none, .mv (.t (K.ofNat 8))⟩, ⟨(some (K.ofNat 33)), none, .slice 1 (.t (K.ofNat 31)) none (some (.t (K.ofNat 32))) none⟩, ⟨(some (K.ofNat 34)), none, .call (.c (.fn (K.ofNat 80) [])) [(.t (K.ofNat 30)), (.t (K.ofNat 33))]⟩, ⟨(some (K.ofNat 35)), none, .not (.t (K.ofNat 34))⟩]
noncomputable def f60_r8 : List EOper := [⟨(some (K.ofNat 4)), none, .as (.c .sn)⟩, ⟨(some (K.ofNat 5)), none, .as (.c (.b false))⟩]
noncomputable def f60_r9 : List EOper := [⟨(some (K.ofNat 36)), none, .bin .add (.t (K.ofNat 25)) (.c (.i .i64 (.ofNat 1)))⟩, ⟨(some (K.ofNat 25)), none, .mv (.t (K.ofNat 36))⟩]
noncomputable def f60_l0 : EC := (.seq (.reg f60_r5) (.seq (.cond (.t (K.ofNat 26)) .skip (.exit 0)) (.seq (.block 1 (.seq (.reg f60_r6) (.seq (.reg f60_r7) (.cond (.t (K.ofNat 35)) (.seq (.reg f60_r8) .ret) .skip)))) (.reg f60_r9))))
noncomputable def f60_r10 : List EOper := [⟨(some (K.ofNat 37)), none, .mv (.t (K.ofNat 6))⟩, ⟨(some (K.ofNat 4)), none, .as (.t (K.ofNat 37))⟩, ⟨(some (K.ofNat 5)), none, .as (.c (.b true))⟩]
noncomputable def f60_c : EC := (.seq (.reg f60_r0) (.seq (.reg f60_r1) (.seq (.seq (.reg f60_r2) (.cond (.t (K.ofNat 22)) (.seq (.reg f60_r3) .ret) .skip)) (.seq (.seq (.reg f60_r4) (.block 0 (.loop f60_l0))) (.seq (.reg f60_r10) .ret)))))
noncomputable def f60 : EF := ⟨38, [.tmp (K.ofNat 4), .tmp (K.ofNat 5)], f60_c, none⟩
theorem f60_rs : f60.rs = [.tmp (K.ofNat 4), .tmp (K.ofNat 5)] := of_eq_true (eq_self _)
section
variable {fs : T EF} {ro : Option K}
/-- The list names each piece once. -/
structure ArrP (Q : List Nat) (S : List Int) (O : List Nat) : Prop where
  eq : S = castL O
  nd : O.Nodup
  lt : ∀ j ∈ O, j < Q.length
  len : O.length = Q.length
theorem pcsO_len {Q O : List Nat} : (pcsO Q O).length = O.length := by simp [pcsO]
theorem castL_len' {O : List Nat} : (castL O).length = O.length := by simp [castL]
theorem castL_inj {A B : List Nat} (h : castL A = castL B) : A = B := by
  unfold castL at h
  exact List.map_inj_right (fun a b => by omega) |>.1 h
theorem castL_take {A : List Nat} {i : Nat} : (castL A).take i = castL (A.take i) := by unfold castL; rw [List.map_take]
theorem castL_at {A : List Nat} {i : Nat} (h : i < (castL A).length) : (castL A)[i] = (A[i]'(by rw [castL_len'] at h; exact h) : Int) := by simp [castL]
def f81_I (h : H) (v w : V) (Q : List Nat) (S : List Int) (id : K) (i : Nat) (fr : Fr) (h1 : H) : Prop := ∃ O o, i ≤ S.length ∧ S.take i = castL O ∧ O.Nodup ∧ (∀ j ∈ O, j < Q.length) ∧ Sl nE h1 o (pcsO Q O) ∧ Own (id.nat + 1) o ∧ Ar V.b h1 id (bitsA (setO O)) ∧ id.nat < h1.nx.nat ∧ Grow h.nx.nat h h1 ∧ fr.get (K.ofNat 0) = some (v) ∧ fr.get (K.ofNat 1) = some (w) ∧ fr.get (K.ofNat 6) = some (.p id 0) ∧ fr.get (K.ofNat 7) = some (o) ∧ fr.get (K.ofNat 15) = some (w) ∧ fr.get (K.ofNat 16) = some (.i .i64 (S.length : Int)) ∧ fr.get (K.ofNat 17) = some (.i .i64 (i : Int))
theorem f81_ret {h : H} {v w : V} {Q : List Nat} {S : List Int} (hv : Sl nE h v Q) (hw : Sl iE h w S) (hc : HC h) (hQ : Q.length ≤ 10) :
    Ret fs f81 [v, w] h fun r h' => ∃ x u, r = .tup [u, .b x] ∧ Grow h.nx.nat h h' ∧ (x = true → ∃ O, ArrP Q S O ∧ Sl nE h' u (pcsO Q O) ∧ Own h.nx.nat u) ∧ (x = false → u = .sn ∧ ∀ O, ¬ ArrP Q S O) := by
  apply ret_of rfl
  show W fs none f81_c _ _ _
  unfold f81_c
  by_cases hl : S.length = Q.length
  · have hl' : (S.length : Int) = (Q.length : Int) := by omega
    simp (disch := omega) only [f81_r0, f81_r1, w_skip, w_reg, w_seq, w_cond, seqK_n, ckB_b, cbB_b, true_and, x_nil, x_mv, x_as, x_bin, x_len, kx, rvP_ok, okv_some, ev_t, ev_c, getV_some, putD_some, bin_neq, frame_2, getK_set, Nat.reduceEqDiff, ↓reduceIte, Bool.false_eq_true, hv.len, hw.len, hl', ne_eq, not_true_eq_false, decide_false]
    have n1 := nx_new h (.cells 10 (List.replicate 10 (.b false)))
    have gn : Grow h.nx.nat h (h.new (.cells 10 (List.replicate 10 (.b false)))) := Grow.new (Nat.le_refl _) _
    have hA : Ar V.b (h.new (.cells 10 (List.replicate 10 (.b false)))) h.nx (bitsA (setO [])) := by unfold Ar; rw [get_new_same]; rfl
    simp (disch := omega) only [f81_r3, f81_r4, f81_r5, w_reg, w_seq, w_block, seqK_n, x_nil, x_mv, x_as, x_alloc, x_len, kx, rvP_ok, ev_t, ev_c, getV_some, putD_some, of0, getK_set, Nat.reduceEqDiff, ↓reduceIte, hw.len]
    generalize h.new (.cells 10 (List.replicate 10 (.b false))) = h0 at *
    refine W_loop (f81_I h v w Q S h.nx) (fun i => S.length - i) ?_ 0 ⟨[], .sn, Nat.zero_le _, by simp [castL], List.nodup_nil, (fun _ h => by cases h), Sl.nil, Own.sn, hA, by omega, gn, by simp (disch := omega) only [getK_set, Nat.reduceEqDiff, ↓reduceIte, and_self, Int.natCast_zero, hl']⟩
    clear gn hA n1 h0
    rintro i fr h1 ⟨O, o, hi, htk, hnd, hlt0, hso, hoo, hA, hidn, hgr, g0, g1, g6, g7, g15, g16, g17⟩
    have hc1 := hgr.hc hc
    have hv1 := hv.grow hc hgr
    have hw1 := hw.grow hc hgr
    have hOl : O.length = i := by
      have := congrArg List.length htk
      rw [castL_len', List.length_take] at this; omega
    unfold f81_l0
    by_cases hlt : i < S.length
    · have hlt' : (i : Int) < (S.length : Int) := by omega
      obtain ⟨p, hp1, hp2⟩ := hw1.at i hlt
      have nope : (∀ k : Nat, S[i] = (k : Int) → k < Q.length → k ∈ O) → ∀ O', ¬ ArrP Q S O' := by
        rintro hk O' ⟨e1, e2, e3, e4⟩
        subst e1
        have hi' : i < O'.length := by rw [castL_len'] at hlt; exact hlt
        have he := castL_at hlt
        have hm := hk _ he (e3 _ (List.getElem_mem hi'))
        rw [castL_take] at htk
        rw [← castL_inj htk] at hm
        obtain ⟨j, hj, hje⟩ := List.mem_iff_getElem.1 hm
        rw [List.length_take] at hj
        rw [List.getElem_take] at hje
        exact (List.pairwise_iff_getElem.1 e2) j i (by omega) hi' (by omega) hje
      by_cases b1 : S[i] < 0
      · simp (disch := omega) only [f81_r6, f81_r7, f81_r8, f81_r9, f81_rs, w_skip, w_reg, w_seq, w_cond, w_block, w_ret, seqK_n, seqK_r, atK_r, loopK_r, ckB_b, cbB_b, okG_b, asG_f, true_and, retK_r, x_nil, x_g, x_mv, x_as, x_pick, x_ld, x_bin, x_iads, kx, rvP_ok, okv_some, ev_t, ev_c, getV_some, putD_some, bin_lss, pick_b, oGet_s, readRs_nil, readRs_t, retV_2, of0, Option.some.injEq, exists_eq_left', getK_set, Nat.reduceEqDiff, ↓reduceIte, Bool.false_eq_true, Bool.not_true, g15, g16, g17, hlt', decide_true, hp1, hp2, iE, b1]
        exact ⟨false, .sn, rfl, hgr, fun h => (by cases h), fun _ => ⟨rfl, nope fun k hk _ => by omega⟩⟩
      · by_cases b2 : (Q.length : Int) ≤ S[i]
        · simp (disch := omega) only [f81_r6, f81_r7, f81_r8, f81_r9, f81_rs, w_skip, w_reg, w_seq, w_cond, w_block, w_ret, seqK_n, seqK_r, atK_r, loopK_r, ckB_b, cbB_b, okG_b, asG_f, true_and, retK_r, x_nil, x_g, x_mv, x_as, x_pick, x_ld, x_bin, x_iads, x_len, kx, rvP_ok, okv_some, ev_t, ev_c, getV_some, putD_some, bin_lss, bin_geq, pick_b, oGet_s, readRs_nil, readRs_t, retV_2, of0, Option.some.injEq, exists_eq_left', getK_set, Nat.reduceEqDiff, ↓reduceIte, Bool.false_eq_true, Bool.not_true, Bool.not_false, g0, g15, g16, g17, hlt', decide_true, decide_false, hp1, hp2, iE, b1, b2, hv1.len]
          exact ⟨false, .sn, rfl, hgr, fun h => (by cases h), fun _ => ⟨rfl, nope fun k hk _ => by omega⟩⟩
        · obtain ⟨k, hk⟩ := Int.eq_ofNat_of_zero_le (show 0 ≤ S[i] by omega)
          rw [hk] at b1 b2 hp2
          have hkl : k < Q.length := by omega
          have hkb : k < (bitsA (setO O)).length := by rw [bitsA_len]; omega
          have hub : (bitsA (setO O))[k] = (setO O).testBit k := arr_at hkb
          have ldu : loadV h1 (.p h.nx (0 + k * 1)) one? = .ok (.b ((setO O).testBit k)) h1 := by rw [hA.ld hkb, hub]
          have k10 : k < 10 := by omega
          by_cases b3 : k ∈ O
          · rw [setO_bit, decide_eq_true b3] at ldu
            simp (disch := omega) only [f81_r6, f81_r7, f81_r8, f81_r9, f81_rs, w_skip, w_reg, w_seq, w_cond, w_block, w_ret, seqK_n, seqK_r, atK_r, loopK_r, ckB_b, cbB_b, okG_b, asG_f, true_and, retK_r, x_nil, x_g, x_mv, x_as, x_pick, x_ld, x_bin, x_iadr, x_iads, x_len, kx, rvP_ok, okv_some, ev_t, ev_c, getV_some, putD_some, bin_lss, bin_geq, pick_b, onP_p, oGet_s, idx_n, readRs_nil, readRs_t, retV_2, of0, Option.some.injEq, exists_eq_left', getK_set, Nat.reduceEqDiff, ↓reduceIte, Bool.false_eq_true, Bool.not_false, g0, g6, g15, g16, g17, hlt', decide_true, decide_false, hp1, hp2, iE, b1, b2, hv1.len, ldu]
            exact ⟨false, .sn, rfl, hgr, fun h => (by cases h), fun _ => ⟨rfl, nope fun k' hk' _ => (show k' = k by omega) ▸ b3⟩⟩
          · rw [setO_bit, decide_eq_false b3] at ldu
            obtain ⟨st8, hA8⟩ := hA.st (i := k) (x := true) (c := .b true) hkb rfl rfl
            have gw8 : Grow h.nx.nat h1 (h1.put h.nx (.cells (bitsA (setO O)).length (((bitsA (setO O)).set k true).map V.b))) := Grow.put (Nat.le_refl _) hidn _
            have gr8 := hgr.trans gw8
            have hc8 := gr8.hc hc
            have hv8 := hv.grow hc gr8
            have hso8 := hso.put (hoo.notIn (id := h.nx) (by omega)) (.cells (bitsA (setO O)).length (((bitsA (setO O)).set k true).map V.b))
            obtain ⟨q, hq1, hq2⟩ := hv8.at k hkl
            have nx8 : (h1.put h.nx (.cells (bitsA (setO O)).length (((bitsA (setO O)).set k true).map V.b))).nx = h1.nx := rfl
            rw [bitsA_set] at hA8
            obtain ⟨v', h', q1, q2, q3, q4, q5⟩ := Sl.push (e := nE) (L := pcsO Q O) (x := Q[k]) (c := .i .i64 (Q[k] : Int)) rfl hso8 hoo (by rw [nx8]; omega) hc8 (by rw [pcsO_len]; omega)
            have hge : Q.getD k 0 = Q[k] := by simp [List.getD, hkl]
            simp (disch := omega) only [f81_r6, f81_r7, f81_r8, f81_r10, w_skip, w_reg, w_seq, w_cond, w_block, seqK_n, ckB_b, cbB_b, okG_b, asG_f, true_and, x_nil, x_g, x_mv, x_as, x_pick, x_ld, x_st, x_bin, x_iadr, x_iads, x_len, kx, rvP_ok, okv_some, ev_t, ev_c, getV_some, putD_some, putD_none, bin_lss, bin_geq, pick_b, onP_p, idx_n, of0, getK_set, Nat.reduceEqDiff, ↓reduceIte, Bool.false_eq_true, Bool.not_false, g0, g6, g15, g16, g17, hlt', decide_true, decide_false, hp1, hp2, iE, b1, b2, hv1.len, ldu, st8]
            simp (disch := omega) only [f81_r11, f81_r12, w_reg, seqK_n, atK_n, loopK_n, x_nil, x_mv, x_as, x_bslice, x_ld, x_bin, x_iads, x_app, kx, rvP_ok, okv_some, ev_t, ev_c, getV_some, putD_some, bin_add, oGet_s, cells1_i, fill_1, set_1, of0, of1, getK_set, Nat.reduceEqDiff, ↓reduceIte, g0, g7, g17, hq1, hq2, nE, q1, fw64]
            obtain ⟨r1, r2⟩ := q5 h.nx (by rw [nx8]; exact hidn) (hoo.notIn (by omega))
            refine ⟨i + 1, by omega, O ++ [k], v', hlt, ?_, ?_, ?_, ?_, q3, hA8.same (by rw [bitsA_set] at r1; exact r1), ?_, gr8.trans (q4.low (by omega)), by simp (disch := omega) only [getK_set, Nat.reduceEqDiff, ↓reduceIte, g0, g1, g6, g15, g16, and_self, Int.natCast_add, Int.natCast_one]⟩
            · rw [List.take_succ_eq_append_getElem hlt, htk, hk]; simp [castL]
            · rw [List.nodup_append]
              exact ⟨hnd, by simp, fun a ha b hb e => by rw [List.mem_singleton.1 hb] at e; exact b3 (e ▸ ha)⟩
            · intro j hj
              rcases List.mem_append.1 hj with h2 | h2
              · exact hlt0 j h2
              · rw [List.mem_singleton.1 h2]; exact hkl
            · rw [pcsO_snoc, hge]; exact q2
            · have := q4.nx; rw [nx8] at this; omega
    · obtain rfl : i = S.length := by omega
      rw [List.take_length] at htk
      simp (disch := omega) only [f81_r6, f81_r13, f81_rs, w_reg, w_seq, w_cond, w_exit, w_ret, seqK_n, seqK_e, atK_e, loopK_e, ckB_b, cbB_b, true_and, retK_r, x_nil, x_mv, x_as, x_bin, kx, rvP_ok, okv_some, ev_t, ev_c, getV_some, putD_some, bin_lss, oGet_s, readRs_nil, readRs_t, retV_2, Option.some.injEq, exists_eq_left', getK_set, Nat.reduceEqDiff, ↓reduceIte, Bool.false_eq_true, g7, g16, g17, Int.lt_irrefl, decide_false]
      exact ⟨true, o, rfl, hgr, fun _ => ⟨O, ⟨htk, hnd, hlt0, by omega⟩, hso, hoo.low (by omega)⟩, fun h => (by cases h)⟩
  · have hl' : ¬ (S.length : Int) = (Q.length : Int) := by omega
    simp (disch := omega) only [f81_r0, f81_r1, f81_r2, f81_rs, w_reg, w_seq, w_cond, w_ret, seqK_n, seqK_r, ckB_b, cbB_b, true_and, retK_r, x_nil, x_mv, x_as, x_bin, x_len, kx, rvP_ok, okv_some, ev_t, ev_c, getV_some, putD_some, bin_neq, oGet_s, readRs_nil, readRs_t, retV_2, frame_2, Option.some.injEq, exists_eq_left', getK_set, Nat.reduceEqDiff, ↓reduceIte, hv.len, hw.len, hl', ne_eq, not_false_eq_true, decide_true]
    exact ⟨false, .sn, rfl, Grow.refl _ _, fun h => (by cases h), fun _ => ⟨rfl, fun O ha => hl (by rw [ha.eq, castL_len', ha.len])⟩⟩
/-- The list is a shelling. -/
structure ShP (Q : List Nat) (S : List Int) (O : List Nat) : Prop where
  eq : S = castL O
  ord : Ord Q O
  len : O.length = Q.length
  pure : pureS (castL Q) = true
theorem Ord.at {Q O : List Nat} (h : Ord Q O) : ∀ i (hi : i < O.length), okN Q (setO (O.take i)) O[i] := by
  induction h with
  | nil => intro i hi; cases hi
  | snoc h hk ih =>
    rename_i O k
    intro i hi
    by_cases e : i < O.length
    · have := ih i e
      rw [List.take_append_of_le_length (by omega), List.getElem_append_left e]; exact this
    · have e2 : i = O.length := by rw [List.length_append, List.length_singleton] at hi; omega
      subst e2
      rw [List.take_left, List.getElem_append_right (Nat.le_refl _)]
      simpa using hk
theorem pcsO_take {Q O : List Nat} {i : Nat} : (pcsO Q O).take i = pcsO Q (O.take i) := by unfold pcsO; rw [List.map_take]
theorem pcsO_at {Q O : List Nat} {i : Nat} (h : i < (pcsO Q O).length) : (pcsO Q O)[i] = Q.getD (O[i]'(by rw [pcsO_len] at h; exact h)) 0 := by simp [pcsO]
/-- Whether the next piece fits says whether the next place of the order may come next. -/
theorem fits_at {Q O : List Nat} {i : Nat} (an : Anti Q) (nd : O.Nodup) (lt : ∀ j ∈ O, j < Q.length) (hi : i < O.length) : fitS (Q.getD O[i] 0) (castL (pcsO Q (O.take i))) = nextR Q (setO (O.take i)) O[i] ∧ O[i] ∉ O.take i := by
  have hn : O[i] ∉ O.take i := by
    intro hm
    obtain ⟨j, hj, hje⟩ := List.mem_iff_getElem.1 hm
    rw [List.length_take] at hj
    rw [List.getElem_take] at hje
    exact (List.pairwise_iff_getElem.1 nd) j i (by omega) hi (by omega) hje
  have hl := lt _ (List.getElem_mem hi)
  refine ⟨fits_next (m := setO (O.take i)) hl an.lt (fun j hj hne => an.no _ j hl hj hne) (setO_not.2 hn) fun z => ?_, hn⟩
  unfold pcsO
  rw [List.mem_map]
  constructor
  · rintro ⟨j, hj, rfl⟩; exact ⟨j, lt j (List.mem_of_mem_take hj), setO_mem.2 hj, rfl⟩
  · rintro ⟨j, _, hj, rfl⟩; exact ⟨j, setO_mem.1 hj, rfl⟩
def f60_I (b : Nat) (h : H) (u : V) (Q O : List Nat) (i : Nat) (fr : Fr) (h1 : H) : Prop := i ≤ O.length ∧ Ord Q (O.take i) ∧ Sl nE h1 u (pcsO Q O) ∧ HC h1 ∧ Grow b h h1 ∧ fr.get (K.ofNat 6) = some (u) ∧ fr.get (K.ofNat 23) = some (u) ∧ fr.get (K.ofNat 24) = some (.i .i64 (O.length : Int)) ∧ fr.get (K.ofNat 25) = some (.i .i64 (i : Int))
theorem f60_ret {h : H} {v w : V} {Q : List Nat} {S : List Int} (k : Calls79 fs) (hp75 : ∀ m : Nat, m < 64 → ∀ h P, CallP fs (.fn (K.ofNat 75) []) [.i .i64 (m : Int)] h P = P (.i .i64 (pop6 m : Int)) h) (h58 : fs.get (K.ofNat 58) = some f58) (h81 : fs.get (K.ofNat 81) = some f81)
    (hv : Sl iE h v (castL Q)) (hw : Sl iE h w S) (hc : HC h) (an : Anti Q) :
    Ret fs f60 [v, w] h fun r h' => ∃ x u, r = .tup [u, .b x] ∧ Grow h.nx.nat h h' ∧ (x = true → ∃ O, ShP Q S O ∧ Sl nE h' u (pcsO Q O) ∧ Own h.nx.nat u) ∧ (x = false → u = .sn ∧ ∀ O, ¬ ShP Q S O) := by
  apply ret_of rfl
  show W fs none f60_c _ _ _
  unfold f60_c
  simp (disch := omega) only [f60_r0, f60_r1, w_reg, w_seq, seqK_n, x_nil, x_mv, x_as, x_call, ev_t, ev_c, evs_nil, evs_cons, getV_some, putD_some, frame_2, getK_set, Nat.reduceEqDiff, ↓reduceIte]
  refine (callP_0 (ef := f81) h81 rfl (f81_ret (Q := Q) hv.unmap hw hc an.len)).mono ?_
  rintro r h1 ⟨x, u, rfl, gr1, yes, no⟩
  have hc1 := gr1.hc hc
  cases x
  · obtain ⟨rfl, hno⟩ := no rfl
    simp (disch := omega) only [f60_r2, f60_r3, f60_rs, w_reg, w_seq, w_cond, w_ret, seqK_n, seqK_r, ckB_b, cbB_b, okG_b, asG_f, true_and, retK_r, x_nil, x_g, x_mv, x_as, x_pick, x_not, x_ext, kx, rvP_ok, okv_some, ev_t, ev_c, getV_some, putD_some, pick_b, onB_b, onTup_t, oGet_s, nth0, nth1, readRs_nil, readRs_t, retV_2, Option.some.injEq, exists_eq_left', getK_set, Nat.reduceEqDiff, ↓reduceIte, Bool.false_eq_true, Bool.not_true, Bool.not_false]
    exact ⟨false, .sn, rfl, gr1, fun h => (by cases h), fun _ => ⟨rfl, fun O hs => hno O ⟨hs.eq, hs.ord.nodup, hs.ord.lt, hs.len⟩⟩⟩
  · obtain ⟨O, ha, hso, hoo⟩ := yes rfl
    have hal := an.len
    have hOl := ha.len
    have nsh : ∀ i (hi : i < O.length), nextR Q (setO (O.take i)) O[i] = false → ∀ O', ¬ ShP Q S O' := by
      rintro i hi e O' ⟨e1, e2, e3, e4⟩
      have : O = O' := castL_inj (ha.eq ▸ e1)
      subst this
      have := (e2.at i hi).2.2
      rw [e] at this; cases this
    simp (disch := omega) only [f60_r2, w_reg, w_seq, seqK_n, okG_b, asG_f, true_and, x_nil, x_g, x_mv, x_as, x_not, x_ext, x_call, kx, rvP_ok, okv_some, ev_t, ev_c, evs_nil, evs_cons, getV_some, putD_some, onB_b, onTup_t, nth0, nth1, getK_set, Nat.reduceEqDiff, ↓reduceIte, Bool.not_true, Bool.not_false]
    refine (callP_0 (ef := f58) h58 rfl (f58_ret hp75 (hv.grow hc gr1) (by simp [castL]; omega) (sets_map an.lt))).mono ?_
    rintro r h2 ⟨rfl, rfl⟩
    cases e : pureS (castL Q)
    · simp (disch := omega) only [f60_r3, f60_rs, w_reg, w_seq, w_cond, w_ret, seqK_n, seqK_r, ckB_b, cbB_b, okG_b, asG_f, true_and, retK_r, x_nil, x_g, x_as, x_pick, x_not, kx, rvP_ok, ev_t, ev_c, getV_some, putD_some, pick_b, onB_b, oGet_s, readRs_nil, readRs_t, retV_2, Option.some.injEq, exists_eq_left', getK_set, Nat.reduceEqDiff, ↓reduceIte, Bool.false_eq_true, Bool.not_false]
      exact ⟨false, .sn, rfl, gr1, fun h => (by cases h), fun _ => ⟨rfl, fun O hs => by have := hs.pure; rw [e] at this; cases this⟩⟩
    · have hpl := pcsO_len (Q := Q) (O := O)
      simp (disch := omega) only [f60_r4, w_skip, w_reg, w_seq, w_cond, w_block, seqK_n, ckB_b, cbB_b, okG_b, asG_f, true_and, x_nil, x_g, x_mv, x_pick, x_not, x_len, kx, rvP_ok, ev_t, ev_c, getV_some, putD_some, pick_b, onB_b, of0, getK_set, Nat.reduceEqDiff, ↓reduceIte, Bool.false_eq_true, Bool.not_true, Bool.not_false, hso.len, hpl]
      refine W_loop (f60_I h.nx.nat h u Q O) (fun i => O.length - i) ?_ 0 ⟨Nat.zero_le _, by rw [List.take_zero]; exact .nil, hso, hc1, gr1, by simp (disch := omega) only [getK_set, Nat.reduceEqDiff, ↓reduceIte, and_self, Int.natCast_zero]⟩
      clear hc1 gr1 hso
      rintro i fr h3 ⟨hi, ho, hso, hc3, gr3, g6, g23, g24, g25⟩
      unfold f60_l0
      by_cases hlt : i < O.length
      · have hlt' : (i : Int) < (O.length : Int) := by omega
        obtain ⟨p, hp1, hp2⟩ := hso.at i (by rw [hpl]; exact hlt)
        rw [pcsO_at] at hp2
        obtain ⟨x, x1, x2, x3, x4⟩ := Sl.cut (lo := none) (hi := some (.i .i64 (i : Int))) (l := 0) (u := i) hso bnd_none bnd_i (by omega) (by rw [hpl]; omega)
        rw [List.drop_zero, pcsO_take] at x2
        obtain ⟨hf, hn⟩ := fits_at an ha.nd ha.lt hlt
        have hgl := ha.lt _ (List.getElem_mem hlt)
        have hx := an.lt _ (getD_mem hgl)
        obtain ⟨ef, pt1, pt2⟩ := k.pt
        simp (disch := omega) only [f60_r5, f60_r6, f60_r7, w_skip, w_reg, w_seq, w_cond, w_block, seqK_n, ckB_b, cbB_b, true_and, x_nil, x_mv, x_as, x_ld, x_bin, x_slice, sliceV_eq, Option.map_none, Option.map_some, x_iads, x_call, kx, rvP_ok, okv_some, ev_t, ev_c, evs_nil, evs_cons, getV_some, putD_some, bin_lss, getK_set, Nat.reduceEqDiff, ↓reduceIte, g6, g23, g24, g25, hlt', decide_true, hp1, hp2, nE, x1]
        refine (callP_0 (ef := f80) k.c80 rfl (f80_ret (x := Q.getD O[i] 0) k.p54 k.c82 k.c92 pt1 pt2 k.c83 k.c61 (Sl.map (f := fun (k : Nat) => (k : Int)) x2) hc3 (by simp [pcsO]; omega) hx)).mono ?_
        rintro u1 h4 ⟨rfl, gr4⟩
        have hf' : fitS (Q.getD O[i] 0) ((pcsO Q (O.take i)).map fun (k : Nat) => (k : Int)) = nextR Q (setO (O.take i)) O[i] := hf
        rw [hf']
        have gr5 := gr3.trans (gr4.low gr3.nx)
        cases e5 : nextR Q (setO (O.take i)) O[i]
        · simp (disch := omega) only [f60_r8, f60_rs, w_reg, w_seq, w_cond, w_ret, seqK_n, seqK_r, atK_r, loopK_r, ckB_b, cbB_b, true_and, retK_r, x_nil, x_as, x_not, kx, rvP_ok, ev_t, ev_c, getV_some, putD_some, onB_b, oGet_s, readRs_nil, readRs_t, retV_2, Option.some.injEq, exists_eq_left', getK_set, Nat.reduceEqDiff, ↓reduceIte, Bool.not_false]
          exact ⟨false, .sn, rfl, gr5, fun h => (by cases h), fun _ => ⟨rfl, nsh i hlt e5⟩⟩
        · simp (disch := omega) only [f60_r9, w_skip, w_reg, w_cond, seqK_n, atK_n, loopK_n, ckB_b, cbB_b, true_and, x_nil, x_mv, x_bin, x_not, kx, rvP_ok, okv_some, ev_t, ev_c, getV_some, putD_some, bin_add, onB_b, of1, getK_set, Nat.reduceEqDiff, ↓reduceIte, Bool.false_eq_true, Bool.not_true, g25, fw64]
          refine ⟨i + 1, by omega, hlt, ?_, hso.grow hc3 gr4, gr4.hc hc3, gr5, by simp (disch := omega) only [getK_set, Nat.reduceEqDiff, ↓reduceIte, g6, g23, g24, and_self, Int.natCast_add, Int.natCast_one]⟩
          rw [List.take_succ_eq_append_getElem hlt]
          exact .snoc ho ⟨hgl, setO_not.2 hn, e5⟩
      · obtain rfl : i = O.length := by omega
        rw [List.take_length] at ho
        simp (disch := omega) only [f60_r5, f60_r10, f60_rs, w_reg, w_seq, w_cond, w_exit, w_ret, seqK_n, seqK_e, atK_e, loopK_e, ckB_b, cbB_b, true_and, retK_r, x_nil, x_mv, x_as, x_bin, kx, rvP_ok, okv_some, ev_t, ev_c, getV_some, putD_some, bin_lss, oGet_s, readRs_nil, readRs_t, retV_2, Option.some.injEq, exists_eq_left', getK_set, Nat.reduceEqDiff, ↓reduceIte, Bool.false_eq_true, g6, g24, g25, Int.lt_irrefl, decide_false]
        exact ⟨true, u, rfl, gr3, fun _ => ⟨O, ⟨ha.eq, ho, ha.len, e⟩, hso, hoo⟩, fun h => (by cases h)⟩
end
end Go.Ev
namespace Go.Ev
open Go Go.RowKit
noncomputable def f23_r0 : List EOper := [⟨(some (K.ofNat 6)), none, .as (.c .sn)⟩, ⟨(some (K.ofNat 7)), none, .as (.c (.i .i64 (.ofNat 0)))⟩]
noncomputable def f23_r1 : List EOper := [⟨(some (K.ofNat 14)), none, .mv (.t (K.ofNat 0))⟩, ⟨(some (K.ofNat 15)), none, .mv (.t (K.ofNat 1))⟩, ⟨(some (K.ofNat 16)), none, .call (.c (.fn (K.ofNat 16) [])) [(.t (K.ofNat 14)), (.t (K.ofNat 15))]⟩, ⟨(some (K.ofNat 8)), none, .as (.t (K.ofNat 16))⟩]
noncomputable def f23_r2 : List EOper := [⟨(some (K.ofNat 17)), none, .mv (.t (K.ofNat 8))⟩, ⟨(some (K.ofNat 18)), none, .bin .neq (.t (K.ofNat 17)) (.c (.i .i64 (.ofNat 0)))⟩]
noncomputable def f23_r3 : List EOper := [⟨(some (K.ofNat 19)), none, .mv (.t (K.ofNat 8))⟩, ⟨(some (K.ofNat 6)), none, .as (.c .sn)⟩, ⟨(some (K.ofNat 7)), none, .as (.t (K.ofNat 19))⟩]
noncomputable def f23_r4 : List EOper := [⟨(some (K.ofNat 21)), none, .mv (.t (K.ofNat 1))⟩, ⟨(some (K.ofNat 22)), none, .mv (.t (K.ofNat 2))⟩, ⟨(some (K.ofNat 23)), none, .call (.c (.fn (K.ofNat 60) [])) [(.t (K.ofNat 21)), (.t (K.ofNat 22))]⟩, ⟨(some (K.ofNat 20)), none, .mv (.t (K.ofNat 23))⟩, ⟨(some (K.ofNat 24)), none, .ext (.t (K.ofNat 20)) 0⟩, ⟨(some (K.ofNat 25)), none, .ext (.t (K.ofNat 20)) 1⟩, ⟨(some (K.ofNat 9)), none, .as (.t (K.ofNat 24))⟩, ⟨(some (K.ofNat 10)), none, .as (.t (K.ofNat 25))⟩]
noncomputable def f23_r5 : List EOper := [⟨(some (K.ofNat 26)), none, .mv (.t (K.ofNat 10))⟩, ⟨(some (K.ofNat 27)), none, .not (.t (K.ofNat 26))⟩]
noncomputable def f23_r6 : List EOper := [⟨(some (K.ofNat 6)), none, .as (.c .sn)⟩, ⟨(some (K.ofNat 7)), none, .as (.c (.i .i64 (.ofNat 1)))⟩]
noncomputable def f23_r7 : List EOper := [⟨(some (K.ofNat 28)), none, .mv (.t (K.ofNat 9))⟩, ⟨(some (K.ofNat 29)), none, .len (.t (K.ofNat 28))⟩, ⟨(some (K.ofNat 30)), none, .mkslice 1 [(.i .i64 (.ofNat 0))] (.t (K.ofNat 29))⟩, ⟨(some (K.ofNat 11)), none, .as (.t (K.ofNat 30))⟩]
noncomputable def f23_r8 : List EOper := [⟨(some (K.ofNat 31)), none, .mv (.t (K.ofNat 9))⟩, ⟨(some (K.ofNat 32)), none, .len (.t (K.ofNat 31))⟩, ⟨(some (K.ofNat 33)), none, .mv (.c (.i .i64 (.ofNat 0)))⟩]
noncomputable def f23_r9 : List EOper := [⟨(some (K.ofNat 34)), none, .bin .lss (.t (K.ofNat 33)) (.t (K.ofNat 32))⟩]
noncomputable def f23_r10 : List EOper := [⟨(some (K.ofNat 35)), none, .mv (.t (K.ofNat 33))⟩, ⟨(some (K.ofNat 36)), none, .iads 1 (.t (K.ofNat 31)) (.t (K.ofNat 33))⟩, ⟨(some (K.ofNat 37)), none, .ld (.t (K.ofNat 36))⟩, ⟨(some (K.ofNat 12)), none, .as (.t (K.ofNat 35))⟩, ⟨(some (K.ofNat 13)), none, .as (.t (K.ofNat 37))⟩]
noncomputable def f23_r11 : List EOper := [⟨(some (K.ofNat 38)), none, .mv (.t (K.ofNat 11))⟩, ⟨(some (K.ofNat 39)), none, .mv (.t (K.ofNat 12))⟩, ⟨(some (K.ofNat 40)), none, .mv (.t (K.ofNat 13))⟩, ⟨(some (K.ofNat 41)), none, .mv (.t (K.ofNat 9))⟩, ⟨(some (K.ofNat 42)), none, .mv (.t (K.ofNat 12))⟩, ⟨(some (K.ofNat 43)), none, .slice 1 (.t (K.ofNat 41)) none (some (.t (K.ofNat 42))) none⟩, ⟨(some (K.ofNat 44)), none, .call (.c (.fn (K.ofNat 61) [])) [(.t (K.ofNat 40)), (.t (K.ofNat 43))]⟩, ⟨(some (K.ofNat 45)), none, .iads 1 (.t (K.ofNat 38)) (.t (K.ofNat 39))⟩, ⟨none, none, .st 1 (.t (K.ofNat 45)) (.t (K.ofNat 44))⟩]
noncomputable def f23_r12 : List EOper := [⟨(some (K.ofNat 46)), none, .bin .add (.t (K.ofNat 33)) (.c (.i .i64 (.ofNat 1)))⟩, ⟨(some (K.ofNat 33)), none, .mv (.t (K.ofNat 46))⟩]
noncomputable def f23_l0 : EC := (.seq (.reg f23_r9) (.seq (.cond (.t (K.ofNat 34)) .skip (.exit 0)) (.seq (.block 1 (.seq (.reg f23_r10) (.reg f23_r11))) (.reg f23_r12))))
noncomputable def f23_r13 : List EOper := [⟨(some (K.ofNat 47)), none, .mv (.t (K.ofNat 11))⟩, ⟨(some (K.ofNat 6)), none, .as (.t (K.ofNat 47))⟩, ⟨(some (K.ofNat 7)), none, .as (.c (.i .i64 (.ofNat 0)))⟩]
noncomputable def f23_c : EC := (.seq (.reg f23_r0) (.seq (.seq (.reg f23_r1) (.seq (.reg f23_r2) (.cond (.t (K.ofNat 18)) (.seq (.reg f23_r3) .ret) .skip))) (.seq (.reg f23_r4) (.seq (.seq (.reg f23_r5) (.cond (.t (K.ofNat 27)) (.seq (.reg f23_r6) .ret) .skip)) (.seq (.reg f23_r7) (.seq (.seq (.reg f23_r8) (.block 0 (.loop f23_l0))) (.seq (.reg f23_r13) .ret)))))))
noncomputable def f23 : EF := ⟨48, [.tmp (K.ofNat 6), .tmp (K.ofNat 7)], f23_c, none⟩
theorem f23_rs : f23.rs = [.tmp (K.ofNat 6), .tmp (K.ofNat 7)] := of_eq_true (eq_self _)
section
variable {fs : T EF} {ro : Option K}
theorem take_set_succ {L : List Int} {i : Nat} {x : Int} (hi : i < L.length) : (L.set i x).take (i + 1) = L.take i ++ [x] := by
  rw [List.take_succ_eq_append_getElem (by rw [List.length_set]; exact hi), List.getElem_set_self, List.take_set_of_le (Nat.le_refl _)]
theorem newsO_at {Q O : List Nat} {i : Nat} (hi : i < O.length) : (newsO Q O)[i]'(by rw [newsO_len]; exact hi) = newPS (Q.getD O[i] 0) (castL (pcsO Q (O.take i))) := by
  unfold newsO
  rw [List.getElem_map, List.getElem_range]
  simp [List.getD, hi]
structure Calls23 (fs : T EF) : Prop extends Calls79 fs where
  p75 : ∀ m : Nat, m < 64 → ∀ h P, CallP fs (.fn (K.ofNat 75) []) [.i .i64 (m : Int)] h P = P (.i .i64 (pop6 m : Int)) h
  c16 : fs.get (K.ofNat 16) = some f16
  c58 : fs.get (K.ofNat 58) = some f58
  c60 : fs.get (K.ofNat 60) = some f60
  c81 : fs.get (K.ofNat 81) = some f81
def f23_I (h : H) (m u : V) (Q O : List Nat) (i : Nat) (fr : Fr) (h1 : H) : Prop := ∃ L, i ≤ O.length ∧ L.length = O.length ∧ L.take i = castL ((newsO Q O).take i) ∧ Sl iE h1 m L ∧ Grow h.nx.nat h h1 ∧ fr.get (K.ofNat 9) = some (u) ∧ fr.get (K.ofNat 11) = some (m) ∧ fr.get (K.ofNat 31) = some (u) ∧ fr.get (K.ofNat 32) = some (.i .i64 (O.length : Int)) ∧ fr.get (K.ofNat 33) = some (.i .i64 (i : Int))
/-- News, of what is a complex. -/
theorem f23_ret {h : H} {v w : V} {Q : List Nat} {S : List Int} {n : Int} (k : Calls23 fs) (hv : Sl iE h v (castL Q)) (hw : Sl iE h w S) (hc : HC h) (an : Anti Q) (hchk : chkS n (castL Q) = 0) :
    Ret fs f23 [.i .i64 n, v, w] h fun r h' => ∃ u e, r = .tup [u, .i .i64 e] ∧ Grow h.nx.nat h h' ∧ Own h.nx.nat u ∧ ((e = 0 ∧ ∃ O, ShP Q S O ∧ Sl nE h' u (newsO Q O)) ∨ (e = 1 ∧ u = .sn ∧ ∀ O, ¬ ShP Q S O)) := by
  apply ret_of rfl
  show W fs none f23_c _ _ _
  unfold f23_c
  have ne0 : decide ((0 : Int) ≠ 0) = false := rfl
  simp (disch := omega) only [f23_r0, f23_r1, w_reg, w_seq, seqK_n, x_nil, x_mv, x_as, x_call, ev_t, ev_c, evs_nil, evs_cons, getV_some, putD_some, frame_3, of0, getK_set, Nat.reduceEqDiff, ↓reduceIte]
  refine (callP_0 (ef := f16) k.c16 rfl (f16_ret (n := n) k.p54 hv)).mono ?_
  rintro r h1 ⟨rfl, rfl⟩
  rw [hchk]
  simp (disch := omega) only [f23_r2, f23_r4, w_skip, w_reg, w_seq, w_cond, seqK_n, ckB_b, cbB_b, true_and, x_nil, x_mv, x_as, x_bin, x_call, kx, rvP_ok, okv_some, ev_t, ev_c, evs_nil, evs_cons, getV_some, putD_some, bin_neq, of0, getK_set, Nat.reduceEqDiff, ↓reduceIte, Bool.false_eq_true, ne0]
  refine (callP_0 (ef := f60) k.c60 rfl (f60_ret k.toCalls79 k.p75 k.c58 k.c81 hv hw hc an)).mono ?_
  rintro r h2 ⟨x, u, rfl, gr2, yes, no⟩
  have hc2 := gr2.hc hc
  cases x
  · obtain ⟨rfl, hno⟩ := no rfl
    simp (disch := omega) only [f23_r5, f23_r6, f23_rs, w_reg, w_seq, w_cond, w_ret, seqK_n, seqK_r, ckB_b, cbB_b, true_and, retK_r, x_nil, x_mv, x_as, x_not, x_ext, kx, rvP_ok, okv_some, ev_t, ev_c, getV_some, putD_some, onB_b, onTup_t, oGet_s, nth0, nth1, readRs_nil, readRs_t, retV_2, of1, Option.some.injEq, exists_eq_left', getK_set, Nat.reduceEqDiff, ↓reduceIte, Bool.not_false]
    exact ⟨.sn, 1, rfl, gr2, Own.sn, .inr ⟨rfl, rfl, hno⟩⟩
  · obtain ⟨O, sh, hso, hoo⟩ := yes rfl
    have hal := an.len
    have hOl := sh.len
    have hpl := pcsO_len (Q := Q) (O := O)
    simp (disch := omega) only [f23_r5, f23_r7, f23_r8, w_skip, w_reg, w_seq, w_cond, w_block, seqK_n, ckB_b, cbB_b, true_and, x_nil, x_mv, x_as, x_not, x_mks, x_ext, x_len, kx, rvP_ok, okv_some, ev_t, ev_c, getV_some, putD_some, onB_b, onTup_t, nth0, nth1, of0, getK_set, Nat.reduceEqDiff, ↓reduceIte, Bool.false_eq_true, Bool.not_true, hso.len, hpl, mks_ints (show O.length ≤ 1000000 by omega)]
    have gn : Grow h2.nx.nat h2 (h2.new (.cells (O.length * 1) (rep [.i .i64 0] O.length))) := Grow.new (Nat.le_refl _) _
    have hsl := mks_sl (h := h2) (n := O.length)
    refine W_loop (f23_I h2 (.sl h2.nx 0 O.length 1) u Q O) (fun i => O.length - i) ?_ 0 ⟨List.replicate O.length 0, Nat.zero_le _, by simp, by simp [castL], hsl, gn, by simp (disch := omega) only [getK_set, Nat.reduceEqDiff, ↓reduceIte, and_self, Int.natCast_zero]⟩
    clear gn hsl
    rintro i fr h3 ⟨L, hi, hL, htk, hsm, gr3, g9, g11, g31, g32, g33⟩
    have hc3 := gr3.hc hc2
    have hso3 := hso.grow hc2 gr3
    unfold f23_l0
    by_cases hlt : i < O.length
    · have hlt' : (i : Int) < (O.length : Int) := by omega
      obtain ⟨p, hp1, hp2⟩ := hso3.at i (by rw [hpl]; exact hlt)
      rw [pcsO_at] at hp2
      obtain ⟨x, x1, x2, x3, x4⟩ := Sl.cut (lo := none) (hi := some (.i .i64 (i : Int))) (l := 0) (u := i) hso3 bnd_none bnd_i (by omega) (by rw [hpl]; omega)
      rw [List.drop_zero, pcsO_take] at x2
      have hgl := sh.ord.lt _ (List.getElem_mem hlt)
      have hx := an.lt _ (getD_mem hgl)
      obtain ⟨ef, pt1, pt2⟩ := k.pt
      simp (disch := omega) only [f23_r9, f23_r10, f23_r11, w_skip, w_reg, w_seq, w_cond, w_block, seqK_n, ckB_b, cbB_b, true_and, x_nil, x_mv, x_as, x_ld, x_bin, x_slice, sliceV_eq, Option.map_none, Option.map_some, x_iads, x_call, kx, rvP_ok, okv_some, ev_t, ev_c, evs_nil, evs_cons, getV_some, putD_some, bin_lss, getK_set, Nat.reduceEqDiff, ↓reduceIte, g9, g11, g31, g32, g33, hlt', decide_true, hp1, hp2, nE, x1]
      refine (callP_0 (ef := f61) k.c61 rfl (f61_ret (x := Q.getD O[i] 0) k.p54 k.c82 k.c92 pt1 pt2 k.c83 (Sl.map (f := fun (k : Nat) => (k : Int)) x2) hc3 (by simp [pcsO]; omega) hx)).mono ?_
      rintro u1 h4 ⟨rfl, gr4⟩
      have hf' : newPS (Q.getD O[i] 0) ((pcsO Q (O.take i)).map fun (k : Nat) => (k : Int)) = (newsO Q O)[i]'(by rw [newsO_len]; exact hlt) := (newsO_at hlt).symm
      rw [hf']
      generalize hz : (newsO Q O)[i]'(by rw [newsO_len]; exact hlt) = z
      have hc4 := gr4.hc hc3
      have hsm4 := hsm.grow hc3 gr4
      have hiL : i < L.length := by omega
      obtain ⟨p2, id, m2, cs2, q1, q2, q3, ⟨off, nn, sz, q4⟩, q5⟩ := hsm4.st hiL (x := (z : Int)) (c := .i .i64 (z : Int)) rfl rfl hc4
      have hid : h2.nx = id := by cases q4; rfl
      simp (disch := omega) only [f23_r12, w_reg, seqK_n, atK_n, loopK_n, x_nil, x_mv, x_st, x_bin, x_iads, kx, rvP_ok, okv_some, ev_t, ev_c, getV_some, putD_some, putD_none, bin_add, of1, getK_set, Nat.reduceEqDiff, ↓reduceIte, g33, nE, q1, q2, fw64]
      refine ⟨i + 1, by omega, L.set i (z : Int), hlt, by rw [List.length_set]; exact hL, ?_, q3, gr3.trans ((gr4.low gr3.nx).trans (Grow.put (by rw [← hid]; exact Nat.le_refl _) q5 _)), by simp (disch := omega) only [getK_set, Nat.reduceEqDiff, ↓reduceIte, g9, g11, g31, g32, and_self, Int.natCast_add, Int.natCast_one]⟩
      rw [take_set_succ hiL, htk, List.take_succ_eq_append_getElem (by rw [newsO_len]; exact hlt), castL_snoc, hz]
    · obtain rfl : i = O.length := by omega
      have hnl := newsO_len (Q := Q) (O := O)
      rw [List.take_of_length_le (by omega), List.take_of_length_le (by omega)] at htk
      subst htk
      simp (disch := omega) only [f23_r9, f23_r13, f23_rs, w_reg, w_seq, w_cond, w_exit, w_ret, seqK_n, seqK_e, atK_e, loopK_e, ckB_b, cbB_b, true_and, retK_r, x_nil, x_mv, x_as, x_bin, kx, rvP_ok, okv_some, ev_t, ev_c, getV_some, putD_some, bin_lss, oGet_s, readRs_nil, readRs_t, retV_2, of0, Option.some.injEq, exists_eq_left', getK_set, Nat.reduceEqDiff, ↓reduceIte, Bool.false_eq_true, g11, g32, g33, Int.lt_irrefl, decide_false]
      exact ⟨_, 0, rfl, gr2.trans (gr3.low gr2.nx), fun _ _ _ _ e => by cases e; exact gr2.nx, .inl ⟨rfl, O, sh, hsm.unmap⟩⟩
end
end Go.Ev
namespace Go.Ev
open Go Go.RowKit
theorem shT_ord {Q : List Nat} : ∀ (S : List Int) (O : List Nat), Ord Q O → shT Q S (setO O) = true → ∃ O', S = castL O' ∧ Ord Q (O ++ O')
  | [], O, ho, _ => ⟨[], rfl, by rw [List.append_nil]; exact ho⟩
  | o :: S, O, ho, h => by
    rw [shT] at h
    simp only [Bool.and_eq_true, Bool.not_eq_true', decide_eq_false_iff_not] at h
    obtain ⟨h1, h2, h3, h4, h5⟩ := h
    obtain ⟨k, rfl⟩ := Int.eq_ofNat_of_zero_le (show 0 ≤ o by omega)
    have hk : okN Q (setO O) k := ⟨by omega, by have h3 : ¬ setO O / 2 ^ k % 2 = 1 := h3
                                                omega, h4⟩
    have ho2 := Ord.snoc ho hk
    obtain ⟨O', e1, e2⟩ := shT_ord S (O ++ [k]) ho2 (by rw [setO_snoc]; exact h5)
    exact ⟨k :: O', by rw [e1]; rfl, by rw [List.append_assoc] at e2; exact e2⟩
theorem shell_iff {Q : List Nat} {S : List Int} : shellR Q S = true ↔ ∃ O, ShP Q S O := by
  constructor
  · intro h
    unfold shellR at h
    simp only [Bool.and_eq_true, decide_eq_true_eq] at h
    obtain ⟨h1, h2, h3⟩ := h
    obtain ⟨O, e1, e2⟩ := shT_ord S [] .nil (by rw [setO_nil]; exact h1)
    exact ⟨O, e1, e2, by rw [e1, castL_len'] at h2; exact h2, h3⟩
  · rintro ⟨O, e1, e2, e3, e4⟩
    rw [e1]; exact e2.shell e3 e4
/-- The reference's new part: up to the corner i. -/
noncomputable def setTo (x : Nat) (S : List Int) (i : Nat) : Nat := (List.range i).foldl (fun s i => if x / 2 ^ i % 2 = 1 ∧ oppS x (2 ^ i) S = true then s ||| 2 ^ i else s) 0
theorem setTo_succ {x : Nat} {S : List Int} {i : Nat} : setTo x S (i + 1) = if x / 2 ^ i % 2 = 1 ∧ oppS x (2 ^ i) S = true then setTo x S i ||| 2 ^ i else setTo x S i := by
  unfold setTo; rw [List.range_succ, List.foldl_append]; rfl
theorem setTo_lt {x : Nat} {S : List Int} : ∀ i, i ≤ 6 → setTo x S i < 64
  | 0, _ => by unfold setTo; simp
  | i + 1, h => by
    have ih := setTo_lt (x := x) (S := S) i (by omega)
    have h2 : 2 ^ i < 64 := Nat.pow_lt_pow_right (a := 2) (by omega) (show i < 6 by omega)
    rw [setTo_succ]
    split
    · exact Nat.or_lt_two_pow (n := 6) ih h2
    · exact ih
theorem corn_bit : ∀ x : Nat, x < 64 → ∀ i, i < 6 → partB (cornI i) (x : Int) = decide (x / 2 ^ i % 2 = 1) := by decide +kernel
theorem setTo_new {x : Nat} {S : List Int} (hx : x < 64) : setTo x S 6 = newPS x S := by
  unfold setTo newPS cornN
  rw [List.foldl_map, List.foldl_filter]
  have : ∀ (l : List Nat) (s : Nat), (∀ i ∈ l, i < 6) → l.foldl (fun s i => if x / 2 ^ i % 2 = 1 ∧ oppS x (2 ^ i) S = true then s ||| 2 ^ i else s) s = l.foldl (fun s i => if partB (cornI i) (x : Int) = true then (if oppS x (2 ^ i) S = true then s ||| 2 ^ i else s) else s) s := by
    intro l
    induction l with
    | nil => intro s _; rfl
    | cons a l ih =>
      intro s hl
      rw [List.foldl_cons, List.foldl_cons, corn_bit x hx a (hl a (by simp))]
      have e : (if x / 2 ^ a % 2 = 1 ∧ oppS x (2 ^ a) S = true then s ||| 2 ^ a else s) = (if decide (x / 2 ^ a % 2 = 1) = true then (if oppS x (2 ^ a) S = true then s ||| 2 ^ a else s) else s) := by
        by_cases h1 : x / 2 ^ a % 2 = 1 <;> by_cases h2 : oppS x (2 ^ a) S = true <;> simp [h1, h2]
      rw [e]
      exact ih _ fun i hi => hl i (List.mem_cons_of_mem _ hi)
  exact this _ _ fun i hi => List.mem_range.1 hi
end Go.Ev
namespace Go.Ev
open Go Go.RowKit
noncomputable def f22_r0 : List EOper := [⟨(some (K.ofNat 6)), none, .as (.c (.b false))⟩, ⟨(some (K.ofNat 7)), none, .as (.c (.i .i64 (.ofNat 0)))⟩]
noncomputable def f22_r1 : List EOper := [⟨(some (K.ofNat 11)), none, .mv (.t (K.ofNat 0))⟩, ⟨(some (K.ofNat 12)), none, .mv (.t (K.ofNat 1))⟩, ⟨(some (K.ofNat 13)), none, .call (.c (.fn (K.ofNat 16) [])) [(.t (K.ofNat 11)), (.t (K.ofNat 12))]⟩, ⟨(some (K.ofNat 8)), none, .as (.t (K.ofNat 13))⟩]
noncomputable def f22_r2 : List EOper := [⟨(some (K.ofNat 14)), none, .mv (.t (K.ofNat 8))⟩, ⟨(some (K.ofNat 15)), none, .bin .neq (.t (K.ofNat 14)) (.c (.i .i64 (.ofNat 0)))⟩]
noncomputable def f22_r3 : List EOper := [⟨(some (K.ofNat 16)), none, .mv (.t (K.ofNat 8))⟩, ⟨(some (K.ofNat 6)), none, .as (.c (.b false))⟩, ⟨(some (K.ofNat 7)), none, .as (.t (K.ofNat 16))⟩]
noncomputable def f22_r4 : List EOper := [⟨(some (K.ofNat 18)), none, .mv (.t (K.ofNat 1))⟩, ⟨(some (K.ofNat 19)), none, .mv (.t (K.ofNat 2))⟩, ⟨(some (K.ofNat 20)), none, .call (.c (.fn (K.ofNat 60) [])) [(.t (K.ofNat 18)), (.t (K.ofNat 19))]⟩, ⟨(some (K.ofNat 17)), none, .mv (.t (K.ofNat 20))⟩, ⟨(some (K.ofNat 21)), none, .ext (.t (K.ofNat 17)) 0⟩, ⟨(some (K.ofNat 22)), none, .ext (.t (K.ofNat 17)) 1⟩, ⟨(some (K.ofNat 9)), none, .as (.t (K.ofNat 21))⟩, ⟨(some (K.ofNat 10)), none, .as (.t (K.ofNat 22))⟩]
noncomputable def f22_r5 : List EOper := [⟨(some (K.ofNat 23)), none, .mv (.t (K.ofNat 10))⟩, ⟨(some (K.ofNat 6)), none, .as (.t (K.ofNat 23))⟩, ⟨(some (K.ofNat 7)), none, .as (.c (.i .i64 (.ofNat 0)))⟩]
noncomputable def f22_c : EC := (.seq (.reg f22_r0) (.seq (.seq (.reg f22_r1) (.seq (.reg f22_r2) (.cond (.t (K.ofNat 15)) (.seq (.reg f22_r3) .ret) .skip))) (.seq (.reg f22_r4) (.seq (.reg f22_r5) .ret))))
noncomputable def f22 : EF := ⟨24, [.tmp (K.ofNat 6), .tmp (K.ofNat 7)], f22_c, none⟩
theorem f22_rs : f22.rs = [.tmp (K.ofNat 6), .tmp (K.ofNat 7)] := of_eq_true (eq_self _)
noncomputable def f39_r0 : List EOper := [⟨(some (K.ofNat 4)), none, .as (.c .sn)⟩]
noncomputable def f39_r1 : List EOper := [⟨(some (K.ofNat 5)), none, .as (.c .sn)⟩]
noncomputable def f39_r2 : List EOper := [⟨(some (K.ofNat 6)), none, .as (.c (.i .i64 (.ofNat 0)))⟩]
noncomputable def f39_r3 : List EOper := [⟨(some (K.ofNat 11)), none, .mv (.t (K.ofNat 6))⟩, ⟨(some (K.ofNat 12)), none, .mv (.t (K.ofNat 1))⟩, ⟨(some (K.ofNat 13)), none, .len (.t (K.ofNat 12))⟩, ⟨(some (K.ofNat 14)), none, .bin .lss (.t (K.ofNat 11)) (.t (K.ofNat 13))⟩]
noncomputable def f39_r4 : List EOper := [⟨(some (K.ofNat 17)), none, .mv (.t (K.ofNat 0))⟩, ⟨(some (K.ofNat 18)), none, .mv (.t (K.ofNat 1))⟩, ⟨(some (K.ofNat 19)), none, .mv (.t (K.ofNat 6))⟩, ⟨(some (K.ofNat 20)), none, .iads 1 (.t (K.ofNat 18)) (.t (K.ofNat 19))⟩, ⟨(some (K.ofNat 21)), none, .ld (.t (K.ofNat 20))⟩, ⟨(some (K.ofNat 22)), none, .iads 1 (.t (K.ofNat 17)) (.t (K.ofNat 21))⟩, ⟨(some (K.ofNat 23)), none, .ld (.t (K.ofNat 22))⟩, ⟨(some (K.ofNat 7)), none, .as (.t (K.ofNat 23))⟩]
noncomputable def f39_r5 : List EOper := [⟨(some (K.ofNat 8)), none, .as (.c (.i .i64 (.ofNat 0)))⟩]
noncomputable def f39_r6 : List EOper := [⟨(some (K.ofNat 9)), none, .as (.c (.i .i64 (.ofNat 0)))⟩]
noncomputable def f39_r7 : List EOper := [⟨(some (K.ofNat 24)), none, .mv (.t (K.ofNat 9))⟩, ⟨(some (K.ofNat 25)), none, .bin .lss (.t (K.ofNat 24)) (.c (.i .i64 (.ofNat 6)))⟩]
noncomputable def f39_r8 : List EOper := [⟨(some (K.ofNat 10)), none, .as (.c (.i .i64 (.ofNat 0)))⟩]
noncomputable def f39_r9 : List EOper := [⟨(some (K.ofNat 28)), none, .mv (.t (K.ofNat 10))⟩, ⟨(some (K.ofNat 29)), none, .mv (.t (K.ofNat 6))⟩, ⟨(some (K.ofNat 30)), none, .bin .lss (.t (K.ofNat 28)) (.t (K.ofNat 29))⟩]
noncomputable def f39_r10 : List Stage := [⟨[⟨(some (K.ofNat 33)), none, .mv (.t (K.ofNat 7))⟩, ⟨(some (K.ofNat 34)), none, .mv (.t (K.ofNat 9))⟩, ⟨(some (K.ofNat 35)), none, .bin .shr (.t (K.ofNat 33)) (.t (K.ofNat 34))⟩, ⟨(some (K.ofNat 36)), none, .bin .rem (.t (K.ofNat 35)) (.c (.i .i64 (.ofNat 2)))⟩, ⟨(some (K.ofNat 37)), none, .bin .eql (.t (K.ofNat 36)) (.c (.i .i64 (.ofNat 1)))⟩, ⟨(some (K.ofNat 38)), none, .mv (.t (K.ofNat 37))⟩, ⟨(some (K.ofNat 39)), (some ((K.ofNat 38), true)), .mv (.t (K.ofNat 7))⟩, ⟨(some (K.ofNat 40)), (some ((K.ofNat 38), true)), .mv (.t (K.ofNat 9))⟩, ⟨(some (K.ofNat 41)), (some ((K.ofNat 38), true)), .bin .shl (.c (.i .i64 (.ofNat 1))) (.t (K.ofNat 40))⟩, ⟨(some (K.ofNat 42)), (some ((K.ofNat 38), true)), .bin .andNot (.t (K.ofNat 39)) (.t (K.ofNat 41))⟩, ⟨(some (K.ofNat 43)), (some ((K.ofNat 38), true)), .mv (.t (K.ofNat 0))⟩, ⟨(some (K.ofNat 44)), (some ((K.ofNat 38), true)), .mv (.t (K.ofNat 1))⟩, ⟨(some (K.ofNat 45)), (some ((K.ofNat 38), true)), .mv (.t (K.ofNat 10))⟩, ⟨(some (K.ofNat 46)), (some ((K.ofNat 38), true)), .iads 1 (.t (K.ofNat 44)) (.t (K.ofNat 45))⟩, ⟨(some (K.ofNat 47)), (some ((K.ofNat 38), true)), .ld (.t (K.ofNat 46))⟩, ⟨(some (K.ofNat 48)), (some ((K.ofNat 38), true)), .iads 1 (.t (K.ofNat 43)) (.t (K.ofNat 47))⟩, ⟨(some (K.ofNat 49)), (some ((K.ofNat 38), true)), .ld (.t (K.ofNat 48))⟩], [], (some ⟨(some (K.ofNat 50)), (some ((K.ofNat 38), true)), .call (.c (.fn (K.ofNat 53) [])) [(.t (K.ofNat 42)), (.t (K.ofNat 49))]⟩), []⟩, ⟨[⟨(some (K.ofNat 51)), none, .pick (.t (K.ofNat 38)) (.t (K.ofNat 50)) (.c (.b false))⟩], [], none, []⟩]
noncomputable def f39_r11 : List EOper := [⟨(some (K.ofNat 52)), none, .mv (.t (K.ofNat 8))⟩, ⟨(some (K.ofNat 53)), none, .mv (.t (K.ofNat 9))⟩, ⟨(some (K.ofNat 54)), none, .bin .shl (.c (.i .i64 (.ofNat 1))) (.t (K.ofNat 53))⟩, ⟨(some (K.ofNat 55)), none, .bin .or (.t (K.ofNat 52)) (.t (K.ofNat 54))⟩, ⟨(some (K.ofNat 8)), none, .as (.t (K.ofNat 55))⟩]
noncomputable def f39_r12 : List EOper := [⟨(some (K.ofNat 31)), none, .mv (.t (K.ofNat 10))⟩, ⟨(some (K.ofNat 32)), none, .bin .add (.t (K.ofNat 31)) (.c (.i .i64 (.ofNat 1)))⟩, ⟨(some (K.ofNat 10)), none, .as (.t (K.ofNat 32))⟩]
noncomputable def f39_l0 : EC := (.seq (.seq (.reg f39_r9) (.cond (.t (K.ofNat 30)) .skip (.exit 4))) (.seq (.block 5 (.seq (.draw f39_r10) (.cond (.t (K.ofNat 51)) (.reg f39_r11) .skip))) (.reg f39_r12)))
noncomputable def f39_r13 : List EOper := [⟨(some (K.ofNat 26)), none, .mv (.t (K.ofNat 9))⟩, ⟨(some (K.ofNat 27)), none, .bin .add (.t (K.ofNat 26)) (.c (.i .i64 (.ofNat 1)))⟩, ⟨(some (K.ofNat 9)), none, .as (.t (K.ofNat 27))⟩]
noncomputable def f39_l1 : EC := (.seq (.seq (.reg f39_r7) (.cond (.t (K.ofNat 25)) .skip (.exit 2))) (.seq (.block 3 (.seq (.reg f39_r8) (.block 4 (.loop f39_l0)))) (.reg f39_r13)))
noncomputable def f39_r14 : List EOper := [⟨(some (K.ofNat 56)), none, .mv (.t (K.ofNat 5))⟩, ⟨(some (K.ofNat 57)), none, .mv (.t (K.ofNat 8))⟩, ⟨(some (K.ofNat 58)), none, .bslice 1 1 [(.i .i64 (.ofNat 0))] [(0, 1, (.t (K.ofNat 57)))]⟩, ⟨(some (K.ofNat 59)), none, .app 1 (.t (K.ofNat 56)) (.t (K.ofNat 58))⟩, ⟨(some (K.ofNat 5)), none, .as (.t (K.ofNat 59))⟩]
noncomputable def f39_r15 : List EOper := [⟨(some (K.ofNat 15)), none, .mv (.t (K.ofNat 6))⟩, ⟨(some (K.ofNat 16)), none, .bin .add (.t (K.ofNat 15)) (.c (.i .i64 (.ofNat 1)))⟩, ⟨(some (K.ofNat 6)), none, .as (.t (K.ofNat 16))⟩]
noncomputable def f39_l2 : EC := (.seq (.seq (.reg f39_r3) (.cond (.t (K.ofNat 14)) .skip (.exit 0))) (.seq (.block 1 (.seq (.reg f39_r4) (.seq (.reg f39_r5) (.seq (.seq (.reg f39_r6) (.block 2 (.loop f39_l1))) (.reg f39_r14))))) (.reg f39_r15)))
noncomputable def f39_r16 : List EOper := [⟨(some (K.ofNat 60)), none, .mv (.t (K.ofNat 5))⟩, ⟨(some (K.ofNat 4)), none, .as (.t (K.ofNat 60))⟩]
noncomputable def f39_c : EC := (.seq (.reg f39_r0) (.seq (.reg f39_r1) (.seq (.seq (.reg f39_r2) (.block 0 (.loop f39_l2))) (.seq (.reg f39_r16) .ret))))
noncomputable def f39 : EF := ⟨61, [.tmp (K.ofNat 4)], f39_c, none⟩
theorem f39_rs : f39.rs = [.tmp (K.ofNat 4)] := of_eq_true (eq_self _)
section
variable {fs : T EF} {ro : Option K}
/-- IsShelling, of what is a complex. -/
theorem f22_ret {h : H} {v w : V} {Q : List Nat} {S : List Int} {n : Int} (k : Calls23 fs) (hv : Sl iE h v (castL Q)) (hw : Sl iE h w S) (hc : HC h) (an : Anti Q) (hchk : chkS n (castL Q) = 0) :
    Ret fs f22 [.i .i64 n, v, w] h fun r h' => r = .tup [.b (shellR Q S), .i .i64 0] ∧ Grow h.nx.nat h h' := by
  apply ret_of rfl
  show W fs none f22_c _ _ _
  unfold f22_c
  have ne0 : decide ((0 : Int) ≠ 0) = false := rfl
  simp (disch := omega) only [f22_r0, f22_r1, w_reg, w_seq, seqK_n, x_nil, x_mv, x_as, x_call, ev_t, ev_c, evs_nil, evs_cons, getV_some, putD_some, frame_3, of0, getK_set, Nat.reduceEqDiff, ↓reduceIte]
  refine (callP_0 (ef := f16) k.c16 rfl (f16_ret (n := n) k.p54 hv)).mono ?_
  rintro r h1 ⟨rfl, rfl⟩
  rw [hchk]
  simp (disch := omega) only [f22_r2, f22_r4, w_skip, w_reg, w_seq, w_cond, seqK_n, ckB_b, cbB_b, true_and, x_nil, x_mv, x_as, x_bin, x_call, kx, rvP_ok, okv_some, ev_t, ev_c, evs_nil, evs_cons, getV_some, putD_some, bin_neq, of0, getK_set, Nat.reduceEqDiff, ↓reduceIte, Bool.false_eq_true, ne0]
  refine (callP_0 (ef := f60) k.c60 rfl (f60_ret k.toCalls79 k.p75 k.c58 k.c81 hv hw hc an)).mono ?_
  rintro r h2 ⟨x, u, rfl, gr2, yes, no⟩
  have hx : x = shellR Q S := by
    cases x
    · symm
      rw [Bool.eq_false_iff]
      intro h
      obtain ⟨O, sh⟩ := shell_iff.1 h
      exact (no rfl).2 O sh
    · obtain ⟨O, sh, _⟩ := yes rfl
      exact (shell_iff.2 ⟨O, sh⟩).symm
  subst hx
  simp (disch := omega) only [f22_r5, f22_rs, w_reg, w_seq, w_ret, seqK_n, true_and, retK_r, x_nil, x_mv, x_as, x_ext, kx, rvP_ok, okv_some, ev_t, ev_c, getV_some, putD_some, onTup_t, oGet_s, nth0, nth1, readRs_nil, readRs_t, retV_2, of0, Option.some.injEq, exists_eq_left', getK_set, Nat.reduceEqDiff, ↓reduceIte, true_and]
  exact gr2
/-! ### The reference's News -/
def f39_I0 (h : H) (v w o : V) (x i s0 : Nat) (S : List Int) (k : Nat) (e : Nat) (fr : Fr) (h1 : H) : Prop := h1 = h ∧ e ≤ k ∧ fr.get (K.ofNat 0) = some (v) ∧ fr.get (K.ofNat 1) = some (w) ∧ fr.get (K.ofNat 5) = some (o) ∧ fr.get (K.ofNat 6) = some (.i .i64 (k : Int)) ∧ fr.get (K.ofNat 7) = some (.i .i64 (x : Int)) ∧ fr.get (K.ofNat 8) = some (.i .i64 ((if x / 2 ^ i % 2 = 1 ∧ oppS x (2 ^ i) (S.take e) = true then s0 ||| 2 ^ i else s0 : Nat) : Int)) ∧ fr.get (K.ofNat 9) = some (.i .i64 (i : Int)) ∧ fr.get (K.ofNat 10) = some (.i .i64 (e : Int))
theorem f39_inner {C : Ex → Fr → H → Prop} {h : H} {v w o : V} {Q O : List Nat} {x i s0 k : Nat} {fr : Fr}
    (hp53 : ∀ a b h P, CallP fs (.fn (K.ofNat 53) []) [.i .i64 a, .i .i64 b] h P = P (.b (ptI a b)) h)
    (hv : Sl nE h v Q) (hw : Sl nE h w O) (hQ : ∀ y ∈ Q, y < 64) (hO : ∀ j ∈ O, j < Q.length) (hx : x < 64) (hi : i < 6) (hs0 : s0 < 64) (hk : k < O.length) (hOl : O.length ≤ 1000)
    (h0 : f39_I0 h v w o x i s0 (castL (pcsO Q (O.take k))) k 0 fr h)
    (hq : ∀ fr, fr.get (K.ofNat 0) = some (v) ∧ fr.get (K.ofNat 1) = some (w) ∧ fr.get (K.ofNat 5) = some (o) ∧ fr.get (K.ofNat 6) = some (.i .i64 (k : Int)) ∧ fr.get (K.ofNat 7) = some (.i .i64 (x : Int)) ∧ fr.get (K.ofNat 8) = some (.i .i64 ((if x / 2 ^ i % 2 = 1 ∧ oppS x (2 ^ i) (castL (pcsO Q (O.take k))) = true then s0 ||| 2 ^ i else s0 : Nat) : Int)) ∧ fr.get (K.ofNat 9) = some (.i .i64 (i : Int)) → C (.exit 4) fr h) :
    W fs ro (.loop f39_l0) C fr h := by
  refine W_loop (f39_I0 h v w o x i s0 (castL (pcsO Q (O.take k))) k) (fun e => k - e) ?_ 0 h0
  clear h0 fr
  have hSl : (castL (pcsO Q (O.take k))).length = k := by rw [castL_len', pcsO_len, List.length_take]; omega
  rintro e fr h1 ⟨rfl, he, g0, g1, g5, g6, g7, g8, g9, g10⟩
  unfold f39_l0
  by_cases hlt : e < k
  · have hlt' : (e : Int) < (k : Int) := by omega
    have heO : e < O.length := by omega
    obtain ⟨p, hp1, hp2, hp3⟩ := hw.atb e heO
    have hjl := hO _ (List.getElem_mem heO)
    obtain ⟨q, hq1, hq2, hq3⟩ := hv.atb O[e] hjl
    have heS : e < (castL (pcsO Q (O.take k))).length := by omega
    have hSe : (castL (pcsO Q (O.take k)))[e] = (Q[O[e]] : Int) := by simp [castL, pcsO, List.getD, hjl]
    have hs : oppS x (2 ^ i) ((castL (pcsO Q (O.take k))).take (e + 1)) = (oppS x (2 ^ i) ((castL (pcsO Q (O.take k))).take e) || ptI (lessC x (2 ^ i) : Int) (castL (pcsO Q (O.take k)))[e]) := any_snoc heS
    rw [hSe] at hs
    have h2i : 2 ^ i < 64 := Nat.pow_lt_pow_right (a := 2) (by omega) (show i < 6 by omega)
    have hrem : ((x / 2 ^ i : Nat) : Int).tmod 2 = ((x / 2 ^ i % 2 : Nat) : Int) := rfl
    by_cases b : x / 2 ^ i % 2 = 1
    · have b' : ((x / 2 ^ i % 2 : Nat) : Int) = 1 := by omega
      obtain ⟨s1, hs1, hs1l, hs1c⟩ : ∃ s1, (if x / 2 ^ i % 2 = 1 ∧ oppS x (2 ^ i) ((castL (pcsO Q (O.take k))).take e) = true then s0 ||| 2 ^ i else s0) = s1 ∧ s1 < 64 ∧ s1 ||| 2 ^ i = s0 ||| 2 ^ i := by
        have h1 : s0 ||| 2 ^ i < 64 := Nat.or_lt_two_pow (n := 6) hs0 h2i
        by_cases e2 : oppS x (2 ^ i) ((castL (pcsO Q (O.take k))).take e) = true
        · exact ⟨_, rfl, by rw [if_pos ⟨b, e2⟩]; exact h1, by rw [if_pos ⟨b, e2⟩, Nat.or_assoc, Nat.or_self]⟩
        · exact ⟨_, rfl, by rw [if_neg fun h => e2 h.2]; exact hs0, by rw [if_neg fun h => e2 h.2]⟩
      rw [hs1] at g8
      cases e3 : ptI (lessC x (2 ^ i) : Int) (Q[O[e]] : Int)
      · rw [e3, Bool.or_false] at hs
        simp (disch := omega) only [f39_r9, f39_r10, f39_r12, w_skip, w_reg, w_draw, w_seq, w_cond, w_block, seqK_n, atK_n, loopK_n, ckB_b, cbB_b, okG_b, asG_t, true_and, x_nil, x_g, x_mv, x_as, x_bin, x_call, kx, kg, xg_nil, xg_g, xg_mv, xg_pick, xg_ld, xg_bin, xg_iads, xd_cons, fresh_nil, stK_n, stK_s, stay_nil, rvP_ok, okv_some, ev_t, ev_c, evs_nil, evs_cons, getV_some, putD_some, bin_add, bin_eql, bin_lss, bin_rem, pick_b, of1, of2, getK_set, Nat.reduceEqDiff, ↓reduceIte, Bool.false_eq_true, g0, g1, g6, g7, g9, g10, hlt', decide_true, shr_i (show i ≤ 62 by omega), hrem, b', shl_i (show i ≤ 62 by omega), andNot_n (show x < 9223372036854775808 by omega) (show 2 ^ i < 9223372036854775808 by omega), hp1, hp2, nE, hq1, hq2, hp53, e3, fw64]
        exact ⟨e + 1, by omega, rfl, hlt, by rw [hs, hs1]; simp (disch := omega) only [getK_set, Nat.reduceEqDiff, ↓reduceIte, g0, g1, g5, g6, g7, g8, g9, and_self, Int.natCast_add, Int.natCast_one]⟩
      · rw [e3, Bool.or_true] at hs
        simp (disch := omega) only [f39_r9, f39_r10, f39_r11, f39_r12, w_skip, w_reg, w_draw, w_seq, w_cond, w_block, seqK_n, atK_n, loopK_n, ckB_b, cbB_b, okG_b, asG_t, true_and, x_nil, x_g, x_mv, x_as, x_bin, x_call, kx, kg, xg_nil, xg_g, xg_mv, xg_pick, xg_ld, xg_bin, xg_iads, xd_cons, fresh_nil, stK_n, stK_s, stay_nil, rvP_ok, okv_some, ev_t, ev_c, evs_nil, evs_cons, getV_some, putD_some, bin_add, bin_eql, bin_lss, bin_rem, pick_b, of1, of2, getK_set, Nat.reduceEqDiff, ↓reduceIte, g0, g1, g6, g7, g8, g9, g10, hlt', decide_true, shr_i (show i ≤ 62 by omega), hrem, b', shl_i (show i ≤ 62 by omega), andNot_n (show x < 9223372036854775808 by omega) (show 2 ^ i < 9223372036854775808 by omega), hp1, hp2, nE, hq1, hq2, hp53, e3, or_n (show s1 < 9223372036854775808 by omega) (show 2 ^ i < 9223372036854775808 by omega), hs1c, fw64]
        exact ⟨e + 1, by omega, rfl, hlt, by rw [hs, if_pos ⟨b, rfl⟩]; simp (disch := omega) only [getK_set, Nat.reduceEqDiff, ↓reduceIte, g0, g1, g5, g6, g7, g9, and_self, Int.natCast_add, Int.natCast_one]⟩
    · have b' : ¬ ((x / 2 ^ i % 2 : Nat) : Int) = 1 := by omega
      have hno : ∀ t : Bool, (if x / 2 ^ i % 2 = 1 ∧ t = true then s0 ||| 2 ^ i else s0) = s0 := fun t => by rw [if_neg fun h => b h.1]
      rw [hno] at g8
      simp (disch := omega) only [f39_r9, f39_r10, f39_r12, w_skip, w_reg, w_draw, w_seq, w_cond, w_block, seqK_n, atK_n, loopK_n, ckB_b, cbB_b, okG_b, asG_t, true_and, x_nil, x_g, x_mv, x_as, x_bin, kx, kg, xg_nil, xg_g, xg_mv, xg_pick, xg_bin, xd_cons, fresh_nil, stK_n, stK_s, stay_nil, rvP_ok, okv_some, ev_t, ev_c, getV_some, putD_some, bin_add, bin_eql, bin_lss, bin_rem, pick_b, of1, of2, getK_set, Nat.reduceEqDiff, ↓reduceIte, Bool.false_eq_true, g6, g7, g9, g10, hlt', decide_true, decide_false, shr_i (show i ≤ 62 by omega), hrem, b', fw64]
      exact ⟨e + 1, by omega, rfl, hlt, by rw [hno]; simp (disch := omega) only [getK_set, Nat.reduceEqDiff, ↓reduceIte, g0, g1, g5, g6, g7, g8, g9, and_self, Int.natCast_add, Int.natCast_one]⟩
  · obtain rfl : e = k := by omega
    rw [List.take_of_length_le (by omega)] at g8
    simp (disch := omega) only [f39_r9, w_reg, w_seq, w_cond, w_exit, seqK_n, seqK_e, loopK_e, ckB_b, cbB_b, true_and, x_nil, x_mv, x_bin, kx, rvP_ok, okv_some, ev_t, getV_some, putD_some, bin_lss, getK_set, Nat.reduceEqDiff, ↓reduceIte, Bool.false_eq_true, g6, g10, Int.lt_irrefl, decide_false]
    exact hq _ (by simp (disch := omega) only [getK_set, Nat.reduceEqDiff, ↓reduceIte, g0, g1, g5, g6, g7, g8, g9, and_self])
def f39_I1 (h : H) (v w o : V) (x : Nat) (S : List Int) (k : Nat) (i : Nat) (fr : Fr) (h1 : H) : Prop := h1 = h ∧ i ≤ 6 ∧ fr.get (K.ofNat 0) = some (v) ∧ fr.get (K.ofNat 1) = some (w) ∧ fr.get (K.ofNat 5) = some (o) ∧ fr.get (K.ofNat 6) = some (.i .i64 (k : Int)) ∧ fr.get (K.ofNat 7) = some (.i .i64 (x : Int)) ∧ fr.get (K.ofNat 8) = some (.i .i64 (setTo x S i : Int)) ∧ fr.get (K.ofNat 9) = some (.i .i64 (i : Int))
def f39_I2 (h : H) (v w : V) (Q O : List Nat) (k : Nat) (fr : Fr) (h1 : H) : Prop := ∃ o, k ≤ O.length ∧ Sl nE h1 o ((newsO Q O).take k) ∧ Own h.nx.nat o ∧ Grow h.nx.nat h h1 ∧ fr.get (K.ofNat 0) = some (v) ∧ fr.get (K.ofNat 1) = some (w) ∧ fr.get (K.ofNat 5) = some (o) ∧ fr.get (K.ofNat 6) = some (.i .i64 (k : Int))
theorem f39_ret {h : H} {v w : V} {Q O : List Nat}
    (hp53 : ∀ a b h P, CallP fs (.fn (K.ofNat 53) []) [.i .i64 a, .i .i64 b] h P = P (.b (ptI a b)) h)
    (hv : Sl nE h v Q) (hw : Sl nE h w O) (hc : HC h) (hQ : ∀ y ∈ Q, y < 64) (hO : ∀ j ∈ O, j < Q.length) (hOl : O.length ≤ 1000) :
    Ret fs f39 [v, w] h fun u h' => Sl nE h' u (newsO Q O) ∧ Own h.nx.nat u ∧ Grow h.nx.nat h h' := by
  apply ret_of rfl
  show W fs none f39_c _ _ _
  unfold f39_c
  have hnl := newsO_len (Q := Q) (O := O)
  simp (disch := omega) only [f39_r0, f39_r1, f39_r2, w_reg, w_seq, w_block, seqK_n, x_nil, x_as, ev_c, putD_some, frame_2, of0]
  refine W_loop (f39_I2 h v w Q O) (fun k => O.length - k) ?_ 0 ⟨.sn, Nat.zero_le _, by rw [List.take_zero]; exact Sl.nil, Own.sn, Grow.refl _ _, by simp (disch := omega) only [getK_set, Nat.reduceEqDiff, ↓reduceIte, and_self, Int.natCast_zero]⟩
  rintro k fr h1 ⟨o, hk, hso, hoo, gr, g0, g1, g5, g6⟩
  have hc1 := gr.hc hc
  have hv1 := hv.grow hc gr
  have hw1 := hw.grow hc gr
  unfold f39_l2
  by_cases hlt : k < O.length
  · have hlt' : (k : Int) < (O.length : Int) := by omega
    obtain ⟨p, hp1, hp2⟩ := hw1.at k hlt
    have hjl := hO _ (List.getElem_mem hlt)
    obtain ⟨q, hq1, hq2⟩ := hv1.at O[k] hjl
    have hx := hQ _ (List.getElem_mem hjl)
    simp (disch := omega) only [f39_r3, f39_r4, f39_r5, f39_r6, w_skip, w_reg, w_seq, w_cond, w_block, seqK_n, ckB_b, cbB_b, true_and, x_nil, x_mv, x_as, x_ld, x_bin, x_iads, x_len, kx, rvP_ok, okv_some, ev_t, ev_c, getV_some, putD_some, bin_lss, of0, getK_set, Nat.reduceEqDiff, ↓reduceIte, g0, g1, g6, hw1.len, hlt', decide_true, hp1, hp2, nE, hq1, hq2]
    refine W_loop (f39_I1 h1 v w o Q[O[k]] (castL (pcsO Q (O.take k))) k) (fun i => 6 - i) ?_ 0 ⟨rfl, Nat.zero_le _, by simp (disch := omega) only [true_and, Option.some.injEq, getK_set, Nat.reduceEqDiff, ↓reduceIte, g0, g1, g5, g6, Int.natCast_zero]; exact ⟨rfl, trivial⟩⟩
    clear g0 g1 g5 g6 fr
    rintro i fr h2 ⟨rfl, hi, g0, g1, g5, g6, g7, g8, g9⟩
    have hb := setTo_lt (x := Q[O[k]]) (S := castL (pcsO Q (O.take k))) i hi
    unfold f39_l1
    by_cases hli : i < 6
    · have hli' : (i : Int) < 6 := by omega
      simp (disch := omega) only [f39_r7, f39_r8, w_skip, w_reg, w_seq, w_cond, w_block, seqK_n, ckB_b, cbB_b, true_and, x_nil, x_mv, x_as, x_bin, kx, rvP_ok, okv_some, ev_t, ev_c, getV_some, putD_some, bin_lss, of0, of6, getK_set, ↓reduceIte, g9, hli', decide_true]
      refine f39_inner (h := h2) (v := v) (w := w) (o := o) (Q := Q) (O := O) (x := Q[O[k]]) (i := i) (s0 := setTo Q[O[k]] (castL (pcsO Q (O.take k))) i) (k := k) hp53 hv1 hw1 hQ hO hx hli hb hlt hOl ⟨rfl, Nat.zero_le _, by
        rw [List.take_zero, show oppS Q[O[k]] (2 ^ i) [] = false from rfl, if_neg (fun h => by cases h.2)]
        simp (disch := omega) only [getK_set, Nat.reduceEqDiff, ↓reduceIte, g0, g1, g5, g6, g7, g8, g9, and_self, Int.natCast_zero]⟩ ?_
      clear g0 g1 g5 g6 g7 g8 g9 fr
      rintro fr ⟨g0, g1, g5, g6, g7, g8, g9⟩
      rw [← setTo_succ] at g8
      simp (disch := omega) only [f39_r13, w_reg, seqK_n, atK_n, atK_e, loopK_n, x_nil, x_mv, x_as, x_bin, kx, rvP_ok, okv_some, ev_t, ev_c, getV_some, putD_some, bin_add, of1, getK_set, ↓reduceIte, g9, fw64]
      exact ⟨i + 1, by omega, rfl, hli, by simp (disch := omega) only [getK_set, Nat.reduceEqDiff, ↓reduceIte, g0, g1, g5, g6, g7, g8, and_self, Int.natCast_add, Int.natCast_one]⟩
    · obtain rfl : i = 6 := by omega
      have hli' : ¬ ((6 : Nat) : Int) < 6 := by omega
      rw [setTo_new hx] at g8
      have hge : Q.getD O[k] 0 = Q[O[k]] := by simp [List.getD, hjl]
      have hnk : (newsO Q O)[k]'(by omega) = newPS Q[O[k]] (castL (pcsO Q (O.take k))) := by rw [newsO_at hlt, hge]
      obtain ⟨v', h', q1, q2, q3, q4, q5⟩ := Sl.push (e := nE) (L := (newsO Q O).take k) (x := newPS Q[O[k]] (castL (pcsO Q (O.take k)))) (c := .i .i64 (newPS Q[O[k]] (castL (pcsO Q (O.take k))) : Int)) rfl hso hoo gr.nx hc1 (by rw [List.length_take]; omega)
      simp (disch := omega) only [f39_r7, f39_r14, f39_r15, w_reg, w_seq, w_cond, w_exit, seqK_n, seqK_e, atK_n, atK_e, loopK_n, loopK_e, ckB_b, cbB_b, true_and, x_nil, x_mv, x_as, x_bslice, x_bin, x_app, kx, rvP_ok, okv_some, ev_t, ev_c, getV_some, putD_some, bin_add, bin_lss, oGet_s, cells1_i, fill_1, set_1, of0, of1, of6, getK_set, Nat.reduceEqDiff, ↓reduceIte, Bool.false_eq_true, g5, g6, g8, g9, hli', decide_false, q1, fw64]
      exact ⟨k + 1, by omega, v', hlt, by rw [List.take_succ_eq_append_getElem (by omega), hnk]; exact q2, q3, gr.trans q4, by simp (disch := omega) only [getK_set, Nat.reduceEqDiff, ↓reduceIte, g0, g1, and_self, Int.natCast_add, Int.natCast_one]⟩
  · obtain rfl : k = O.length := by omega
    rw [List.take_of_length_le (by omega)] at hso
    simp (disch := omega) only [f39_r3, f39_r16, f39_rs, w_reg, w_seq, w_cond, w_exit, w_ret, seqK_n, seqK_e, atK_e, loopK_e, ckB_b, cbB_b, true_and, retK_r, x_nil, x_mv, x_as, x_bin, x_len, kx, rvP_ok, okv_some, ev_t, getV_some, putD_some, bin_lss, oGet_s, readRs_nil, readRs_t, retV_1, Option.some.injEq, exists_eq_left', getK_set, Nat.reduceEqDiff, ↓reduceIte, Bool.false_eq_true, g1, g5, g6, hw1.len, Int.lt_irrefl, decide_false]
    exact ⟨hso, hoo, gr⟩
end
end Go.Ev
namespace Go.Ev
open Go Go.RowKit
noncomputable def f5_r0 : List EOper := [⟨(some (K.ofNat 4)), none, .as (.c (.b false))⟩]
noncomputable def f5_r1 : List EOper := [⟨(some (K.ofNat 12)), none, .mv (.t (K.ofNat 0))⟩, ⟨(some (K.ofNat 13)), none, .mv (.t (K.ofNat 1))⟩, ⟨(some (K.ofNat 14)), none, .call (.c (.fn (K.ofNat 30) [])) [(.t (K.ofNat 12)), (.t (K.ofNat 13))]⟩, ⟨(some (K.ofNat 11)), none, .mv (.t (K.ofNat 14))⟩, ⟨(some (K.ofNat 15)), none, .ext (.t (K.ofNat 11)) 0⟩, ⟨(some (K.ofNat 16)), none, .ext (.t (K.ofNat 11)) 1⟩, ⟨(some (K.ofNat 5)), none, .as (.t (K.ofNat 15))⟩, ⟨(some (K.ofNat 6)), none, .as (.t (K.ofNat 16))⟩]
noncomputable def f5_r2 : List EOper := [⟨(some (K.ofNat 7)), none, .as (.c (.i .i64 (.ofNat 0)))⟩]
noncomputable def f5_r3 : List EOper := [⟨(some (K.ofNat 17)), none, .mv (.t (K.ofNat 7))⟩, ⟨(some (K.ofNat 18)), none, .bin .lss (.t (K.ofNat 17)) (.c (.i .i64 (.ofNat 2)))⟩]
noncomputable def f5_r4 : List EOper := [⟨(some (K.ofNat 22)), none, .mv (.t (K.ofNat 5))⟩, ⟨(some (K.ofNat 23)), none, .mv (.t (K.ofNat 6))⟩, ⟨(some (K.ofNat 24)), none, .call (.c (.fn (K.ofNat 21) [])) [(.t (K.ofNat 22)), (.t (K.ofNat 23))]⟩, ⟨(some (K.ofNat 21)), none, .mv (.t (K.ofNat 24))⟩, ⟨(some (K.ofNat 25)), none, .ext (.t (K.ofNat 21)) 0⟩, ⟨(some (K.ofNat 26)), none, .ext (.t (K.ofNat 21)) 1⟩, ⟨(some (K.ofNat 27)), none, .ext (.t (K.ofNat 21)) 2⟩, ⟨(some (K.ofNat 8)), none, .as (.t (K.ofNat 25))⟩, ⟨(some (K.ofNat 9)), none, .as (.t (K.ofNat 26))⟩, ⟨(some (K.ofNat 10)), none, .as (.t (K.ofNat 27))⟩]
noncomputable def f5_r5 : List EOper := [⟨(some (K.ofNat 28)), none, .mv (.t (K.ofNat 10))⟩, ⟨(some (K.ofNat 29)), none, .bin .neq (.t (K.ofNat 28)) (.c (.i .i64 (.ofNat 0)))⟩, ⟨(some (K.ofNat 30)), none, .mv (.t (K.ofNat 29))⟩, ⟨(some (K.ofNat 31)), (some ((K.ofNat 30), false)), .mv (.t (K.ofNat 9))⟩, ⟨(some (K.ofNat 32)), (some ((K.ofNat 30), false)), .mv (.t (K.ofNat 6))⟩, ⟨(some (K.ofNat 33)), (some ((K.ofNat 30), false)), .call (.c (.fn (K.ofNat 36) [])) [(.t (K.ofNat 32))]⟩, ⟨(some (K.ofNat 34)), (some ((K.ofNat 30), false)), .eqk (.one none) true (.t (K.ofNat 31)) (.t (K.ofNat 33))⟩, ⟨(some (K.ofNat 35)), none, .pick (.t (K.ofNat 30)) (.c (.b true)) (.t (K.ofNat 34))⟩, ⟨(some (K.ofNat 36)), none, .mv (.t (K.ofNat 35))⟩, ⟨(some (K.ofNat 37)), (some ((K.ofNat 36), false)), .mv (.t (K.ofNat 9))⟩, ⟨(some (K.ofNat 38)), (some ((K.ofNat 36), false)), .mv (.t (K.ofNat 37))⟩, ⟨(some (K.ofNat 39)), (some ((K.ofNat 38), true)), .mv (.t (K.ofNat 6))⟩, ⟨(some (K.ofNat 40)), (some ((K.ofNat 38), true)), .mv (.t (K.ofNat 8))⟩, ⟨(some (K.ofNat 41)), (some ((K.ofNat 38), true)), .call (.c (.fn (K.ofNat 37) [])) [(.t (K.ofNat 39)), (.t (K.ofNat 40))]⟩, ⟨(some (K.ofNat 42)), (some ((K.ofNat 38), true)), .not (.t (K.ofNat 41))⟩, ⟨(some (K.ofNat 43)), (some ((K.ofNat 36), false)), .pick (.t (K.ofNat 38)) (.t (K.ofNat 42)) (.c (.b false))⟩, ⟨(some (K.ofNat 44)), none, .pick (.t (K.ofNat 36)) (.c (.b true)) (.t (K.ofNat 43))⟩, ⟨(some (K.ofNat 45)), none, .mv (.t (K.ofNat 44))⟩, ⟨(some (K.ofNat 46)), (some ((K.ofNat 45), false)), .mv (.t (K.ofNat 9))⟩, ⟨(some (K.ofNat 47)), (some ((K.ofNat 45), false)), .not (.t (K.ofNat 46))⟩, ⟨(some (K.ofNat 48)), (some ((K.ofNat 45), false)), .mv (.t (K.ofNat 47))⟩, ⟨(some (K.ofNat 49)), (some ((K.ofNat 48), true)), .mv (.t (K.ofNat 8))⟩, ⟨(some (K.ofNat 50)), (some ((K.ofNat 48), true)), .len (.t (K.ofNat 49))⟩, ⟨(some (K.ofNat 51)), (some ((K.ofNat 48), true)), .bin .neq (.t (K.ofNat 50)) (.c (.i .i64 (.ofNat 0)))⟩, ⟨(some (K.ofNat 52)), (some ((K.ofNat 45), false)), .pick (.t (K.ofNat 48)) (.t (K.ofNat 51)) (.c (.b false))⟩, ⟨(some (K.ofNat 53)), none, .pick (.t (K.ofNat 45)) (.c (.b true)) (.t (K.ofNat 52))⟩]
noncomputable def f5_r6 : List EOper := [⟨(some (K.ofNat 4)), none, .as (.c (.b false))⟩]
noncomputable def f5_r7 : List EOper := [⟨(some (K.ofNat 55)), none, .mv (.t (K.ofNat 0))⟩, ⟨(some (K.ofNat 56)), none, .mv (.t (K.ofNat 1))⟩, ⟨(some (K.ofNat 57)), none, .call (.c (.fn (K.ofNat 38) [])) [(.t (K.ofNat 55)), (.t (K.ofNat 56))]⟩, ⟨(some (K.ofNat 54)), none, .mv (.t (K.ofNat 57))⟩, ⟨(some (K.ofNat 58)), none, .ext (.t (K.ofNat 54)) 0⟩, ⟨(some (K.ofNat 59)), none, .ext (.t (K.ofNat 54)) 1⟩, ⟨(some (K.ofNat 5)), none, .as (.t (K.ofNat 58))⟩, ⟨(some (K.ofNat 6)), none, .as (.t (K.ofNat 59))⟩]
noncomputable def f5_r8 : List EOper := [⟨(some (K.ofNat 19)), none, .mv (.t (K.ofNat 7))⟩, ⟨(some (K.ofNat 20)), none, .bin .add (.t (K.ofNat 19)) (.c (.i .i64 (.ofNat 1)))⟩, ⟨(some (K.ofNat 7)), none, .as (.t (K.ofNat 20))⟩]
noncomputable def f5_l0 : EC := (.seq (.seq (.reg f5_r3) (.cond (.t (K.ofNat 18)) .skip (.exit 0))) (.seq (.block 1 (.seq (.reg f5_r4) (.seq (.seq (.reg f5_r5) (.cond (.t (K.ofNat 53)) (.seq (.reg f5_r6) .ret) .skip)) (.reg f5_r7)))) (.reg f5_r8)))
noncomputable def f5_r9 : List EOper := [⟨(some (K.ofNat 60)), none, .call (.c (.fn (K.ofNat 29) [])) []⟩, ⟨(some (K.ofNat 4)), none, .as (.t (K.ofNat 60))⟩]
noncomputable def f5_c : EC := (.seq (.reg f5_r0) (.seq (.reg f5_r1) (.seq (.seq (.reg f5_r2) (.block 0 (.loop f5_l0))) (.seq (.reg f5_r9) .ret))))
noncomputable def f5 : EF := ⟨61, [.tmp (K.ofNat 4)], f5_c, none⟩
section
variable {fs : T EF} {ro : Option K}
structure Calls5 (fs : T EF) : Prop extends Calls79 fs where
  p53 : ∀ a b h P, CallP fs (.fn (K.ofNat 53) []) [.i .i64 a, .i .i64 b] h P = P (.b (ptI a b)) h
  p52 : ∀ m : Nat, m < 64 → ∀ h P, CallP fs (.fn (K.ofNat 52) []) [.i .i64 (m : Int)] h P = P (.i .i64 (pop6 m : Int)) h
  p75 : ∀ m : Nat, m < 64 → ∀ h P, CallP fs (.fn (K.ofNat 75) []) [.i .i64 (m : Int)] h P = P (.i .i64 (pop6 m : Int)) h
  aw : ∀ h P, CallP fs (.fn (K.ofNat 29) []) [] h P = P (.b true) h
  c16 : fs.get (K.ofNat 16) = some f16
  c21 : fs.get (K.ofNat 21) = some f21
  c30 : fs.get (K.ofNat 30) = some f30
  c36 : fs.get (K.ofNat 36) = some f36
  c37 : fs.get (K.ofNat 37) = some f37
  c38 : fs.get (K.ofNat 38) = some f38
  c49 : fs.get (K.ofNat 49) = some f49
  c58 : fs.get (K.ofNat 58) = some f58
  c59 : fs.get (K.ofNat 59) = some f59
  c70 : fs.get (K.ofNat 70) = some f70
  c71 : fs.get (K.ofNat 71) = some f71
end
end Go.Ev
namespace Go.Ev
open Go Go.RowKit
noncomputable def f6_r0 : List EOper := [⟨(some (K.ofNat 6)), none, .as (.c (.b false))⟩]
noncomputable def f6_r1 : List EOper := [⟨(some (K.ofNat 21)), none, .mv (.t (K.ofNat 0))⟩, ⟨(some (K.ofNat 22)), none, .mv (.t (K.ofNat 1))⟩, ⟨(some (K.ofNat 23)), none, .call (.c (.fn (K.ofNat 38) [])) [(.t (K.ofNat 21)), (.t (K.ofNat 22))]⟩, ⟨(some (K.ofNat 20)), none, .mv (.t (K.ofNat 23))⟩, ⟨(some (K.ofNat 24)), none, .ext (.t (K.ofNat 20)) 0⟩, ⟨(some (K.ofNat 25)), none, .ext (.t (K.ofNat 20)) 1⟩, ⟨(some (K.ofNat 7)), none, .as (.t (K.ofNat 24))⟩, ⟨(some (K.ofNat 8)), none, .as (.t (K.ofNat 25))⟩]
noncomputable def f6_r2 : List EOper := [⟨(some (K.ofNat 26)), none, .mv (.t (K.ofNat 2))⟩, ⟨(some (K.ofNat 27)), none, .call (.c (.fn (K.ofNat 14) [])) [(.t (K.ofNat 26)), (.c (.i .i64 (.ofNat 12)))]⟩, ⟨(some (K.ofNat 9)), none, .as (.t (K.ofNat 27))⟩]
noncomputable def f6_r3 : List EOper := [⟨(some (K.ofNat 10)), none, .as (.c (.i .i64 (.ofNat 0)))⟩]
noncomputable def f6_r4 : List EOper := [⟨(some (K.ofNat 28)), none, .mv (.t (K.ofNat 10))⟩, ⟨(some (K.ofNat 29)), none, .bin .lss (.t (K.ofNat 28)) (.c (.i .i64 (.ofNat 2)))⟩]
noncomputable def f6_r5 : List EOper := [⟨(some (K.ofNat 32)), none, .mv (.t (K.ofNat 8))⟩, ⟨(some (K.ofNat 33)), none, .mv (.t (K.ofNat 9))⟩, ⟨(some (K.ofNat 34)), none, .call (.c (.fn (K.ofNat 37) [])) [(.t (K.ofNat 32)), (.t (K.ofNat 33))]⟩, ⟨(some (K.ofNat 11)), none, .as (.t (K.ofNat 34))⟩]
noncomputable def f6_r6 : List EOper := [⟨(some (K.ofNat 36)), none, .mv (.t (K.ofNat 7))⟩, ⟨(some (K.ofNat 37)), none, .mv (.t (K.ofNat 8))⟩, ⟨(some (K.ofNat 38)), none, .mv (.t (K.ofNat 9))⟩, ⟨(some (K.ofNat 39)), none, .call (.c (.fn (K.ofNat 22) [])) [(.t (K.ofNat 36)), (.t (K.ofNat 37)), (.t (K.ofNat 38))]⟩, ⟨(some (K.ofNat 35)), none, .mv (.t (K.ofNat 39))⟩, ⟨(some (K.ofNat 40)), none, .ext (.t (K.ofNat 35)) 0⟩, ⟨(some (K.ofNat 41)), none, .ext (.t (K.ofNat 35)) 1⟩, ⟨(some (K.ofNat 12)), none, .as (.t (K.ofNat 40))⟩, ⟨(some (K.ofNat 13)), none, .as (.t (K.ofNat 41))⟩]
noncomputable def f6_r7 : List EOper := [⟨(some (K.ofNat 43)), none, .mv (.t (K.ofNat 7))⟩, ⟨(some (K.ofNat 44)), none, .mv (.t (K.ofNat 8))⟩, ⟨(some (K.ofNat 45)), none, .mv (.t (K.ofNat 9))⟩, ⟨(some (K.ofNat 46)), none, .call (.c (.fn (K.ofNat 23) [])) [(.t (K.ofNat 43)), (.t (K.ofNat 44)), (.t (K.ofNat 45))]⟩, ⟨(some (K.ofNat 42)), none, .mv (.t (K.ofNat 46))⟩, ⟨(some (K.ofNat 47)), none, .ext (.t (K.ofNat 42)) 0⟩, ⟨(some (K.ofNat 48)), none, .ext (.t (K.ofNat 42)) 1⟩, ⟨(some (K.ofNat 14)), none, .as (.t (K.ofNat 47))⟩, ⟨(some (K.ofNat 15)), none, .as (.t (K.ofNat 48))⟩]
noncomputable def f6_r8 : List EOper := [⟨(some (K.ofNat 49)), none, .mv (.t (K.ofNat 13))⟩, ⟨(some (K.ofNat 50)), none, .bin .neq (.t (K.ofNat 49)) (.c (.i .i64 (.ofNat 0)))⟩, ⟨(some (K.ofNat 51)), none, .mv (.t (K.ofNat 50))⟩, ⟨(some (K.ofNat 52)), (some ((K.ofNat 51), false)), .mv (.t (K.ofNat 12))⟩, ⟨(some (K.ofNat 53)), (some ((K.ofNat 51), false)), .mv (.t (K.ofNat 11))⟩, ⟨(some (K.ofNat 54)), (some ((K.ofNat 51), false)), .eqk (.one none) true (.t (K.ofNat 52)) (.t (K.ofNat 53))⟩, ⟨(some (K.ofNat 55)), none, .pick (.t (K.ofNat 51)) (.c (.b true)) (.t (K.ofNat 54))⟩, ⟨(some (K.ofNat 56)), none, .mv (.t (K.ofNat 55))⟩, ⟨(some (K.ofNat 57)), (some ((K.ofNat 56), false)), .mv (.t (K.ofNat 11))⟩, ⟨(some (K.ofNat 58)), (some ((K.ofNat 56), false)), .mv (.t (K.ofNat 57))⟩, ⟨(some (K.ofNat 59)), (some ((K.ofNat 58), true)), .mv (.t (K.ofNat 15))⟩, ⟨(some (K.ofNat 60)), (some ((K.ofNat 58), true)), .bin .neq (.t (K.ofNat 59)) (.c (.i .i64 (.ofNat 0)))⟩, ⟨(some (K.ofNat 61)), (some ((K.ofNat 58), true)), .mv (.t (K.ofNat 60))⟩, ⟨(some (K.ofNat 62)), (some ((K.ofNat 61), false)), .mv (.t (K.ofNat 14))⟩, ⟨(some (K.ofNat 63)), (some ((K.ofNat 61), false)), .mv (.t (K.ofNat 8))⟩, ⟨(some (K.ofNat 64)), (some ((K.ofNat 61), false)), .mv (.t (K.ofNat 9))⟩, ⟨(some (K.ofNat 65)), (some ((K.ofNat 61), false)), .call (.c (.fn (K.ofNat 39) [])) [(.t (K.ofNat 63)), (.t (K.ofNat 64))]⟩, ⟨(some (K.ofNat 66)), (some ((K.ofNat 61), false)), .call (.c (.fn (K.ofNat 32) [])) [(.t (K.ofNat 62)), (.t (K.ofNat 65))]⟩, ⟨(some (K.ofNat 67)), (some ((K.ofNat 61), false)), .not (.t (K.ofNat 66))⟩, ⟨(some (K.ofNat 68)), (some ((K.ofNat 58), true)), .pick (.t (K.ofNat 61)) (.c (.b true)) (.t (K.ofNat 67))⟩, ⟨(some (K.ofNat 69)), (some ((K.ofNat 56), false)), .pick (.t (K.ofNat 58)) (.t (K.ofNat 68)) (.c (.b false))⟩, ⟨(some (K.ofNat 70)), none, .pick (.t (K.ofNat 56)) (.c (.b true)) (.t (K.ofNat 69))⟩, ⟨(some (K.ofNat 71)), none, .mv (.t (K.ofNat 70))⟩, ⟨(some (K.ofNat 72)), (some ((K.ofNat 71), false)), .mv (.t (K.ofNat 11))⟩, ⟨(some (K.ofNat 73)), (some ((K.ofNat 71), false)), .not (.t (K.ofNat 72))⟩, ⟨(some (K.ofNat 74)), (some ((K.ofNat 71), false)), .mv (.t (K.ofNat 73))⟩, ⟨(some (K.ofNat 75)), (some ((K.ofNat 74), true)), .mv (.t (K.ofNat 15))⟩, ⟨(some (K.ofNat 76)), (some ((K.ofNat 74), true)), .bin .neq (.t (K.ofNat 75)) (.c (.i .i64 (.ofNat 1)))⟩, ⟨(some (K.ofNat 77)), (some ((K.ofNat 74), true)), .mv (.t (K.ofNat 76))⟩, ⟨(some (K.ofNat 78)), (some ((K.ofNat 77), false)), .mv (.t (K.ofNat 14))⟩, ⟨(some (K.ofNat 79)), (some ((K.ofNat 77), false)), .len (.t (K.ofNat 78))⟩, ⟨(some (K.ofNat 80)), (some ((K.ofNat 77), false)), .bin .neq (.t (K.ofNat 79)) (.c (.i .i64 (.ofNat 0)))⟩, ⟨(some (K.ofNat 81)), (some ((K.ofNat 74), true)), .pick (.t (K.ofNat 77)) (.c (.b true)) (.t (K.ofNat 80))⟩, ⟨(some (K.ofNat 82)), (some ((K.ofNat 71), false)), .pick (.t (K.ofNat 74)) (.t (K.ofNat 81)) (.c (.b false))⟩, ⟨(some (K.ofNat 83)), none, .pick (.t (K.ofNat 71)) (.c (.b true)) (.t (K.ofNat 82))⟩]
noncomputable def f6_r9 : List EOper := [⟨(some (K.ofNat 6)), none, .as (.c (.b false))⟩]
noncomputable def f6_r10 : List EOper := [⟨(some (K.ofNat 16)), none, .as (.c .sn)⟩]
noncomputable def f6_r11 : List EOper := [⟨(some (K.ofNat 17)), none, .as (.c (.i .i64 (.ofNat 0)))⟩]
noncomputable def f6_r12 : List EOper := [⟨(some (K.ofNat 84)), none, .mv (.t (K.ofNat 17))⟩, ⟨(some (K.ofNat 85)), none, .mv (.t (K.ofNat 8))⟩, ⟨(some (K.ofNat 86)), none, .len (.t (K.ofNat 85))⟩, ⟨(some (K.ofNat 87)), none, .bin .lss (.t (K.ofNat 84)) (.t (K.ofNat 86))⟩]
noncomputable def f6_r13 : List EOper := [⟨(some (K.ofNat 18)), none, .as (.c (.i .i64 (.ofNat 0)))⟩]
noncomputable def f6_r14 : List EOper := [⟨(some (K.ofNat 90)), none, .mv (.t (K.ofNat 17))⟩, ⟨(some (K.ofNat 91)), none, .mv (.t (K.ofNat 2))⟩, ⟨(some (K.ofNat 92)), none, .len (.t (K.ofNat 91))⟩, ⟨(some (K.ofNat 93)), none, .bin .lss (.t (K.ofNat 90)) (.t (K.ofNat 92))⟩]
noncomputable def f6_r15 : List EOper := [⟨(some (K.ofNat 94)), none, .mv (.t (K.ofNat 2))⟩, ⟨(some (K.ofNat 95)), none, .mv (.t (K.ofNat 17))⟩, ⟨(some (K.ofNat 96)), none, .iads 1 (.t (K.ofNat 94)) (.t (K.ofNat 95))⟩, ⟨(some (K.ofNat 97)), none, .ld (.t (K.ofNat 96))⟩, ⟨(some (K.ofNat 98)), none, .conv .u64 (.t (K.ofNat 97))⟩, ⟨(some (K.ofNat 99)), none, .mv (.t (K.ofNat 17))⟩, ⟨(some (K.ofNat 100)), none, .bin .add (.t (K.ofNat 99)) (.c (.i .i64 (.ofNat 1)))⟩, ⟨(some (K.ofNat 101)), none, .conv .u64 (.t (K.ofNat 100))⟩, ⟨(some (K.ofNat 102)), none, .bin .rem (.t (K.ofNat 98)) (.t (K.ofNat 101))⟩, ⟨(some (K.ofNat 103)), none, .conv .i64 (.t (K.ofNat 102))⟩, ⟨(some (K.ofNat 18)), none, .as (.t (K.ofNat 103))⟩]
noncomputable def f6_r16 : List EOper := [⟨(some (K.ofNat 19)), none, .as (.c .sn)⟩]
noncomputable def f6_r17 : List EOper := [⟨(some (K.ofNat 104)), none, .mv (.t (K.ofNat 19))⟩, ⟨(some (K.ofNat 105)), none, .mv (.t (K.ofNat 16))⟩, ⟨(some (K.ofNat 106)), none, .mv (.t (K.ofNat 18))⟩, ⟨(some (K.ofNat 107)), none, .slice 1 (.t (K.ofNat 105)) none (some (.t (K.ofNat 106))) none⟩, ⟨(some (K.ofNat 108)), none, .app 1 (.t (K.ofNat 104)) (.t (K.ofNat 107))⟩, ⟨(some (K.ofNat 19)), none, .as (.t (K.ofNat 108))⟩]
noncomputable def f6_r18 : List EOper := [⟨(some (K.ofNat 109)), none, .mv (.t (K.ofNat 19))⟩, ⟨(some (K.ofNat 110)), none, .mv (.t (K.ofNat 17))⟩, ⟨(some (K.ofNat 111)), none, .bslice 1 1 [(.i .i64 (.ofNat 0))] [(0, 1, (.t (K.ofNat 110)))]⟩, ⟨(some (K.ofNat 112)), none, .app 1 (.t (K.ofNat 109)) (.t (K.ofNat 111))⟩, ⟨(some (K.ofNat 19)), none, .as (.t (K.ofNat 112))⟩]
noncomputable def f6_r19 : List EOper := [⟨(some (K.ofNat 113)), none, .mv (.t (K.ofNat 19))⟩, ⟨(some (K.ofNat 114)), none, .mv (.t (K.ofNat 16))⟩, ⟨(some (K.ofNat 115)), none, .mv (.t (K.ofNat 18))⟩, ⟨(some (K.ofNat 116)), none, .slice 1 (.t (K.ofNat 114)) (some (.t (K.ofNat 115))) none none⟩, ⟨(some (K.ofNat 117)), none, .app 1 (.t (K.ofNat 113)) (.t (K.ofNat 116))⟩, ⟨(some (K.ofNat 16)), none, .as (.t (K.ofNat 117))⟩]
noncomputable def f6_r20 : List EOper := [⟨(some (K.ofNat 88)), none, .mv (.t (K.ofNat 17))⟩, ⟨(some (K.ofNat 89)), none, .bin .add (.t (K.ofNat 88)) (.c (.i .i64 (.ofNat 1)))⟩, ⟨(some (K.ofNat 17)), none, .as (.t (K.ofNat 89))⟩]
noncomputable def f6_l0 : EC := (.seq (.seq (.reg f6_r12) (.cond (.t (K.ofNat 87)) .skip (.exit 2))) (.seq (.block 3 (.seq (.reg f6_r13) (.seq (.seq (.reg f6_r14) (.cond (.t (K.ofNat 93)) (.reg f6_r15) .skip)) (.seq (.reg f6_r16) (.seq (.reg f6_r17) (.seq (.reg f6_r18) (.reg f6_r19))))))) (.reg f6_r20)))
noncomputable def f6_r21 : List EOper := [⟨(some (K.ofNat 118)), none, .mv (.t (K.ofNat 16))⟩, ⟨(some (K.ofNat 9)), none, .as (.t (K.ofNat 118))⟩]
noncomputable def f6_r22 : List EOper := [⟨(some (K.ofNat 30)), none, .mv (.t (K.ofNat 10))⟩, ⟨(some (K.ofNat 31)), none, .bin .add (.t (K.ofNat 30)) (.c (.i .i64 (.ofNat 1)))⟩, ⟨(some (K.ofNat 10)), none, .as (.t (K.ofNat 31))⟩]
noncomputable def f6_l1 : EC := (.seq (.seq (.reg f6_r4) (.cond (.t (K.ofNat 29)) .skip (.exit 0))) (.seq (.block 1 (.seq (.reg f6_r5) (.seq (.reg f6_r6) (.seq (.reg f6_r7) (.seq (.seq (.reg f6_r8) (.cond (.t (K.ofNat 83)) (.seq (.reg f6_r9) .ret) .skip)) (.seq (.reg f6_r10) (.seq (.seq (.reg f6_r11) (.block 2 (.loop f6_l0))) (.reg f6_r21)))))))) (.reg f6_r22)))
noncomputable def f6_r23 : List EOper := [⟨(some (K.ofNat 119)), none, .call (.c (.fn (K.ofNat 29) [])) []⟩, ⟨(some (K.ofNat 6)), none, .as (.t (K.ofNat 119))⟩]
noncomputable def f6_c : EC := (.seq (.reg f6_r0) (.seq (.reg f6_r1) (.seq (.reg f6_r2) (.seq (.seq (.reg f6_r3) (.block 0 (.loop f6_l1))) (.seq (.reg f6_r23) .ret)))))
noncomputable def f6 : EF := ⟨120, [.tmp (K.ofNat 6)], f6_c, none⟩
theorem f6_rs : f6.rs = [.tmp (K.ofNat 6)] := of_eq_true (eq_self _)
section
variable {fs : T EF} {ro : Option K}
structure Calls6 (fs : T EF) : Prop extends Calls23 fs where
  p53 : ∀ a b h P, CallP fs (.fn (K.ofNat 53) []) [.i .i64 a, .i .i64 b] h P = P (.b (ptI a b)) h
  p52 : ∀ m : Nat, m < 64 → ∀ h P, CallP fs (.fn (K.ofNat 52) []) [.i .i64 (m : Int)] h P = P (.i .i64 (pop6 m : Int)) h
  aw : ∀ h P, CallP fs (.fn (K.ofNat 29) []) [] h P = P (.b true) h
  c32 : ∀ h v u L M P, Sl iE h v L → Sl iE h u M → L.length ≤ 1000000 → P (.b (decide (L = M))) h → CallP fs (.fn (K.ofNat 32) []) [v, u] h P
  c14 : fs.get (K.ofNat 14) = some f14
  c22 : fs.get (K.ofNat 22) = some f22
  c23 : fs.get (K.ofNat 23) = some f23
  c30 : fs.get (K.ofNat 30) = some f30
  c37 : fs.get (K.ofNat 37) = some f37
  c38 : fs.get (K.ofNat 38) = some f38
  c39 : fs.get (K.ofNat 39) = some f39
  c49 : fs.get (K.ofNat 49) = some f49
  c70 : fs.get (K.ofNat 70) = some f70
  c71 : fs.get (K.ofNat 71) = some f71
def f6_J (b : Nat) (h0 : H) (n N : Int) (v w u o : V) (m r : Nat) (i : Nat) (fr : Fr) (h1 : H) : Prop := ∃ nx L, i ≤ m ∧ L.length = i ∧ Sl iE h1 nx L ∧ Own b nx ∧ Grow b h0 h1 ∧ fr.get (K.ofNat 0) = some (.i .i64 n) ∧ fr.get (K.ofNat 1) = some (v) ∧ fr.get (K.ofNat 2) = some (w) ∧ fr.get (K.ofNat 7) = some (.i .i64 N) ∧ fr.get (K.ofNat 8) = some (u) ∧ fr.get (K.ofNat 9) = some (o) ∧ fr.get (K.ofNat 10) = some (.i .i64 (r : Int)) ∧ fr.get (K.ofNat 16) = some (nx) ∧ fr.get (K.ofNat 17) = some (.i .i64 (i : Int))
theorem rem_in (x : Int) (i : Nat) (hi : i ≤ 1000) : ∃ k : Nat, k ≤ i ∧ fw .i64 ((fw .u64 x).tmod ((i + 1 : Nat) : Int)) = (k : Int) := by
  have h0 : 0 ≤ fw .u64 x := by rw [fw_eq]; exact Int.emod_nonneg _ (by decide)
  obtain ⟨m, hm⟩ := Int.eq_ofNat_of_zero_le h0
  have h1 : (fw .u64 x).tmod ((i + 1 : Nat) : Int) = ((m % (i + 1) : Nat) : Int) := by rw [hm]; rfl
  have h2 : m % (i + 1) < i + 1 := Nat.mod_lt _ (by omega)
  exact ⟨m % (i + 1), by omega, by rw [h1, fw64 (by omega) (by omega)]⟩
theorem f6_inner {C : Ex → Fr → H → Prop} {h0 : H} {n N : Int} {v w u o : V} {P M : List Int} {r : Nat} {fr : Fr} (hu : Sl iE h0 u P) (hw : Sr iE h0 w M) (hc : HC h0) (hP : P.length ≤ 10)
    (hi : f6_J h0.nx.nat h0 n N v w u o P.length r 0 fr h0)
    (hq : ∀ fr h1 nx L, L.length ≤ 10 → Sl iE h1 nx L → Grow h0.nx.nat h0 h1 → fr.get (K.ofNat 0) = some (.i .i64 n) ∧ fr.get (K.ofNat 1) = some (v) ∧ fr.get (K.ofNat 2) = some (w) ∧ fr.get (K.ofNat 7) = some (.i .i64 N) ∧ fr.get (K.ofNat 8) = some (u) ∧ fr.get (K.ofNat 10) = some (.i .i64 (r : Int)) ∧ fr.get (K.ofNat 16) = some (nx) → C (.exit 2) fr h1) :
    W fs ro (.loop f6_l0) C fr h0 := by
  refine W_loop (f6_J h0.nx.nat h0 n N v w u o P.length r) (fun i => P.length - i) ?_ 0 hi
  clear hi fr
  rintro i fr h1 ⟨nx, L, hi, hL, hsn, hon, gr, g0, g1, g2, g7, g8, g9, g10, g16, g17⟩
  have hc1 := gr.hc hc
  have hu1 := hu.grow hc gr
  have hw1 := hw.grow hc gr
  unfold f6_l0
  by_cases hlt : i < P.length
  · have hlt' : (i : Int) < (P.length : Int) := by omega
    -- what follows, once k is known
    have rest : ∀ (k : Nat) (fr : Fr), k ≤ i → fr.get (K.ofNat 0) = some (.i .i64 n) ∧ fr.get (K.ofNat 1) = some (v) ∧ fr.get (K.ofNat 2) = some (w) ∧ fr.get (K.ofNat 7) = some (.i .i64 N) ∧ fr.get (K.ofNat 8) = some (u) ∧ fr.get (K.ofNat 9) = some (o) ∧ fr.get (K.ofNat 10) = some (.i .i64 (r : Int)) ∧ fr.get (K.ofNat 16) = some (nx) ∧ fr.get (K.ofNat 17) = some (.i .i64 (i : Int)) ∧ fr.get (K.ofNat 18) = some (.i .i64 (k : Int)) →
        W fs ro (.seq (.reg f6_r16) (.seq (.reg f6_r17) (.seq (.reg f6_r18) (.reg f6_r19)))) (atK 3 (seqK (W fs ro (.reg f6_r20)) (loopK (f6_J h0.nx.nat h0 n N v w u o P.length r) (fun i => P.length - i) i C))) fr h1 := by
      clear g0 g1 g2 g7 g8 g9 g10 g16 g17 fr
      rintro k fr hk ⟨g0, g1, g2, g7, g8, g9, g10, g16, g17, g18⟩
      obtain ⟨x1, p1, p2, _⟩ := hsn.cut (lo := none) (hi := some (.i .i64 (k : Int))) (l := 0) (u := k) bnd_none bnd_i (by omega) (by omega)
      rw [List.drop_zero] at p2
      obtain ⟨v2, h2, q1, q2, q3, q4, _⟩ := Sl.app (e := iE) (b := h1.nx.nat) (v := .sn) (L := []) Sl.nil Own.sn (Nat.le_refl _) p2 hc1 (by simp; omega)
      have hc2 := q4.hc hc1
      obtain ⟨v3, h3, r1, r2, r3, r4, _⟩ := Sl.push (e := iE) (x := (i : Int)) (c := .i .i64 (i : Int)) rfl q2 q3 q4.nx hc2 (by simp; omega)
      have gr13 := q4.trans r4
      have hc3 := gr13.hc hc1
      have hsn3 := hsn.grow hc1 gr13
      obtain ⟨x2, s1, s2, _⟩ := hsn3.cut (lo := some (.i .i64 (k : Int))) (hi := none) (l := k) (u := L.length) bnd_i bnd_none (by omega) (Nat.le_refl _)
      rw [List.take_length] at s2
      obtain ⟨v4, h4, t1, t2, t3, t4, _⟩ := Sl.app (e := iE) (b := h1.nx.nat) r2 r3 gr13.nx s2 hc3 (by simp; omega)
      have gr4 := gr13.trans t4
      simp (disch := omega) only [f6_r16, f6_r17, w_reg, w_seq, seqK_n, x_nil, x_mv, x_as, x_slice, sliceV_eq, Option.map_none, Option.map_some, x_app, kx, rvP_ok, ev_t, ev_c, getV_some, putD_some, getK_set, Nat.reduceEqDiff, ↓reduceIte, g16, g18, p1, q1]
      simp (disch := omega) only [f6_r18, w_reg, seqK_n, x_nil, x_mv, x_as, x_bslice, x_app, kx, rvP_ok, ev_t, getV_some, putD_some, oGet_s, cells1_i, fill_1, set_1, of0, getK_set, Nat.reduceEqDiff, ↓reduceIte, g17, r1]
      simp (disch := omega) only [f6_r19, f6_r20, w_reg, seqK_n, atK_n, loopK_n, x_nil, x_mv, x_as, x_bin, x_slice, sliceV_eq, Option.map_none, Option.map_some, x_app, kx, rvP_ok, okv_some, ev_t, ev_c, getV_some, putD_some, bin_add, of1, getK_set, Nat.reduceEqDiff, ↓reduceIte, g16, g17, g18, s1, t1, fw64]
      refine ⟨i + 1, by omega, v4, _, hlt, ?_, t2, t3.low gr.nx, gr.trans (gr4.low gr.nx), by simp (disch := omega) only [getK_set, Nat.reduceEqDiff, ↓reduceIte, g0, g1, g2, g7, g8, g9, g10, and_self, Int.natCast_add, Int.natCast_one]⟩
      simp; omega
    by_cases hm : i < M.length
    · have hm' : (i : Int) < (M.length : Int) := by omega
      obtain ⟨p, hp1, hp2⟩ := hw1.at i hm
      obtain ⟨k, hk, hke⟩ := rem_in M[i] i (by omega)
      have hi1 : fw .i64 ((i : Int) + 1) = ((i + 1 : Nat) : Int) := by rw [fw64 (by omega) (by omega)]; omega
      have hi2 : fw .u64 ((i + 1 : Nat) : Int) = ((i + 1 : Nat) : Int) := by
        rw [fw_eq]
        show ((i + 1 : Nat) : Int) % 18446744073709551616 = _
        omega
      have hrem : ∀ a, binV .rem (.i .u64 a) (.i .u64 ((i + 1 : Nat) : Int)) = some (.i .u64 (a.tmod ((i + 1 : Nat) : Int))) := fun a => bin_rem (by omega)
      simp (disch := omega) only [f6_r12, f6_r13, f6_r14, f6_r15, w_skip, w_reg, w_seq, w_cond, w_block, seqK_n, ckB_b, cbB_b, true_and, x_nil, x_mv, x_as, x_ld, x_bin, x_conv, x_iads, x_len, kx, rvP_ok, okv_some, ev_t, ev_c, getV_some, putD_some, bin_add, bin_lss, onI_i, of0, of1, getK_set, Nat.reduceEqDiff, ↓reduceIte, g2, g8, g17, hu1.len, hlt', decide_true, hw1.len, hm', hp1, hp2, iE, hi1, hi2, hrem, hke]
      exact rest k _ hk (by simp (disch := omega) only [getK_set, Nat.reduceEqDiff, ↓reduceIte, g0, g1, g2, g7, g8, g9, g10, g16, g17, and_self])
    · have hm' : ¬ (i : Int) < (M.length : Int) := by omega
      simp (disch := omega) only [f6_r12, f6_r13, f6_r14, w_skip, w_reg, w_seq, w_cond, w_block, seqK_n, ckB_b, cbB_b, true_and, x_nil, x_mv, x_as, x_bin, x_len, kx, rvP_ok, okv_some, ev_t, ev_c, getV_some, putD_some, bin_lss, of0, getK_set, Nat.reduceEqDiff, ↓reduceIte, Bool.false_eq_true, g2, g8, g17, hu1.len, hlt', decide_true, decide_false, hw1.len, hm']
      exact rest 0 _ (Nat.zero_le _) (by simp (disch := omega) only [getK_set, Nat.reduceEqDiff, ↓reduceIte, g0, g1, g2, g7, g8, g9, g10, g16, g17, and_self, Int.natCast_zero])
  · obtain rfl : i = P.length := by omega
    simp (disch := omega) only [f6_r12, w_reg, w_seq, w_cond, w_exit, seqK_n, seqK_e, loopK_e, ckB_b, cbB_b, true_and, x_nil, x_mv, x_bin, x_len, kx, rvP_ok, okv_some, ev_t, getV_some, putD_some, bin_lss, getK_set, Nat.reduceEqDiff, ↓reduceIte, Bool.false_eq_true, g8, g17, hu1.len, Int.lt_irrefl, decide_false]
    exact hq _ _ nx L (by omega) hsn gr (by simp (disch := omega) only [getK_set, Nat.reduceEqDiff, ↓reduceIte, g0, g1, g2, g7, g8, g10, g16, and_self])
def f6_I (h : H) (n N : Int) (v w u : V) (P : List Int) (r : Nat) (fr : Fr) (h1 : H) : Prop := ∃ o S, r ≤ 2 ∧ S.length ≤ 12 ∧ Sl iE h1 o S ∧ Sl iE h1 u P ∧ HC h1 ∧ Grow h.nx.nat h h1 ∧ fr.get (K.ofNat 0) = some (.i .i64 n) ∧ fr.get (K.ofNat 1) = some (v) ∧ fr.get (K.ofNat 2) = some (w) ∧ fr.get (K.ofNat 7) = some (.i .i64 N) ∧ fr.get (K.ofNat 8) = some (u) ∧ fr.get (K.ofNat 9) = some (o) ∧ fr.get (K.ofNat 10) = some (.i .i64 (r : Int))
theorem f6_ret {h : H} {v w : V} {L M : List Int} {n : Int} (k : Calls6 fs) (hv : Sr iE h v L) (hw : Sr iE h w M) (hc : HC h) : Ret fs f6 [.i .i64 n, v, w] h fun u h' => u = .b true ∧ Grow h.nx.nat h h' := by
  apply ret_of rfl
  show W fs none f6_c _ _ _
  unfold f6_c
  obtain ⟨Q', hq', an'⟩ := (cpx_tame n L).ex
  have ne0 : decide ((0 : Int) ≠ 0) = false := rfl
  have kb : ∀ a b, keyEq (.one none) (.b a) (.b b) = some (a == b) := fun _ _ => rfl
  simp (disch := omega) only [f6_r0, f6_r1, w_reg, w_seq, seqK_n, x_nil, x_mv, x_as, x_call, ev_t, ev_c, evs_nil, evs_cons, getV_some, putD_some, frame_3, getK_set, Nat.reduceEqDiff, ↓reduceIte]
  refine (callP_0 (ef := f38) k.c38 rfl (f38_sr (n := n) k.p53 k.p52 k.c49 k.c30 hv hc (by rw [hq']; exact sets_map an'.lt))).mono ?_
  rintro r h1 ⟨u, rfl, hsu, hou, gr1⟩
  have cp := cpx_pure n L
  generalize pureL ((tameP (tameN n) L).take 10) ((tameP (tameN n) L).take 10) = P at *
  generalize tameN n = N at *
  clear hq' an'
  have hc1 := gr1.hc hc
  have mchk := cp.chk
  obtain ⟨Q, rfl, an⟩ := cp.ex
  have hQl := an.len
  have hcl := castL_len' (O := Q)
  have hw1 := hw.grow hc gr1
  simp (disch := omega) only [f6_r2, w_reg, w_seq, seqK_n, x_nil, x_mv, x_as, x_ext, x_call, kx, rvP_ok, okv_some, ev_t, ev_c, evs_nil, evs_cons, getV_some, putD_some, onTup_t, nth0, nth1, of12, getK_set, Nat.reduceEqDiff, ↓reduceIte]
  refine (callP_0 (ef := f14) k.c14 rfl (f14_sr (m := 12) hw1 hc1 (by omega))).mono ?_
  rintro o h2 ⟨hso, hoo, gr2⟩
  have hc2 := gr2.hc hc1
  have hsu2 := hsu.grow hc1 gr2
  simp (disch := omega) only [f6_r3, w_reg, w_seq, w_block, seqK_n, x_nil, x_as, kx, ev_t, ev_c, getV_some, putD_some, of0, getK_set, ↓reduceIte]
  refine W_loop (f6_I h n N v w u (castL Q)) (fun i => 2 - i) ?_ 0 ⟨o, _, by omega, by rw [List.length_take]; omega, hso, hsu2, hc2, gr1.trans (gr2.low gr1.nx), by simp (disch := omega) only [getK_set, Nat.reduceEqDiff, ↓reduceIte, and_self, Int.natCast_zero]⟩
  clear hso hsu hsu2 hc1 hc2 gr1 gr2 hw1 hoo hou o h1 h2
  rintro r fr h1 ⟨o, S, hr, hS, hso, hsu, hc1, gr1, g0, g1, g2, g7, g8, g9, g10⟩
  unfold f6_l1
  by_cases hlt : r < 2
  · have hlt' : (r : Int) < 2 := by omega
    -- the next order
    have rest : ∀ (fr : Fr) (h3 : H), Grow h1.nx.nat h1 h3 → fr.get (K.ofNat 0) = some (.i .i64 n) ∧ fr.get (K.ofNat 1) = some (v) ∧ fr.get (K.ofNat 2) = some (w) ∧ fr.get (K.ofNat 7) = some (.i .i64 N) ∧ fr.get (K.ofNat 8) = some (u) ∧ fr.get (K.ofNat 9) = some (o) ∧ fr.get (K.ofNat 10) = some (.i .i64 (r : Int)) →
        W fs none (.seq (.reg f6_r10) (.seq (.seq (.reg f6_r11) (.block 2 (.loop f6_l0))) (.reg f6_r21))) (atK 1 (seqK (W fs none (.reg f6_r22)) (loopK (f6_I h n N v w u (castL Q)) (fun i => 2 - i) r (atK 0 (seqK (W fs none (.seq (.reg f6_r23) .ret)) (retK f6 fun u h' => u = .b true ∧ Grow h.nx.nat h h')))))) fr h3 := by
      clear g0 g1 g2 g7 g8 g9 g10 fr
      rintro fr h3 gr3 ⟨g0, g1, g2, g7, g8, g9, g10⟩
      have hc3 := gr3.hc hc1
      have hsu3 := hsu.grow hc1 gr3
      have hw3 := hw.grow hc (gr1.trans (gr3.low gr1.nx))
      simp (disch := omega) only [f6_r10, f6_r11, w_reg, w_seq, w_block, seqK_n, x_nil, x_as, ev_c, putD_some, of0]
      refine f6_inner (h0 := h3) (n := n) (N := N) (v := v) (w := w) (u := u) (o := o) (P := castL Q) (M := M) (r := r) hsu3 hw3 hc3 (by omega) ⟨.sn, [], Nat.zero_le _, rfl, Sl.nil, Own.sn, Grow.refl _ _, by simp (disch := omega) only [getK_set, Nat.reduceEqDiff, ↓reduceIte, g0, g1, g2, g7, g8, g9, g10, and_self, Int.natCast_zero]⟩ ?_
      clear g0 g1 g2 g7 g8 g9 g10 fr
      rintro fr h4 nx L hL hsn gr4 ⟨g0, g1, g2, g7, g8, g10, g16⟩
      simp (disch := omega) only [f6_r21, f6_r22, w_reg, seqK_n, atK_n, atK_e, loopK_n, x_nil, x_mv, x_as, x_bin, kx, rvP_ok, okv_some, ev_t, ev_c, getV_some, putD_some, bin_add, of1, getK_set, Nat.reduceEqDiff, ↓reduceIte, g10, g16, fw64]
      exact ⟨r + 1, by omega, nx, L, hlt, by omega, hsn, hsu3.grow hc3 gr4, gr4.hc hc3, gr1.trans ((gr3.low gr1.nx).trans (gr4.low (by have := gr1.nx; have := gr3.nx; omega))), by simp (disch := omega) only [getK_set, Nat.reduceEqDiff, ↓reduceIte, g0, g1, g2, g7, g8, and_self, Int.natCast_add, Int.natCast_one]⟩
    simp (disch := omega) only [f6_r4, f6_r5, w_skip, w_reg, w_seq, w_cond, w_block, seqK_n, ckB_b, cbB_b, true_and, x_nil, x_mv, x_bin, x_call, kx, rvP_ok, okv_some, ev_t, ev_c, evs_nil, evs_cons, getV_some, putD_some, bin_lss, of2, getK_set, Nat.reduceEqDiff, ↓reduceIte, g8, g9, g10, hlt', decide_true]
    refine (callP_0 (ef := f37) k.c37 rfl (f37_ret (O := S) k.p52 k.c70 k.c71 hsu hso an.lt (by omega) (by omega))).mono ?_
    rintro x h2 ⟨rfl, rfl⟩
    simp (disch := omega) only [f6_r6, w_reg, w_seq, seqK_n, x_nil, x_mv, x_as, x_call, kx, ev_t, ev_c, evs_nil, evs_cons, getV_some, putD_some, getK_set, Nat.reduceEqDiff, ↓reduceIte, g7, g8, g9]
    refine (callP_0 (ef := f22) k.c22 rfl (f22_ret (n := N) k.toCalls23 hsu hso hc1 an mchk)).mono ?_
    rintro x h3 ⟨rfl, gr3⟩
    have hc3 := gr3.hc hc1
    have hsu3 := hsu.grow hc1 gr3
    have hso3 := hso.grow hc1 gr3
    simp (disch := omega) only [f6_r7, w_reg, w_seq, seqK_n, x_nil, x_mv, x_as, x_ext, x_call, kx, rvP_ok, okv_some, ev_t, ev_c, evs_nil, evs_cons, getV_some, putD_some, onTup_t, nth0, nth1, getK_set, Nat.reduceEqDiff, ↓reduceIte, g7, g8, g9]
    refine (callP_0 (ef := f23) k.c23 rfl (f23_ret (n := N) k.toCalls23 hsu3 hso3 hc3 an mchk)).mono ?_
    rintro x h4 ⟨t, e, rfl, gr4, _, hcase⟩
    have hc4 := gr4.hc hc3
    have gr14 := gr3.trans (gr4.low gr3.nx)
    have b0 : ∀ b : Bool, (b == b) = true := fun b => by cases b <;> rfl
    rcases hcase with ⟨rfl, O, sh, hst⟩ | ⟨rfl, rfl, hno⟩
    · have hx := shell_iff.2 ⟨O, sh⟩
      obtain ⟨rfl, ho, hl, _⟩ := sh
      rw [hx]
      simp (disch := omega) only [f6_r8, w_reg, w_seq, seqK_n, okG_b, asG_t, asG_f, true_and, x_nil, x_g, x_mv, x_as, x_pick, x_bin, x_eqk, x_ext, x_call, kx, rvP_ok, okv_some, ev_t, ev_c, evs_nil, evs_cons, getV_some, putD_some, bin_neq, pick_b, onTup_t, oGet_s, nth0, nth1, of0, of1, getK_set, Nat.reduceEqDiff, ↓reduceIte, Bool.false_eq_true, Bool.not_true, Bool.not_false, g8, g9, ne0, kb, b0, cond_true]
      refine (callP_0 (ef := f39) k.c39 rfl (f39_ret k.p53 (hsu3.grow hc3 gr4).unmap (hso3.grow hc3 gr4).unmap hc4 an.lt ho.lt (by omega))).mono ?_
      rintro x h5 ⟨hsx, _, gr5⟩
      have hst5 := hst.grow hc4 gr5
      have hnl := newsO_len (Q := Q) (O := O)
      simp (disch := omega) only [okG_b, asG_f, true_and, x_g, x_call, kx, ev_t, ev_c, evs_nil, evs_cons, getV_some, putD_some, getK_set, Nat.reduceEqDiff, ↓reduceIte, Bool.not_false]
      refine k.c32 _ _ _ _ _ _ (Sl.map (f := fun (k : Nat) => (k : Int)) hst5) (Sl.map (f := fun (k : Nat) => (k : Int)) hsx) (by simp; omega) ?_
      simp (disch := omega) only [w_skip, w_reg, w_seq, w_cond, seqK_n, ckB_b, cbB_b, okG_b, okG_u, asG_t, asG_f, asG_u, true_and, x_nil, x_g, x_mv, x_pick, x_not, kx, rvP_ok, ev_t, ev_c, getV_some, putD_some, pick_b, onB_b, getK_set, Nat.reduceEqDiff, ↓reduceIte, Bool.false_eq_true, Bool.not_true, Bool.not_false, decide_true]
      exact rest _ _ (gr14.trans (gr5.low (by have := gr3.nx; have := gr4.nx; omega))) (by simp (disch := omega) only [getK_set, Nat.reduceEqDiff, ↓reduceIte, g0, g1, g2, g7, g8, g9, g10, and_self])
    · have hx : shellR Q S = false := Bool.eq_false_iff.2 fun h => by
        obtain ⟨O, sh⟩ := shell_iff.1 h
        exact hno O sh
      have ne1 : decide ((1 : Int) ≠ 1) = false := rfl
      have l0 : ∀ h1, lenV .sn h1 = .ok (.i .i64 0) h1 := fun _ => rfl
      rw [hx]
      simp (disch := omega) only [f6_r8, w_skip, w_reg, w_seq, w_cond, seqK_n, ckB_b, cbB_b, okG_b, okG_u, asG_t, asG_f, asG_u, true_and, x_nil, x_g, x_mv, x_as, x_pick, x_bin, x_eqk, x_not, x_ext, x_len, kx, rvP_ok, okv_some, ev_t, ev_c, getV_some, putD_some, bin_neq, pick_b, onB_b, onTup_t, oGet_s, nth0, nth1, of0, of1, getK_set, Nat.reduceEqDiff, ↓reduceIte, Bool.false_eq_true, Bool.not_true, Bool.not_false, ne0, ne1, kb, b0, cond_true, l0]
      exact rest _ _ gr14 (by simp (disch := omega) only [getK_set, Nat.reduceEqDiff, ↓reduceIte, g0, g1, g2, g7, g8, g9, g10, and_self])
  · obtain rfl : r = 2 := by omega
    have hlt' : ¬ ((2 : Nat) : Int) < 2 := by omega
    simp (disch := omega) only [f6_r4, f6_r23, f6_rs, w_reg, w_seq, w_cond, w_exit, w_ret, seqK_n, seqK_e, atK_e, loopK_e, ckB_b, cbB_b, true_and, retK_r, x_nil, x_mv, x_as, x_bin, x_call, kx, rvP_ok, okv_some, ev_t, ev_c, evs_nil, getV_some, putD_some, bin_lss, oGet_s, readRs_nil, readRs_t, retV_1, of2, Option.some.injEq, exists_eq_left', getK_set, ↓reduceIte, Bool.false_eq_true, g10, hlt', decide_false, k.aw]
    exact gr1
end
end Go.Ev
