/-
  Rounds: whether a schedule is perfect; rings of two rounds.
  Rounds: schedules that are made.
  Rounds: is it a round, a beginning, a schedule? (the reference)
  Rounds: schedules that are made, checked by the reference.
  Rounds: the law RoundsFollows.
  Rounds: sums of follow numbers; other names.
  Rounds: Rings of the program; the law RoundsSums.
-/
import Derived.Test.YthememdeglgnpaaPg
namespace Go.Ev
open Go Go.RowKit
noncomputable def f56_r0 : List EOper := [⟨(some (K.ofNat 4)), none, .as (.c (.b false))⟩]
noncomputable def f56_r1 : List EOper := [⟨(some (K.ofNat 9)), none, .mv (.t (K.ofNat 0))⟩, ⟨(some (K.ofNat 10)), none, .len (.t (K.ofNat 9))⟩, ⟨(some (K.ofNat 11)), none, .mv (.c (.i .i64 (.ofNat 0)))⟩]
noncomputable def f56_r2 : List EOper := [⟨(some (K.ofNat 12)), none, .bin .lss (.t (K.ofNat 11)) (.t (K.ofNat 10))⟩]
noncomputable def f56_r3 : List EOper := [⟨(some (K.ofNat 13)), none, .mv (.t (K.ofNat 11))⟩, ⟨(some (K.ofNat 14)), none, .iads 1 (.t (K.ofNat 9)) (.t (K.ofNat 11))⟩, ⟨(some (K.ofNat 15)), none, .ld (.t (K.ofNat 14))⟩, ⟨(some (K.ofNat 5)), none, .as (.t (K.ofNat 13))⟩, ⟨(some (K.ofNat 6)), none, .as (.t (K.ofNat 15))⟩]
noncomputable def f56_r4 : List EOper := [⟨(some (K.ofNat 16)), none, .mv (.t (K.ofNat 0))⟩, ⟨(some (K.ofNat 17)), none, .mv (.t (K.ofNat 5))⟩, ⟨(some (K.ofNat 18)), none, .slice 1 (.t (K.ofNat 16)) none (some (.t (K.ofNat 17))) none⟩, ⟨(some (K.ofNat 19)), none, .len (.t (K.ofNat 18))⟩, ⟨(some (K.ofNat 20)), none, .mv (.c (.i .i64 (.ofNat 0)))⟩]
noncomputable def f56_r5 : List EOper := [⟨(some (K.ofNat 21)), none, .bin .lss (.t (K.ofNat 20)) (.t (K.ofNat 19))⟩]
noncomputable def f56_r6 : List EOper := [⟨(some (K.ofNat 22)), none, .iads 1 (.t (K.ofNat 18)) (.t (K.ofNat 20))⟩, ⟨(some (K.ofNat 23)), none, .ld (.t (K.ofNat 22))⟩, ⟨(some (K.ofNat 8)), none, .as (.t (K.ofNat 23))⟩]
noncomputable def f56_r7 : List EOper := [⟨(some (K.ofNat 24)), none, .mv (.t (K.ofNat 1))⟩, ⟨(some (K.ofNat 25)), none, .mv (.t (K.ofNat 8))⟩, ⟨(some (K.ofNat 26)), none, .mv (.t (K.ofNat 6))⟩, ⟨(some (K.ofNat 27)), none, .call (.c (.fn (K.ofNat 69) [])) [(.t (K.ofNat 24)), (.t (K.ofNat 25)), (.t (K.ofNat 26))]⟩, ⟨(some (K.ofNat 28)), none, .len (.t (K.ofNat 27))⟩, ⟨(some (K.ofNat 29)), none, .bin .gtr (.t (K.ofNat 28)) (.c (.i .i64 (.ofNat 1)))⟩]
noncomputable def f56_r8 : List EOper := [⟨(some (K.ofNat 4)), none, .as (.c (.b false))⟩]
noncomputable def f56_r9 : List EOper := [⟨(some (K.ofNat 30)), none, .bin .add (.t (K.ofNat 20)) (.c (.i .i64 (.ofNat 1)))⟩, ⟨(some (K.ofNat 20)), none, .mv (.t (K.ofNat 30))⟩]
noncomputable def f56_l0 : EC := (.seq (.reg f56_r5) (.seq (.cond (.t (K.ofNat 21)) .skip (.exit 2)) (.seq (.block 3 (.seq (.reg f56_r6) (.seq (.reg f56_r7) (.cond (.t (K.ofNat 29)) (.seq (.reg f56_r8) .ret) .skip)))) (.reg f56_r9))))
noncomputable def f56_r10 : List EOper := [⟨(some (K.ofNat 31)), none, .bin .add (.t (K.ofNat 11)) (.c (.i .i64 (.ofNat 1)))⟩, ⟨(some (K.ofNat 11)), none, .mv (.t (K.ofNat 31))⟩]
noncomputable def f56_l1 : EC := (.seq (.reg f56_r2) (.seq (.cond (.t (K.ofNat 12)) .skip (.exit 0)) (.seq (.block 1 (.seq (.reg f56_r3) (.seq (.reg f56_r4) (.block 2 (.loop f56_l0))))) (.reg f56_r10))))
noncomputable def f56_r11 : List EOper := [⟨(some (K.ofNat 4)), none, .as (.c (.b true))⟩]
noncomputable def f56_c : EC := (.seq (.reg f56_r0) (.seq (.seq (.reg f56_r1) (.block 0 (.loop f56_l1))) (.seq (.reg f56_r11) .ret)))
noncomputable def f56 : EF := ⟨32, [.tmp (K.ofNat 4)], f56_c, none⟩
theorem f56_rs : f56.rs = [.tmp (K.ofNat 4)] := of_eq_true (eq_self _)
noncomputable def f20_r0 : List EOper := [⟨(some (K.ofNat 4)), none, .as (.c (.b false))⟩, ⟨(some (K.ofNat 5)), none, .as (.c (.i .i64 (.ofNat 0)))⟩]
noncomputable def f20_r1 : List EOper := [⟨(some (K.ofNat 9)), none, .mv (.t (K.ofNat 0))⟩, ⟨(some (K.ofNat 10)), none, .mv (.t (K.ofNat 1))⟩, ⟨(some (K.ofNat 11)), none, .call (.c (.fn (K.ofNat 51) [])) [(.t (K.ofNat 9)), (.t (K.ofNat 10))]⟩, ⟨(some (K.ofNat 8)), none, .mv (.t (K.ofNat 11))⟩, ⟨(some (K.ofNat 12)), none, .ext (.t (K.ofNat 8)) 0⟩, ⟨(some (K.ofNat 13)), none, .ext (.t (K.ofNat 8)) 1⟩, ⟨(some (K.ofNat 6)), none, .as (.t (K.ofNat 12))⟩, ⟨(some (K.ofNat 7)), none, .as (.t (K.ofNat 13))⟩]
noncomputable def f20_r2 : List EOper := [⟨(some (K.ofNat 14)), none, .mv (.t (K.ofNat 7))⟩, ⟨(some (K.ofNat 15)), none, .bin .neq (.t (K.ofNat 14)) (.c (.i .i64 (.ofNat 0)))⟩]
noncomputable def f20_r3 : List EOper := [⟨(some (K.ofNat 16)), none, .mv (.t (K.ofNat 7))⟩, ⟨(some (K.ofNat 4)), none, .as (.c (.b false))⟩, ⟨(some (K.ofNat 5)), none, .as (.t (K.ofNat 16))⟩]
noncomputable def f20_r4 : List EOper := [⟨(some (K.ofNat 17)), none, .mv (.t (K.ofNat 6))⟩, ⟨(some (K.ofNat 18)), none, .mv (.t (K.ofNat 0))⟩, ⟨(some (K.ofNat 19)), none, .call (.c (.fn (K.ofNat 56) [])) [(.t (K.ofNat 17)), (.t (K.ofNat 18))]⟩, ⟨(some (K.ofNat 4)), none, .as (.t (K.ofNat 19))⟩, ⟨(some (K.ofNat 5)), none, .as (.c (.i .i64 (.ofNat 0)))⟩]
noncomputable def f20_c : EC := (.seq (.reg f20_r0) (.seq (.reg f20_r1) (.seq (.seq (.reg f20_r2) (.cond (.t (K.ofNat 15)) (.seq (.reg f20_r3) .ret) .skip)) (.seq (.reg f20_r4) .ret))))
noncomputable def f20 : EF := ⟨20, [.tmp (K.ofNat 4), .tmp (K.ofNat 5)], f20_c, none⟩
theorem f20_rs : f20.rs = [.tmp (K.ofNat 4), .tmp (K.ofNat 5)] := of_eq_true (eq_self _)
/-- Do the rounds before i make one ring with it, up to k? -/
def prR (n : Nat) (Ls : List (List (Int × Int))) (i k : Nat) : Bool := (List.range k).all fun k => !decide (((rgL (Ls.getD i []) (Ls.getD k []) n).length : Int) ≠ 1)
def prS (n : Nat) (Ls : List (List (Int × Int))) (i : Nat) : Bool := (List.range i).all fun i => prR n Ls i i
theorem prR_succ {n : Nat} {Ls : List (List (Int × Int))} {i k : Nat} : prR n Ls i (k + 1) = (prR n Ls i k && !decide (((rgL (Ls.getD i []) (Ls.getD k []) n).length : Int) ≠ 1)) := by
  unfold prR; rw [List.range_succ, List.all_append]; simp
theorem prS_succ {n : Nat} {Ls : List (List (Int × Int))} {i : Nat} : prS n Ls (i + 1) = (prS n Ls i && prR n Ls i i) := by
  unfold prS; rw [List.range_succ, List.all_append]; simp
theorem prR_le {n : Nat} {Ls : List (List (Int × Int))} {i k m : Nat} (h : k ≤ m) (hf : prR n Ls i k = false) : prR n Ls i m = false := by
  rw [Bool.eq_false_iff] at hf ⊢
  intro hm; apply hf
  unfold prR at hm ⊢
  rw [List.all_eq_true] at hm ⊢
  exact fun x hx => hm x (by simp at hx ⊢; omega)
theorem prS_le {n : Nat} {Ls : List (List (Int × Int))} {k m : Nat} (h : k ≤ m) (hf : prS n Ls k = false) : prS n Ls m = false := by
  rw [Bool.eq_false_iff] at hf ⊢
  intro hm; apply hf
  unfold prS at hm ⊢
  rw [List.all_eq_true] at hm ⊢
  exact fun x hx => hm x (by simp at hx ⊢; omega)
section
variable {fs : T EF} {h : H} {v : V} {us : List V} {Ls : List (List (Int × Int))} {n : Nat}
structure CallsPf (fs : T EF) : Prop extends CallsRg fs where
  c69 : fs.get (K.ofNat 69) = some f69
def f56_I (h : H) (v : V) (Ls : List (List (Int × Int))) (n : Nat) (i : Nat) (fr : Fr) (h1 : H) : Prop := i ≤ Ls.length ∧ Grow h.nx.nat h h1 ∧ prS n Ls i = true ∧ fr.get (K.ofNat 0) = some (v) ∧ fr.get (K.ofNat 1) = some (.i .i64 (n : Int)) ∧ fr.get (K.ofNat 9) = some (v) ∧ fr.get (K.ofNat 10) = some (.i .i64 (Ls.length : Int)) ∧ fr.get (K.ofNat 11) = some (.i .i64 (i : Int))
def f56_J (h : H) (v u w : V) (Ls : List (List (Int × Int))) (n : Nat) (i k : Nat) (fr : Fr) (h1 : H) : Prop := k ≤ i ∧ Grow h.nx.nat h h1 ∧ prR n Ls i k = true ∧ fr.get (K.ofNat 0) = some (v) ∧ fr.get (K.ofNat 1) = some (.i .i64 (n : Int)) ∧ fr.get (K.ofNat 6) = some (u) ∧ fr.get (K.ofNat 9) = some (v) ∧ fr.get (K.ofNat 10) = some (.i .i64 (Ls.length : Int)) ∧ fr.get (K.ofNat 11) = some (.i .i64 (i : Int)) ∧ fr.get (K.ofNat 18) = some (w) ∧ fr.get (K.ofNat 19) = some (.i .i64 (i : Int)) ∧ fr.get (K.ofNat 20) = some (.i .i64 (k : Int))
theorem f56_ret (kk : CallsPf fs) (hv : Nrp h v us Ls) (hvd : Vld n Ls) (hl : Ls.length ≤ 100) (hl2 : ∀ l ∈ Ls, l.length ≤ 100) (hn : n ≤ 12) (hn1 : 1 ≤ n) (hc : HC h) : Ret fs f56 [v, .i .i64 (n : Int)] h fun r h' => r = .b (prS n Ls Ls.length) ∧ Grow h.nx.nat h h' := by
  have hlen : ∀ h1, lenV v h1 = .ok (.i .i64 (Ls.length : Int)) h1 := fun h1 => by rw [hv.out.len, hv.len]
  apply ret_of rfl
  show W fs none f56_c _ _ _
  unfold f56_c
  simp (disch := omega) only [f56_r0, f56_r1, w_reg, w_seq, w_block, seqK_n, x_nil, x_mv, x_as, x_len, kx, rvP_ok, ev_t, ev_c, getV_some, putD_some, frame_2, of0, getK_set, Nat.reduceEqDiff, ↓reduceIte, hlen]
  refine W_loop (f56_I h v Ls n) (fun i => Ls.length - i) ?_ 0 ⟨by omega, Grow.refl _ _, rfl, by simp (disch := omega) only [getK_set, Nat.reduceEqDiff, ↓reduceIte, and_self, Int.natCast_zero]⟩
  rintro i fr h1 ⟨hi, hG, hP, g0, g1, g9, g10, g11⟩
  have hc1 := hG.hc hc
  have hv1 := hv.grow hc hG
  unfold f56_l1
  by_cases hlt : i < Ls.length
  · have d0 : decide ((i : Int) < (Ls.length : Int)) = true := by simpa using hlt
    have hps := prS_succ (n := n) (Ls := Ls) (i := i)
    rw [hP, Bool.true_and] at hps
    have hiu : i < us.length := by rw [hv.len]; exact hlt
    obtain ⟨p, p1, p2⟩ := hv1.out.at i hiu
    have p2 : loadV h1 p one? = .ok us[i] h1 := p2
    obtain ⟨w, cw, sw, _⟩ := hv.out.cut (lo := none) (hi := some (.i .i64 (i : Int))) (l := 0) (u := i) bnd_none bnd_i (by omega) (by omega)
    rw [List.drop_zero] at sw
    have hwl := sw.len
    rw [List.length_take, Nat.min_eq_left (by omega)] at hwl
    have hui := hv.inn i hiu hlt
    have r1 := hvd.rnd _ (List.getElem_mem hlt)
    have la := hl2 _ (List.getElem_mem hlt)
    generalize us[i] = ua at *
    simp (disch := omega) only [f56_r2, f56_r3, f56_r4, w_skip, w_reg, w_seq, w_cond, w_block, seqK_n, ckB_b, cbB_b, true_and, x_nil, x_mv, x_as, x_ld, x_bin, x_slice, sliceV_eq, Option.map_none, Option.map_some, x_iads, x_len, kx, rvP_ok, okv_some, ev_t, ev_c, getV_some, putD_some, bin_lss, of0, getK_set, Nat.reduceEqDiff, ↓reduceIte, g0, g9, g10, g11, d0, p1, p2, cw, hwl]
    refine W_loop (f56_J h v ua w Ls n i) (fun k => i - k) ?_ 0 ⟨by omega, hG, rfl, by simp (disch := omega) only [getK_set, Nat.reduceEqDiff, ↓reduceIte, g0, g1, g9, g10, g11, and_self, Int.natCast_zero]⟩
    have hG1 := hG
    clear g0 g1 g9 g10 g11 fr hG p1 p2 cw
    rintro k fr h2 ⟨hk, hG, hR, g0, g1, g6, g9, g10, g11, g18, g19, g20⟩
    have hc2 := hG.hc hc
    have hv2 := hv.grow hc hG
    unfold f56_l0
    by_cases hlt2 : k < i
    · have d1 : decide ((k : Int) < (i : Int)) = true := by simpa using hlt2
      have hkl : k < Ls.length := by omega
      have hku : k < us.length := by rw [hv.len]; exact hkl
      have r2 := hvd.rnd _ (List.getElem_mem hkl)
      have lb := hl2 _ (List.getElem_mem hkl)
      obtain ⟨q, q1, q2⟩ := (sw.grow hc hG).at k (by simp; omega)
      have q2 : loadV h2 q one? = .ok us[k] h2 := by
        rw [List.getElem_take] at q2; exact q2
      have hub := hv2.inn k hku hkl
      have hua := hui.grow hc hG
      have hrs := prR_succ (n := n) (Ls := Ls) (i := i) (k := k)
      rw [hR, Bool.true_and, getD_at hlt, getD_at hkl, ← rg_comm r2 r1 hn1] at hrs
      generalize us[k] = ub at *
      generalize Ls[i] = a at *
      generalize Ls[k] = b at *
      simp (disch := omega) only [f56_r5, f56_r6, f56_r7, w_skip, w_reg, w_seq, w_cond, w_block, seqK_n, ckB_b, cbB_b, true_and, x_nil, x_mv, x_as, x_ld, x_bin, x_iads, x_call, kx, rvP_ok, okv_some, ev_t, ev_c, evs_nil, evs_cons, getV_some, putD_some, bin_lss, of1, getK_set, Nat.reduceEqDiff, ↓reduceIte, g1, g6, g18, g19, g20, d1, q1, q2]
      refine (callP_0 (ef := f69) kk.c69 rfl (f69_ret kk.toCallsRg hub hua (by omega) (by omega) r2 r1 hn hn1 hc2)).mono ?_
      rintro r h3 ⟨hr, _, hG3⟩
      have hGa := hG.trans (hG3.low hG.nx)
      have hrl := hr.len
      cases hd : decide (((rgL b a n).length : Int) > 1) with
      | true =>
        rw [hd] at hrs
        have hf := prS_le (m := Ls.length) (show i + 1 ≤ Ls.length by omega) (by rw [hps]; exact prR_le (show k + 1 ≤ i by omega) hrs)
        simp (disch := omega) only [f56_r8, f56_rs, w_reg, w_seq, w_cond, w_ret, seqK_n, seqK_r, atK_r, loopK_r, ckB_b, cbB_b, true_and, retK_r, x_nil, x_as, x_bin, x_len, kx, rvP_ok, okv_some, ev_t, ev_c, getV_some, putD_some, bin_gtr, oGet_s, readRs_nil, readRs_t, retV_1, Option.some.injEq, exists_eq_left', getK_set, ↓reduceIte, hrl, hd, hf, true_and]
        exact hGa
      | false =>
        rw [hd] at hrs
        simp (disch := omega) only [f56_r9, w_skip, w_reg, w_cond, seqK_n, atK_n, loopK_n, ckB_b, cbB_b, true_and, x_nil, x_mv, x_bin, x_len, kx, rvP_ok, okv_some, ev_t, ev_c, getV_some, putD_some, bin_add, bin_gtr, of1, getK_set, Nat.reduceEqDiff, ↓reduceIte, Bool.false_eq_true, g20, hrl, hd, fw64]
        exact ⟨k + 1, by omega, by omega, hGa, hrs, by simp (disch := omega) only [getK_set, Nat.reduceEqDiff, ↓reduceIte, g0, g1, g6, g9, g10, g11, g18, g19, and_self, Int.natCast_add, Int.natCast_one]⟩
    · have d1 : decide ((k : Int) < (i : Int)) = false := by simpa using hlt2
      have ek : k = i := by omega
      rw [ek] at hR
      simp (disch := omega) only [f56_r5, f56_r10, w_reg, w_seq, w_cond, w_exit, seqK_n, seqK_e, atK_n, atK_e, loopK_n, loopK_e, ckB_b, cbB_b, true_and, x_nil, x_mv, x_bin, kx, rvP_ok, okv_some, ev_t, ev_c, getV_some, putD_some, bin_add, bin_lss, of1, getK_set, Nat.reduceEqDiff, ↓reduceIte, Bool.false_eq_true, g11, g19, g20, d1, fw64]
      exact ⟨i + 1, by omega, by omega, hG, by rw [hps, hR], by simp (disch := omega) only [getK_set, Nat.reduceEqDiff, ↓reduceIte, g0, g1, g9, g10, and_self, Int.natCast_add, Int.natCast_one]⟩
  · have d0 : decide ((i : Int) < (Ls.length : Int)) = false := by simpa using hlt
    have ei : i = Ls.length := by omega
    rw [ei] at hP
    simp (disch := omega) only [f56_r2, f56_r11, f56_rs, w_reg, w_seq, w_cond, w_exit, w_ret, seqK_n, seqK_e, atK_e, loopK_e, ckB_b, cbB_b, true_and, retK_r, x_nil, x_as, x_bin, kx, rvP_ok, okv_some, ev_t, ev_c, getV_some, putD_some, bin_lss, oGet_s, readRs_nil, readRs_t, retV_1, Option.some.injEq, exists_eq_left', getK_set, ↓reduceIte, Bool.false_eq_true, g10, g11, d0, hP, true_and]
    exact hG
theorem f20_ret (k : CallsPf fs) (kc : CallsCh fs) (h56 : fs.get (K.ofNat 56) = some f56) (hn : ok5 (n : Int)) (hv : Nrp h v us Ls) (hL2 : ∀ l ∈ Ls, l.length ≤ 9223372036854775807) (hsh : shB n Ls = true) (hc : HC h) : Ret fs f20 [.i .i64 (n : Int), v] h fun r h' => r = .tup [.b (prS n Ls Ls.length), .i .i64 0] ∧ Grow h.nx.nat h h' := by
  have hn' := hn
  unfold ok5 at hn'
  obtain ⟨hvd, hlen⟩ := sh_vld hsh
  have hfew := hvd.few (by omega) (by omega)
  apply ret_of rfl
  show W fs none f20_c _ _ _
  unfold f20_c
  simp (disch := omega) only [f20_r0, f20_r1, w_reg, w_seq, seqK_n, x_nil, x_mv, x_as, x_call, ev_t, ev_c, evs_nil, evs_cons, getV_some, putD_some, frame_2, of0, getK_set, Nat.reduceEqDiff, ↓reduceIte]
  refine (callP_0 (ef := f51) kc.c51 rfl (f51_ret kc hn hv hL2 hc)).mono ?_
  rintro r h2 ⟨c, ws, rfl, hs, hG⟩
  rw [if_pos hsh] at hs ⊢
  obtain ⟨hs, _⟩ := hs
  have ne0 : decide ((0 : Int) ≠ 0) = false := rfl
  simp (disch := omega) only [f20_r2, f20_r4, w_skip, w_reg, w_seq, w_cond, seqK_n, ckB_b, cbB_b, true_and, x_nil, x_mv, x_as, x_bin, x_ext, x_call, kx, rvP_ok, okv_some, ev_t, ev_c, evs_nil, evs_cons, getV_some, putD_some, bin_neq, onTup_t, nth0, nth1, of0, getK_set, Nat.reduceEqDiff, ↓reduceIte, Bool.false_eq_true, ne0]
  refine (callP_0 (ef := f56) h56 rfl (f56_ret k hs.nrp hvd (by omega) (fun l hl => (hfew.2 l hl).1) (by omega) (by omega) (hG.hc hc))).mono ?_
  rintro r h3 ⟨rfl, hG3⟩
  simp (disch := omega) only [f20_rs, w_ret, seqK_n, true_and, retK_r, x_nil, x_as, kx, ev_t, ev_c, getV_some, putD_some, oGet_s, readRs_nil, readRs_t, retV_2, Option.some.injEq, exists_eq_left', getK_set, Nat.reduceEqDiff, ↓reduceIte, true_and]
  exact hG.trans (hG3.low hG.nx)
end
end Go.Ev
namespace Go.Ev
open Go Go.RowKit
section
variable {h h' : H} {v u : V} {us : List V} {Ls : List (List (Int × Int))} {L : List (Int × Int)} {b : Nat}
end
section
variable {fs : T EF} {h : H}
end
section
variable {fs : T EF} {h : H}
end
end Go.Ev
namespace Go.Ev
open Go Go.RowKit
section
variable {fs : T EF} {h : H} {v : V} {us : List V} {Ls : List (List (Int × Int))} {l : List (Int × Int)} {n : Nat}
end
end Go.Ev
namespace Go.Ev
open Go Go.RowKit
section
variable {fs : T EF} {h : H} {v : V} {us : List V} {Ls : List (List (Int × Int))} {n : Nat}
end
end Go.Ev
namespace Go.Ev
open Go Go.RowKit
section
variable {fs : T EF} {n : Nat} {Q : List (List (Int × Int))}
theorem fw_len : (fwT Q n).length = n := by simp [fwT]
theorem nm_in {B : List Int} : ∀ x ∈ nmL B n, 0 ≤ x ∧ x < (n : Int) := fun _ hx => nmL_mem.1 hx
theorem ren_sh {B : List Int} (_hn : ok5 (n : Int)) (h : shB n Q = true) : shB n (renS (nmL B n) Q) = true := by
  obtain ⟨hv, hl⟩ := sh_vld h
  refine (hv.ren nmL_nodup nmL_len nm_in).sh ?_
  simp [renS, hl]
structure Sched (n : Nat) (Q : List (List (Int × Int))) : Prop where
  ok : ok5 (n : Int)
  sh : shB n Q = true
  vd : Vld n Q
  len : Q.length = n - 1
  row : ∀ l ∈ Q, l.length ≤ 100
  big : ∀ l ∈ Q, l.length ≤ 9223372036854775807
  bd : n ≤ 10 ∧ 2 ≤ n
theorem Sched.of (hn : ok5 (n : Int)) (hs : shB n Q = true) : Sched n Q := by
  obtain ⟨hv, hl⟩ := sh_vld hs
  have hn' := hn
  unfold ok5 at hn'
  have hf := hv.few (by omega) (by omega)
  exact ⟨hn, hs, hv, hl, fun l hl => (hf.2 l hl).1, fun l hl => by have := (hf.2 l hl).1; omega, by omega, by omega⟩
theorem Sched.inn (s : Sched n Q) {M : List Int} (hM : M.length = n) : InN M.length Q := fun l hl e he => by
  have := rnd_e (s.vd.rnd l hl) e he
  omega
/-- The next schedule. -/
def nx4 (k : Nat) : Nat := 4 + 4 * (k % 2)
end
end Go.Ev
namespace Go.Ev
open Go Go.RowKit
section
variable {n : Nat} {Q : List (List (Int × Int))}
theorem nx_in (v : Vld n Q) {r : Nat} (hr : r < Q.length) {t : Nat} (ht : t < n) : ∃ u : Nat, u < n ∧ nxT Q (t : Int) r = (u : Int) := by
  obtain ⟨j, hj, ej⟩ := op_in v hr ht
  obtain ⟨y, hy, ey⟩ := op_in v (show (r + 1) % Q.length < Q.length from Nat.mod_lt _ (by omega)) hj
  exact ⟨y, hy, by unfold nxT; rw [ej]; exact ey⟩
/-- A row's sum. -/
theorem row_sum (v : Vld n Q) {t : Nat} (ht : t < n) : ∀ m, m ≤ Q.length → sm (fun k => rfI Q (t : Int) (k : Int) m) n = (m : Int)
  | 0, _ => by
    show sm (fun k => rfI Q (t : Int) (k : Int) 0) n = 0
    rw [show (fun k : Nat => rfI Q (t : Int) (k : Int) 0) = fun _ => 0 from rfl, sm_zero]
  | m + 1, hm => by
    have ih := row_sum v ht m (by omega)
    obtain ⟨u, hu, e⟩ := nx_in v (show m < Q.length by omega) ht
    rw [show (fun k : Nat => rfI Q (t : Int) (k : Int) (m + 1)) = fun k : Nat => rfI Q (t : Int) (k : Int) m + (if nxT Q (t : Int) m = (k : Int) then 1 else 0) from rfl, sm_add, ih, sm_at hu (fun k _ hk => by rw [if_neg]; rw [e]; omega), if_pos e]
    omega
/-- A column's sum. -/
theorem col_sum (v : Vld n Q) {k : Nat} (hk : k < n) : ∀ m, m ≤ Q.length → sm (fun t => rfI Q (t : Int) (k : Int) m) n = (m : Int)
  | 0, _ => by
    show sm (fun t => rfI Q (t : Int) (k : Int) 0) n = 0
    rw [show (fun t : Nat => rfI Q (t : Int) (k : Int) 0) = fun _ => 0 from rfl, sm_zero]
  | m + 1, hm => by
    have ih := col_sum v hk m (by omega)
    have hm' : m < Q.length := by omega
    have hp : (m + 1) % Q.length < Q.length := Nat.mod_lt _ (by omega)
    obtain ⟨j, hj, ej⟩ := op_in v hp hk
    obtain ⟨t0, ht, et⟩ := op_in v hm' hj
    have b1 := op_op v hm' hj et
    have b2 := op_op v hp hk ej
    have e0 : nxT Q (t0 : Int) m = (k : Int) := by unfold nxT; rw [b1, b2]
    have un : ∀ t, t < n → t ≠ t0 → nxT Q (t : Int) m ≠ (k : Int) := fun t htn hne e => by
      obtain ⟨i, hi, ei⟩ := op_in v hm' htn
      unfold nxT at e
      rw [ei] at e
      have c1 := op_op v hp hi e
      rw [ej] at c1
      have c2 := op_op v hm' htn ei
      have : i = j := by omega
      subst this
      rw [et] at c2
      omega
    rw [show (fun t : Nat => rfI Q (t : Int) (k : Int) (m + 1)) = fun t : Nat => rfI Q (t : Int) (k : Int) m + (if nxT Q (t : Int) m = (k : Int) then 1 else 0) from rfl, sm_add, ih, sm_at ht (fun t h1 h2 => by rw [if_neg (un t h1 h2)]), if_pos e0]
    omega
/-- Nobody follows themselves. -/
theorem diag0 (v : Vld n Q) (hl : Q.length = n - 1) (hn : 2 < n) {t : Nat} (ht : t < n) : rfI Q (t : Int) (t : Int) Q.length = 0 := by
  unfold rfI
  rw [sm_cong (g := fun _ => 0) _ fun r hr => ?_, sm_zero]
  rw [if_neg]
  intro e
  have hp : (r + 1) % Q.length < Q.length := Nat.mod_lt _ (by omega)
  obtain ⟨j, hj, ej⟩ := op_in v hr ht
  unfold nxT at e
  rw [ej] at e
  have b := op_op v hp hj e
  have w1 := (wh_op v ht hr).2 ej
  have w2 := (wh_op v ht hp).2 b
  rw [w1] at w2
  injection w2 with w2
  by_cases h : r + 1 = Q.length
  · rw [h, Nat.mod_self] at w2; omega
  · rw [Nat.mod_eq_of_lt (by omega)] at w2; omega
theorem sm_le {f g : Nat → Int} : ∀ k, (∀ t, t < k → f t ≤ g t) → sm f k ≤ sm g k
  | 0, _ => Int.le_refl _
  | k + 1, h => by
    have h1 := sm_le k fun t ht => h t (by omega)
    have h2 := h k (by omega)
    show sm f k + f k ≤ sm g k + g k
    omega
theorem sq_ge (x : Int) : x ≤ x * x := by
  rcases Int.lt_or_le x 1 with h | h
  · have : 0 ≤ x * x := by
      rcases Int.le_total 0 x with h | h
      · exact Int.mul_nonneg h h
      · exact Int.mul_nonneg_of_nonpos_of_nonpos h h
    omega
  · have := Int.mul_le_mul_of_nonneg_right h (show 0 ≤ x by omega)
    omega
theorem sm_const {c : Int} : ∀ k : Nat, sm (fun _ => c) k = (k : Int) * c
  | 0 => by simp [sm]
  | k + 1 => by
    show sm (fun _ => c) k + c = _
    rw [sm_const k, Int.natCast_add, Int.natCast_one, Int.add_mul, Int.one_mul]
/-- The sum of the squares. -/
def sqS (Q : List (List (Int × Int))) (n : Nat) : Int := sm (fun t => sm (fun k => rfI Q (t : Int) (k : Int) Q.length * rfI Q (t : Int) (k : Int) Q.length) n) n
theorem sq_min (v : Vld n Q) : (n : Int) * (Q.length : Int) ≤ sqS Q n := by
  unfold sqS
  rw [← sm_const]
  refine sm_le _ fun t ht => ?_
  rw [← row_sum v ht Q.length (Nat.le_refl _)]
  exact sm_le _ fun k _ => sq_ge _
theorem bal_iff : balB (fwT Q n) n = true ↔ ∀ t k : Nat, t < n → k < n → t ≠ k → rfI Q (t : Int) (k : Int) Q.length = 1 := by
  unfold balB
  rw [List.all_eq_true]
  have hrow : ∀ t, t < n → (fwT Q n).getD t [] = (List.range n).map fun (k : Nat) => rfI Q (t : Int) (k : Int) Q.length := fun t ht => by
    rw [getD_at (by rw [fw_len]; exact ht)]; simp [fwT]
  constructor
  · intro h t k ht hk hne
    have h1 := h t (by simpa using ht)
    rw [hrow t ht] at h1
    unfold rowB at h1
    rw [List.all_eq_true] at h1
    have h2 := h1 k (by simpa using hk)
    rw [getD_at (by simpa using hk)] at h2
    simp only [List.getElem_map, List.getElem_range, Bool.or_eq_true, decide_eq_true_iff] at h2
    rcases h2 with h2 | h2
    · exact absurd h2 hne
    · exact h2
  · intro h t ht
    have ht : t < n := by simpa using ht
    rw [hrow t ht]
    unfold rowB
    rw [List.all_eq_true]
    intro k hk
    have hk : k < n := by simpa using hk
    rw [getD_at (by simpa using hk)]
    simp only [List.getElem_map, List.getElem_range, Bool.or_eq_true, decide_eq_true_iff]
    by_cases e : t = k
    · exact .inl e
    · exact .inr (h t k ht hk e)
theorem sm_split {f : Nat → Int} {t : Nat} : ∀ n, t < n → sm f n = f t + sm (fun k => if k = t then 0 else f k) n
  | 0, h => by omega
  | n + 1, h => by
    show sm f n + f n = f t + (sm (fun k => if k = t then 0 else f k) n + if n = t then 0 else f n)
    by_cases e : n = t
    · subst e
      have h1 : sm (fun k => if k = n then 0 else f k) n = sm f n := sm_cong n fun k hk => if_neg (by omega)
      rw [if_pos rfl, h1]; omega
    · rw [if_neg e, sm_split (f := f) (t := t) n (by omega)]; omega
theorem sq_bal (v : Vld n Q) (hl : Q.length = n - 1) (hb : balB (fwT Q n) n = true) : sqS Q n = (n : Int) * (Q.length : Int) := by
  have hb := bal_iff.1 hb
  unfold sqS
  rw [← sm_const]
  refine sm_cong _ fun t ht => ?_
  have hs := row_sum v ht Q.length (Nat.le_refl _)
  have e1 : ∀ k, k < n → (if k = t then 0 else rfI Q (t : Int) (k : Int) Q.length * rfI Q (t : Int) (k : Int) Q.length) = (if k = t then 0 else rfI Q (t : Int) (k : Int) Q.length) := fun k hk => by
    by_cases e : k = t
    · rw [if_pos e, if_pos e]
    · rw [if_neg e, if_neg e, hb t k ht hk (Ne.symm e)]; rfl
  have e2 : sm (fun k => if k = t then 0 else rfI Q (t : Int) (k : Int) Q.length) n = ((n - 1 : Nat) : Int) := by
    have h1 : ∀ k, k < n → (if k = t then 0 else rfI Q (t : Int) (k : Int) Q.length) = (if k = t then 0 else 1) := fun k hk => by
      by_cases e : k = t
      · rw [if_pos e, if_pos e]
      · rw [if_neg e, if_neg e, hb t k ht hk (Ne.symm e)]
    rw [sm_cong _ h1]
    have h2 := sm_split (f := fun _ => 1) n ht
    rw [sm_one] at h2
    omega
  have hs1 := sm_split (f := fun k : Nat => rfI Q (t : Int) (k : Int) Q.length) n ht
  rw [hs, e2] at hs1
  rw [sm_split (f := fun k : Nat => rfI Q (t : Int) (k : Int) Q.length * rfI Q (t : Int) (k : Int) Q.length) n ht, sm_cong _ e1, e2]
  have h0 : rfI Q (t : Int) (t : Int) Q.length = 0 := by omega
  rw [h0]
  omega
/-! ### Other names -/
theorem op_ren (v : Vld n Q) {M : List Int} (hM : M.length = n) (hr : ∀ x ∈ M, 0 ≤ x ∧ x < (n : Int)) (hd : M.Nodup) {r : Nat} (hrl : r < Q.length) {t : Nat} (ht : t < n) : opF ((renS M Q).getD r []) (M.getD t 0) = M.getD (opF (Q.getD r []) (t : Int)).toNat 0 := by
  have hrd := v.rnd (Q[r]) (List.getElem_mem hrl)
  have hrv := (v.ren hd hM hr).rnd ((renS M Q)[r]'(by simp [renS]; exact hrl)) (List.getElem_mem _)
  have e1 : (renS M Q).getD r [] = renR M Q[r] := by rw [getD_at (by simp [renS]; exact hrl)]; simp [renS]
  have e2 : (renS M Q)[r]'(by simp [renS]; exact hrl) = renR M Q[r] := by simp [renS]
  rw [e2] at hrv
  rw [e1, getD_at hrl]
  refine op_of (rnd_nd hrv) ?_
  rcases op_mem (rnd_all hrd (t := (t : Int)) (by omega)) with h | h
  · exact .inl (List.mem_map.2 ⟨_, h, by simp⟩)
  · exact .inr (List.mem_map.2 ⟨_, h, by simp⟩)
theorem ren_len {M : List Int} : (renS M Q).length = Q.length := by simp [renS]
theorem getM {M : List Int} (hM : M.length = n) (hr : ∀ x ∈ M, 0 ≤ x ∧ x < (n : Int)) {t : Nat} (ht : t < n) : ∃ u : Nat, u < n ∧ M.getD t 0 = (u : Int) := by
  have := hr (M[t]'(by omega)) (List.getElem_mem (by omega))
  rw [getD_at (by omega)]
  exact ⟨(M[t]'(by omega)).toNat, by omega, by omega⟩
theorem nx_ren (v : Vld n Q) {M : List Int} (hM : M.length = n) (hr : ∀ x ∈ M, 0 ≤ x ∧ x < (n : Int)) (hd : M.Nodup) {r : Nat} (hrl : r < Q.length) {t : Nat} (ht : t < n) : nxT (renS M Q) (M.getD t 0) r = M.getD (nxT Q (t : Int) r).toNat 0 := by
  have hp : (r + 1) % Q.length < Q.length := Nat.mod_lt _ (by omega)
  obtain ⟨j, hj, ej⟩ := op_in v hrl ht
  unfold nxT
  rw [ren_len, op_ren v hM hr hd hrl ht, ej, Int.toNat_natCast, op_ren v hM hr hd hp hj]
theorem rf_ren (v : Vld n Q) {M : List Int} (hM : M.length = n) (hr : ∀ x ∈ M, 0 ≤ x ∧ x < (n : Int)) (hd : M.Nodup) {t k : Nat} (ht : t < n) (hk : k < n) : rfI (renS M Q) (M.getD t 0) (M.getD k 0) Q.length = rfI Q (t : Int) (k : Int) Q.length := by
  unfold rfI
  refine sm_cong _ fun r hrl => ?_
  rw [nx_ren v hM hr hd hrl ht]
  obtain ⟨u, hu, e⟩ := nx_in v hrl ht
  rw [e, Int.toNat_natCast]
  have : M.getD u 0 = M.getD k 0 ↔ ((u : Nat) : Int) = (k : Int) := by
    constructor
    · intro h
      exact getD_inj hd (x := (u : Int)) (y := (k : Int)) (by omega) (by omega) (by simpa using h)
    · intro h
      rw [show u = k by omega]
  by_cases h : ((u : Nat) : Int) = (k : Int)
  · rw [if_pos h, if_pos (this.2 h)]
  · rw [if_neg h, if_neg (fun q => h (this.1 q))]
/-- Each team is some team's name. -/
theorem onto {M : List Int} (hM : M.length = n) (hr : ∀ x ∈ M, 0 ≤ x ∧ x < (n : Int)) (hd : M.Nodup) {u : Nat} (hu : u < n) : ∃ t : Nat, t < n ∧ M.getD t 0 = (u : Int) := by
  rcases Classical.em ((u : Int) ∈ M) with h | h
  · obtain ⟨t, ht, e⟩ := List.getElem_of_mem h
    exact ⟨t, by omega, by rw [getD_at ht]; exact e⟩
  · exfalso
    have h1 := nodup_le (l := (u : Int) :: M) (m := (List.range n).map fun (k : Nat) => (k : Int)) (List.nodup_cons.2 ⟨h, hd⟩) fun z hz => by
      rcases List.mem_cons.1 hz with rfl | hz
      · exact List.mem_map.2 ⟨u, by simpa using hu, rfl⟩
      · have := hr z hz
        exact List.mem_map.2 ⟨z.toNat, by simp; omega, by omega⟩
    simp at h1
    omega
theorem bal_ren (v : Vld n Q) {M : List Int} (hM : M.length = n) (hr : ∀ x ∈ M, 0 ≤ x ∧ x < (n : Int)) (hd : M.Nodup) : balB (fwT (renS M Q) n) n = balB (fwT Q n) n := by
  rw [Bool.eq_iff_iff, bal_iff, bal_iff, ren_len]
  constructor
  · intro h t k ht hk hne
    obtain ⟨a, ha, ea⟩ := getM hM hr ht
    obtain ⟨b, hb, eb⟩ := getM hM hr hk
    rw [← rf_ren v hM hr hd ht hk, ea, eb]
    refine h a b ha hb fun e => hne ?_
    have := getD_inj hd (x := (t : Int)) (y := (k : Int)) (by omega) (by omega) (by simp only [Int.toNat_natCast]; rw [ea, eb, e])
    omega
  · intro h t k ht hk hne
    obtain ⟨a, ha, ea⟩ := onto hM hr hd ht
    obtain ⟨b, hb, eb⟩ := onto hM hr hd hk
    rw [← ea, ← eb, rf_ren v hM hr hd ha hb]
    refine h a b ha hb fun e => hne ?_
    rw [e, eb] at ea
    omega
/-! ### One ring -/
def Full (A B : Int → Int) (n : Nat) : Prop := ∀ P : Int → Prop, (∀ x, 0 ≤ x ∧ x < (n : Int) → P x → P (A x) ∧ P (B x)) → ∀ x, 0 ≤ x ∧ x < (n : Int) → P x → ∀ y, 0 ≤ y ∧ y < (n : Int) → P y
theorem ring_all {A B : Int → Int} (iA : Inv A n) (iB : Inv B n) (P : Int → Prop) (cl : ∀ x, 0 ≤ x ∧ x < (n : Int) → P x → P (A x) ∧ P (B x)) : ∀ {k : Nat} {x : Int} {L : List Int}, 0 ≤ x ∧ x < (n : Int) → P x → (∀ z ∈ L, P z) → ∀ z ∈ ringR A B k x L, P z
  | 0, x, L, _, _, hL => hL
  | k + 1, x, L, hxr, hx, hL => by
    unfold ringR
    split
    · exact hL
    · have h1 := (cl x hxr hx).1
      have hr := iA.rng x hxr
      refine ring_all iA iB P cl (iB.rng _ hr) (cl _ hr h1).2 fun z hz => ?_
      rcases List.mem_append.1 hz with hz | hz
      · exact hL z hz
      · rcases List.mem_cons.1 hz with rfl | hz
        · exact hx
        · rw [List.mem_singleton.1 hz]; exact h1
theorem full_iff {A B : Int → Int} (iA : Inv A n) (iB : Inv B n) (hn : 1 ≤ n) : (ringR A B n 0 []).length = n ↔ Full A B n := by
  have e := ring_E iA iB (RingI.init (A := A) (B := B) (n := n) (t := 0) (by omega)) (k := n) (by simp; omega)
  constructor
  · intro hl P cl x hx hPx y hy
    have hall : ∀ z, 0 ≤ z ∧ z < (n : Int) → z ∈ ringR A B n 0 [] := fun z hz => by
      obtain ⟨t, ht, et⟩ := onto hl e.rng e.nd (u := z.toNat) (by omega)
      rw [getD_at (by omega)] at et
      have : z = (z.toNat : Int) := by omega
      rw [this, ← et]
      exact List.getElem_mem _
    rcases Classical.em (P 0) with h0 | h0
    · exact ring_all iA iB P cl (k := n) (L := []) (by omega) h0 (by simp) y (hall y hy)
    · exfalso
      have := ring_all iA iB (fun z => 0 ≤ z ∧ z < (n : Int) → ¬ P z) (fun z hz hn => ⟨fun hz2 hp => ?_, fun hz2 hp => ?_⟩) (k := n) (L := []) (by omega) (fun _ => h0) (by simp) x (hall x hx) hx
      · exact this hPx
      · have := (cl _ hz2 hp).1
        rw [iA.inv z hz] at this
        exact hn hz this
      · have := (cl _ hz2 hp).2
        rw [iB.inv z hz] at this
        exact hn hz this
  · intro hF
    refine all_len e.nd e.rng fun u hu => ?_
    exact hF (fun z => z ∈ ringR A B n 0 []) (fun x _ hx => ⟨e.clA x hx, e.clB x hx⟩) 0 (by omega) e.mem (u : Int) (by omega)
theorem full_ren {M : List Int} (hM : M.length = n) (hr : ∀ x ∈ M, 0 ≤ x ∧ x < (n : Int)) (hd : M.Nodup) {A B A' B' : Int → Int} (iA : Inv A n) (iB : Inv B n) (hA : ∀ t : Nat, t < n → A' (M.getD t 0) = M.getD (A (t : Int)).toNat 0) (hB : ∀ t : Nat, t < n → B' (M.getD t 0) = M.getD (B (t : Int)).toNat 0) : Full A B n ↔ Full A' B' n := by
  constructor
  · intro hF P cl x hx hP y hy
    obtain ⟨t, ht, et⟩ := onto hM hr hd (u := x.toNat) (by omega)
    obtain ⟨u, hu, eu⟩ := onto hM hr hd (u := y.toNat) (by omega)
    have ex : x = (x.toNat : Int) := by omega
    have ey : y = (y.toNat : Int) := by omega
    rw [ex, ← et] at hP
    rw [ey, ← eu]
    have := hF (fun z => P (M.getD z.toNat 0)) (fun z hz hPz => by
      obtain ⟨zn, rfl⟩ : ∃ zn : Nat, z = (zn : Int) := ⟨z.toNat, by omega⟩
      obtain ⟨a, ha, ea⟩ := getM hM hr (show zn < n by omega)
      have hPz : P (M.getD zn 0) := by simpa using hPz
      have := cl (M.getD zn 0) (by rw [ea]; omega) hPz
      rw [hA zn (by omega), hB zn (by omega)] at this
      exact this) (t : Int) (by omega) (by simpa using hP) (u : Int) (by omega)
    simpa using this
  · intro hF P cl x hx hP y hy
    have := hF (fun z => ∃ t : Nat, t < n ∧ z = M.getD t 0 ∧ P (t : Int)) (fun z hz hPz => by
      obtain ⟨t, ht, rfl, hPt⟩ := hPz
      have hc := cl (t : Int) (by omega) hPt
      have ra := iA.rng (t : Int) (by omega)
      have rb := iB.rng (t : Int) (by omega)
      exact ⟨⟨(A (t : Int)).toNat, by omega, hA t ht, by rw [Int.toNat_of_nonneg ra.1]; exact hc.1⟩, ⟨(B (t : Int)).toNat, by omega, hB t ht, by rw [Int.toNat_of_nonneg rb.1]; exact hc.2⟩⟩) (M.getD x.toNat 0) (by
        obtain ⟨a, ha, ea⟩ := getM hM hr (show x.toNat < n by omega)
        rw [ea]; omega) ⟨x.toNat, by omega, rfl, by rw [Int.toNat_of_nonneg hx.1]; exact hP⟩ (M.getD y.toNat 0) (by
        obtain ⟨a, ha, ea⟩ := getM hM hr (show y.toNat < n by omega)
        rw [ea]; omega)
    obtain ⟨t, ht, et, hPt⟩ := this
    have := getD_inj hd (x := y) (y := (t : Int)) (by omega) (by omega) (by simpa using et)
    rw [this]; exact hPt
theorem pr_ren (v : Vld n Q) (hn : 1 ≤ n) {M : List Int} (hM : M.length = n) (hr : ∀ x ∈ M, 0 ≤ x ∧ x < (n : Int)) (hd : M.Nodup) : prS n (renS M Q) (renS M Q).length = prS n Q Q.length := by
  rw [ren_len]
  have key : ∀ i k, i < Q.length → k < Q.length → decide (((rgL ((renS M Q).getD i []) ((renS M Q).getD k []) n).length : Int) ≠ 1) = decide (((rgL (Q.getD i []) (Q.getD k []) n).length : Int) ≠ 1) := fun i k hi hk => by
    have r1 : rndB n (Q.getD i []) = true := by rw [getD_at hi]; exact v.rnd _ (List.getElem_mem hi)
    have r2 : rndB n (Q.getD k []) = true := by rw [getD_at hk]; exact v.rnd _ (List.getElem_mem hk)
    have w := v.ren hd hM hr
    have r3 : rndB n ((renS M Q).getD i []) = true := by rw [getD_at (by rw [ren_len]; exact hi)]; exact w.rnd _ (List.getElem_mem _)
    have r4 : rndB n ((renS M Q).getD k []) = true := by rw [getD_at (by rw [ren_len]; exact hk)]; exact w.rnd _ (List.getElem_mem _)
    have h1 := (rg_one (rnd_inv r1) (rnd_inv r2) hn).trans (full_iff (rnd_inv r1) (rnd_inv r2) hn)
    have h2 := (rg_one (rnd_inv r3) (rnd_inv r4) hn).trans (full_iff (rnd_inv r3) (rnd_inv r4) hn)
    rw [← full_ren hM hr hd (rnd_inv r1) (rnd_inv r2) (fun t ht => op_ren v hM hr hd hi ht) (fun t ht => op_ren v hM hr hd hk ht), ← h1] at h2
    unfold rgL
    rw [srtL_len, srtL_len, Bool.eq_iff_iff, decide_eq_true_iff, decide_eq_true_iff]
    omega
  unfold prS prR
  rw [Bool.eq_iff_iff, List.all_eq_true, List.all_eq_true]
  constructor
  · intro h i hi
    have h1 := h i hi
    rw [List.all_eq_true] at h1 ⊢
    intro k hk
    rw [← key i k (by simpa using hi) (by simp at hi hk; omega)]
    exact h1 k hk
  · intro h i hi
    have h1 := h i hi
    rw [List.all_eq_true] at h1 ⊢
    intro k hk
    rw [key i k (by simpa using hi) (by simp at hi hk; omega)]
    exact h1 k hk
/-! ### Sums of rings -/
theorem fold_add : ∀ (L : List Int) (a : Int), L.foldl (· + ·) a = a + smI L
  | [], a => by simp [smI]
  | x :: L, a => by
    show L.foldl (· + ·) (a + x) = a + L.foldl (· + ·) (0 + x)
    rw [fold_add L, fold_add L]; omega
theorem smI_cons {x : Int} {L : List Int} : smI (x :: L) = x + smI L := by
  show L.foldl (· + ·) (0 + x) = _
  rw [fold_add]; omega
theorem smI_ins {x : Int} : ∀ {P : List Int}, smI (insL x P) = x + smI P
  | [] => by simp [insL, smI]
  | y :: P => by
    unfold insL
    split
    · rw [smI_cons, smI_ins, smI_cons]; omega
    · rw [smI_cons]
theorem smI_srt : ∀ (S P : List Int), smI (S.foldl (fun P x => insL x P) P) = smI P + smI S
  | [], P => by show smI P = smI P + 0; omega
  | x :: S, P => by
    show smI (S.foldl (fun P x => insL x P) (insL x P)) = _
    rw [smI_srt S, smI_ins, smI_cons]; omega
theorem rg_sum {a b : List (Int × Int)} (hra : rndB n a = true) (hrb : rndB n b = true) (hn : 1 ≤ n) : smI (rgL a b n) = (n : Int) ∧ (∀ s ∈ rgL a b n, ∃ q : Nat, s = 2 * (q : Int) ∧ 1 ≤ q) ∧ (rgL a b n).Pairwise (· ≤ ·) ∧ (rgL a b n).length ≤ n := by
  have hR := rgs_I (rnd_inv hra) (rnd_inv hrb) hn (Nat.le_refl _)
  refine ⟨?_, fun s hs => hR.evn s (srtL_mem hs), srtL_srt, by unfold rgL; rw [srtL_len]; exact hR.few⟩
  have h1 := all_len hR.nd hR.rng hR.all
  have h2 := smI_srt (rgs (opF a) (opF b) n n).2 []
  have h3 : smI ([] : List Int) = 0 := rfl
  unfold rgL srtL
  rw [h2, h3, hR.sum, h1]; omega
end
end Go.Ev
namespace Go.Ev
open Go Go.RowKit
noncomputable def f44_r0 : List EOper := [⟨(some (K.ofNat 6)), none, .as (.c .sn)⟩, ⟨(some (K.ofNat 7)), none, .as (.c (.i .i64 (.ofNat 0)))⟩]
noncomputable def f44_r1 : List EOper := [⟨(some (K.ofNat 12)), none, .mv (.t (K.ofNat 0))⟩, ⟨(some (K.ofNat 13)), none, .call (.c (.fn (K.ofNat 65) [])) [(.t (K.ofNat 12))]⟩, ⟨(some (K.ofNat 14)), none, .not (.t (K.ofNat 13))⟩]
noncomputable def f44_r2 : List EOper := [⟨(some (K.ofNat 6)), none, .as (.c .sn)⟩, ⟨(some (K.ofNat 7)), none, .as (.c (.i .i64 (.ofNat 1)))⟩]
noncomputable def f44_r3 : List EOper := [⟨(some (K.ofNat 16)), none, .mv (.t (K.ofNat 0))⟩, ⟨(some (K.ofNat 17)), none, .mv (.t (K.ofNat 1))⟩, ⟨(some (K.ofNat 18)), none, .call (.c (.fn (K.ofNat 68) [])) [(.t (K.ofNat 16)), (.t (K.ofNat 17))]⟩, ⟨(some (K.ofNat 15)), none, .mv (.t (K.ofNat 18))⟩, ⟨(some (K.ofNat 19)), none, .ext (.t (K.ofNat 15)) 0⟩, ⟨(some (K.ofNat 20)), none, .ext (.t (K.ofNat 15)) 1⟩, ⟨(some (K.ofNat 8)), none, .as (.t (K.ofNat 19))⟩, ⟨(some (K.ofNat 9)), none, .as (.t (K.ofNat 20))⟩]
noncomputable def f44_r4 : List EOper := [⟨(some (K.ofNat 22)), none, .mv (.t (K.ofNat 0))⟩, ⟨(some (K.ofNat 23)), none, .mv (.t (K.ofNat 2))⟩, ⟨(some (K.ofNat 24)), none, .call (.c (.fn (K.ofNat 68) [])) [(.t (K.ofNat 22)), (.t (K.ofNat 23))]⟩, ⟨(some (K.ofNat 21)), none, .mv (.t (K.ofNat 24))⟩, ⟨(some (K.ofNat 25)), none, .ext (.t (K.ofNat 21)) 0⟩, ⟨(some (K.ofNat 26)), none, .ext (.t (K.ofNat 21)) 1⟩, ⟨(some (K.ofNat 10)), none, .as (.t (K.ofNat 25))⟩, ⟨(some (K.ofNat 11)), none, .as (.t (K.ofNat 26))⟩]
noncomputable def f44_r5 : List EOper := [⟨(some (K.ofNat 27)), none, .mv (.t (K.ofNat 9))⟩, ⟨(some (K.ofNat 28)), none, .not (.t (K.ofNat 27))⟩, ⟨(some (K.ofNat 29)), none, .mv (.t (K.ofNat 28))⟩, ⟨(some (K.ofNat 30)), (some ((K.ofNat 29), false)), .mv (.t (K.ofNat 11))⟩, ⟨(some (K.ofNat 31)), (some ((K.ofNat 29), false)), .not (.t (K.ofNat 30))⟩, ⟨(some (K.ofNat 32)), none, .pick (.t (K.ofNat 29)) (.c (.b true)) (.t (K.ofNat 31))⟩]
noncomputable def f44_r6 : List EOper := [⟨(some (K.ofNat 6)), none, .as (.c .sn)⟩, ⟨(some (K.ofNat 7)), none, .as (.c (.i .i64 (.ofNat 40)))⟩]
noncomputable def f44_r7 : List EOper := [⟨(some (K.ofNat 33)), none, .mv (.t (K.ofNat 0))⟩, ⟨(some (K.ofNat 34)), none, .mv (.t (K.ofNat 8))⟩, ⟨(some (K.ofNat 35)), none, .mv (.t (K.ofNat 10))⟩, ⟨(some (K.ofNat 36)), none, .call (.c (.fn (K.ofNat 69) [])) [(.t (K.ofNat 33)), (.t (K.ofNat 34)), (.t (K.ofNat 35))]⟩, ⟨(some (K.ofNat 6)), none, .as (.t (K.ofNat 36))⟩, ⟨(some (K.ofNat 7)), none, .as (.c (.i .i64 (.ofNat 0)))⟩]
noncomputable def f44_c : EC := (.seq (.reg f44_r0) (.seq (.seq (.reg f44_r1) (.cond (.t (K.ofNat 14)) (.seq (.reg f44_r2) .ret) .skip)) (.seq (.reg f44_r3) (.seq (.reg f44_r4) (.seq (.seq (.reg f44_r5) (.cond (.t (K.ofNat 32)) (.seq (.reg f44_r6) .ret) .skip)) (.seq (.reg f44_r7) .ret))))))
noncomputable def f44 : EF := ⟨37, [.tmp (K.ofNat 6), .tmp (K.ofNat 7)], f44_c, none⟩
theorem f44_rs : f44.rs = [.tmp (K.ofNat 6), .tmp (K.ofNat 7)] := of_eq_true (eq_self _)
noncomputable def f11_r0 : List EOper := [⟨(some (K.ofNat 6)), none, .as (.c (.b false))⟩]
noncomputable def f11_r1 : List EOper := [⟨(some (K.ofNat 32)), none, .mv (.t (K.ofNat 0))⟩, ⟨(some (K.ofNat 33)), none, .mv (.t (K.ofNat 1))⟩, ⟨(some (K.ofNat 34)), none, .call (.c (.fn (K.ofNat 25) [])) [(.t (K.ofNat 32)), (.t (K.ofNat 33))]⟩, ⟨(some (K.ofNat 31)), none, .mv (.t (K.ofNat 34))⟩, ⟨(some (K.ofNat 35)), none, .ext (.t (K.ofNat 31)) 0⟩, ⟨(some (K.ofNat 36)), none, .ext (.t (K.ofNat 31)) 1⟩, ⟨(some (K.ofNat 7)), none, .as (.t (K.ofNat 35))⟩, ⟨(some (K.ofNat 8)), none, .as (.t (K.ofNat 36))⟩]
noncomputable def f11_r2 : List EOper := [⟨(some (K.ofNat 38)), none, .mv (.t (K.ofNat 7))⟩, ⟨(some (K.ofNat 39)), none, .mv (.t (K.ofNat 8))⟩, ⟨(some (K.ofNat 40)), none, .call (.c (.fn (K.ofNat 18) [])) [(.t (K.ofNat 38)), (.t (K.ofNat 39))]⟩, ⟨(some (K.ofNat 37)), none, .mv (.t (K.ofNat 40))⟩, ⟨(some (K.ofNat 41)), none, .ext (.t (K.ofNat 37)) 0⟩, ⟨(some (K.ofNat 42)), none, .ext (.t (K.ofNat 37)) 1⟩, ⟨(some (K.ofNat 9)), none, .as (.t (K.ofNat 41))⟩, ⟨(some (K.ofNat 10)), none, .as (.t (K.ofNat 42))⟩]
noncomputable def f11_r3 : List EOper := [⟨(some (K.ofNat 44)), none, .mv (.t (K.ofNat 7))⟩, ⟨(some (K.ofNat 45)), none, .mv (.t (K.ofNat 8))⟩, ⟨(some (K.ofNat 46)), none, .call (.c (.fn (K.ofNat 19) [])) [(.t (K.ofNat 44)), (.t (K.ofNat 45))]⟩, ⟨(some (K.ofNat 43)), none, .mv (.t (K.ofNat 46))⟩, ⟨(some (K.ofNat 47)), none, .ext (.t (K.ofNat 43)) 0⟩, ⟨(some (K.ofNat 48)), none, .ext (.t (K.ofNat 43)) 1⟩, ⟨(some (K.ofNat 11)), none, .as (.t (K.ofNat 47))⟩, ⟨(some (K.ofNat 12)), none, .as (.t (K.ofNat 48))⟩]
noncomputable def f11_r4 : List EOper := [⟨(some (K.ofNat 50)), none, .mv (.t (K.ofNat 7))⟩, ⟨(some (K.ofNat 51)), none, .mv (.t (K.ofNat 8))⟩, ⟨(some (K.ofNat 52)), none, .call (.c (.fn (K.ofNat 20) [])) [(.t (K.ofNat 50)), (.t (K.ofNat 51))]⟩, ⟨(some (K.ofNat 49)), none, .mv (.t (K.ofNat 52))⟩, ⟨(some (K.ofNat 53)), none, .ext (.t (K.ofNat 49)) 0⟩, ⟨(some (K.ofNat 54)), none, .ext (.t (K.ofNat 49)) 1⟩, ⟨(some (K.ofNat 13)), none, .as (.t (K.ofNat 53))⟩, ⟨(some (K.ofNat 14)), none, .as (.t (K.ofNat 54))⟩]
noncomputable def f11_r5 : List EOper := [⟨(some (K.ofNat 56)), none, .mv (.t (K.ofNat 7))⟩, ⟨(some (K.ofNat 57)), none, .mv (.t (K.ofNat 8))⟩, ⟨(some (K.ofNat 58)), none, .mv (.t (K.ofNat 7))⟩, ⟨(some (K.ofNat 59)), none, .mv (.t (K.ofNat 2))⟩, ⟨(some (K.ofNat 60)), none, .call (.c (.fn (K.ofNat 33) [])) [(.t (K.ofNat 58)), (.t (K.ofNat 59))]⟩, ⟨(some (K.ofNat 61)), none, .call (.c (.fn (K.ofNat 24) [])) [(.t (K.ofNat 56)), (.t (K.ofNat 57)), (.t (K.ofNat 60))]⟩, ⟨(some (K.ofNat 55)), none, .mv (.t (K.ofNat 61))⟩, ⟨(some (K.ofNat 62)), none, .ext (.t (K.ofNat 55)) 0⟩, ⟨(some (K.ofNat 63)), none, .ext (.t (K.ofNat 55)) 1⟩, ⟨(some (K.ofNat 15)), none, .as (.t (K.ofNat 62))⟩, ⟨(some (K.ofNat 16)), none, .as (.t (K.ofNat 63))⟩]
noncomputable def f11_r6 : List EOper := [⟨(some (K.ofNat 64)), none, .mv (.t (K.ofNat 10))⟩, ⟨(some (K.ofNat 65)), none, .bin .neq (.t (K.ofNat 64)) (.c (.i .i64 (.ofNat 0)))⟩, ⟨(some (K.ofNat 66)), none, .mv (.t (K.ofNat 65))⟩, ⟨(some (K.ofNat 67)), (some ((K.ofNat 66), false)), .mv (.t (K.ofNat 12))⟩, ⟨(some (K.ofNat 68)), (some ((K.ofNat 66), false)), .bin .neq (.t (K.ofNat 67)) (.c (.i .i64 (.ofNat 0)))⟩, ⟨(some (K.ofNat 69)), none, .pick (.t (K.ofNat 66)) (.c (.b true)) (.t (K.ofNat 68))⟩, ⟨(some (K.ofNat 70)), none, .mv (.t (K.ofNat 69))⟩, ⟨(some (K.ofNat 71)), (some ((K.ofNat 70), false)), .mv (.t (K.ofNat 14))⟩, ⟨(some (K.ofNat 72)), (some ((K.ofNat 70), false)), .bin .neq (.t (K.ofNat 71)) (.c (.i .i64 (.ofNat 0)))⟩, ⟨(some (K.ofNat 73)), none, .pick (.t (K.ofNat 70)) (.c (.b true)) (.t (K.ofNat 72))⟩, ⟨(some (K.ofNat 74)), none, .mv (.t (K.ofNat 73))⟩, ⟨(some (K.ofNat 75)), (some ((K.ofNat 74), false)), .mv (.t (K.ofNat 16))⟩, ⟨(some (K.ofNat 76)), (some ((K.ofNat 74), false)), .bin .neq (.t (K.ofNat 75)) (.c (.i .i64 (.ofNat 0)))⟩, ⟨(some (K.ofNat 77)), none, .pick (.t (K.ofNat 74)) (.c (.b true)) (.t (K.ofNat 76))⟩, ⟨(some (K.ofNat 78)), none, .mv (.t (K.ofNat 77))⟩, ⟨(some (K.ofNat 79)), (some ((K.ofNat 78), false)), .mv (.t (K.ofNat 9))⟩, ⟨(some (K.ofNat 80)), (some ((K.ofNat 78), false)), .len (.t (K.ofNat 79))⟩, ⟨(some (K.ofNat 81)), (some ((K.ofNat 78), false)), .mv (.t (K.ofNat 7))⟩, ⟨(some (K.ofNat 82)), (some ((K.ofNat 78), false)), .bin .neq (.t (K.ofNat 80)) (.t (K.ofNat 81))⟩, ⟨(some (K.ofNat 83)), none, .pick (.t (K.ofNat 78)) (.c (.b true)) (.t (K.ofNat 82))⟩]
noncomputable def f11_r7 : List EOper := [⟨(some (K.ofNat 6)), none, .as (.c (.b false))⟩]
noncomputable def f11_r8 : List EOper := [⟨(some (K.ofNat 85)), none, .mv (.t (K.ofNat 7))⟩, ⟨(some (K.ofNat 86)), none, .mv (.t (K.ofNat 15))⟩, ⟨(some (K.ofNat 87)), none, .call (.c (.fn (K.ofNat 19) [])) [(.t (K.ofNat 85)), (.t (K.ofNat 86))]⟩, ⟨(some (K.ofNat 84)), none, .mv (.t (K.ofNat 87))⟩, ⟨(some (K.ofNat 88)), none, .ext (.t (K.ofNat 84)) 0⟩, ⟨(some (K.ofNat 89)), none, .ext (.t (K.ofNat 84)) 1⟩, ⟨(some (K.ofNat 17)), none, .as (.t (K.ofNat 88))⟩, ⟨(some (K.ofNat 18)), none, .as (.t (K.ofNat 89))⟩]
noncomputable def f11_r9 : List EOper := [⟨(some (K.ofNat 91)), none, .mv (.t (K.ofNat 7))⟩, ⟨(some (K.ofNat 92)), none, .mv (.t (K.ofNat 15))⟩, ⟨(some (K.ofNat 93)), none, .call (.c (.fn (K.ofNat 20) [])) [(.t (K.ofNat 91)), (.t (K.ofNat 92))]⟩, ⟨(some (K.ofNat 90)), none, .mv (.t (K.ofNat 93))⟩, ⟨(some (K.ofNat 94)), none, .ext (.t (K.ofNat 90)) 0⟩, ⟨(some (K.ofNat 95)), none, .ext (.t (K.ofNat 90)) 1⟩, ⟨(some (K.ofNat 19)), none, .as (.t (K.ofNat 94))⟩, ⟨(some (K.ofNat 20)), none, .as (.t (K.ofNat 95))⟩]
noncomputable def f11_r10 : List EOper := [⟨(some (K.ofNat 96)), none, .mv (.t (K.ofNat 18))⟩, ⟨(some (K.ofNat 97)), none, .bin .neq (.t (K.ofNat 96)) (.c (.i .i64 (.ofNat 0)))⟩, ⟨(some (K.ofNat 98)), none, .mv (.t (K.ofNat 97))⟩, ⟨(some (K.ofNat 99)), (some ((K.ofNat 98), false)), .mv (.t (K.ofNat 20))⟩, ⟨(some (K.ofNat 100)), (some ((K.ofNat 98), false)), .bin .neq (.t (K.ofNat 99)) (.c (.i .i64 (.ofNat 0)))⟩, ⟨(some (K.ofNat 101)), none, .pick (.t (K.ofNat 98)) (.c (.b true)) (.t (K.ofNat 100))⟩, ⟨(some (K.ofNat 102)), none, .mv (.t (K.ofNat 101))⟩, ⟨(some (K.ofNat 103)), (some ((K.ofNat 102), false)), .mv (.t (K.ofNat 17))⟩, ⟨(some (K.ofNat 104)), (some ((K.ofNat 102), false)), .mv (.t (K.ofNat 11))⟩, ⟨(some (K.ofNat 105)), (some ((K.ofNat 102), false)), .eqk (.one none) true (.t (K.ofNat 103)) (.t (K.ofNat 104))⟩, ⟨(some (K.ofNat 106)), none, .pick (.t (K.ofNat 102)) (.c (.b true)) (.t (K.ofNat 105))⟩, ⟨(some (K.ofNat 107)), none, .mv (.t (K.ofNat 106))⟩, ⟨(some (K.ofNat 108)), (some ((K.ofNat 107), false)), .mv (.t (K.ofNat 19))⟩, ⟨(some (K.ofNat 109)), (some ((K.ofNat 107), false)), .mv (.t (K.ofNat 13))⟩, ⟨(some (K.ofNat 110)), (some ((K.ofNat 107), false)), .eqk (.one none) true (.t (K.ofNat 108)) (.t (K.ofNat 109))⟩, ⟨(some (K.ofNat 111)), none, .pick (.t (K.ofNat 107)) (.c (.b true)) (.t (K.ofNat 110))⟩]
noncomputable def f11_r11 : List EOper := [⟨(some (K.ofNat 6)), none, .as (.c (.b false))⟩]
noncomputable def f11_r12 : List EOper := [⟨(some (K.ofNat 21)), none, .as (.c (.i .i64 (.ofNat 0)))⟩]
noncomputable def f11_r13 : List EOper := [⟨(some (K.ofNat 112)), none, .mv (.t (K.ofNat 7))⟩, ⟨(some (K.ofNat 113)), none, .mkslice 1 [(.i .i64 (.ofNat 0))] (.t (K.ofNat 112))⟩, ⟨(some (K.ofNat 22)), none, .as (.t (K.ofNat 113))⟩]
noncomputable def f11_r14 : List EOper := [⟨(some (K.ofNat 23)), none, .as (.c (.i .i64 (.ofNat 0)))⟩]
noncomputable def f11_r15 : List EOper := [⟨(some (K.ofNat 114)), none, .mv (.t (K.ofNat 23))⟩, ⟨(some (K.ofNat 115)), none, .mv (.t (K.ofNat 7))⟩, ⟨(some (K.ofNat 116)), none, .bin .lss (.t (K.ofNat 114)) (.t (K.ofNat 115))⟩]
noncomputable def f11_r16 : List EOper := [⟨(some (K.ofNat 24)), none, .as (.c (.i .i64 (.ofNat 0)))⟩]
noncomputable def f11_r17 : List EOper := [⟨(some (K.ofNat 119)), none, .mv (.t (K.ofNat 9))⟩, ⟨(some (K.ofNat 120)), none, .mv (.t (K.ofNat 23))⟩, ⟨(some (K.ofNat 121)), none, .iads 1 (.t (K.ofNat 119)) (.t (K.ofNat 120))⟩, ⟨(some (K.ofNat 122)), none, .ld (.t (K.ofNat 121))⟩, ⟨(some (K.ofNat 123)), none, .len (.t (K.ofNat 122))⟩, ⟨(some (K.ofNat 124)), none, .mv (.t (K.ofNat 7))⟩, ⟨(some (K.ofNat 125)), none, .bin .neq (.t (K.ofNat 123)) (.t (K.ofNat 124))⟩, ⟨(some (K.ofNat 126)), none, .mv (.t (K.ofNat 125))⟩, ⟨(some (K.ofNat 127)), (some ((K.ofNat 126), false)), .mv (.t (K.ofNat 7))⟩, ⟨(some (K.ofNat 128)), (some ((K.ofNat 126), false)), .bin .gtr (.t (K.ofNat 127)) (.c (.i .i64 (.ofNat 2)))⟩, ⟨(some (K.ofNat 129)), (some ((K.ofNat 126), false)), .mv (.t (K.ofNat 128))⟩, ⟨(some (K.ofNat 130)), (some ((K.ofNat 129), true)), .mv (.t (K.ofNat 9))⟩, ⟨(some (K.ofNat 131)), (some ((K.ofNat 129), true)), .mv (.t (K.ofNat 23))⟩, ⟨(some (K.ofNat 132)), (some ((K.ofNat 129), true)), .iads 1 (.t (K.ofNat 130)) (.t (K.ofNat 131))⟩, ⟨(some (K.ofNat 133)), (some ((K.ofNat 129), true)), .ld (.t (K.ofNat 132))⟩, ⟨(some (K.ofNat 134)), (some ((K.ofNat 129), true)), .mv (.t (K.ofNat 23))⟩, ⟨(some (K.ofNat 135)), (some ((K.ofNat 129), true)), .iads 1 (.t (K.ofNat 133)) (.t (K.ofNat 134))⟩, ⟨(some (K.ofNat 136)), (some ((K.ofNat 129), true)), .ld (.t (K.ofNat 135))⟩, ⟨(some (K.ofNat 137)), (some ((K.ofNat 129), true)), .bin .neq (.t (K.ofNat 136)) (.c (.i .i64 (.ofNat 0)))⟩, ⟨(some (K.ofNat 138)), (some ((K.ofNat 126), false)), .pick (.t (K.ofNat 129)) (.t (K.ofNat 137)) (.c (.b false))⟩, ⟨(some (K.ofNat 139)), none, .pick (.t (K.ofNat 126)) (.c (.b true)) (.t (K.ofNat 138))⟩]
noncomputable def f11_r18 : List EOper := [⟨(some (K.ofNat 6)), none, .as (.c (.b false))⟩]
noncomputable def f11_r19 : List EOper := [⟨(some (K.ofNat 25)), none, .as (.c (.i .i64 (.ofNat 0)))⟩]
noncomputable def f11_r20 : List EOper := [⟨(some (K.ofNat 140)), none, .mv (.t (K.ofNat 25))⟩, ⟨(some (K.ofNat 141)), none, .mv (.t (K.ofNat 7))⟩, ⟨(some (K.ofNat 142)), none, .bin .lss (.t (K.ofNat 140)) (.t (K.ofNat 141))⟩]
noncomputable def f11_r21 : List EOper := [⟨(some (K.ofNat 145)), none, .mv (.t (K.ofNat 24))⟩, ⟨(some (K.ofNat 146)), none, .mv (.t (K.ofNat 9))⟩, ⟨(some (K.ofNat 147)), none, .mv (.t (K.ofNat 23))⟩, ⟨(some (K.ofNat 148)), none, .iads 1 (.t (K.ofNat 146)) (.t (K.ofNat 147))⟩, ⟨(some (K.ofNat 149)), none, .ld (.t (K.ofNat 148))⟩, ⟨(some (K.ofNat 150)), none, .mv (.t (K.ofNat 25))⟩, ⟨(some (K.ofNat 151)), none, .iads 1 (.t (K.ofNat 149)) (.t (K.ofNat 150))⟩, ⟨(some (K.ofNat 152)), none, .ld (.t (K.ofNat 151))⟩, ⟨(some (K.ofNat 153)), none, .bin .add (.t (K.ofNat 145)) (.t (K.ofNat 152))⟩, ⟨(some (K.ofNat 24)), none, .as (.t (K.ofNat 153))⟩]
noncomputable def f11_r22 : List Stage := [⟨[⟨(some (K.ofNat 154)), none, .mv (.t (K.ofNat 22))⟩, ⟨(some (K.ofNat 155)), none, .mv (.t (K.ofNat 25))⟩, ⟨(some (K.ofNat 156)), none, .mv (.t (K.ofNat 22))⟩, ⟨(some (K.ofNat 157)), none, .mv (.t (K.ofNat 25))⟩, ⟨(some (K.ofNat 158)), none, .iads 1 (.t (K.ofNat 156)) (.t (K.ofNat 157))⟩, ⟨(some (K.ofNat 159)), none, .ld (.t (K.ofNat 158))⟩, ⟨(some (K.ofNat 160)), none, .mv (.t (K.ofNat 9))⟩, ⟨(some (K.ofNat 161)), none, .mv (.t (K.ofNat 23))⟩, ⟨(some (K.ofNat 162)), none, .iads 1 (.t (K.ofNat 160)) (.t (K.ofNat 161))⟩, ⟨(some (K.ofNat 163)), none, .ld (.t (K.ofNat 162))⟩, ⟨(some (K.ofNat 164)), none, .mv (.t (K.ofNat 25))⟩, ⟨(some (K.ofNat 165)), none, .iads 1 (.t (K.ofNat 163)) (.t (K.ofNat 164))⟩, ⟨(some (K.ofNat 166)), none, .ld (.t (K.ofNat 165))⟩, ⟨(some (K.ofNat 167)), none, .bin .add (.t (K.ofNat 159)) (.t (K.ofNat 166))⟩, ⟨(some (K.ofNat 168)), none, .iads 1 (.t (K.ofNat 154)) (.t (K.ofNat 155))⟩], [], (some ⟨none, none, .st 1 (.t (K.ofNat 168)) (.t (K.ofNat 167))⟩), []⟩, ⟨[], [], none, []⟩]
noncomputable def f11_r23 : List Stage := [⟨[⟨(some (K.ofNat 169)), none, .mv (.t (K.ofNat 21))⟩, ⟨(some (K.ofNat 170)), none, .mv (.t (K.ofNat 9))⟩, ⟨(some (K.ofNat 171)), none, .mv (.t (K.ofNat 23))⟩, ⟨(some (K.ofNat 172)), none, .iads 1 (.t (K.ofNat 170)) (.t (K.ofNat 171))⟩, ⟨(some (K.ofNat 173)), none, .ld (.t (K.ofNat 172))⟩, ⟨(some (K.ofNat 174)), none, .mv (.t (K.ofNat 25))⟩, ⟨(some (K.ofNat 175)), none, .iads 1 (.t (K.ofNat 173)) (.t (K.ofNat 174))⟩, ⟨(some (K.ofNat 176)), none, .ld (.t (K.ofNat 175))⟩, ⟨(some (K.ofNat 177)), none, .mv (.t (K.ofNat 9))⟩, ⟨(some (K.ofNat 178)), none, .mv (.t (K.ofNat 23))⟩, ⟨(some (K.ofNat 179)), none, .iads 1 (.t (K.ofNat 177)) (.t (K.ofNat 178))⟩, ⟨(some (K.ofNat 180)), none, .ld (.t (K.ofNat 179))⟩, ⟨(some (K.ofNat 181)), none, .mv (.t (K.ofNat 25))⟩, ⟨(some (K.ofNat 182)), none, .iads 1 (.t (K.ofNat 180)) (.t (K.ofNat 181))⟩, ⟨(some (K.ofNat 183)), none, .ld (.t (K.ofNat 182))⟩, ⟨(some (K.ofNat 184)), none, .bin .mul (.t (K.ofNat 176)) (.t (K.ofNat 183))⟩, ⟨(some (K.ofNat 185)), none, .bin .add (.t (K.ofNat 169)) (.t (K.ofNat 184))⟩], [], (some ⟨(some (K.ofNat 21)), none, .as (.t (K.ofNat 185))⟩), []⟩, ⟨[], [], none, []⟩]
noncomputable def f11_r24 : List EOper := [⟨(some (K.ofNat 143)), none, .mv (.t (K.ofNat 25))⟩, ⟨(some (K.ofNat 144)), none, .bin .add (.t (K.ofNat 143)) (.c (.i .i64 (.ofNat 1)))⟩, ⟨(some (K.ofNat 25)), none, .as (.t (K.ofNat 144))⟩]
noncomputable def f11_l0 : EC := (.seq (.seq (.reg f11_r20) (.cond (.t (K.ofNat 142)) .skip (.exit 2))) (.seq (.block 3 (.seq (.reg f11_r21) (.seq (.draw f11_r22) (.draw f11_r23)))) (.reg f11_r24)))
noncomputable def f11_r25 : List EOper := [⟨(some (K.ofNat 186)), none, .mv (.t (K.ofNat 24))⟩, ⟨(some (K.ofNat 187)), none, .mv (.t (K.ofNat 7))⟩, ⟨(some (K.ofNat 188)), none, .bin .sub (.t (K.ofNat 187)) (.c (.i .i64 (.ofNat 1)))⟩, ⟨(some (K.ofNat 189)), none, .bin .neq (.t (K.ofNat 186)) (.t (K.ofNat 188))⟩]
noncomputable def f11_r26 : List EOper := [⟨(some (K.ofNat 6)), none, .as (.c (.b false))⟩]
noncomputable def f11_r27 : List EOper := [⟨(some (K.ofNat 117)), none, .mv (.t (K.ofNat 23))⟩, ⟨(some (K.ofNat 118)), none, .bin .add (.t (K.ofNat 117)) (.c (.i .i64 (.ofNat 1)))⟩, ⟨(some (K.ofNat 23)), none, .as (.t (K.ofNat 118))⟩]
noncomputable def f11_l1 : EC := (.seq (.seq (.reg f11_r15) (.cond (.t (K.ofNat 116)) .skip (.exit 0))) (.seq (.block 1 (.seq (.reg f11_r16) (.seq (.seq (.reg f11_r17) (.cond (.t (K.ofNat 139)) (.seq (.reg f11_r18) .ret) .skip)) (.seq (.seq (.reg f11_r19) (.block 2 (.loop f11_l0))) (.seq (.reg f11_r25) (.cond (.t (K.ofNat 189)) (.seq (.reg f11_r26) .ret) .skip)))))) (.reg f11_r27)))
noncomputable def f11_r28 : List EOper := [⟨(some (K.ofNat 26)), none, .as (.c (.i .i64 (.ofNat 0)))⟩]
noncomputable def f11_r29 : List EOper := [⟨(some (K.ofNat 190)), none, .mv (.t (K.ofNat 26))⟩, ⟨(some (K.ofNat 191)), none, .mv (.t (K.ofNat 7))⟩, ⟨(some (K.ofNat 192)), none, .bin .lss (.t (K.ofNat 190)) (.t (K.ofNat 191))⟩]
noncomputable def f11_r30 : List EOper := [⟨(some (K.ofNat 195)), none, .mv (.t (K.ofNat 22))⟩, ⟨(some (K.ofNat 196)), none, .mv (.t (K.ofNat 26))⟩, ⟨(some (K.ofNat 197)), none, .iads 1 (.t (K.ofNat 195)) (.t (K.ofNat 196))⟩, ⟨(some (K.ofNat 198)), none, .ld (.t (K.ofNat 197))⟩, ⟨(some (K.ofNat 199)), none, .mv (.t (K.ofNat 7))⟩, ⟨(some (K.ofNat 200)), none, .bin .sub (.t (K.ofNat 199)) (.c (.i .i64 (.ofNat 1)))⟩, ⟨(some (K.ofNat 201)), none, .bin .neq (.t (K.ofNat 198)) (.t (K.ofNat 200))⟩]
noncomputable def f11_r31 : List EOper := [⟨(some (K.ofNat 6)), none, .as (.c (.b false))⟩]
noncomputable def f11_r32 : List EOper := [⟨(some (K.ofNat 193)), none, .mv (.t (K.ofNat 26))⟩, ⟨(some (K.ofNat 194)), none, .bin .add (.t (K.ofNat 193)) (.c (.i .i64 (.ofNat 1)))⟩, ⟨(some (K.ofNat 26)), none, .as (.t (K.ofNat 194))⟩]
noncomputable def f11_l2 : EC := (.seq (.seq (.reg f11_r29) (.cond (.t (K.ofNat 192)) .skip (.exit 4))) (.seq (.block 5 (.seq (.reg f11_r30) (.cond (.t (K.ofNat 201)) (.seq (.reg f11_r31) .ret) .skip))) (.reg f11_r32)))
noncomputable def f11_r33 : List EOper := [⟨(some (K.ofNat 202)), none, .mv (.t (K.ofNat 21))⟩, ⟨(some (K.ofNat 203)), none, .mv (.t (K.ofNat 7))⟩, ⟨(some (K.ofNat 204)), none, .mv (.t (K.ofNat 7))⟩, ⟨(some (K.ofNat 205)), none, .bin .sub (.t (K.ofNat 204)) (.c (.i .i64 (.ofNat 1)))⟩, ⟨(some (K.ofNat 206)), none, .bin .mul (.t (K.ofNat 203)) (.t (K.ofNat 205))⟩, ⟨(some (K.ofNat 207)), none, .bin .lss (.t (K.ofNat 202)) (.t (K.ofNat 206))⟩, ⟨(some (K.ofNat 208)), none, .mv (.t (K.ofNat 207))⟩, ⟨(some (K.ofNat 209)), (some ((K.ofNat 208), false)), .mv (.t (K.ofNat 11))⟩, ⟨(some (K.ofNat 210)), (some ((K.ofNat 208), false)), .mv (.t (K.ofNat 209))⟩, ⟨(some (K.ofNat 211)), (some ((K.ofNat 210), true)), .mv (.t (K.ofNat 21))⟩, ⟨(some (K.ofNat 212)), (some ((K.ofNat 210), true)), .mv (.t (K.ofNat 7))⟩, ⟨(some (K.ofNat 213)), (some ((K.ofNat 210), true)), .mv (.t (K.ofNat 7))⟩, ⟨(some (K.ofNat 214)), (some ((K.ofNat 210), true)), .bin .sub (.t (K.ofNat 213)) (.c (.i .i64 (.ofNat 1)))⟩, ⟨(some (K.ofNat 215)), (some ((K.ofNat 210), true)), .bin .mul (.t (K.ofNat 212)) (.t (K.ofNat 214))⟩, ⟨(some (K.ofNat 216)), (some ((K.ofNat 210), true)), .bin .neq (.t (K.ofNat 211)) (.t (K.ofNat 215))⟩, ⟨(some (K.ofNat 217)), (some ((K.ofNat 208), false)), .pick (.t (K.ofNat 210)) (.t (K.ofNat 216)) (.c (.b false))⟩, ⟨(some (K.ofNat 218)), none, .pick (.t (K.ofNat 208)) (.c (.b true)) (.t (K.ofNat 217))⟩]
noncomputable def f11_r34 : List EOper := [⟨(some (K.ofNat 6)), none, .as (.c (.b false))⟩]
noncomputable def f11_r35 : List Stage := [⟨[⟨(some (K.ofNat 220)), none, .mv (.t (K.ofNat 7))⟩, ⟨(some (K.ofNat 221)), none, .mv (.t (K.ofNat 8))⟩, ⟨(some (K.ofNat 222)), none, .iads 1 (.t (K.ofNat 221)) (.c (.i .i64 (.ofNat 0)))⟩, ⟨(some (K.ofNat 223)), none, .ld (.t (K.ofNat 222))⟩, ⟨(some (K.ofNat 224)), none, .mv (.t (K.ofNat 15))⟩, ⟨(some (K.ofNat 225)), none, .mv (.t (K.ofNat 15))⟩, ⟨(some (K.ofNat 226)), none, .len (.t (K.ofNat 225))⟩, ⟨(some (K.ofNat 227)), none, .bin .sub (.t (K.ofNat 226)) (.c (.i .i64 (.ofNat 1)))⟩, ⟨(some (K.ofNat 228)), none, .iads 1 (.t (K.ofNat 224)) (.t (K.ofNat 227))⟩, ⟨(some (K.ofNat 229)), none, .ld (.t (K.ofNat 228))⟩], [], (some ⟨(some (K.ofNat 230)), none, .call (.c (.fn (K.ofNat 44) [])) [(.t (K.ofNat 220)), (.t (K.ofNat 223)), (.t (K.ofNat 229))]⟩), []⟩, ⟨[⟨(some (K.ofNat 219)), none, .mv (.t (K.ofNat 230))⟩, ⟨(some (K.ofNat 231)), none, .ext (.t (K.ofNat 219)) 0⟩, ⟨(some (K.ofNat 232)), none, .ext (.t (K.ofNat 219)) 1⟩], [], (some ⟨(some (K.ofNat 27)), none, .as (.t (K.ofNat 231))⟩), []⟩, ⟨[], [⟨(some (K.ofNat 232)), none, .ext (.t (K.ofNat 219)) 1⟩], (some ⟨(some (K.ofNat 28)), none, .as (.t (K.ofNat 232))⟩), []⟩, ⟨[], [], none, []⟩]
noncomputable def f11_r36 : List EOper := [⟨(some (K.ofNat 29)), none, .as (.c (.i .i64 (.ofNat 0)))⟩]
noncomputable def f11_r37 : List EOper := [⟨(some (K.ofNat 30)), none, .as (.c (.i .i64 (.ofNat 0)))⟩]
noncomputable def f11_r38 : List EOper := [⟨(some (K.ofNat 233)), none, .mv (.t (K.ofNat 30))⟩, ⟨(some (K.ofNat 234)), none, .mv (.t (K.ofNat 27))⟩, ⟨(some (K.ofNat 235)), none, .len (.t (K.ofNat 234))⟩, ⟨(some (K.ofNat 236)), none, .bin .lss (.t (K.ofNat 233)) (.t (K.ofNat 235))⟩, ⟨(some (K.ofNat 237)), none, .mv (.t (K.ofNat 236))⟩, ⟨(some (K.ofNat 238)), (some ((K.ofNat 237), true)), .mv (.t (K.ofNat 30))⟩, ⟨(some (K.ofNat 239)), (some ((K.ofNat 237), true)), .bin .lss (.t (K.ofNat 238)) (.c (.i .i64 (.ofNat 10)))⟩, ⟨(some (K.ofNat 240)), none, .pick (.t (K.ofNat 237)) (.t (K.ofNat 239)) (.c (.b false))⟩]
noncomputable def f11_r39 : List EOper := [⟨(some (K.ofNat 243)), none, .mv (.t (K.ofNat 29))⟩, ⟨(some (K.ofNat 244)), none, .mv (.t (K.ofNat 27))⟩, ⟨(some (K.ofNat 245)), none, .mv (.t (K.ofNat 30))⟩, ⟨(some (K.ofNat 246)), none, .iads 1 (.t (K.ofNat 244)) (.t (K.ofNat 245))⟩, ⟨(some (K.ofNat 247)), none, .ld (.t (K.ofNat 246))⟩, ⟨(some (K.ofNat 248)), none, .bin .add (.t (K.ofNat 243)) (.t (K.ofNat 247))⟩, ⟨(some (K.ofNat 29)), none, .as (.t (K.ofNat 248))⟩]
noncomputable def f11_r40 : List Stage := [⟨[⟨(some (K.ofNat 249)), none, .mv (.t (K.ofNat 27))⟩, ⟨(some (K.ofNat 250)), none, .mv (.t (K.ofNat 30))⟩, ⟨(some (K.ofNat 251)), none, .iads 1 (.t (K.ofNat 249)) (.t (K.ofNat 250))⟩, ⟨(some (K.ofNat 252)), none, .ld (.t (K.ofNat 251))⟩, ⟨(some (K.ofNat 253)), none, .bin .rem (.t (K.ofNat 252)) (.c (.i .i64 (.ofNat 2)))⟩, ⟨(some (K.ofNat 254)), none, .bin .neq (.t (K.ofNat 253)) (.c (.i .i64 (.ofNat 0)))⟩, ⟨(some (K.ofNat 255)), none, .mv (.t (K.ofNat 254))⟩, ⟨(some (K.ofNat 256)), (some ((K.ofNat 255), false)), .mv (.t (K.ofNat 27))⟩, ⟨(some (K.ofNat 257)), (some ((K.ofNat 255), false)), .mv (.t (K.ofNat 30))⟩, ⟨(some (K.ofNat 258)), (some ((K.ofNat 255), false)), .iads 1 (.t (K.ofNat 256)) (.t (K.ofNat 257))⟩, ⟨(some (K.ofNat 259)), (some ((K.ofNat 255), false)), .ld (.t (K.ofNat 258))⟩, ⟨(some (K.ofNat 260)), (some ((K.ofNat 255), false)), .bin .lss (.t (K.ofNat 259)) (.c (.i .i64 (.ofNat 2)))⟩, ⟨(some (K.ofNat 261)), none, .pick (.t (K.ofNat 255)) (.c (.b true)) (.t (K.ofNat 260))⟩, ⟨(some (K.ofNat 262)), none, .mv (.t (K.ofNat 261))⟩, ⟨(some (K.ofNat 263)), (some ((K.ofNat 262), false)), .mv (.t (K.ofNat 30))⟩, ⟨(some (K.ofNat 264)), (some ((K.ofNat 262), false)), .bin .gtr (.t (K.ofNat 263)) (.c (.i .i64 (.ofNat 0)))⟩, ⟨(some (K.ofNat 265)), (some ((K.ofNat 262), false)), .mv (.t (K.ofNat 264))⟩, ⟨(some (K.ofNat 266)), (some ((K.ofNat 265), true)), .mv (.t (K.ofNat 27))⟩, ⟨(some (K.ofNat 267)), (some ((K.ofNat 265), true)), .mv (.t (K.ofNat 30))⟩, ⟨(some (K.ofNat 268)), (some ((K.ofNat 265), true)), .bin .sub (.t (K.ofNat 267)) (.c (.i .i64 (.ofNat 1)))⟩, ⟨(some (K.ofNat 269)), (some ((K.ofNat 265), true)), .iads 1 (.t (K.ofNat 266)) (.t (K.ofNat 268))⟩, ⟨(some (K.ofNat 270)), (some ((K.ofNat 265), true)), .ld (.t (K.ofNat 269))⟩, ⟨(some (K.ofNat 271)), (some ((K.ofNat 265), true)), .mv (.t (K.ofNat 27))⟩, ⟨(some (K.ofNat 272)), (some ((K.ofNat 265), true)), .mv (.t (K.ofNat 30))⟩, ⟨(some (K.ofNat 273)), (some ((K.ofNat 265), true)), .iads 1 (.t (K.ofNat 271)) (.t (K.ofNat 272))⟩, ⟨(some (K.ofNat 274)), (some ((K.ofNat 265), true)), .ld (.t (K.ofNat 273))⟩, ⟨(some (K.ofNat 275)), (some ((K.ofNat 265), true)), .bin .gtr (.t (K.ofNat 270)) (.t (K.ofNat 274))⟩, ⟨(some (K.ofNat 276)), (some ((K.ofNat 262), false)), .pick (.t (K.ofNat 265)) (.t (K.ofNat 275)) (.c (.b false))⟩, ⟨(some (K.ofNat 277)), none, .pick (.t (K.ofNat 262)) (.c (.b true)) (.t (K.ofNat 276))⟩], [], none, []⟩]
noncomputable def f11_r41 : List EOper := [⟨(some (K.ofNat 6)), none, .as (.c (.b false))⟩]
noncomputable def f11_r42 : List EOper := [⟨(some (K.ofNat 241)), none, .mv (.t (K.ofNat 30))⟩, ⟨(some (K.ofNat 242)), none, .bin .add (.t (K.ofNat 241)) (.c (.i .i64 (.ofNat 1)))⟩, ⟨(some (K.ofNat 30)), none, .as (.t (K.ofNat 242))⟩]
noncomputable def f11_l3 : EC := (.seq (.seq (.reg f11_r38) (.cond (.t (K.ofNat 240)) .skip (.exit 6))) (.seq (.block 7 (.seq (.reg f11_r39) (.seq (.draw f11_r40) (.cond (.t (K.ofNat 277)) (.seq (.reg f11_r41) .ret) .skip)))) (.reg f11_r42)))
noncomputable def f11_r43 : List EOper := [⟨(some (K.ofNat 278)), none, .mv (.t (K.ofNat 28))⟩, ⟨(some (K.ofNat 279)), none, .bin .eql (.t (K.ofNat 278)) (.c (.i .i64 (.ofNat 0)))⟩, ⟨(some (K.ofNat 280)), none, .mv (.t (K.ofNat 279))⟩, ⟨(some (K.ofNat 281)), (some ((K.ofNat 280), true)), .mv (.t (K.ofNat 29))⟩, ⟨(some (K.ofNat 282)), (some ((K.ofNat 280), true)), .mv (.t (K.ofNat 7))⟩, ⟨(some (K.ofNat 283)), (some ((K.ofNat 280), true)), .bin .eql (.t (K.ofNat 281)) (.t (K.ofNat 282))⟩, ⟨(some (K.ofNat 284)), none, .pick (.t (K.ofNat 280)) (.t (K.ofNat 283)) (.c (.b false))⟩, ⟨(some (K.ofNat 285)), none, .mv (.t (K.ofNat 284))⟩, ⟨(some (K.ofNat 286)), (some ((K.ofNat 285), true)), .call (.c (.fn (K.ofNat 22) [])) []⟩, ⟨(some (K.ofNat 287)), none, .pick (.t (K.ofNat 285)) (.t (K.ofNat 286)) (.c (.b false))⟩, ⟨(some (K.ofNat 6)), none, .as (.t (K.ofNat 287))⟩]
noncomputable def f11_c : EC := (.seq (.reg f11_r0) (.seq (.reg f11_r1) (.seq (.reg f11_r2) (.seq (.reg f11_r3) (.seq (.reg f11_r4) (.seq (.reg f11_r5) (.seq (.seq (.reg f11_r6) (.cond (.t (K.ofNat 83)) (.seq (.reg f11_r7) .ret) .skip)) (.seq (.reg f11_r8) (.seq (.reg f11_r9) (.seq (.seq (.reg f11_r10) (.cond (.t (K.ofNat 111)) (.seq (.reg f11_r11) .ret) .skip)) (.seq (.reg f11_r12) (.seq (.reg f11_r13) (.seq (.seq (.reg f11_r14) (.block 0 (.loop f11_l1))) (.seq (.seq (.reg f11_r28) (.block 4 (.loop f11_l2))) (.seq (.seq (.reg f11_r33) (.cond (.t (K.ofNat 218)) (.seq (.reg f11_r34) .ret) .skip)) (.seq (.draw f11_r35) (.seq (.reg f11_r36) (.seq (.seq (.reg f11_r37) (.block 6 (.loop f11_l3))) (.seq (.reg f11_r43) .ret)))))))))))))))))))
noncomputable def f11 : EF := ⟨288, [.tmp (K.ofNat 6)], f11_c, none⟩
theorem f11_rs : f11.rs = [.tmp (K.ofNat 6)] := of_eq_true (eq_self _)
structure CallsRi (fs : T EF) : Prop extends CallsPf fs, CallsCh fs where
  c44 : fs.get (K.ofNat 44) = some f44
section
variable {fs : T EF} {h : H} {va vb : V} {a b : List (Int × Int)} {n : Nat}
theorem f44_ret (k : CallsRi fs) (hn : ok5 (n : Int)) (hva : Srp h va a) (hvb : Srp h vb b) (hla : a.length ≤ 9223372036854775807) (hlb : b.length ≤ 9223372036854775807) (hc : HC h) : Ret fs f44 [.i .i64 (n : Int), va, vb] h fun r h' => ∃ u, r = .tup [u, .i .i64 (if rndB n a = true ∧ rndB n b = true then 0 else 40)] ∧ (if rndB n a = true ∧ rndB n b = true then Sl iE h' u (rgL a b n) else u = .sn) ∧ Grow h.nx.nat h h' := by
  have hn' := hn
  unfold ok5 at hn'
  apply ret_of rfl
  show W fs none f44_c _ _ _
  unfold f44_c
  simp (disch := omega) only [f44_r0, f44_r1, w_reg, w_seq, seqK_n, x_nil, x_mv, x_as, x_call, ev_t, ev_c, evs_nil, evs_cons, getV_some, putD_some, frame_3, of0, getK_set, Nat.reduceEqDiff, ↓reduceIte]
  refine (callP_0 (ef := f65) k.c65 rfl (f65_ok hn)).mono ?_
  rintro r h1 ⟨rfl, rfl⟩
  simp (disch := omega) only [f44_r3, w_skip, w_reg, w_seq, w_cond, seqK_n, ckB_b, cbB_b, true_and, x_nil, x_mv, x_not, x_call, kx, rvP_ok, ev_t, ev_c, evs_nil, evs_cons, getV_some, putD_some, onB_b, getK_set, Nat.reduceEqDiff, ↓reduceIte, Bool.false_eq_true, Bool.not_true, Bool.not_true]
  refine (callP_0 (ef := f68) k.c68 rfl (f68_ret (n := n) k.toCallsAa k.c61 (by omega) hva hla hc)).mono ?_
  rintro r h2 ⟨u1, rfl, hu1, hG2⟩
  have hc2 := hG2.hc hc
  simp (disch := omega) only [f44_r4, w_reg, w_seq, seqK_n, x_nil, x_mv, x_as, x_ext, x_call, kx, rvP_ok, okv_some, ev_t, ev_c, evs_nil, evs_cons, getV_some, putD_some, onTup_t, nth0, nth1, getK_set, Nat.reduceEqDiff, ↓reduceIte]
  refine (callP_0 (ef := f68) k.c68 rfl (f68_ret (n := n) k.toCallsAa k.c61 (by omega) (hvb.grow hc hG2) hlb hc2)).mono ?_
  rintro r h3 ⟨u2, rfl, hu2, hG3⟩
  have hc3 := hG3.hc hc2
  have hGa := hG2.trans (hG3.low hG2.nx)
  cases h1 : rndB n a with
  | false =>
    simp (disch := omega) only [f44_r5, f44_r6, f44_rs, w_reg, w_seq, w_cond, w_ret, seqK_n, seqK_r, ckB_b, cbB_b, okG_b, asG_f, true_and, retK_r, x_nil, x_g, x_mv, x_as, x_pick, x_not, x_ext, kx, rvP_ok, okv_some, ev_t, ev_c, getV_some, putD_some, pick_b, onB_b, onTup_t, oGet_s, nth0, nth1, readRs_nil, readRs_t, retV_2, Option.some.injEq, exists_eq_left', getK_set, Nat.reduceEqDiff, ↓reduceIte, Bool.false_eq_true, Bool.not_true, Bool.not_false, of40, Bool.not_false, of40]
    exact ⟨.sn, by simp, by simp, hGa⟩
  | true =>
    cases h2 : rndB n b with
    | false =>
      simp (disch := omega) only [f44_r5, f44_r6, f44_rs, w_reg, w_seq, w_cond, w_ret, seqK_n, seqK_r, ckB_b, cbB_b, okG_b, asG_f, true_and, retK_r, x_nil, x_g, x_mv, x_as, x_pick, x_not, x_ext, kx, rvP_ok, okv_some, ev_t, ev_c, getV_some, putD_some, pick_b, onB_b, onTup_t, oGet_s, nth0, nth1, readRs_nil, readRs_t, retV_2, Option.some.injEq, exists_eq_left', getK_set, Nat.reduceEqDiff, ↓reduceIte, Bool.false_eq_true, Bool.not_true, Bool.not_false, of40, Bool.not_false, Bool.not_true, of40]
      exact ⟨.sn, by simp, by simp, hGa⟩
    | true =>
      have hl1 : a.length ≤ 1000000 := by
        unfold rndB at h1
        simp only [Bool.and_eq_true, decide_eq_true_iff] at h1
        omega
      have hl2 : b.length ≤ 1000000 := by
        unfold rndB at h2
        simp only [Bool.and_eq_true, decide_eq_true_iff] at h2
        omega
      simp (disch := omega) only [f44_r5, f44_r7, w_skip, w_reg, w_seq, w_cond, seqK_n, ckB_b, cbB_b, okG_b, asG_f, true_and, x_nil, x_g, x_mv, x_as, x_pick, x_not, x_ext, x_call, kx, rvP_ok, okv_some, ev_t, ev_c, evs_nil, evs_cons, getV_some, putD_some, pick_b, onB_b, onTup_t, nth0, nth1, of0, getK_set, Nat.reduceEqDiff, ↓reduceIte, Bool.false_eq_true, Bool.not_true, Bool.not_false, Bool.not_true]
      refine (callP_0 (ef := f69) k.c69 rfl (f69_ret k.toCallsRg ((hu1 h1).1.grow hc2 hG3).srp (hu2 h2).1.srp hl1 hl2 h1 h2 (by omega) (by omega) hc3)).mono ?_
      rintro u h4 ⟨hs, _, hG4⟩
      simp (disch := omega) only [f44_rs, w_ret, seqK_n, retK_r, x_nil, x_as, kx, ev_t, ev_c, getV_some, putD_some, oGet_s, readRs_nil, readRs_t, retV_2, Option.some.injEq, exists_eq_left', getK_set, Nat.reduceEqDiff, ↓reduceIte]
      exact ⟨u, by simp, by simpa using hs, hGa.trans (hG4.low hGa.nx)⟩
end
structure CallsSm (fs : T EF) : Prop extends CallsTm fs, CallsFw fs, CallsRi fs, CallsRn fs where
  c20 : fs.get (K.ofNat 20) = some f20
  c25 : fs.get (K.ofNat 25) = some f25
  c56 : fs.get (K.ofNat 56) = some f56
  aw : ∀ h P, CallP fs (.fn (K.ofNat 22) []) [] h P = P (.b true) h
/-- The columns' sums, so far. -/
def toL (Q : List (List (Int × Int))) (n t k : Nat) : List Int := (List.range n).map fun (u : Nat) => sm (fun t => rfI Q (t : Int) (u : Int) Q.length) (if u < k then t + 1 else t)
theorem toL_0 {Q : List (List (Int × Int))} {n : Nat} : toL Q n 0 0 = List.replicate n 0 := by
  apply List.ext_getElem
  · simp [toL]
  · intro x h1 h2
    simp [toL, sm]
theorem toL_len {Q : List (List (Int × Int))} {n t k : Nat} : (toL Q n t k).length = n := by simp [toL]
theorem toL_at {Q : List (List (Int × Int))} {n t k : Nat} {i : Nat} (hi : i < (toL Q n t k).length) : (toL Q n t k)[i] = sm (fun t => rfI Q (t : Int) (i : Int) Q.length) (if i < k then t + 1 else t) := by simp only [toL, List.getElem_map, List.getElem_range]
theorem toL_all {Q : List (List (Int × Int))} {n t : Nat} : toL Q n t n = toL Q n (t + 1) 0 := by
  apply List.ext_getElem
  · simp [toL]
  · intro x h1 h2
    have hx : x < n := by rw [toL_len] at h1; exact h1
    rw [toL_at, toL_at, if_pos hx, if_neg (by omega)]
theorem toL_set {Q : List (List (Int × Int))} {n t k : Nat} (hk : k < n) : (toL Q n t k).set k ((toL Q n t k)[k]'(by rw [toL_len]; exact hk) + rfI Q (t : Int) (k : Int) Q.length) = toL Q n t (k + 1) := by
  apply List.ext_getElem
  · simp [toL]
  · intro x h1 h2
    have hx : x < n := by rw [toL_len] at h2; exact h2
    rw [List.getElem_set]
    by_cases e : k = x
    · subst e
      rw [if_pos rfl, toL_at, toL_at, if_neg (by omega), if_pos (by omega)]; rfl
    · rw [if_neg e, toL_at, toL_at]
      by_cases h : x < k
      · rw [if_pos h, if_pos (by omega)]
      · rw [if_neg h, if_neg (by omega)]
def sqR (Q : List (List (Int × Int))) (_n t : Nat) (k : Nat) : Int := sm (fun k => rfI Q (t : Int) (k : Int) Q.length * rfI Q (t : Int) (k : Int) Q.length) k
theorem sm_bd2 {f : Nat → Int} {b : Int} : ∀ k, (∀ t, t < k → 0 ≤ f t ∧ f t ≤ b) → 0 ≤ sm f k ∧ sm f k ≤ (k : Int) * b
  | 0, _ => by simp [sm]
  | k + 1, h => by
    have h1 := sm_bd2 k fun t ht => h t (by omega)
    have h2 := h k (by omega)
    show 0 ≤ sm f k + f k ∧ sm f k + f k ≤ ((k + 1 : Nat) : Int) * b
    rw [Int.natCast_add, Int.natCast_one, Int.add_mul, Int.one_mul]
    omega
theorem rf_sq {Q : List (List (Int × Int))} {t k : Int} (hl : Q.length ≤ 10) : 0 ≤ rfI Q t k Q.length * rfI Q t k Q.length ∧ rfI Q t k Q.length * rfI Q t k Q.length ≤ 100 := by
  have := rf_bd (Ls := Q) (t := t) (k := k) (m := Q.length)
  refine ⟨Int.mul_nonneg this.1 this.1, ?_⟩
  have h1 := Int.mul_le_mul (show rfI Q t k Q.length ≤ 10 by omega) (show rfI Q t k Q.length ≤ 10 by omega) this.1 (by omega)
  omega
theorem sqR_bd {Q : List (List (Int × Int))} {n t k : Nat} (hl : Q.length ≤ 10) (hk : k ≤ 10) : 0 ≤ sqR Q n t k ∧ sqR Q n t k ≤ 1000 := by
  have := sm_bd2 (f := fun k => rfI Q (t : Int) (k : Int) Q.length * rfI Q (t : Int) (k : Int) Q.length) (b := 100) k fun _ _ => rf_sq hl
  unfold sqR
  omega
def sqA (Q : List (List (Int × Int))) (n t : Nat) : Int := sm (fun t => sqR Q n t n) t
theorem sqA_bd {Q : List (List (Int × Int))} {n t : Nat} (hl : Q.length ≤ 10) (hn : n ≤ 10) (ht : t ≤ 10) : 0 ≤ sqA Q n t ∧ sqA Q n t ≤ 10000 := by
  have := sm_bd2 (f := fun t => sqR Q n t n) (b := 1000) t fun _ _ => sqR_bd hl hn
  unfold sqA
  omega
def suR (Q : List (List (Int × Int))) (t k : Nat) : Int := sm (fun k => rfI Q (t : Int) (k : Int) Q.length) k
theorem suR_0 {Q : List (List (Int × Int))} {t : Nat} : suR Q t 0 = 0 := by unfold suR; rfl
theorem sqA_0 {Q : List (List (Int × Int))} {n : Nat} : sqA Q n 0 = 0 := by unfold sqA; rfl
theorem sqR_0 {Q : List (List (Int × Int))} {n t : Nat} : sqR Q n t 0 = 0 := by unfold sqR; rfl
theorem smI_0 : smI [] = 0 := rfl
theorem suR_bd {Q : List (List (Int × Int))} {t k : Nat} (hl : Q.length ≤ 10) (hk : k ≤ 10) : 0 ≤ suR Q t k ∧ suR Q t k ≤ 100 := by
  have := sm_bd2 (f := fun k => rfI Q (t : Int) (k : Int) Q.length) (b := 10) k fun k _ => by
    have := rf_bd (Ls := Q) (t := (t : Int)) (k := (k : Int)) (m := Q.length); omega
  unfold suR
  omega
theorem to_bd {Q : List (List (Int × Int))} {k t : Nat} (hl : Q.length ≤ 10) (ht : t ≤ 11) : 0 ≤ sm (fun t => rfI Q (t : Int) (k : Int) Q.length) t ∧ sm (fun t => rfI Q (t : Int) (k : Int) Q.length) t ≤ 110 := by
  have := sm_bd2 (f := fun t => rfI Q (t : Int) (k : Int) Q.length) (b := 10) t fun t _ => by
    have := rf_bd (Ls := Q) (t := (t : Int)) (k := (k : Int)) (m := Q.length); omega
  omega
section
variable {fs : T EF}
structure SuI (h : H) (w : V) (xs : List V) (Q : List (List (Int × Int))) (m : Nat) (x : V) (L : List Int) (h1 : H) : Prop where
  gr : Grow h.nx.nat h h1
  fw : Nr iE h w xs (fwT Q m)
  sl : Sl iE h1 x L
  ow : Own h.nx.nat x
def f11_I (h : H) (w : V) (xs : List V) (Q : List (List (Int × Int))) (m : Nat) (c u : V) (bB : Bool) (x : V) (t : Nat) (fr : Fr) (h1 : H) : Prop := t ≤ m ∧ SuI h w xs Q m x (toL Q m t 0) h1 ∧ fr.get (K.ofNat 7) = some (.i .i64 (m : Int)) ∧ fr.get (K.ofNat 8) = some (c) ∧ fr.get (K.ofNat 9) = some (w) ∧ fr.get (K.ofNat 11) = some (.b bB) ∧ fr.get (K.ofNat 15) = some (u) ∧ fr.get (K.ofNat 21) = some (.i .i64 (sqA Q m t)) ∧ fr.get (K.ofNat 22) = some (x) ∧ fr.get (K.ofNat 23) = some (.i .i64 (t : Int))
def f11_J (h : H) (w : V) (xs : List V) (Q : List (List (Int × Int))) (m : Nat) (c u : V) (bB : Bool) (x : V) (t k : Nat) (fr : Fr) (h1 : H) : Prop := k ≤ m ∧ SuI h w xs Q m x (toL Q m t k) h1 ∧ fr.get (K.ofNat 7) = some (.i .i64 (m : Int)) ∧ fr.get (K.ofNat 8) = some (c) ∧ fr.get (K.ofNat 9) = some (w) ∧ fr.get (K.ofNat 11) = some (.b bB) ∧ fr.get (K.ofNat 15) = some (u) ∧ fr.get (K.ofNat 21) = some (.i .i64 (sqA Q m t + sqR Q m t k)) ∧ fr.get (K.ofNat 22) = some (x) ∧ fr.get (K.ofNat 23) = some (.i .i64 (t : Int)) ∧ fr.get (K.ofNat 24) = some (.i .i64 (suR Q t k)) ∧ fr.get (K.ofNat 25) = some (.i .i64 (k : Int))
def f11_K (h2 : H) (m : Nat) (c u x : V) (bB : Bool) (sq : Int) (t : Nat) (fr : Fr) (h1 : H) : Prop := t ≤ m ∧ h1 = h2 ∧ fr.get (K.ofNat 7) = some (.i .i64 (m : Int)) ∧ fr.get (K.ofNat 8) = some (c) ∧ fr.get (K.ofNat 11) = some (.b bB) ∧ fr.get (K.ofNat 15) = some (u) ∧ fr.get (K.ofNat 21) = some (.i .i64 sq) ∧ fr.get (K.ofNat 22) = some (x) ∧ fr.get (K.ofNat 26) = some (.i .i64 (t : Int))
def f11_L (h2 : H) (m : Nat) (w : V) (R : List Int) (t : Nat) (fr : Fr) (h1 : H) : Prop := t ≤ R.length ∧ h1 = h2 ∧ fr.get (K.ofNat 7) = some (.i .i64 (m : Int)) ∧ fr.get (K.ofNat 27) = some (w) ∧ fr.get (K.ofNat 28) = some (.i .i64 0) ∧ fr.get (K.ofNat 29) = some (.i .i64 (smI (R.take t))) ∧ fr.get (K.ofNat 30) = some (.i .i64 (t : Int))
theorem f11_ret {h : H} {v v2 : V} {B M : List Int} {n : Int} (k : CallsSm fs) (hv : Sr iE h v B) (hv2 : Sr iE h v2 M) (hB : B.length ≤ 9223372036854775807) (hM : M.length ≤ 9223372036854775807) (hc : HC h) : Ret fs f11 [.i .i64 n, v, v2] h fun r h' => r = .b true ∧ Grow h.nx.nat h h' := by
  have aw := k.aw
  apply ret_of rfl
  show W fs none f11_c _ _ _
  unfold f11_c
  simp (disch := omega) only [f11_r0, f11_r1, w_reg, w_seq, seqK_n, x_nil, x_mv, x_as, x_call, ev_t, ev_c, evs_nil, evs_cons, getV_some, putD_some, frame_3, getK_set, Nat.reduceEqDiff, ↓reduceIte]
  refine (callP_0 (ef := f25) k.c25 rfl (f25_ret (n := n) k.toCallsTm hv hB hc)).mono ?_
  rintro r h1 ⟨m, c, ws, rfl, hm, hS, hG1⟩
  have s := Sched.of (teams_nat hm) (tame_sh (B := B) (teams_nat hm))
  generalize tameL m B = Q at *
  have hc1 := hG1.hc hc
  have ne0 : decide ((0 : Int) ≠ 0) = false := rfl
  have nel : ∀ x : Int, decide (x ≠ x) = false := fun x => by simp
  have kb : ∀ a b, keyEq (.one none) (.b a) (.b b) = some (a == b) := fun _ _ => rfl
  have bb : ∀ a : Bool, (a == a) = true := fun a => by cases a <;> rfl
  obtain ⟨hb10, hb2⟩ := s.bd
  have hql := s.len
  simp (disch := omega) only [f11_r2, w_reg, w_seq, seqK_n, x_nil, x_mv, x_as, x_ext, x_call, kx, rvP_ok, okv_some, ev_t, ev_c, evs_nil, evs_cons, getV_some, putD_some, onTup_t, nth0, nth1, getK_set, Nat.reduceEqDiff, ↓reduceIte]
  refine (callP_0 (ef := f18) k.c18 rfl (f18_ret k.toCallsFw s.ok hS s.big s.sh hc1)).mono ?_
  rintro r h2 ⟨w, xs, rfl, hw, hG2⟩
  have hc2 := hG2.hc hc1
  have hS2 := hS.grow hc1 hG2
  have hGa := hG1.trans (hG2.low hG1.nx)
  simp (disch := omega) only [f11_r3, w_reg, w_seq, seqK_n, x_nil, x_mv, x_as, x_ext, x_call, kx, rvP_ok, okv_some, ev_t, ev_c, evs_nil, evs_cons, getV_some, putD_some, onTup_t, nth0, nth1, getK_set, Nat.reduceEqDiff, ↓reduceIte]
  refine (callP_0 (ef := f19) k.c19 rfl (f19_ret k.toCallsFw s.ok hS2 s.big s.sh hc2)).mono ?_
  rintro r h3 ⟨rfl, hG3⟩
  have hc3 := hG3.hc hc2
  have hS3 := hS2.grow hc2 hG3
  have hw3 := hw.grow hc2 hG3
  have hGb := hGa.trans (hG3.low hGa.nx)
  simp (disch := omega) only [f11_r4, w_reg, w_seq, seqK_n, x_nil, x_mv, x_as, x_ext, x_call, kx, rvP_ok, okv_some, ev_t, ev_c, evs_nil, evs_cons, getV_some, putD_some, onTup_t, nth0, nth1, getK_set, Nat.reduceEqDiff, ↓reduceIte]
  refine (callP_0 (ef := f20) k.c20 rfl (f20_ret k.toCallsPf k.toCallsCh k.c56 s.ok hS3 s.big s.sh hc3)).mono ?_
  rintro r h4 ⟨rfl, hG4⟩
  have hc4 := hG4.hc hc3
  have hS4 := hS3.grow hc3 hG4
  have hw4 := hw3.grow hc3 hG4
  have hGc := hGb.trans (hG4.low hGb.nx)
  simp (disch := omega) only [f11_r5, w_reg, w_seq, seqK_n, x_nil, x_mv, x_as, x_ext, x_call, kx, rvP_ok, okv_some, ev_t, ev_c, evs_nil, evs_cons, getV_some, putD_some, onTup_t, nth0, nth1, getK_set, Nat.reduceEqDiff, ↓reduceIte]
  refine (callP_0 (ef := f33) k.c33 rfl (f33_ret (by omega) (hv2.grow hc hGc) hM hc4)).mono ?_
  rintro nm h5 ⟨hnm, _, hG5⟩
  have hc5 := hG5.hc hc4
  have hS5 := hS4.grow hc4 hG5
  have hw5 := hw4.grow hc4 hG5
  have hGd := hGc.trans (hG5.low hGc.nx)
  simp (disch := omega) only [x_call, kx, ev_t, ev_c, evs_nil, evs_cons, getV_some, putD_some, getK_set, Nat.reduceEqDiff, ↓reduceIte]
  refine (callP_0 (ef := f24) k.c24 rfl (f24_ret k.toCallsRn s.ok hS5 s.big s.sh hnm.sr.rd (by rw [nmL_len]; omega) hc5)).mono ?_
  rintro r h6 ⟨u, rfl, hu, hG6⟩
  rw [if_pos nm_aa] at hu ⊢
  obtain ⟨us, hu⟩ := hu
  have hc6 := hG6.hc hc5
  have hS6 := hS5.grow hc5 hG6
  have hw6 := hw5.grow hc5 hG6
  have hGe := hGd.trans (hG6.low hGd.nx)
  have hl1 : ∀ h1, lenV w h1 = .ok (.i .i64 (m : Int)) h1 := fun h1 => by rw [hw6.out.len, hw6.len, fw_len]
  have s2 : Sched m (renS (nmL M m) Q) := Sched.of s.ok (ren_sh s.ok s.sh)
  have hbr := bal_ren s.vd (M := nmL M m) nmL_len nm_in nmL_nodup
  have hpr := pr_ren s.vd (by omega) (M := nmL M m) nmL_len nm_in nmL_nodup
  have hbq := fun hb => sq_bal s.vd s.len hb
  have hmn := sq_min s.vd
  generalize renS (nmL M m) Q = Q2 at *
  clear hw hw3 hw4 hw5 hS hS2 hS3 hS4 hS5 hG1 hG2 hG3 hG4 hG5 hG6 hGa hGb hGc hGd hc1 hc2 hc3 hc4 hc5 hnm
  simp (disch := omega) only [f11_r6, w_skip, w_reg, w_seq, w_cond, seqK_n, ckB_b, cbB_b, okG_b, asG_f, true_and, x_nil, x_g, x_mv, x_as, x_pick, x_bin, x_ext, x_len, kx, rvP_ok, okv_some, ev_t, ev_c, getV_some, putD_some, bin_neq, pick_b, onTup_t, nth0, nth1, of0, getK_set, Nat.reduceEqDiff, ↓reduceIte, Bool.false_eq_true, Bool.not_false, ne0, nel, hl1]
  simp (disch := omega) only [f11_r8, x_mv, x_call, ev_t, ev_c, evs_nil, evs_cons, getV_some, putD_some, getK_set, Nat.reduceEqDiff, ↓reduceIte]
  refine (callP_0 (ef := f19) k.c19 rfl (f19_ret k.toCallsFw s2.ok hu s2.big s2.sh hc6)).mono ?_
  rintro r h7 ⟨rfl, hG7⟩
  have hc7 := hG7.hc hc6
  have hu7 := hu.grow hc6 hG7
  simp (disch := omega) only [f11_r9, w_reg, w_seq, seqK_n, x_nil, x_mv, x_as, x_ext, x_call, kx, rvP_ok, okv_some, ev_t, ev_c, evs_nil, evs_cons, getV_some, putD_some, onTup_t, nth0, nth1, getK_set, Nat.reduceEqDiff, ↓reduceIte]
  refine (callP_0 (ef := f20) k.c20 rfl (f20_ret k.toCallsPf k.toCallsCh k.c56 s2.ok hu7 s2.big s2.sh hc7)).mono ?_
  rintro r h8 ⟨rfl, hG8⟩
  rw [hpr, hbr]
  have hc8 := hG8.hc hc7
  have hu8 := hu7.grow hc7 hG8
  have hS8 := (hS6.grow hc6 hG7).grow hc7 hG8
  have hw8 := (hw6.grow hc6 hG7).grow hc7 hG8
  have hGf := hGe.trans ((hG7.trans (hG8.low hG7.nx)).low hGe.nx)
  generalize balB (fwT Q m) m = bB at *
  generalize prS m Q Q.length = pB at *
  have hmk := mks_ints (h := h8) (k := .i64) (n := m) (by omega)
  have hs0 := mks_sl (h := h8) (n := m)
  rw [← toL_0 (Q := Q)] at hs0
  have gD := Grow.new (Nat.le_refl h8.nx.nat) (.cells (m * 1) (rep [.i .i64 0] m))
  clear hu hu7 hS6 hw6 hG7 hG8 hc6 hc7 hGe
  simp (disch := omega) only [f11_r10, f11_r12, f11_r13, f11_r14, w_skip, w_reg, w_seq, w_cond, w_block, seqK_n, ckB_b, cbB_b, okG_b, asG_f, true_and, x_nil, x_g, x_mv, x_as, x_pick, x_bin, x_eqk, x_mks, x_ext, kx, rvP_ok, okv_some, ev_t, ev_c, getV_some, putD_some, bin_neq, pick_b, onTup_t, oGet_s, nth0, nth1, of0, getK_set, Nat.reduceEqDiff, ↓reduceIte, Bool.false_eq_true, Bool.not_true, Bool.not_false, ne0, kb, bb, Bool.not_true, cond_true, hmk]
  refine W_loop (f11_I h8 w xs Q m c u bB (.sl h8.nx 0 m 1)) (fun t => m - t) ?_ 0 ⟨by omega, ⟨gD, hw8, hs0, (fun _ _ _ _ e => (by cases e; exact Nat.le_refl _))⟩, by simp (disch := omega) only [getK_set, Nat.reduceEqDiff, ↓reduceIte, and_self, Int.natCast_zero, sqA_0]⟩
  clear hmk hs0 gD
  generalize V.sl h8.nx 0 m 1 = x
  rintro t fr h9 ⟨ht, hI, g7, g8, g9, g11, g15, g21, g22, g23⟩
  have hc9 := hI.gr.hc hc8
  have hq10 : Q.length ≤ 10 := by omega
  unfold f11_l1
  by_cases hlt : t < m
  · have d0 : decide ((t : Int) < (m : Int)) = true := decide_eq_true (by omega)
    have htl : t < (fwT Q m).length := by rw [fw_len]; exact hlt
    have htx : t < xs.length := by rw [hw8.len]; exact htl
    have hrow : (fwT Q m)[t] = (List.range m).map fun (k : Nat) => rfI Q (t : Int) (k : Int) Q.length := by simp [fwT]
    have hwt : ∀ h10, Grow h8.nx.nat h8 h10 → ∃ p y, (∀ k h1, iadsV 1 w (.i k (t : Int)) h1 = .ok p h1) ∧ loadV h10 p one? = .ok y h10 ∧ Sr iE h10 y ((List.range m).map fun (k : Nat) => rfI Q (t : Int) (k : Int) Q.length) ∧ beqV p p = true := fun h10 hg => by
      obtain ⟨p, p1, p2, p3⟩ := (hI.fw.grow hc8 hg).out.atb t htx
      have hr := (hI.fw.grow hc8 hg).inn t htx htl
      rw [hrow] at hr
      exact ⟨p, xs[t], p1, p2, hr, p3⟩
    obtain ⟨p, y, p1, p2, hy, _⟩ := hwt h9 hI.gr
    have hyl := hy.len
    rw [List.length_map, List.length_range] at hyl
    -- what is checked of the row
    have start : ∀ fr, fr.get (K.ofNat 7) = some (.i .i64 (m : Int)) ∧ fr.get (K.ofNat 8) = some (c) ∧ fr.get (K.ofNat 9) = some (w) ∧ fr.get (K.ofNat 11) = some (.b bB) ∧ fr.get (K.ofNat 15) = some (u) ∧ fr.get (K.ofNat 21) = some (.i .i64 (sqA Q m t)) ∧ fr.get (K.ofNat 22) = some (x) ∧ fr.get (K.ofNat 23) = some (.i .i64 (t : Int)) ∧ fr.get (K.ofNat 24) = some (.i .i64 0) ∧ fr.get (K.ofNat 25) = some (.i .i64 0) → W fs none (.loop f11_l0) (atK 2 (seqK (W fs none (.seq (.reg f11_r25) (.cond (.t (K.ofNat 189)) (.seq (.reg f11_r26) .ret) .skip))) (atK 1 (seqK (W fs none (.reg f11_r27)) (loopK (f11_I h8 w xs Q m c u bB x) (fun t => m - t) t (atK 0 (seqK (W fs none (.seq (.seq (.reg f11_r28) (.block 4 (.loop f11_l2))) (.seq (.seq (.reg f11_r33) (.cond (.t (K.ofNat 218)) (.seq (.reg f11_r34) .ret) .skip)) (.seq (.draw f11_r35) (.seq (.reg f11_r36) (.seq (.seq (.reg f11_r37) (.block 6 (.loop f11_l3))) (.seq (.reg f11_r43) .ret))))))) (retK f11 fun r h' => r = .b true ∧ Grow h.nx.nat h h')))))))) fr h9 := by
      clear g7 g8 g9 g11 g15 g21 g22 g23 fr p1 p2 hy hyl
      rintro fr ⟨g7, g8, g9, g11, g15, g21, g22, g23, g24, g25⟩
      refine W_loop (f11_J h8 w xs Q m c u bB x t) (fun k => m - k) ?_ 0 ⟨by omega, hI, by simp (disch := omega) only [g7, g8, g9, g11, g15, g21, g22, g23, g24, g25, and_self, Int.natCast_zero, sqR_0, suR_0, Int.add_zero]⟩
      clear g7 g8 g9 g11 g15 g21 g22 g23 g24 g25 fr hI hc9
      rintro q fr h10 ⟨hq, hI, g7, g8, g9, g11, g15, g21, g22, g23, g24, g25⟩
      have hc10 := hI.gr.hc hc8
      unfold f11_l0
      by_cases hlt2 : q < m
      · have d1 : decide ((q : Int) < (m : Int)) = true := decide_eq_true (by omega)
        obtain ⟨p, y, p1, p2, hy, hpb⟩ := hwt h10 hI.gr
        obtain ⟨p', e1, e2⟩ := hy.at q (by simpa using hlt2)
        rw [List.getElem_map, List.getElem_range] at e2
        obtain ⟨z, z1, z2⟩ := hI.sl.at q (by rw [toL_len]; exact hlt2)
        have hset := toL_set (Q := Q) (n := m) (t := t) hlt2
        obtain ⟨z', id, mm, cs', b1, b2, b3, ⟨off, nn, sz, b4⟩, b5⟩ := hI.sl.st (i := q) (by rw [toL_len]; exact hlt2) (x := (toL Q m t q)[q]'(by rw [toL_len]; exact hlt2) + rfI Q (t : Int) (q : Int) Q.length) (c := .i .i64 ((toL Q m t q)[q]'(by rw [toL_len]; exact hlt2) + rfI Q (t : Int) (q : Int) Q.length)) rfl rfl hc10
        obtain rfl : z = z' := by have := (z1 .i64 h10).symm.trans (b1 .i64 h10); injection this
        rw [hset] at b3
        have hid := hI.ow _ _ _ _ b4
        have hGx := hI.gr.trans (Grow.put hid b5 (.cells mm cs'))
        obtain ⟨p2', y2, p1', p2'', hy2, _⟩ := hwt _ hGx
        obtain ⟨q2', e1', e2'⟩ := hy2.at q (by simpa using hlt2)
        rw [List.getElem_map, List.getElem_range] at e2'
        rw [toL_at, if_neg (by omega)] at z2 b2
        have t1 := to_bd (Q := Q) (k := q) (t := t) hq10 (by omega)
        have t2 := rf_bd (Ls := Q) (t := (t : Int)) (k := (q : Int)) (m := Q.length)
        have t3 := suR_bd (Q := Q) (t := t) (k := q) hq10 (by omega)
        have t4 := sqR_bd (Q := Q) (n := m) (t := t) (k := q) hq10 (by omega)
        have t5 := sqA_bd (Q := Q) (n := m) (t := t) hq10 (by omega) (by omega)
        have t6 := rf_sq (Q := Q) (t := (t : Int)) (k := (q : Int)) hq10
        have su1 : suR Q t (q + 1) = suR Q t q + rfI Q (t : Int) (q : Int) Q.length := rfl
        have su2 : sqR Q m t (q + 1) = sqR Q m t q + rfI Q (t : Int) (q : Int) Q.length * rfI Q (t : Int) (q : Int) Q.length := rfl
        have su3 : sqA Q m t + sqR Q m t q + rfI Q (t : Int) (q : Int) Q.length * rfI Q (t : Int) (q : Int) Q.length = sqA Q m t + sqR Q m t (q + 1) := by rw [su2]; omega
        generalize hf : rfI Q (t : Int) (q : Int) Q.length = f at *
        simp (disch := omega) only [f11_r20, f11_r21, f11_r22, w_skip, w_reg, w_draw, w_seq, w_cond, w_block, seqK_n, ckB_b, cbB_b, true_and, x_nil, x_mv, x_as, x_ld, x_st, x_bin, x_iads, kx, kg, xg_nil, xg_mv, xg_ld, xg_bin, xg_iads, xd_cons, fresh_nil, stK_n, stK_s, stay_nil, rvP_ok, okv_some, ev_t, getV_some, putD_some, putD_none, bin_add, bin_lss, getK_set, Nat.reduceEqDiff, ↓reduceIte, g7, g9, g22, g23, g24, g25, d1, p1, p2, e1, e2, z1, z2, iE, b2, fw64]
        simp (disch := omega) only [f11_r23, f11_r24, w_reg, seqK_n, atK_n, loopK_n, true_and, x_nil, x_mv, x_as, x_bin, kx, kg, xg_nil, xg_mv, xg_ld, xg_bin, xg_iads, xd_cons, fresh_nil, stK_n, stK_s, stay_nil, rvP_ok, okv_some, ev_t, ev_c, getV_some, putD_some, bin_add, bin_mul, of1, getK_set, Nat.reduceEqDiff, ↓reduceIte, g9, g21, g23, g25, p1', p2'', e1', e2', iE, su3, fw64]
        exact ⟨q + 1, by omega, by omega, ⟨hGx, hI.fw, b3, hI.ow⟩, by simp (disch := omega) only [getK_set, Nat.reduceEqDiff, ↓reduceIte, g7, g8, g9, g11, g15, g22, g23, and_self, Int.natCast_add, Int.natCast_one, su1]⟩
      · have d1 : decide ((q : Int) < (m : Int)) = false := decide_eq_false (by omega)
        have eq : q = m := by omega
        have hrs : suR Q t m = (Q.length : Int) := row_sum s.vd hlt Q.length (Nat.le_refl _)
        rw [eq, toL_all] at hI
        rw [eq, hrs] at g24
        rw [eq] at g21
        have em : (m : Int) - 1 = (Q.length : Int) := by omega
        have hA : sqA Q m t + sqR Q m t m = sqA Q m (t + 1) := rfl
        rw [hA] at g21
        simp (disch := omega) only [f11_r20, f11_r25, f11_r27, w_skip, w_reg, w_seq, w_cond, w_exit, seqK_n, seqK_e, atK_n, atK_e, loopK_n, loopK_e, ckB_b, cbB_b, true_and, x_nil, x_mv, x_as, x_bin, kx, rvP_ok, okv_some, ev_t, ev_c, getV_some, putD_some, bin_add, bin_sub, bin_neq, bin_lss, of1, getK_set, Nat.reduceEqDiff, ↓reduceIte, Bool.false_eq_true, g7, g23, g24, g25, d1, em, nel, fw64]
        exact ⟨t + 1, by omega, by omega, hI, by simp (disch := omega) only [getK_set, Nat.reduceEqDiff, ↓reduceIte, g7, g8, g9, g11, g15, g21, g22, and_self, Int.natCast_add, Int.natCast_one]⟩
    by_cases hm2 : 2 < m
    · have d2 : decide ((m : Int) > 2) = true := decide_eq_true (by omega)
      obtain ⟨p', e1, e2⟩ := hy.at t (by simpa using hlt)
      rw [List.getElem_map, List.getElem_range, diag0 s.vd s.len hm2 hlt] at e2
      simp (disch := omega) only [f11_r15, f11_r16, f11_r17, f11_r19, w_skip, w_reg, w_seq, w_cond, w_block, seqK_n, ckB_b, cbB_b, okG_b, asG_t, asG_f, true_and, x_nil, x_g, x_mv, x_as, x_pick, x_ld, x_bin, x_iads, x_len, kx, rvP_ok, okv_some, ev_t, ev_c, getV_some, putD_some, bin_neq, bin_lss, bin_gtr, pick_b, of0, of2, getK_set, Nat.reduceEqDiff, ↓reduceIte, Bool.false_eq_true, Bool.not_false, g7, g9, g23, d0, p1, p2, hyl, nel, d2, e1, e2, iE]
      exact start _ (by simp (disch := omega) only [getK_set, Nat.reduceEqDiff, ↓reduceIte, g7, g8, g9, g11, g15, g21, g22, g23, and_self])
    · have d2 : decide ((m : Int) > 2) = false := decide_eq_false (by omega)
      simp (disch := omega) only [f11_r15, f11_r16, f11_r17, f11_r19, w_skip, w_reg, w_seq, w_cond, w_block, seqK_n, ckB_b, cbB_b, okG_b, asG_t, asG_f, true_and, x_nil, x_g, x_mv, x_as, x_pick, x_ld, x_bin, x_iads, x_len, kx, rvP_ok, okv_some, ev_t, ev_c, getV_some, putD_some, bin_neq, bin_lss, bin_gtr, pick_b, of0, of2, getK_set, Nat.reduceEqDiff, ↓reduceIte, Bool.false_eq_true, Bool.not_false, g7, g9, g23, d0, p1, p2, hyl, nel, d2]
      exact start _ (by simp (disch := omega) only [getK_set, Nat.reduceEqDiff, ↓reduceIte, g7, g8, g9, g11, g15, g21, g22, g23, and_self])
  · have d0 : decide ((t : Int) < (m : Int)) = false := decide_eq_false (by omega)
    have et : t = m := by omega
    rw [et] at hI g21
    rw [show sqA Q m m = sqS Q m from rfl] at g21
    have hGg := hGf.trans (hI.gr.low hGf.nx)
    have hS9 := hS8.grow hc8 hI.gr
    have hu9 := hu8.grow hc8 hI.gr
    simp (disch := omega) only [f11_r15, f11_r28, w_reg, w_seq, w_cond, w_block, w_exit, seqK_n, seqK_e, atK_e, loopK_e, ckB_b, cbB_b, true_and, x_nil, x_mv, x_as, x_bin, kx, rvP_ok, okv_some, ev_t, ev_c, getV_some, putD_some, bin_lss, of0, getK_set, Nat.reduceEqDiff, ↓reduceIte, Bool.false_eq_true, g7, g23, d0]
    refine W_loop (f11_K h9 m c u x bB (sqS Q m)) (fun t => m - t) ?_ 0 ⟨by omega, rfl, by simp (disch := omega) only [getK_set, Nat.reduceEqDiff, ↓reduceIte, g7, g8, g11, g15, g21, g22, and_self, Int.natCast_zero]⟩
    clear g7 g8 g9 g11 g15 g21 g22 g23 fr d0 et hlt ht t
    rintro t fr h10 ⟨ht, rfl, g7, g8, g11, g15, g21, g22, g26⟩
    unfold f11_l2
    by_cases hlt : t < m
    · have d0 : decide ((t : Int) < (m : Int)) = true := decide_eq_true (by omega)
      obtain ⟨z, z1, z2⟩ := hI.sl.at t (by rw [toL_len]; exact hlt)
      rw [toL_at, if_neg (by omega), col_sum s.vd hlt Q.length (Nat.le_refl _)] at z2
      have em : (m : Int) - 1 = (Q.length : Int) := by omega
      simp (disch := omega) only [f11_r29, f11_r30, f11_r32, w_skip, w_reg, w_seq, w_cond, w_block, seqK_n, atK_n, loopK_n, ckB_b, cbB_b, true_and, x_nil, x_mv, x_as, x_ld, x_bin, x_iads, kx, rvP_ok, okv_some, ev_t, ev_c, getV_some, putD_some, bin_add, bin_sub, bin_neq, bin_lss, of1, getK_set, Nat.reduceEqDiff, ↓reduceIte, Bool.false_eq_true, g7, g22, g26, d0, z1, z2, iE, em, nel, fw64]
      exact ⟨t + 1, by omega, by omega, rfl, by simp (disch := omega) only [getK_set, Nat.reduceEqDiff, ↓reduceIte, g7, g8, g11, g15, g21, g22, and_self, Int.natCast_add, Int.natCast_one]⟩
    · have d0 : decide ((t : Int) < (m : Int)) = false := decide_eq_false (by omega)
      have em : (m : Int) - 1 = (Q.length : Int) := by omega
      have hmq : 0 ≤ (m : Int) * (Q.length : Int) ∧ (m : Int) * (Q.length : Int) ≤ 1000 := by
        refine ⟨Int.mul_nonneg (by omega) (by omega), ?_⟩
        have := Int.mul_le_mul (show (m : Int) ≤ 10 by omega) (show (Q.length : Int) ≤ 10 by omega) (by omega) (by omega)
        omega
      have d1 : decide (sqS Q m < (m : Int) * (Q.length : Int)) = false := decide_eq_false (by omega)
      -- the rings
      have hqm : 0 < Q.length := by omega
      have hq2 : 0 < Q2.length := by have := s2.len; omega
      have hul := hu9.len
      have hwl := hS9.len
      obtain ⟨p, p1, p2⟩ := hS9.out.at 0 (by omega)
      have p2 : loadV h10 p one? = .ok (ws[0]'(by omega)) h10 := p2
      obtain ⟨q, q1, q2⟩ := hu9.out.at (Q2.length - 1) (by omega)
      have q2 : loadV h10 q one? = .ok (us[Q2.length - 1]'(by omega)) h10 := q2
      have hra := hS9.inn 0 (by omega) hqm
      have hrb := hu9.inn (Q2.length - 1) (by omega) (by omega)
      have ra := s.vd.rnd _ (List.getElem_mem hqm)
      have rb := s2.vd.rnd _ (List.getElem_mem (show Q2.length - 1 < Q2.length by omega))
      have la := s.big _ (List.getElem_mem hqm)
      have lb := s2.big _ (List.getElem_mem (show Q2.length - 1 < Q2.length by omega))
      have hlu : ∀ h1, lenV u h1 = .ok (.i .i64 (Q2.length : Int)) h1 := fun h1 => by rw [hu9.out.len, hul]
      have el : (Q2.length : Int) - 1 = ((Q2.length - 1 : Nat) : Int) := by omega
      obtain ⟨r1, r2, r3, r4⟩ := rg_sum ra rb (by omega)
      have hs2l := s2.len
      generalize ws[0]'(by omega) = ua at *
      generalize us[Q2.length - 1]'(by omega) = ub at *
      generalize Q[0] = qa at *
      generalize Q2[Q2.length - 1]'(by omega) = qb at *
      have p1 : ∀ (k : IntKind) (h1 : H), iadsV 1 c (.i k 0) h1 = .ok p h1 := p1
      have rest : ∀ fr, fr.get (K.ofNat 7) = some (.i .i64 (m : Int)) ∧ fr.get (K.ofNat 8) = some (c) ∧ fr.get (K.ofNat 15) = some (u) → XD fs f11_r35 (seqK (W fs none (.seq (.reg f11_r36) (.seq (.seq (.reg f11_r37) (.block 6 (.loop f11_l3))) (.seq (.reg f11_r43) .ret)))) (retK f11 fun r h' => r = .b true ∧ Grow h.nx.nat h h') .normal) fr h10 := by
        clear g7 g8 g11 g15 g21 g22 g26 fr d0
        rintro fr ⟨g7, g8, g15⟩
        simp (disch := omega) only [f11_r35, true_and, x_call, kg, xg_nil, xg_mv, xg_ld, xg_bin, xg_iads, xg_len, xd_cons, fresh_nil, stK_s, stay_nil, rvP_ok, okv_some, ev_t, ev_c, evs_nil, evs_cons, getV_some, putD_some, bin_sub, of0, of1, getK_set, Nat.reduceEqDiff, ↓reduceIte, g7, g8, g15, p1, p2, hlu, el, q1, q2, fw64]
        refine (callP_0 (ef := f44) k.c44 rfl (f44_ret k.toCallsRi s.ok hra hrb la lb hc9)).mono ?_
        rintro r h11 ⟨w3, rfl, hw3, hG11⟩
        rw [if_pos ⟨ra, rb⟩] at hw3 ⊢
        have hlw := hw3.len
        have hGh := hGg.trans (hG11.low hGg.nx)
        generalize rgL qa qb m = R at *
        simp (disch := omega) only [f11_r36, f11_r37, w_reg, w_seq, w_block, seqK_n, true_and, x_nil, x_as, kx, kg, xg_nil, xg_mv, xg_ext, xd_cons, fresh_nil, stK_n, stK_s, stay_nil, stay_cons, again_ok, beq_i, rvP_ok, okv_some, ev_t, ev_c, getV_some, putD_some, onTup_t, nth0, nth1, of0, getK_set, Nat.reduceEqDiff, ↓reduceIte, stay_ext]
        refine W_loop (f11_L h11 m w3 R) (fun t => R.length - t) ?_ 0 ⟨by omega, rfl, by simp (disch := omega) only [getK_set, Nat.reduceEqDiff, ↓reduceIte, g7, and_self, Int.natCast_zero, List.take_zero, smI_0]⟩
        clear g7 g8 g15 fr
        rintro t fr h12 ⟨ht, rfl, g7, g27, g28, g29, g30⟩
        unfold f11_l3
        by_cases hlt : t < R.length
        · have d0 : decide ((t : Int) < (R.length : Int)) = true := decide_eq_true (by omega)
          have d2 : decide ((t : Int) < 10) = true := decide_eq_true (by omega)
          obtain ⟨z, z1, z2⟩ := hw3.at t hlt
          have hsn : smI (R.take (t + 1)) = smI (R.take t) + R[t] := by rw [List.take_succ_eq_append_getElem hlt, smI_snoc]
          obtain ⟨qq, eq, hq1⟩ := r2 R[t] (List.getElem_mem hlt)
          have hsu : smI R = smI (R.take (t + 1)) + smI (R.drop (t + 1)) := by
            conv => lhs; rw [← List.take_append_drop (t + 1) R]
            unfold smI
            rw [List.foldl_append, fold_add]; rfl
          have pos : ∀ L : List Int, (∀ s ∈ L, ∃ q : Nat, s = 2 * (q : Int) ∧ 1 ≤ q) → 0 ≤ smI L := by
            intro L
            induction L with
            | nil => intro _; exact Int.le_refl _
            | cons a L ih =>
              intro h
              rw [smI_cons]
              have h1 := ih fun s hs => h s (List.mem_cons_of_mem _ hs)
              obtain ⟨q, e, _⟩ := h a (by simp)
              omega
          have h1 := pos (R.take t) fun s hs => r2 s (List.mem_of_mem_take hs)
          have h2 := pos (R.drop (t + 1)) fun s hs => r2 s (List.mem_of_mem_drop hs)
          have hm2 : (2 * (qq : Int)).tmod 2 = 0 := by
            rw [Int.mul_tmod_right]
          have d3 : decide (2 * (qq : Int) < 2) = false := decide_eq_false (by omega)
          rw [eq] at z2 hsn
          by_cases h0 : t = 0
          · have d4 : decide ((t : Int) > 0) = false := decide_eq_false (by omega)
            simp (disch := omega) only [f11_r38, f11_r39, f11_r40, f11_r42, w_skip, w_reg, w_draw, w_seq, w_cond, w_block, seqK_n, atK_n, loopK_n, ckB_b, cbB_b, okG_b, asG_t, asG_f, true_and, x_nil, x_g, x_mv, x_as, x_pick, x_ld, x_bin, x_iads, x_len, kx, kg, xg_nil, xg_g, xg_mv, xg_pick, xg_ld, xg_bin, xg_iads, xd_cons, fresh_nil, stK_n, stay_nil, rvP_ok, okv_some, ev_t, ev_c, getV_some, putD_some, bin_add, bin_neq, bin_lss, bin_gtr, bin_rem, pick_b, of0, of1, of2, of10, getK_set, Nat.reduceEqDiff, ↓reduceIte, Bool.false_eq_true, Bool.not_false, g27, g29, g30, hlw, d0, d2, z1, z2, iE, hm2, ne0, d3, d4, fw64]
            exact ⟨t + 1, by omega, by omega, rfl, by simp (disch := omega) only [getK_set, Nat.reduceEqDiff, ↓reduceIte, g7, g27, g28, and_self, hsn, Int.natCast_add, Int.natCast_one]⟩
          · have d4 : decide ((t : Int) > 0) = true := decide_eq_true (by omega)
            have e1 : (t : Int) - 1 = ((t - 1 : Nat) : Int) := by omega
            obtain ⟨y, y1, y2⟩ := hw3.at (t - 1) (by omega)
            have hle : R[t - 1]'(by omega) ≤ R[t] := List.pairwise_iff_getElem.1 r3 (t - 1) t (by omega) hlt (by omega)
            rw [eq] at hle
            have hb2 : R[t - 1]'(by omega) ≤ 1000 := by omega
            have d5 : decide (R[t - 1]'(by omega) > 2 * (qq : Int)) = false := decide_eq_false (by omega)
            simp (disch := omega) only [f11_r38, f11_r39, f11_r40, f11_r42, w_skip, w_reg, w_draw, w_seq, w_cond, w_block, seqK_n, atK_n, loopK_n, ckB_b, cbB_b, okG_b, asG_t, asG_f, true_and, x_nil, x_g, x_mv, x_as, x_pick, x_ld, x_bin, x_iads, x_len, kx, kg, xg_nil, xg_g, xg_mv, xg_pick, xg_ld, xg_bin, xg_iads, xd_cons, fresh_nil, stK_n, stay_nil, rvP_ok, okv_some, ev_t, ev_c, getV_some, putD_some, bin_add, bin_sub, bin_neq, bin_lss, bin_gtr, bin_rem, pick_b, of0, of1, of2, of10, getK_set, Nat.reduceEqDiff, ↓reduceIte, Bool.false_eq_true, Bool.not_false, g27, g29, g30, hlw, d0, d2, z1, z2, iE, y1, y2, e1, hm2, ne0, d3, d4, d5, fw64]
            exact ⟨t + 1, by omega, by omega, rfl, by simp (disch := omega) only [getK_set, Nat.reduceEqDiff, ↓reduceIte, g7, g27, g28, and_self, hsn, Int.natCast_add, Int.natCast_one]⟩
        · have d0 : decide ((t : Int) < (R.length : Int)) = false := decide_eq_false (by omega)
          have et : t = R.length := by omega
          rw [et, List.take_length, r1] at g29
          have d5 : decide ((0 : Int) = 0) = true := rfl
          have d6 : decide ((m : Int) = (m : Int)) = true := decide_eq_true rfl
          simp (disch := omega) only [f11_r38, f11_r43, f11_rs, w_reg, w_seq, w_cond, w_exit, w_ret, seqK_n, seqK_e, atK_e, loopK_e, ckB_b, cbB_b, okG_b, asG_t, true_and, retK_r, x_nil, x_g, x_mv, x_as, x_pick, x_bin, x_call, x_len, kx, rvP_ok, okv_some, ev_t, ev_c, evs_nil, getV_some, putD_some, bin_eql, bin_lss, pick_b, oGet_s, readRs_nil, readRs_t, retV_1, of0, of10, Option.some.injEq, exists_eq_left', getK_set, Nat.reduceEqDiff, ↓reduceIte, Bool.false_eq_true, decide_eq_true_eq, g7, g27, g28, g29, g30, hlw, d0, aw, true_and]
          exact hGh
      cases bB with
      | false =>
        simp (disch := omega) only [f11_r29, f11_r33, w_skip, w_reg, w_draw, w_seq, w_cond, w_exit, seqK_n, seqK_e, atK_e, loopK_e, ckB_b, cbB_b, okG_b, asG_t, asG_f, true_and, x_nil, x_g, x_mv, x_pick, x_bin, kx, rvP_ok, okv_some, ev_t, ev_c, getV_some, putD_some, bin_sub, bin_mul, bin_lss, pick_b, of1, getK_set, Nat.reduceEqDiff, ↓reduceIte, Bool.false_eq_true, Bool.not_false, g7, g11, g21, g26, d0, em, d1, fw64]
        exact rest _ (by simp (disch := omega) only [getK_set, Nat.reduceEqDiff, ↓reduceIte, g7, g8, g15, and_self])
      | true =>
        have d2 : decide (sqS Q m ≠ (m : Int) * (Q.length : Int)) = false := decide_eq_false (by rw [hbq rfl]; simp)
        simp (disch := omega) only [f11_r29, f11_r33, w_skip, w_reg, w_draw, w_seq, w_cond, w_exit, seqK_n, seqK_e, atK_e, loopK_e, ckB_b, cbB_b, okG_b, asG_t, asG_f, true_and, x_nil, x_g, x_mv, x_pick, x_bin, kx, rvP_ok, okv_some, ev_t, ev_c, getV_some, putD_some, bin_sub, bin_mul, bin_neq, bin_lss, pick_b, of1, getK_set, Nat.reduceEqDiff, ↓reduceIte, Bool.false_eq_true, Bool.not_false, g7, g11, g21, g26, d0, em, d1, d2, fw64]
        exact rest _ (by simp (disch := omega) only [getK_set, Nat.reduceEqDiff, ↓reduceIte, g7, g8, g15, and_self])
end
end Go.Ev
