/-
  Rounds: whether a schedule is balanced; follow numbers of the reference.
  Rounds: the follow numbers of the reference.
  Rounds: rings.
  slices.Sort of few numbers.
  Rounds: rings, of the program.
  Rounds: rings, of the reference.
  Rounds: one ring, whichever round is the first.
  Rounds: whether a schedule is perfect; rings of two rounds.
  Rounds: schedules that are made.
-/
import Derived.Test.YthememdeglgnpaaPf
namespace Go.Ev
open Go Go.RowKit
noncomputable def f55_r0 : List EOper := [⟨(some (K.ofNat 4)), none, .as (.c (.b false))⟩]
noncomputable def f55_r1 : List EOper := [⟨(some (K.ofNat 9)), none, .mv (.t (K.ofNat 0))⟩, ⟨(some (K.ofNat 10)), none, .mv (.t (K.ofNat 1))⟩, ⟨(some (K.ofNat 11)), none, .call (.c (.fn (K.ofNat 54) [])) [(.t (K.ofNat 9)), (.t (K.ofNat 10))]⟩, ⟨(some (K.ofNat 12)), none, .len (.t (K.ofNat 11))⟩, ⟨(some (K.ofNat 13)), none, .mv (.c (.i .i64 (.ofNat 0)))⟩]
noncomputable def f55_r2 : List EOper := [⟨(some (K.ofNat 14)), none, .bin .lss (.t (K.ofNat 13)) (.t (K.ofNat 12))⟩]
noncomputable def f55_r3 : List EOper := [⟨(some (K.ofNat 15)), none, .mv (.t (K.ofNat 13))⟩, ⟨(some (K.ofNat 16)), none, .iads 1 (.t (K.ofNat 11)) (.t (K.ofNat 13))⟩, ⟨(some (K.ofNat 17)), none, .ld (.t (K.ofNat 16))⟩, ⟨(some (K.ofNat 5)), none, .as (.t (K.ofNat 15))⟩, ⟨(some (K.ofNat 6)), none, .as (.t (K.ofNat 17))⟩]
noncomputable def f55_r4 : List EOper := [⟨(some (K.ofNat 18)), none, .mv (.t (K.ofNat 6))⟩, ⟨(some (K.ofNat 19)), none, .len (.t (K.ofNat 18))⟩, ⟨(some (K.ofNat 20)), none, .mv (.c (.i .i64 (.ofNat 0)))⟩]
noncomputable def f55_r5 : List EOper := [⟨(some (K.ofNat 21)), none, .bin .lss (.t (K.ofNat 20)) (.t (K.ofNat 19))⟩]
noncomputable def f55_r6 : List EOper := [⟨(some (K.ofNat 22)), none, .mv (.t (K.ofNat 20))⟩, ⟨(some (K.ofNat 23)), none, .iads 1 (.t (K.ofNat 18)) (.t (K.ofNat 20))⟩, ⟨(some (K.ofNat 24)), none, .ld (.t (K.ofNat 23))⟩, ⟨(some (K.ofNat 7)), none, .as (.t (K.ofNat 22))⟩, ⟨(some (K.ofNat 8)), none, .as (.t (K.ofNat 24))⟩]
noncomputable def f55_r7 : List EOper := [⟨(some (K.ofNat 25)), none, .mv (.t (K.ofNat 5))⟩, ⟨(some (K.ofNat 26)), none, .mv (.t (K.ofNat 7))⟩, ⟨(some (K.ofNat 27)), none, .bin .neq (.t (K.ofNat 25)) (.t (K.ofNat 26))⟩, ⟨(some (K.ofNat 28)), none, .mv (.t (K.ofNat 27))⟩, ⟨(some (K.ofNat 29)), (some ((K.ofNat 28), true)), .mv (.t (K.ofNat 8))⟩, ⟨(some (K.ofNat 30)), (some ((K.ofNat 28), true)), .bin .neq (.t (K.ofNat 29)) (.c (.i .i64 (.ofNat 1)))⟩, ⟨(some (K.ofNat 31)), none, .pick (.t (K.ofNat 28)) (.t (K.ofNat 30)) (.c (.b false))⟩]
noncomputable def f55_r8 : List EOper := [⟨(some (K.ofNat 4)), none, .as (.c (.b false))⟩]
noncomputable def f55_r9 : List EOper := [⟨(some (K.ofNat 32)), none, .bin .add (.t (K.ofNat 20)) (.c (.i .i64 (.ofNat 1)))⟩, ⟨(some (K.ofNat 20)), none, .mv (.t (K.ofNat 32))⟩]
noncomputable def f55_l0 : EC := (.seq (.reg f55_r5) (.seq (.cond (.t (K.ofNat 21)) .skip (.exit 2)) (.seq (.block 3 (.seq (.reg f55_r6) (.seq (.reg f55_r7) (.cond (.t (K.ofNat 31)) (.seq (.reg f55_r8) .ret) .skip)))) (.reg f55_r9))))
noncomputable def f55_r10 : List EOper := [⟨(some (K.ofNat 33)), none, .bin .add (.t (K.ofNat 13)) (.c (.i .i64 (.ofNat 1)))⟩, ⟨(some (K.ofNat 13)), none, .mv (.t (K.ofNat 33))⟩]
noncomputable def f55_l1 : EC := (.seq (.reg f55_r2) (.seq (.cond (.t (K.ofNat 14)) .skip (.exit 0)) (.seq (.block 1 (.seq (.reg f55_r3) (.seq (.reg f55_r4) (.block 2 (.loop f55_l0))))) (.reg f55_r10))))
noncomputable def f55_r11 : List EOper := [⟨(some (K.ofNat 4)), none, .as (.c (.b true))⟩]
noncomputable def f55_c : EC := (.seq (.reg f55_r0) (.seq (.seq (.reg f55_r1) (.block 0 (.loop f55_l1))) (.seq (.reg f55_r11) .ret)))
noncomputable def f55 : EF := ⟨34, [.tmp (K.ofNat 4)], f55_c, none⟩
theorem f55_rs : f55.rs = [.tmp (K.ofNat 4)] := of_eq_true (eq_self _)
noncomputable def f18_r0 : List EOper := [⟨(some (K.ofNat 4)), none, .as (.c .sn)⟩, ⟨(some (K.ofNat 5)), none, .as (.c (.i .i64 (.ofNat 0)))⟩]
noncomputable def f18_r1 : List EOper := [⟨(some (K.ofNat 9)), none, .mv (.t (K.ofNat 0))⟩, ⟨(some (K.ofNat 10)), none, .mv (.t (K.ofNat 1))⟩, ⟨(some (K.ofNat 11)), none, .call (.c (.fn (K.ofNat 51) [])) [(.t (K.ofNat 9)), (.t (K.ofNat 10))]⟩, ⟨(some (K.ofNat 8)), none, .mv (.t (K.ofNat 11))⟩, ⟨(some (K.ofNat 12)), none, .ext (.t (K.ofNat 8)) 0⟩, ⟨(some (K.ofNat 13)), none, .ext (.t (K.ofNat 8)) 1⟩, ⟨(some (K.ofNat 6)), none, .as (.t (K.ofNat 12))⟩, ⟨(some (K.ofNat 7)), none, .as (.t (K.ofNat 13))⟩]
noncomputable def f18_r2 : List EOper := [⟨(some (K.ofNat 14)), none, .mv (.t (K.ofNat 7))⟩, ⟨(some (K.ofNat 15)), none, .bin .neq (.t (K.ofNat 14)) (.c (.i .i64 (.ofNat 0)))⟩]
noncomputable def f18_r3 : List EOper := [⟨(some (K.ofNat 16)), none, .mv (.t (K.ofNat 7))⟩, ⟨(some (K.ofNat 4)), none, .as (.c .sn)⟩, ⟨(some (K.ofNat 5)), none, .as (.t (K.ofNat 16))⟩]
noncomputable def f18_r4 : List EOper := [⟨(some (K.ofNat 17)), none, .mv (.t (K.ofNat 6))⟩, ⟨(some (K.ofNat 18)), none, .mv (.t (K.ofNat 0))⟩, ⟨(some (K.ofNat 19)), none, .call (.c (.fn (K.ofNat 54) [])) [(.t (K.ofNat 17)), (.t (K.ofNat 18))]⟩, ⟨(some (K.ofNat 4)), none, .as (.t (K.ofNat 19))⟩, ⟨(some (K.ofNat 5)), none, .as (.c (.i .i64 (.ofNat 0)))⟩]
noncomputable def f18_c : EC := (.seq (.reg f18_r0) (.seq (.reg f18_r1) (.seq (.seq (.reg f18_r2) (.cond (.t (K.ofNat 15)) (.seq (.reg f18_r3) .ret) .skip)) (.seq (.reg f18_r4) .ret))))
noncomputable def f18 : EF := ⟨20, [.tmp (K.ofNat 4), .tmp (K.ofNat 5)], f18_c, none⟩
theorem f18_rs : f18.rs = [.tmp (K.ofNat 4), .tmp (K.ofNat 5)] := of_eq_true (eq_self _)
noncomputable def f19_r0 : List EOper := [⟨(some (K.ofNat 4)), none, .as (.c (.b false))⟩, ⟨(some (K.ofNat 5)), none, .as (.c (.i .i64 (.ofNat 0)))⟩]
noncomputable def f19_r1 : List EOper := [⟨(some (K.ofNat 9)), none, .mv (.t (K.ofNat 0))⟩, ⟨(some (K.ofNat 10)), none, .mv (.t (K.ofNat 1))⟩, ⟨(some (K.ofNat 11)), none, .call (.c (.fn (K.ofNat 51) [])) [(.t (K.ofNat 9)), (.t (K.ofNat 10))]⟩, ⟨(some (K.ofNat 8)), none, .mv (.t (K.ofNat 11))⟩, ⟨(some (K.ofNat 12)), none, .ext (.t (K.ofNat 8)) 0⟩, ⟨(some (K.ofNat 13)), none, .ext (.t (K.ofNat 8)) 1⟩, ⟨(some (K.ofNat 6)), none, .as (.t (K.ofNat 12))⟩, ⟨(some (K.ofNat 7)), none, .as (.t (K.ofNat 13))⟩]
noncomputable def f19_r2 : List EOper := [⟨(some (K.ofNat 14)), none, .mv (.t (K.ofNat 7))⟩, ⟨(some (K.ofNat 15)), none, .bin .neq (.t (K.ofNat 14)) (.c (.i .i64 (.ofNat 0)))⟩]
noncomputable def f19_r3 : List EOper := [⟨(some (K.ofNat 16)), none, .mv (.t (K.ofNat 7))⟩, ⟨(some (K.ofNat 4)), none, .as (.c (.b false))⟩, ⟨(some (K.ofNat 5)), none, .as (.t (K.ofNat 16))⟩]
noncomputable def f19_r4 : List EOper := [⟨(some (K.ofNat 17)), none, .mv (.t (K.ofNat 6))⟩, ⟨(some (K.ofNat 18)), none, .mv (.t (K.ofNat 0))⟩, ⟨(some (K.ofNat 19)), none, .call (.c (.fn (K.ofNat 55) [])) [(.t (K.ofNat 17)), (.t (K.ofNat 18))]⟩, ⟨(some (K.ofNat 4)), none, .as (.t (K.ofNat 19))⟩, ⟨(some (K.ofNat 5)), none, .as (.c (.i .i64 (.ofNat 0)))⟩]
noncomputable def f19_c : EC := (.seq (.reg f19_r0) (.seq (.reg f19_r1) (.seq (.seq (.reg f19_r2) (.cond (.t (K.ofNat 15)) (.seq (.reg f19_r3) .ret) .skip)) (.seq (.reg f19_r4) .ret))))
noncomputable def f19 : EF := ⟨20, [.tmp (K.ofNat 4), .tmp (K.ofNat 5)], f19_c, none⟩
theorem f19_rs : f19.rs = [.tmp (K.ofNat 4), .tmp (K.ofNat 5)] := of_eq_true (eq_self _)
def rowB (i : Nat) (l : List Int) (k : Nat) : Bool := (List.range k).all fun k => decide (i = k) || decide (l.getD k 0 = 1)
def balB (T : List (List Int)) (m : Nat) : Bool := (List.range m).all fun i => rowB i (T.getD i []) (T.getD i []).length
theorem rowB_succ {i k : Nat} {l : List Int} : rowB i l (k + 1) = (rowB i l k && (decide (i = k) || decide (l.getD k 0 = 1))) := by
  unfold rowB; rw [List.range_succ, List.all_append]; simp
theorem balB_succ {T : List (List Int)} {m : Nat} : balB T (m + 1) = (balB T m && rowB m (T.getD m []) (T.getD m []).length) := by
  unfold balB; rw [List.range_succ, List.all_append]; simp
theorem rowB_le {i k m : Nat} {l : List Int} (h : k ≤ m) (hf : rowB i l k = false) : rowB i l m = false := by
  rw [Bool.eq_false_iff] at hf ⊢
  intro hm; apply hf
  unfold rowB at hm ⊢
  rw [List.all_eq_true] at hm ⊢
  exact fun x hx => hm x (by simp at hx ⊢; omega)
theorem balB_le {T : List (List Int)} {k m : Nat} (h : k ≤ m) (hf : balB T k = false) : balB T m = false := by
  rw [Bool.eq_false_iff] at hf ⊢
  intro hm; apply hf
  unfold balB at hm ⊢
  rw [List.all_eq_true] at hm ⊢
  exact fun x hx => hm x (by simp at hx ⊢; omega)
section
variable {fs : T EF} {h : H} {w : V} {xs : List V} {T : List (List Int)}
end
section
variable {fs : T EF} {h : H} {v : V} {us : List V} {Ls : List (List (Int × Int))} {n : Nat}
def f55_I (h : H) (w : V) (T : List (List Int)) (i : Nat) (fr : Fr) (h1 : H) : Prop := i ≤ T.length ∧ h1 = h ∧ balB T i = true ∧ fr.get (K.ofNat 11) = some (w) ∧ fr.get (K.ofNat 12) = some (.i .i64 (T.length : Int)) ∧ fr.get (K.ofNat 13) = some (.i .i64 (i : Int))
def f55_J (h : H) (w u : V) (T : List (List Int)) (l : List Int) (i k : Nat) (fr : Fr) (h1 : H) : Prop := k ≤ l.length ∧ h1 = h ∧ rowB i l k = true ∧ fr.get (K.ofNat 5) = some (.i .i64 (i : Int)) ∧ fr.get (K.ofNat 11) = some (w) ∧ fr.get (K.ofNat 12) = some (.i .i64 (T.length : Int)) ∧ fr.get (K.ofNat 13) = some (.i .i64 (i : Int)) ∧ fr.get (K.ofNat 18) = some (u) ∧ fr.get (K.ofNat 19) = some (.i .i64 (l.length : Int)) ∧ fr.get (K.ofNat 20) = some (.i .i64 (k : Int))
structure CallsBa (fs : T EF) : Prop extends CallsF5 fs where
  c54 : fs.get (K.ofNat 54) = some f54
theorem f55_ret (kk : CallsBa fs) (hn : n ≤ 100) (hv : Nrp h v us Ls) (hF : Ls.length ≤ 1000 ∧ ∀ l ∈ Ls, l.length ≤ 1000 ∧ ∀ e ∈ l, in2 e) (hc : HC h) : Ret fs f55 [v, .i .i64 (n : Int)] h fun r h' => r = .b (balB (flT (whP Ls Ls.length) Ls.length n) n) ∧ Grow h.nx.nat h h' := by
  apply ret_of rfl
  show W fs none f55_c _ _ _
  unfold f55_c
  simp (disch := omega) only [f55_r0, f55_r1, w_reg, w_seq, seqK_n, x_nil, x_mv, x_as, x_call, ev_t, ev_c, evs_nil, evs_cons, getV_some, putD_some, frame_2, of0, getK_set, Nat.reduceEqDiff, ↓reduceIte]
  refine (callP_0 (ef := f54) kk.c54 rfl (f54_ret kk.toCallsF5 hn hv hF (fun _ _ => wh_bd) hc)).mono ?_
  rintro w h1 ⟨xs, hT', hG⟩
  have hT := hT'.nr
  have hTl : (flT (whP Ls Ls.length) Ls.length n).length = n := by simp [flT]
  have hl : ∀ l ∈ flT (whP Ls Ls.length) Ls.length n, l.length ≤ 1000 := fun l hl => by
    obtain ⟨i, _, rfl⟩ := List.mem_map.1 hl
    rw [flI_len]; omega
  rw [← hTl]
  rw [← hTl] at hn
  rw [hTl]
  generalize flT (whP Ls Ls.length) Ls.length n = T at *
  subst hTl
  have hl1 : ∀ h1, lenV w h1 = .ok (.i .i64 (T.length : Int)) h1 := fun h1 => by rw [hT.out.len, hT.len]
  simp (disch := omega) only [w_block, seqK_n, x_nil, x_mv, x_len, kx, rvP_ok, ev_t, ev_c, getV_some, putD_some, getK_set, ↓reduceIte, hl1]
  refine W_loop (f55_I h1 w T) (fun i => T.length - i) ?_ 0 ⟨by omega, rfl, rfl, by simp (disch := omega) only [getK_set, Nat.reduceEqDiff, ↓reduceIte, and_self, Int.natCast_zero]⟩
  rintro i fr h2 ⟨hi, rfl, hB, g11, g12, g13⟩
  unfold f55_l1
  by_cases hlt : i < T.length
  · have d0 : decide ((i : Int) < (T.length : Int)) = true := by simpa using hlt
    have hiu : i < xs.length := by rw [hT.len]; exact hlt
    obtain ⟨p, hp1, hp2⟩ := hT.out.at i hiu
    have hp2 : loadV h2 p one? = .ok xs[i] h2 := hp2
    have hu := hT.inn i hiu hlt
    have hll := hl _ (List.getElem_mem hlt)
    have hbs := balB_succ (T := T) (m := i)
    have hle := balB_le (T := T) (k := i + 1) (m := T.length) (by omega)
    rw [getD_at hlt] at hbs
    generalize xs[i] = u at *
    generalize T[i] = l at *
    have hlu := hu.len
    simp (disch := omega) only [f55_r2, f55_r3, f55_r4, w_skip, w_reg, w_seq, w_cond, w_block, seqK_n, ckB_b, cbB_b, true_and, x_nil, x_mv, x_as, x_ld, x_bin, x_iads, x_len, kx, rvP_ok, okv_some, ev_t, ev_c, getV_some, putD_some, bin_lss, of0, getK_set, Nat.reduceEqDiff, ↓reduceIte, g11, g12, g13, d0, hp1, hp2, hlu]
    refine W_loop (f55_J h2 w u T l i) (fun k => l.length - k) ?_ 0 ⟨by omega, rfl, rfl, by simp (disch := omega) only [getK_set, Nat.reduceEqDiff, ↓reduceIte, g11, g12, g13, and_self, Int.natCast_zero]⟩
    clear g11 g12 g13 fr
    rintro k fr h3 ⟨hk, rfl, hR, g5, g11, g12, g13, g18, g19, g20⟩
    unfold f55_l0
    by_cases hlt2 : k < l.length
    · have d1 : decide ((k : Int) < (l.length : Int)) = true := by simpa using hlt2
      obtain ⟨q, hq1, hq2⟩ := hu.at k hlt2
      have hrs := rowB_succ (i := i) (k := k) (l := l)
      rw [getD_at hlt2] at hrs
      have hrl := rowB_le (i := i) (l := l) (k := k + 1) (m := l.length) (by omega)
      generalize l[k] = x at *
      by_cases e : i = k
      · have d2 : decide ((i : Int) ≠ (k : Int)) = false := by simp [e]
        have d4 : decide (i = k) = true := by simp [e]
        rw [hR, d4, Bool.true_or, Bool.true_and] at hrs
        simp (disch := omega) only [f55_r5, f55_r6, f55_r7, f55_r9, w_skip, w_reg, w_seq, w_cond, w_block, seqK_n, atK_n, loopK_n, ckB_b, cbB_b, okG_b, asG_t, true_and, x_nil, x_g, x_mv, x_as, x_pick, x_ld, x_bin, x_iads, kx, rvP_ok, okv_some, ev_t, ev_c, getV_some, putD_some, bin_add, bin_neq, bin_lss, pick_b, of1, getK_set, Nat.reduceEqDiff, ↓reduceIte, Bool.false_eq_true, g5, g18, g19, g20, hq1, hq2, iE, d1, d2, fw64]
        exact ⟨k + 1, by omega, by omega, rfl, hrs, by simp (disch := omega) only [getK_set, Nat.reduceEqDiff, ↓reduceIte, g5, g11, g12, g13, g18, g19, and_self, Int.natCast_add, Int.natCast_one]⟩
      · have d2 : decide ((i : Int) ≠ (k : Int)) = true := by simp; omega
        have d4 : decide (i = k) = false := by simp [e]
        rw [hR, d4, Bool.false_or, Bool.true_and] at hrs
        by_cases e2 : x = 1
        · have d3 : decide (x ≠ 1) = false := by simp [e2]
          rw [decide_eq_true e2] at hrs
          simp (disch := omega) only [f55_r5, f55_r6, f55_r7, f55_r9, w_skip, w_reg, w_seq, w_cond, w_block, seqK_n, atK_n, loopK_n, ckB_b, cbB_b, okG_b, asG_t, true_and, x_nil, x_g, x_mv, x_as, x_pick, x_ld, x_bin, x_iads, kx, rvP_ok, okv_some, ev_t, ev_c, getV_some, putD_some, bin_add, bin_neq, bin_lss, pick_b, of1, getK_set, Nat.reduceEqDiff, ↓reduceIte, Bool.false_eq_true, g5, g18, g19, g20, hq1, hq2, iE, d1, d2, d3, fw64]
          exact ⟨k + 1, by omega, by omega, rfl, hrs, by simp (disch := omega) only [getK_set, Nat.reduceEqDiff, ↓reduceIte, g5, g11, g12, g13, g18, g19, and_self, Int.natCast_add, Int.natCast_one]⟩
        · have d3 : decide (x ≠ 1) = true := by simp [e2]
          rw [decide_eq_false e2] at hrs
          have hf := hle (by rw [hbs, hrl hrs, Bool.and_false])
          simp (disch := omega) only [f55_r5, f55_r6, f55_r7, f55_r8, f55_rs, w_skip, w_reg, w_seq, w_cond, w_block, w_ret, seqK_n, seqK_r, atK_r, loopK_r, ckB_b, cbB_b, okG_b, asG_t, true_and, retK_r, x_nil, x_g, x_mv, x_as, x_pick, x_ld, x_bin, x_iads, kx, rvP_ok, okv_some, ev_t, ev_c, getV_some, putD_some, bin_neq, bin_lss, pick_b, oGet_s, readRs_nil, readRs_t, retV_1, of1, Option.some.injEq, exists_eq_left', getK_set, Nat.reduceEqDiff, ↓reduceIte, g5, g18, g19, g20, hq1, hq2, iE, d1, d2, d3, hf, true_and]
          exact hG
    · have d1 : decide ((k : Int) < (l.length : Int)) = false := by simpa using hlt2
      have ek : k = l.length := by omega
      rw [ek] at hR
      simp (disch := omega) only [f55_r5, f55_r10, w_reg, w_seq, w_cond, w_exit, seqK_n, seqK_e, atK_n, atK_e, loopK_n, loopK_e, ckB_b, cbB_b, true_and, x_nil, x_mv, x_bin, kx, rvP_ok, okv_some, ev_t, ev_c, getV_some, putD_some, bin_add, bin_lss, of1, getK_set, Nat.reduceEqDiff, ↓reduceIte, Bool.false_eq_true, g13, g19, g20, d1, fw64]
      exact ⟨i + 1, by omega, by omega, rfl, by rw [hbs, hB, hR]; rfl, by simp (disch := omega) only [getK_set, Nat.reduceEqDiff, ↓reduceIte, g11, g12, and_self, Int.natCast_add, Int.natCast_one]⟩
  · have d0 : decide ((i : Int) < (T.length : Int)) = false := by simpa using hlt
    have ei : i = T.length := by omega
    rw [ei] at hB
    simp (disch := omega) only [f55_r2, f55_r11, f55_rs, w_reg, w_seq, w_cond, w_exit, w_ret, seqK_n, seqK_e, atK_e, loopK_e, ckB_b, cbB_b, true_and, retK_r, x_nil, x_as, x_bin, kx, rvP_ok, okv_some, ev_t, ev_c, getV_some, putD_some, bin_lss, oGet_s, readRs_nil, readRs_t, retV_1, Option.some.injEq, exists_eq_left', getK_set, ↓reduceIte, Bool.false_eq_true, g12, g13, d0, hB, true_and]
    exact hG
structure CallsFw (fs : T EF) : Prop extends CallsCh fs, CallsBa fs where
  c18 : fs.get (K.ofNat 18) = some f18
  c19 : fs.get (K.ofNat 19) = some f19
  c55 : fs.get (K.ofNat 55) = some f55
theorem sh_in2 (hsh : shB n Ls = true) (hn : ok5 (n : Int)) : Ls.length ≤ 1000 ∧ ∀ l ∈ Ls, l.length ≤ 1000 ∧ ∀ e ∈ l, in2 e := by
  obtain ⟨hvd, hlen⟩ := sh_vld hsh
  unfold ok5 at hn
  have hfew := hvd.few (by omega) (by omega)
  refine ⟨by omega, fun l hl => ⟨by have := (hfew.2 l hl).1; omega, fun e he => ?_⟩⟩
  obtain ⟨a, b, _⟩ := rnd_e (hvd.rnd l hl) e he
  obtain ⟨x, hx⟩ : ∃ x : Nat, e.1 = (x : Int) := ⟨e.1.toNat, by omega⟩
  obtain ⟨y, hy⟩ : ∃ y : Nat, e.2 = (y : Int) := ⟨e.2.toNat, by omega⟩
  unfold in2
  rw [hx, hy]
  exact ⟨inR_n (by omega), inR_n (by omega)⟩
/-- The follow numbers. -/
def fwT (Ls : List (List (Int × Int))) (n : Nat) : List (List Int) := (List.range n).map fun (t : Nat) => (List.range n).map fun (k : Nat) => rfI Ls (t : Int) (k : Int) Ls.length
theorem fl_fw (hvd : Vld n Ls) : flT (whP Ls Ls.length) Ls.length n = fwT Ls n := by
  unfold flT fwT
  refine List.map_congr_left fun t ht => ?_
  unfold flI
  refine List.map_congr_left fun k hk => ?_
  exact fol_rf hvd (by simpa using ht)
theorem f18_ret (k : CallsFw fs) (hn : ok5 (n : Int)) (hv : Nrp h v us Ls) (hL2 : ∀ l ∈ Ls, l.length ≤ 9223372036854775807) (hsh : shB n Ls = true) (hc : HC h) : Ret fs f18 [.i .i64 (n : Int), v] h fun r h' => ∃ w xs, r = .tup [w, .i .i64 0] ∧ Nr iE h' w xs (fwT Ls n) ∧ Grow h.nx.nat h h' := by
  have hn' := hn
  unfold ok5 at hn'
  apply ret_of rfl
  show W fs none f18_c _ _ _
  unfold f18_c
  simp (disch := omega) only [f18_r0, f18_r1, w_reg, w_seq, seqK_n, x_nil, x_mv, x_as, x_call, ev_t, ev_c, evs_nil, evs_cons, getV_some, putD_some, frame_2, of0, getK_set, Nat.reduceEqDiff, ↓reduceIte]
  refine (callP_0 (ef := f51) k.c51 rfl (f51_ret k.toCallsCh hn hv hL2 hc)).mono ?_
  rintro r h2 ⟨c, ws, rfl, hs, hG⟩
  rw [if_pos hsh] at hs ⊢
  obtain ⟨hs, _⟩ := hs
  have ne0 : decide ((0 : Int) ≠ 0) = false := rfl
  simp (disch := omega) only [f18_r2, f18_r4, w_skip, w_reg, w_seq, w_cond, seqK_n, ckB_b, cbB_b, true_and, x_nil, x_mv, x_as, x_bin, x_ext, x_call, kx, rvP_ok, okv_some, ev_t, ev_c, evs_nil, evs_cons, getV_some, putD_some, bin_neq, onTup_t, nth0, nth1, of0, getK_set, Nat.reduceEqDiff, ↓reduceIte, Bool.false_eq_true, ne0]
  refine (callP_0 (ef := f54) k.c54 rfl (f54_ret k.toCallsF5 (by omega) hs.nrp (sh_in2 hsh hn) (fun _ _ => wh_bd) (hG.hc hc))).mono ?_
  rintro w h3 ⟨xs, hT, hG3⟩
  rw [fl_fw (sh_vld hsh).1] at hT
  simp (disch := omega) only [f18_rs, w_ret, seqK_n, retK_r, x_nil, x_as, kx, ev_t, ev_c, getV_some, putD_some, oGet_s, readRs_nil, readRs_t, retV_2, Option.some.injEq, exists_eq_left', getK_set, Nat.reduceEqDiff, ↓reduceIte]
  exact ⟨w, xs, rfl, hT.nr, hG.trans (hG3.low hG.nx)⟩
theorem f19_ret (k : CallsFw fs) (hn : ok5 (n : Int)) (hv : Nrp h v us Ls) (hL2 : ∀ l ∈ Ls, l.length ≤ 9223372036854775807) (hsh : shB n Ls = true) (hc : HC h) : Ret fs f19 [.i .i64 (n : Int), v] h fun r h' => r = .tup [.b (balB (fwT Ls n) n), .i .i64 0] ∧ Grow h.nx.nat h h' := by
  have hn' := hn
  unfold ok5 at hn'
  apply ret_of rfl
  show W fs none f19_c _ _ _
  unfold f19_c
  simp (disch := omega) only [f19_r0, f19_r1, w_reg, w_seq, seqK_n, x_nil, x_mv, x_as, x_call, ev_t, ev_c, evs_nil, evs_cons, getV_some, putD_some, frame_2, of0, getK_set, Nat.reduceEqDiff, ↓reduceIte]
  refine (callP_0 (ef := f51) k.c51 rfl (f51_ret k.toCallsCh hn hv hL2 hc)).mono ?_
  rintro r h2 ⟨c, ws, rfl, hs, hG⟩
  rw [if_pos hsh] at hs ⊢
  obtain ⟨hs, _⟩ := hs
  have ne0 : decide ((0 : Int) ≠ 0) = false := rfl
  simp (disch := omega) only [f19_r2, f19_r4, w_skip, w_reg, w_seq, w_cond, seqK_n, ckB_b, cbB_b, true_and, x_nil, x_mv, x_as, x_bin, x_ext, x_call, kx, rvP_ok, okv_some, ev_t, ev_c, evs_nil, evs_cons, getV_some, putD_some, bin_neq, onTup_t, nth0, nth1, of0, getK_set, Nat.reduceEqDiff, ↓reduceIte, Bool.false_eq_true, ne0]
  refine (callP_0 (ef := f55) k.c55 rfl (f55_ret k.toCallsBa (by omega) hs.nrp (sh_in2 hsh hn) (hG.hc hc))).mono ?_
  rintro r h3 ⟨rfl, hG3⟩
  rw [fl_fw (sh_vld hsh).1]
  simp (disch := omega) only [f19_rs, w_ret, seqK_n, true_and, retK_r, x_nil, x_as, kx, ev_t, ev_c, getV_some, putD_some, oGet_s, readRs_nil, readRs_t, retV_2, Option.some.injEq, exists_eq_left', getK_set, Nat.reduceEqDiff, ↓reduceIte, true_and]
  exact hG.trans (hG3.low hG.nx)
end
end Go.Ev
namespace Go.Ev
open Go Go.RowKit
section
variable {fs : T EF} {h : H} {v : V} {us : List V} {Ls : List (List (Int × Int))} {n : Nat}
end
end Go.Ev
namespace Go.Ev
open Go Go.RowKit
/-- The ring, from x on; L is what has been met. -/
def ringR (A B : Int → Int) : Nat → Int → List Int → List Int
  | 0, _, L => L
  | k + 1, x, L => if x ∈ L then L else ringR A B k (B (A x)) (L ++ [x, A x])
/-- Each team has another opponent. -/
structure Inv (A : Int → Int) (n : Nat) : Prop where
  rng : ∀ x, 0 ≤ x ∧ x < (n : Int) → 0 ≤ A x ∧ A x < (n : Int)
  inv : ∀ x, 0 ≤ x ∧ x < (n : Int) → A (A x) = x
  ne : ∀ x, 0 ≤ x ∧ x < (n : Int) → A x ≠ x
structure RingI (A B : Int → Int) (n : Nat) (t x : Int) (L : List Int) : Prop where
  nd : L.Nodup
  rng : ∀ z ∈ L, 0 ≤ z ∧ z < (n : Int)
  xr : 0 ≤ x ∧ x < (n : Int)
  clA : ∀ z ∈ L, A z ∈ L
  clB : ∀ z ∈ L, z = t ∨ B z ∈ L ∨ B z = x
  at' : (L = [] ∧ x = t) ∨ (t ∈ L ∧ B x ∈ L)
  ev : x ∈ L → x = t
  two : ∃ q, L.length = 2 * q
section
variable {A B : Int → Int} {n : Nat} {t x : Int} {L : List Int}
theorem RingI.init (ht : 0 ≤ t ∧ t < (n : Int)) : RingI A B n t t [] := ⟨by simp, by simp, ht, by simp, by simp, .inl ⟨rfl, rfl⟩, fun h => absurd h (by simp), ⟨0, rfl⟩⟩
theorem RingI.new (s : RingI A B n t x L) (iA : Inv A n) (hx : x ∉ L) : A x ∉ L ∧ A x ≠ x := by
  refine ⟨fun h => hx ?_, iA.ne x s.xr⟩
  have := s.clA _ h
  rw [iA.inv x s.xr] at this; exact this
theorem RingI.step (s : RingI A B n t x L) (iA : Inv A n) (iB : Inv B n) (hx : x ∉ L) : RingI A B n t (B (A x)) (L ++ [x, A x]) := by
  obtain ⟨hy, hyx⟩ := s.new iA hx
  have hyr := iA.rng x s.xr
  have hzr := iB.rng _ hyr
  have hBB := iB.inv _ hyr
  refine ⟨?_, ?_, hzr, ?_, ?_, .inr ⟨?_, by rw [hBB]; simp⟩, ?_, ?_⟩
  · rw [List.nodup_append]
    refine ⟨s.nd, by simp; exact fun h => hyx h.symm, fun a ha b hb e => ?_⟩
    rcases List.mem_cons.1 hb with rfl | hb
    · exact hx (e ▸ ha)
    · rw [List.mem_singleton.1 hb] at e; exact hy (e ▸ ha)
  · intro z hz
    rcases List.mem_append.1 hz with hz | hz
    · exact s.rng z hz
    · rcases List.mem_cons.1 hz with rfl | hz
      · exact s.xr
      · rw [List.mem_singleton.1 hz]; exact hyr
  · intro z hz
    rcases List.mem_append.1 hz with hz | hz
    · exact List.mem_append_left _ (s.clA z hz)
    · rcases List.mem_cons.1 hz with rfl | hz
      · simp
      · rw [List.mem_singleton.1 hz, iA.inv x s.xr]; simp
  · intro z hz
    rcases List.mem_append.1 hz with hz | hz
    · rcases s.clB z hz with h | h | h
      · exact .inl h
      · exact .inr (.inl (List.mem_append_left _ h))
      · exact .inr (.inl (by rw [h]; simp))
    · rcases List.mem_cons.1 hz with rfl | hz
      · rcases s.at' with ⟨_, h⟩ | ⟨_, h⟩
        · exact .inl h
        · exact .inr (.inl (List.mem_append_left _ h))
      · rw [List.mem_singleton.1 hz]; exact .inr (.inr rfl)
  · rcases s.at' with ⟨_, h⟩ | ⟨h, _⟩
    · rw [h]; simp
    · exact List.mem_append_left _ h
  · intro hm
    rcases Classical.em (B (A x) = t) with h | h
    · exact h
    exfalso
    rcases List.mem_append.1 hm with hm | hm
    · rcases s.clB _ hm with h1 | h1 | h1
      · exact h h1
      · rw [hBB] at h1; exact hy h1
      · rw [hBB] at h1; exact hyx h1
    · rcases List.mem_cons.1 hm with h1 | h1
      · rcases s.at' with ⟨_, h2⟩ | ⟨_, h2⟩
        · exact h (h1.trans h2)
        · rw [← h1, hBB] at h2; exact hy h2
      · rw [List.mem_singleton.1 h1] at hBB
        exact iB.ne _ hyr (List.mem_singleton.1 h1)
  · obtain ⟨q, hq⟩ := s.two
    exact ⟨q + 1, by simp; omega⟩
theorem RingI.le (s : RingI A B n t x L) : L.length ≤ n := by
  have := nodup_le (m := (List.range n).map fun (k : Nat) => (k : Int)) s.nd fun z hz => by
    obtain ⟨h1, h2⟩ := s.rng z hz
    exact List.mem_map.2 ⟨z.toNat, by simp; omega, by omega⟩
  simpa using this
theorem RingI.lt (s : RingI A B n t x L) (iA : Inv A n) (iB : Inv B n) (hx : x ∉ L) : L.length + 2 ≤ n := by
  have := (s.step iA iB hx).le
  simpa using this
/-- A whole ring. -/
structure RingE (A B : Int → Int) (n : Nat) (t : Int) (L : List Int) : Prop where
  nd : L.Nodup
  rng : ∀ z ∈ L, 0 ≤ z ∧ z < (n : Int)
  mem : t ∈ L
  clA : ∀ z ∈ L, A z ∈ L
  clB : ∀ z ∈ L, B z ∈ L
  two : ∃ q, L.length = 2 * q
theorem RingI.fin (s : RingI A B n t x L) (hx : x ∈ L) : RingE A B n t L := by
  have ext := s.ev hx
  have hB : B x ∈ L := by
    rcases s.at' with ⟨h, _⟩ | ⟨_, h⟩
    · rw [h] at hx; simp at hx
    · exact h
  refine ⟨s.nd, s.rng, ext ▸ hx, s.clA, fun z hz => ?_, s.two⟩
  rcases s.clB z hz with h | h | h
  · rw [h, ← ext]; exact hB
  · exact h
  · rw [h]; exact hx
theorem ring_E (iA : Inv A n) (iB : Inv B n) : ∀ {k : Nat} {x : Int} {L : List Int}, RingI A B n t x L → n < 2 * k + L.length → RingE A B n t (ringR A B k x L)
  | 0, x, L, s, h => absurd s.le (by omega)
  | k + 1, x, L, s, h => by
    unfold ringR
    split
    · rename_i hx; exact s.fin hx
    · rename_i hx
      exact ring_E iA iB (s.step iA iB hx) (by simp; omega)
/-- What is closed holds the whole ring. -/
theorem ring_min {M : List Int} (cA : ∀ z ∈ M, A z ∈ M) (cB : ∀ z ∈ M, B z ∈ M) : ∀ {k : Nat} {x : Int} {L : List Int}, x ∈ M → (∀ z ∈ L, z ∈ M) → ∀ z ∈ ringR A B k x L, z ∈ M
  | 0, x, L, _, hL => hL
  | k + 1, x, L, hx, hL => by
    unfold ringR
    split
    · exact hL
    · refine ring_min cA cB (cB _ (cA _ hx)) fun z hz => ?_
      rcases List.mem_append.1 hz with hz | hz
      · exact hL z hz
      · rcases List.mem_cons.1 hz with rfl | hz
        · exact hx
        · rw [List.mem_singleton.1 hz]; exact cA _ hx
/-- What is closed is left alone. -/
theorem ring_out {M : List Int} (iA : Inv A n) (iB : Inv B n) (cA : ∀ z ∈ M, A z ∈ M) (cB : ∀ z ∈ M, B z ∈ M) {x : Int} (hx : 0 ≤ x ∧ x < (n : Int)) (hn : x ∉ M) : B (A x) ∉ M := fun h => by
  have hy := iA.rng x hx
  have h1 := cB _ h
  rw [iB.inv _ hy] at h1
  have h2 := cA _ h1
  rw [iA.inv _ hx] at h2
  exact hn h2
/-- What has been met by the teams before t, and the numbers of teams of the rings. -/
def rgs (A B : Int → Int) (n : Nat) : Nat → List Int × List Int
  | 0 => ([], [])
  | t + 1 => if (t : Int) ∈ (rgs A B n t).1 then rgs A B n t else ((rgs A B n t).1 ++ ringR A B n (t : Int) [], (rgs A B n t).2 ++ [((ringR A B n (t : Int) []).length : Int)])
structure RgsI (A B : Int → Int) (n t : Nat) (M S : List Int) : Prop where
  nd : M.Nodup
  rng : ∀ z ∈ M, 0 ≤ z ∧ z < (n : Int)
  clA : ∀ z ∈ M, A z ∈ M
  clB : ∀ z ∈ M, B z ∈ M
  all : ∀ u : Nat, u < t → (u : Int) ∈ M
  sum : smI S = (M.length : Int)
  evn : ∀ s ∈ S, ∃ q : Nat, s = 2 * (q : Int) ∧ 1 ≤ q
  few : S.length ≤ t
theorem rgs_I (iA : Inv A n) (iB : Inv B n) (hn : 1 ≤ n) : ∀ {t : Nat}, t ≤ n → RgsI A B n t (rgs A B n t).1 (rgs A B n t).2
  | 0, _ => ⟨by simp [rgs], by simp [rgs], by simp [rgs], by simp [rgs], fun u h => by omega, by simp [rgs, smI], by simp [rgs], by simp [rgs]⟩
  | t + 1, ht => by
    have s := rgs_I iA iB hn (t := t) (by omega)
    unfold rgs
    split
    · rename_i hm
      exact ⟨s.nd, s.rng, s.clA, s.clB, fun u hu => by
        by_cases e : u = t
        · rw [e]; exact hm
        · exact s.all u (by omega), s.sum, s.evn, by have := s.few; omega⟩
    · rename_i hm
      have e := ring_E iA iB (RingI.init (A := A) (B := B) (n := n) (t := (t : Int)) (by omega)) (k := n) (by simp; omega)
      have hd : ∀ z ∈ ringR A B n (t : Int) [], z ∉ (rgs A B n t).1 := by
        have key : ∀ {k : Nat} {x : Int} {L : List Int}, (0 ≤ x ∧ x < (n : Int)) → x ∉ (rgs A B n t).1 → (∀ z ∈ L, z ∉ (rgs A B n t).1) → ∀ z ∈ ringR A B k x L, z ∉ (rgs A B n t).1 := by
          intro k
          induction k with
          | zero => exact fun _ _ hL => hL
          | succ k ih =>
            intro x L hx hxM hL
            unfold ringR
            split
            · exact hL
            · refine ih (iB.rng _ (iA.rng _ hx)) (ring_out iA iB s.clA s.clB hx hxM) fun z hz => ?_
              rcases List.mem_append.1 hz with hz | hz
              · exact hL z hz
              · rcases List.mem_cons.1 hz with rfl | hz
                · exact hxM
                · rw [List.mem_singleton.1 hz]
                  intro h
                  have := s.clA _ h
                  rw [iA.inv _ hx] at this
                  exact hxM this
        exact key (by omega) hm (by simp)
      refine ⟨?_, ?_, ?_, ?_, ?_, ?_, ?_, by have := s.few; simp; omega⟩
      · rw [List.nodup_append]; exact ⟨s.nd, e.nd, fun a ha b hb q => hd b hb (q ▸ ha)⟩
      · intro z hz; rcases List.mem_append.1 hz with hz | hz; exact s.rng z hz; exact e.rng z hz
      · intro z hz; rcases List.mem_append.1 hz with hz | hz; exact List.mem_append_left _ (s.clA z hz); exact List.mem_append_right _ (e.clA z hz)
      · intro z hz; rcases List.mem_append.1 hz with hz | hz; exact List.mem_append_left _ (s.clB z hz); exact List.mem_append_right _ (e.clB z hz)
      · intro u hu
        by_cases q : u = t
        · rw [q]; exact List.mem_append_right _ e.mem
        · exact List.mem_append_left _ (s.all u (by omega))
      · rw [smI_snoc, s.sum]; simp
      · intro z hz
        rcases List.mem_append.1 hz with hz | hz
        · exact s.evn z hz
        · obtain ⟨q, hq⟩ := e.two
          have : 1 ≤ (ringR A B n (t : Int) []).length := List.length_pos_of_mem e.mem
          rw [List.mem_singleton.1 hz]
          exact ⟨q, by omega, by omega⟩
theorem all_len {M : List Int} {n : Nat} (hd : M.Nodup) (hr : ∀ z ∈ M, 0 ≤ z ∧ z < (n : Int)) (ha : ∀ u : Nat, u < n → (u : Int) ∈ M) : M.length = n := by
  have h1 := nodup_le (m := (List.range n).map fun (k : Nat) => (k : Int)) hd fun z hz => by
    obtain ⟨h1, h2⟩ := hr z hz
    exact List.mem_map.2 ⟨z.toNat, by simp; omega, by omega⟩
  have h2 := nodup_le (l := (List.range n).map fun (k : Nat) => (k : Int)) (m := M) (by
    rw [List.nodup_iff_pairwise_ne, List.pairwise_map]
    exact (List.nodup_iff_pairwise_ne.1 List.nodup_range).imp fun h => by omega) fun z hz => by
    obtain ⟨k, hk, rfl⟩ := List.mem_map.1 hz
    exact ha k (by simpa using hk)
  simp at h1 h2
  omega
end
end Go.Ev
namespace Go.Ev
open Go Go.RowKit
noncomputable def f103_r0 : List EOper := [⟨(some (K.ofNat 2)), none, .as (.c (.b false))⟩]
noncomputable def f103_r1 : List EOper := [⟨(some (K.ofNat 3)), none, .mv (.t (K.ofNat 0))⟩, ⟨(some (K.ofNat 4)), none, .mv (.t (K.ofNat 0))⟩, ⟨(some (K.ofNat 5)), none, .bin .neq (.t (K.ofNat 3)) (.t (K.ofNat 4))⟩, ⟨(some (K.ofNat 2)), none, .as (.t (K.ofNat 5))⟩]
noncomputable def f103_c : EC := (.seq (.reg f103_r0) (.seq (.reg f103_r1) .ret))
noncomputable def f103 : EF := ⟨6, [.tmp (K.ofNat 2)], f103_c, none⟩
theorem f103_rs : f103.rs = [.tmp (K.ofNat 2)] := of_eq_true (eq_self _)
noncomputable def f110_r0 : List EOper := [⟨(some (K.ofNat 4)), none, .as (.c (.b false))⟩]
noncomputable def f110_r1 : List EOper := [⟨(some (K.ofNat 5)), none, .mv (.t (K.ofNat 0))⟩, ⟨(some (K.ofNat 6)), none, .call (.c (.fn (K.ofNat 103) [])) [(.t (K.ofNat 5))]⟩, ⟨(some (K.ofNat 7)), none, .mv (.t (K.ofNat 6))⟩, ⟨(some (K.ofNat 8)), (some ((K.ofNat 7), true)), .mv (.t (K.ofNat 1))⟩, ⟨(some (K.ofNat 9)), (some ((K.ofNat 7), true)), .call (.c (.fn (K.ofNat 103) [])) [(.t (K.ofNat 8))]⟩, ⟨(some (K.ofNat 10)), (some ((K.ofNat 7), true)), .not (.t (K.ofNat 9))⟩, ⟨(some (K.ofNat 11)), none, .pick (.t (K.ofNat 7)) (.t (K.ofNat 10)) (.c (.b false))⟩, ⟨(some (K.ofNat 12)), none, .mv (.t (K.ofNat 11))⟩, ⟨(some (K.ofNat 13)), (some ((K.ofNat 12), false)), .mv (.t (K.ofNat 0))⟩, ⟨(some (K.ofNat 14)), (some ((K.ofNat 12), false)), .mv (.t (K.ofNat 1))⟩, ⟨(some (K.ofNat 15)), (some ((K.ofNat 12), false)), .bin .lss (.t (K.ofNat 13)) (.t (K.ofNat 14))⟩, ⟨(some (K.ofNat 16)), none, .pick (.t (K.ofNat 12)) (.c (.b true)) (.t (K.ofNat 15))⟩, ⟨(some (K.ofNat 4)), none, .as (.t (K.ofNat 16))⟩]
noncomputable def f110_c : EC := (.seq (.reg f110_r0) (.seq (.reg f110_r1) .ret))
noncomputable def f110 : EF := ⟨17, [.tmp (K.ofNat 4)], f110_c, none⟩
theorem f110_rs : f110.rs = [.tmp (K.ofNat 4)] := of_eq_true (eq_self _)
noncomputable def f104_r0 : List EOper := [⟨(some (K.ofNat 8)), none, .mv (.t (K.ofNat 1))⟩, ⟨(some (K.ofNat 9)), none, .bin .add (.t (K.ofNat 8)) (.c (.i .i64 (.ofNat 1)))⟩, ⟨(some (K.ofNat 6)), none, .as (.t (K.ofNat 9))⟩]
noncomputable def f104_r1 : List EOper := [⟨(some (K.ofNat 10)), none, .mv (.t (K.ofNat 6))⟩, ⟨(some (K.ofNat 11)), none, .mv (.t (K.ofNat 2))⟩, ⟨(some (K.ofNat 12)), none, .bin .lss (.t (K.ofNat 10)) (.t (K.ofNat 11))⟩]
noncomputable def f104_r2 : List EOper := [⟨(some (K.ofNat 15)), none, .mv (.t (K.ofNat 6))⟩, ⟨(some (K.ofNat 7)), none, .as (.t (K.ofNat 15))⟩]
noncomputable def f104_r3 : List Stage := [⟨[⟨(some (K.ofNat 16)), none, .mv (.t (K.ofNat 7))⟩, ⟨(some (K.ofNat 17)), none, .mv (.t (K.ofNat 1))⟩, ⟨(some (K.ofNat 18)), none, .bin .gtr (.t (K.ofNat 16)) (.t (K.ofNat 17))⟩, ⟨(some (K.ofNat 19)), none, .mv (.t (K.ofNat 18))⟩, ⟨(some (K.ofNat 20)), (some ((K.ofNat 19), true)), .mv (.t (K.ofNat 0))⟩, ⟨(some (K.ofNat 21)), (some ((K.ofNat 19), true)), .mv (.t (K.ofNat 7))⟩, ⟨(some (K.ofNat 22)), (some ((K.ofNat 19), true)), .iads 1 (.t (K.ofNat 20)) (.t (K.ofNat 21))⟩, ⟨(some (K.ofNat 23)), (some ((K.ofNat 19), true)), .ld (.t (K.ofNat 22))⟩, ⟨(some (K.ofNat 24)), (some ((K.ofNat 19), true)), .mv (.t (K.ofNat 0))⟩, ⟨(some (K.ofNat 25)), (some ((K.ofNat 19), true)), .mv (.t (K.ofNat 7))⟩, ⟨(some (K.ofNat 26)), (some ((K.ofNat 19), true)), .bin .sub (.t (K.ofNat 25)) (.c (.i .i64 (.ofNat 1)))⟩, ⟨(some (K.ofNat 27)), (some ((K.ofNat 19), true)), .iads 1 (.t (K.ofNat 24)) (.t (K.ofNat 26))⟩, ⟨(some (K.ofNat 28)), (some ((K.ofNat 19), true)), .ld (.t (K.ofNat 27))⟩], [], (some ⟨(some (K.ofNat 29)), (some ((K.ofNat 19), true)), .call (.c (.fn (K.ofNat 110) [])) [(.t (K.ofNat 23)), (.t (K.ofNat 28))]⟩), []⟩, ⟨[⟨(some (K.ofNat 30)), none, .pick (.t (K.ofNat 19)) (.t (K.ofNat 29)) (.c (.b false))⟩], [], none, []⟩]
noncomputable def f104_r4 : List Stage := [⟨[⟨(some (K.ofNat 33)), none, .mv (.t (K.ofNat 0))⟩, ⟨(some (K.ofNat 34)), none, .mv (.t (K.ofNat 7))⟩, ⟨(some (K.ofNat 35)), none, .mv (.t (K.ofNat 0))⟩, ⟨(some (K.ofNat 36)), none, .mv (.t (K.ofNat 7))⟩, ⟨(some (K.ofNat 37)), none, .bin .sub (.t (K.ofNat 36)) (.c (.i .i64 (.ofNat 1)))⟩, ⟨(some (K.ofNat 38)), none, .mv (.t (K.ofNat 0))⟩, ⟨(some (K.ofNat 39)), none, .mv (.t (K.ofNat 7))⟩, ⟨(some (K.ofNat 40)), none, .bin .sub (.t (K.ofNat 39)) (.c (.i .i64 (.ofNat 1)))⟩, ⟨(some (K.ofNat 41)), none, .iads 1 (.t (K.ofNat 38)) (.t (K.ofNat 40))⟩, ⟨(some (K.ofNat 42)), none, .ld (.t (K.ofNat 41))⟩, ⟨(some (K.ofNat 43)), none, .mv (.t (K.ofNat 0))⟩, ⟨(some (K.ofNat 44)), none, .mv (.t (K.ofNat 7))⟩, ⟨(some (K.ofNat 45)), none, .iads 1 (.t (K.ofNat 43)) (.t (K.ofNat 44))⟩, ⟨(some (K.ofNat 46)), none, .ld (.t (K.ofNat 45))⟩, ⟨(some (K.ofNat 47)), none, .iads 1 (.t (K.ofNat 33)) (.t (K.ofNat 34))⟩], [], (some ⟨none, none, .st 1 (.t (K.ofNat 47)) (.t (K.ofNat 42))⟩), []⟩, ⟨[⟨(some (K.ofNat 48)), none, .iads 1 (.t (K.ofNat 35)) (.t (K.ofNat 37))⟩], [⟨(some (K.ofNat 35)), none, .mv (.t (K.ofNat 0))⟩, ⟨(some (K.ofNat 36)), none, .mv (.t (K.ofNat 7))⟩, ⟨(some (K.ofNat 37)), none, .bin .sub (.t (K.ofNat 36)) (.c (.i .i64 (.ofNat 1)))⟩], (some ⟨none, none, .st 1 (.t (K.ofNat 48)) (.t (K.ofNat 46))⟩), []⟩, ⟨[], [], none, []⟩]
noncomputable def f104_r5 : List EOper := [⟨(some (K.ofNat 31)), none, .mv (.t (K.ofNat 7))⟩, ⟨(some (K.ofNat 32)), none, .bin .sub (.t (K.ofNat 31)) (.c (.i .i64 (.ofNat 1)))⟩, ⟨(some (K.ofNat 7)), none, .as (.t (K.ofNat 32))⟩]
noncomputable def f104_l0 : EC := (.seq (.seq (.draw f104_r3) (.cond (.t (K.ofNat 30)) .skip (.exit 2))) (.seq (.block 3 (.draw f104_r4)) (.reg f104_r5)))
noncomputable def f104_r6 : List EOper := [⟨(some (K.ofNat 13)), none, .mv (.t (K.ofNat 6))⟩, ⟨(some (K.ofNat 14)), none, .bin .add (.t (K.ofNat 13)) (.c (.i .i64 (.ofNat 1)))⟩, ⟨(some (K.ofNat 6)), none, .as (.t (K.ofNat 14))⟩]
noncomputable def f104_l1 : EC := (.seq (.seq (.reg f104_r1) (.cond (.t (K.ofNat 12)) .skip (.exit 0))) (.seq (.block 1 (.seq (.reg f104_r2) (.block 2 (.loop f104_l0)))) (.reg f104_r6)))
noncomputable def f104_c : EC := (.seq (.reg f104_r0) (.block 0 (.loop f104_l1)))
noncomputable def f104 : EF := ⟨49, [], f104_c, none⟩
theorem f104_rs : f104.rs = [] := of_eq_true (eq_self _)
noncomputable def f114_r0 : List EOper := [⟨(some (K.ofNat 2)), none, .as (.c (.i .i64 (.ofNat 0)))⟩]
noncomputable def f114_r1 : List EOper := [⟨(some (K.ofNat 3)), none, .mv (.t (K.ofNat 0))⟩, ⟨(some (K.ofNat 4)), none, .bin .geq (.t (K.ofNat 3)) (.c (.i .u64 (.ofNat 4294967296)))⟩]
noncomputable def f114_r2 : List EOper := [⟨(some (K.ofNat 5)), none, .mv (.t (K.ofNat 0))⟩, ⟨(some (K.ofNat 6)), none, .bin .shr (.t (K.ofNat 5)) (.c (.i .u64 (.ofNat 32)))⟩, ⟨(some (K.ofNat 0)), none, .as (.t (K.ofNat 6))⟩]
noncomputable def f114_r3 : List EOper := [⟨(some (K.ofNat 2)), none, .as (.c (.i .i64 (.ofNat 32)))⟩]
noncomputable def f114_r4 : List EOper := [⟨(some (K.ofNat 7)), none, .mv (.t (K.ofNat 0))⟩, ⟨(some (K.ofNat 8)), none, .bin .geq (.t (K.ofNat 7)) (.c (.i .u64 (.ofNat 65536)))⟩]
noncomputable def f114_r5 : List EOper := [⟨(some (K.ofNat 9)), none, .mv (.t (K.ofNat 0))⟩, ⟨(some (K.ofNat 10)), none, .bin .shr (.t (K.ofNat 9)) (.c (.i .u64 (.ofNat 16)))⟩, ⟨(some (K.ofNat 0)), none, .as (.t (K.ofNat 10))⟩]
noncomputable def f114_r6 : List EOper := [⟨(some (K.ofNat 11)), none, .mv (.t (K.ofNat 2))⟩, ⟨(some (K.ofNat 12)), none, .bin .add (.t (K.ofNat 11)) (.c (.i .i64 (.ofNat 16)))⟩, ⟨(some (K.ofNat 2)), none, .as (.t (K.ofNat 12))⟩]
noncomputable def f114_r7 : List EOper := [⟨(some (K.ofNat 13)), none, .mv (.t (K.ofNat 0))⟩, ⟨(some (K.ofNat 14)), none, .bin .geq (.t (K.ofNat 13)) (.c (.i .u64 (.ofNat 256)))⟩]
noncomputable def f114_r8 : List EOper := [⟨(some (K.ofNat 15)), none, .mv (.t (K.ofNat 0))⟩, ⟨(some (K.ofNat 16)), none, .bin .shr (.t (K.ofNat 15)) (.c (.i .u64 (.ofNat 8)))⟩, ⟨(some (K.ofNat 0)), none, .as (.t (K.ofNat 16))⟩]
noncomputable def f114_r9 : List EOper := [⟨(some (K.ofNat 17)), none, .mv (.t (K.ofNat 2))⟩, ⟨(some (K.ofNat 18)), none, .bin .add (.t (K.ofNat 17)) (.c (.i .i64 (.ofNat 8)))⟩, ⟨(some (K.ofNat 2)), none, .as (.t (K.ofNat 18))⟩]
noncomputable def f114_r10 : List EOper := [⟨(some (K.ofNat 19)), none, .mv (.t (K.ofNat 2))⟩, ⟨(some (K.ofNat 20)), none, .mv (.t (K.ofNat 0))⟩, ⟨(some (K.ofNat 21)), none, .conv .u8 (.t (K.ofNat 20))⟩, ⟨(some (K.ofNat 22)), none, .pr .sidx (.c (.s ⟨#[0, 1, 2, 2, 3, 3, 3, 3, 4, 4, 4, 4, 4, 4, 4, 4, 5, 5, 5, 5, 5, 5, 5, 5, 5, 5, 5, 5, 5, 5, 5, 5, 6, 6, 6, 6, 6, 6, 6, 6, 6, 6, 6, 6, 6, 6, 6, 6, 6, 6, 6, 6, 6, 6, 6, 6, 6, 6, 6, 6, 6, 6, 6, 6, 7, 7, 7, 7, 7, 7, 7, 7, 7, 7, 7, 7, 7, 7, 7, 7, 7, 7, 7, 7, 7, 7, 7, 7, 7, 7, 7, 7, 7, 7, 7, 7, 7, 7, 7, 7, 7, 7, 7, 7, 7, 7, 7, 7, 7, 7, 7, 7, 7, 7, 7, 7, 7, 7, 7, 7, 7, 7, 7, 7, 7, 7, 7, 7, 8, 8, 8, 8, 8, 8, 8, 8, 8, 8, 8, 8, 8, 8, 8, 8, 8, 8, 8, 8, 8, 8, 8, 8, 8, 8, 8, 8, 8, 8, 8, 8, 8, 8, 8, 8, 8, 8, 8, 8, 8, 8, 8, 8, 8, 8, 8, 8, 8, 8, 8, 8, 8, 8, 8, 8, 8, 8, 8, 8, 8, 8, 8, 8, 8, 8, 8, 8, 8, 8, 8, 8, 8, 8, 8, 8, 8, 8, 8, 8, 8, 8, 8, 8, 8, 8, 8, 8, 8, 8, 8, 8, 8, 8, 8, 8, 8, 8, 8, 8, 8, 8, 8, 8, 8, 8, 8, 8, 8, 8, 8, 8, 8, 8, 8, 8, 8, 8, 8, 8, 8, 8, 8, 8, 8, 8, 8, 8]⟩)) (.t (K.ofNat 21))⟩, ⟨(some (K.ofNat 23)), none, .conv .i64 (.t (K.ofNat 22))⟩, ⟨(some (K.ofNat 24)), none, .bin .add (.t (K.ofNat 19)) (.t (K.ofNat 23))⟩, ⟨(some (K.ofNat 2)), none, .as (.t (K.ofNat 24))⟩]
noncomputable def f114_c : EC := (.seq (.reg f114_r0) (.seq (.seq (.reg f114_r1) (.cond (.t (K.ofNat 4)) (.seq (.reg f114_r2) (.reg f114_r3)) .skip)) (.seq (.seq (.reg f114_r4) (.cond (.t (K.ofNat 8)) (.seq (.reg f114_r5) (.reg f114_r6)) .skip)) (.seq (.seq (.reg f114_r7) (.cond (.t (K.ofNat 14)) (.seq (.reg f114_r8) (.reg f114_r9)) .skip)) (.seq (.reg f114_r10) .ret)))))
noncomputable def f114 : EF := ⟨25, [.tmp (K.ofNat 2)], f114_c, none⟩
noncomputable def f99_r0 : List EOper := [⟨(some (K.ofNat 2)), none, .as (.c (.i .i64 (.ofNat 0)))⟩]
noncomputable def f99_r1 : List EOper := [⟨(some (K.ofNat 3)), none, .mv (.t (K.ofNat 0))⟩, ⟨(some (K.ofNat 4)), none, .conv .u32 (.t (K.ofNat 3))⟩, ⟨(some (K.ofNat 5)), none, .call (.c (.fn (K.ofNat 113) [])) [(.t (K.ofNat 4))]⟩, ⟨(some (K.ofNat 2)), none, .as (.t (K.ofNat 5))⟩]
noncomputable def f99_r2 : List EOper := [⟨(some (K.ofNat 6)), none, .mv (.t (K.ofNat 0))⟩, ⟨(some (K.ofNat 7)), none, .call (.c (.fn (K.ofNat 114) [])) [(.t (K.ofNat 6))]⟩, ⟨(some (K.ofNat 2)), none, .as (.t (K.ofNat 7))⟩]
noncomputable def f99_c : EC := (.seq (.reg f99_r0) (.seq (.cond (.c (.b false)) (.seq (.reg f99_r1) .ret) .skip) (.seq (.reg f99_r2) .ret)))
noncomputable def f99 : EF := ⟨8, [.tmp (K.ofNat 2)], f99_c, none⟩
theorem f99_rs : f99.rs = [.tmp (K.ofNat 2)] := of_eq_true (eq_self _)
noncomputable def f98_r0 : List EOper := [⟨(some (K.ofNat 8)), none, .as (.c (.b true))⟩]
noncomputable def f98_r1 : List EOper := [⟨(some (K.ofNat 9)), none, .as (.c (.b true))⟩]
noncomputable def f98_r2 : List EOper := [⟨(some (K.ofNat 19)), none, .mv (.t (K.ofNat 2))⟩, ⟨(some (K.ofNat 20)), none, .mv (.t (K.ofNat 1))⟩, ⟨(some (K.ofNat 21)), none, .bin .sub (.t (K.ofNat 19)) (.t (K.ofNat 20))⟩, ⟨(some (K.ofNat 10)), none, .as (.t (K.ofNat 21))⟩]
noncomputable def f98_r3 : List EOper := [⟨(some (K.ofNat 22)), none, .mv (.t (K.ofNat 10))⟩, ⟨(some (K.ofNat 23)), none, .bin .leq (.t (K.ofNat 22)) (.c (.i .i64 (.ofNat 12)))⟩]
noncomputable def f98_r4 : List EOper := [⟨(some (K.ofNat 24)), none, .mv (.t (K.ofNat 0))⟩, ⟨(some (K.ofNat 25)), none, .mv (.t (K.ofNat 1))⟩, ⟨(some (K.ofNat 26)), none, .mv (.t (K.ofNat 2))⟩, ⟨(some (K.ofNat 27)), none, .call (.c (.fn (K.ofNat 104) [])) [(.t (K.ofNat 24)), (.t (K.ofNat 25)), (.t (K.ofNat 26))]⟩]
noncomputable def f98_r5 : List EOper := [⟨(some (K.ofNat 28)), none, .mv (.t (K.ofNat 3))⟩, ⟨(some (K.ofNat 29)), none, .bin .eql (.t (K.ofNat 28)) (.c (.i .i64 (.ofNat 0)))⟩]
noncomputable def f98_r6 : List EOper := [⟨(some (K.ofNat 30)), none, .mv (.t (K.ofNat 0))⟩, ⟨(some (K.ofNat 31)), none, .mv (.t (K.ofNat 1))⟩, ⟨(some (K.ofNat 32)), none, .mv (.t (K.ofNat 2))⟩, ⟨(some (K.ofNat 33)), none, .call (.c (.fn (K.ofNat 105) [])) [(.t (K.ofNat 30)), (.t (K.ofNat 31)), (.t (K.ofNat 32))]⟩]
noncomputable def f98_r7 : List EOper := [⟨(some (K.ofNat 34)), none, .mv (.t (K.ofNat 8))⟩, ⟨(some (K.ofNat 35)), none, .not (.t (K.ofNat 34))⟩]
noncomputable def f98_r8 : List EOper := [⟨(some (K.ofNat 36)), none, .mv (.t (K.ofNat 0))⟩, ⟨(some (K.ofNat 37)), none, .mv (.t (K.ofNat 1))⟩, ⟨(some (K.ofNat 38)), none, .mv (.t (K.ofNat 2))⟩, ⟨(some (K.ofNat 39)), none, .call (.c (.fn (K.ofNat 106) [])) [(.t (K.ofNat 36)), (.t (K.ofNat 37)), (.t (K.ofNat 38))]⟩]
noncomputable def f98_r9 : List EOper := [⟨(some (K.ofNat 40)), none, .mv (.t (K.ofNat 3))⟩, ⟨(some (K.ofNat 41)), none, .bin .sub (.t (K.ofNat 40)) (.c (.i .i64 (.ofNat 1)))⟩, ⟨(some (K.ofNat 3)), none, .as (.t (K.ofNat 41))⟩]
noncomputable def f98_r10 : List EOper := [⟨(some (K.ofNat 43)), none, .mv (.t (K.ofNat 0))⟩, ⟨(some (K.ofNat 44)), none, .mv (.t (K.ofNat 1))⟩, ⟨(some (K.ofNat 45)), none, .mv (.t (K.ofNat 2))⟩, ⟨(some (K.ofNat 46)), none, .call (.c (.fn (K.ofNat 107) [])) [(.t (K.ofNat 43)), (.t (K.ofNat 44)), (.t (K.ofNat 45))]⟩, ⟨(some (K.ofNat 42)), none, .mv (.t (K.ofNat 46))⟩, ⟨(some (K.ofNat 47)), none, .ext (.t (K.ofNat 42)) 0⟩, ⟨(some (K.ofNat 48)), none, .ext (.t (K.ofNat 42)) 1⟩, ⟨(some (K.ofNat 11)), none, .as (.t (K.ofNat 47))⟩, ⟨(some (K.ofNat 12)), none, .as (.t (K.ofNat 48))⟩]
noncomputable def f98_r11 : List EOper := [⟨(some (K.ofNat 49)), none, .mv (.t (K.ofNat 12))⟩, ⟨(some (K.ofNat 50)), none, .bin .eql (.t (K.ofNat 49)) (.c (.i .i64 (.ofNat 2)))⟩]
noncomputable def f98_r12 : List EOper := [⟨(some (K.ofNat 51)), none, .mv (.t (K.ofNat 0))⟩, ⟨(some (K.ofNat 52)), none, .mv (.t (K.ofNat 1))⟩, ⟨(some (K.ofNat 53)), none, .mv (.t (K.ofNat 2))⟩, ⟨(some (K.ofNat 54)), none, .call (.c (.fn (K.ofNat 108) [])) [(.t (K.ofNat 51)), (.t (K.ofNat 52)), (.t (K.ofNat 53))]⟩]
noncomputable def f98_r13 : List EOper := [⟨(some (K.ofNat 55)), none, .mv (.t (K.ofNat 2))⟩, ⟨(some (K.ofNat 56)), none, .bin .sub (.t (K.ofNat 55)) (.c (.i .i64 (.ofNat 1)))⟩, ⟨(some (K.ofNat 57)), none, .mv (.t (K.ofNat 11))⟩, ⟨(some (K.ofNat 58)), none, .mv (.t (K.ofNat 1))⟩, ⟨(some (K.ofNat 59)), none, .bin .sub (.t (K.ofNat 57)) (.t (K.ofNat 58))⟩, ⟨(some (K.ofNat 60)), none, .bin .sub (.t (K.ofNat 56)) (.t (K.ofNat 59))⟩, ⟨(some (K.ofNat 11)), none, .as (.t (K.ofNat 60))⟩]
noncomputable def f98_r14 : List EOper := [⟨(some (K.ofNat 12)), none, .as (.c (.i .i64 (.ofNat 1)))⟩]
noncomputable def f98_r15 : List EOper := [⟨(some (K.ofNat 61)), none, .mv (.t (K.ofNat 8))⟩, ⟨(some (K.ofNat 62)), none, .mv (.t (K.ofNat 61))⟩, ⟨(some (K.ofNat 63)), (some ((K.ofNat 62), true)), .mv (.t (K.ofNat 9))⟩, ⟨(some (K.ofNat 64)), none, .pick (.t (K.ofNat 62)) (.t (K.ofNat 63)) (.c (.b false))⟩, ⟨(some (K.ofNat 65)), none, .mv (.t (K.ofNat 64))⟩, ⟨(some (K.ofNat 66)), (some ((K.ofNat 65), true)), .mv (.t (K.ofNat 12))⟩, ⟨(some (K.ofNat 67)), (some ((K.ofNat 65), true)), .bin .eql (.t (K.ofNat 66)) (.c (.i .i64 (.ofNat 1)))⟩, ⟨(some (K.ofNat 68)), none, .pick (.t (K.ofNat 65)) (.t (K.ofNat 67)) (.c (.b false))⟩]
noncomputable def f98_r16 : List EOper := [⟨(some (K.ofNat 69)), none, .mv (.t (K.ofNat 0))⟩, ⟨(some (K.ofNat 70)), none, .mv (.t (K.ofNat 1))⟩, ⟨(some (K.ofNat 71)), none, .mv (.t (K.ofNat 2))⟩, ⟨(some (K.ofNat 72)), none, .call (.c (.fn (K.ofNat 109) [])) [(.t (K.ofNat 69)), (.t (K.ofNat 70)), (.t (K.ofNat 71))]⟩]
noncomputable def f98_r17 : List Stage := [⟨[⟨(some (K.ofNat 73)), none, .mv (.t (K.ofNat 1))⟩, ⟨(some (K.ofNat 74)), none, .bin .gtr (.t (K.ofNat 73)) (.c (.i .i64 (.ofNat 0)))⟩, ⟨(some (K.ofNat 75)), none, .mv (.t (K.ofNat 74))⟩, ⟨(some (K.ofNat 76)), (some ((K.ofNat 75), true)), .mv (.t (K.ofNat 0))⟩, ⟨(some (K.ofNat 77)), (some ((K.ofNat 75), true)), .mv (.t (K.ofNat 1))⟩, ⟨(some (K.ofNat 78)), (some ((K.ofNat 75), true)), .bin .sub (.t (K.ofNat 77)) (.c (.i .i64 (.ofNat 1)))⟩, ⟨(some (K.ofNat 79)), (some ((K.ofNat 75), true)), .iads 1 (.t (K.ofNat 76)) (.t (K.ofNat 78))⟩, ⟨(some (K.ofNat 80)), (some ((K.ofNat 75), true)), .ld (.t (K.ofNat 79))⟩, ⟨(some (K.ofNat 81)), (some ((K.ofNat 75), true)), .mv (.t (K.ofNat 0))⟩, ⟨(some (K.ofNat 82)), (some ((K.ofNat 75), true)), .mv (.t (K.ofNat 11))⟩, ⟨(some (K.ofNat 83)), (some ((K.ofNat 75), true)), .iads 1 (.t (K.ofNat 81)) (.t (K.ofNat 82))⟩, ⟨(some (K.ofNat 84)), (some ((K.ofNat 75), true)), .ld (.t (K.ofNat 83))⟩], [], (some ⟨(some (K.ofNat 85)), (some ((K.ofNat 75), true)), .call (.c (.fn (K.ofNat 110) [])) [(.t (K.ofNat 80)), (.t (K.ofNat 84))]⟩), []⟩, ⟨[⟨(some (K.ofNat 86)), (some ((K.ofNat 75), true)), .not (.t (K.ofNat 85))⟩, ⟨(some (K.ofNat 87)), none, .pick (.t (K.ofNat 75)) (.t (K.ofNat 86)) (.c (.b false))⟩], [], none, []⟩]
noncomputable def f98_r18 : List EOper := [⟨(some (K.ofNat 88)), none, .mv (.t (K.ofNat 0))⟩, ⟨(some (K.ofNat 89)), none, .mv (.t (K.ofNat 1))⟩, ⟨(some (K.ofNat 90)), none, .mv (.t (K.ofNat 2))⟩, ⟨(some (K.ofNat 91)), none, .mv (.t (K.ofNat 11))⟩, ⟨(some (K.ofNat 92)), none, .call (.c (.fn (K.ofNat 111) [])) [(.t (K.ofNat 88)), (.t (K.ofNat 89)), (.t (K.ofNat 90)), (.t (K.ofNat 91))]⟩, ⟨(some (K.ofNat 13)), none, .as (.t (K.ofNat 92))⟩]
noncomputable def f98_r19 : List EOper := [⟨(some (K.ofNat 93)), none, .mv (.t (K.ofNat 13))⟩, ⟨(some (K.ofNat 1)), none, .as (.t (K.ofNat 93))⟩]
noncomputable def f98_r20 : List EOper := [⟨(some (K.ofNat 95)), none, .mv (.t (K.ofNat 0))⟩, ⟨(some (K.ofNat 96)), none, .mv (.t (K.ofNat 1))⟩, ⟨(some (K.ofNat 97)), none, .mv (.t (K.ofNat 2))⟩, ⟨(some (K.ofNat 98)), none, .mv (.t (K.ofNat 11))⟩, ⟨(some (K.ofNat 99)), none, .call (.c (.fn (K.ofNat 112) [])) [(.t (K.ofNat 95)), (.t (K.ofNat 96)), (.t (K.ofNat 97)), (.t (K.ofNat 98))]⟩, ⟨(some (K.ofNat 94)), none, .mv (.t (K.ofNat 99))⟩, ⟨(some (K.ofNat 100)), none, .ext (.t (K.ofNat 94)) 0⟩, ⟨(some (K.ofNat 101)), none, .ext (.t (K.ofNat 94)) 1⟩, ⟨(some (K.ofNat 14)), none, .as (.t (K.ofNat 100))⟩, ⟨(some (K.ofNat 15)), none, .as (.t (K.ofNat 101))⟩]
noncomputable def f98_r21 : List EOper := [⟨(some (K.ofNat 102)), none, .mv (.t (K.ofNat 15))⟩, ⟨(some (K.ofNat 9)), none, .as (.t (K.ofNat 102))⟩]
noncomputable def f98_r22 : List EOper := [⟨(some (K.ofNat 103)), none, .mv (.t (K.ofNat 14))⟩, ⟨(some (K.ofNat 104)), none, .mv (.t (K.ofNat 1))⟩, ⟨(some (K.ofNat 105)), none, .bin .sub (.t (K.ofNat 103)) (.t (K.ofNat 104))⟩, ⟨(some (K.ofNat 106)), none, .mv (.t (K.ofNat 2))⟩, ⟨(some (K.ofNat 107)), none, .mv (.t (K.ofNat 14))⟩, ⟨(some (K.ofNat 108)), none, .bin .sub (.t (K.ofNat 106)) (.t (K.ofNat 107))⟩, ⟨(some (K.ofNat 16)), none, .as (.t (K.ofNat 105))⟩, ⟨(some (K.ofNat 17)), none, .as (.t (K.ofNat 108))⟩]
noncomputable def f98_r23 : List EOper := [⟨(some (K.ofNat 109)), none, .mv (.t (K.ofNat 10))⟩, ⟨(some (K.ofNat 110)), none, .bin .quo (.t (K.ofNat 109)) (.c (.i .i64 (.ofNat 8)))⟩, ⟨(some (K.ofNat 18)), none, .as (.t (K.ofNat 110))⟩]
noncomputable def f98_r24 : List EOper := [⟨(some (K.ofNat 111)), none, .mv (.t (K.ofNat 16))⟩, ⟨(some (K.ofNat 112)), none, .mv (.t (K.ofNat 17))⟩, ⟨(some (K.ofNat 113)), none, .bin .lss (.t (K.ofNat 111)) (.t (K.ofNat 112))⟩]
noncomputable def f98_r25 : List EOper := [⟨(some (K.ofNat 114)), none, .mv (.t (K.ofNat 16))⟩, ⟨(some (K.ofNat 115)), none, .mv (.t (K.ofNat 18))⟩, ⟨(some (K.ofNat 116)), none, .bin .geq (.t (K.ofNat 114)) (.t (K.ofNat 115))⟩, ⟨(some (K.ofNat 8)), none, .as (.t (K.ofNat 116))⟩]
noncomputable def f98_r26 : List EOper := [⟨(some (K.ofNat 117)), none, .mv (.t (K.ofNat 0))⟩, ⟨(some (K.ofNat 118)), none, .mv (.t (K.ofNat 1))⟩, ⟨(some (K.ofNat 119)), none, .mv (.t (K.ofNat 14))⟩, ⟨(some (K.ofNat 120)), none, .mv (.t (K.ofNat 3))⟩, ⟨(some (K.ofNat 121)), none, .call (.c (.fn (K.ofNat 98) [])) [(.t (K.ofNat 117)), (.t (K.ofNat 118)), (.t (K.ofNat 119)), (.t (K.ofNat 120))]⟩]
noncomputable def f98_r27 : List EOper := [⟨(some (K.ofNat 122)), none, .mv (.t (K.ofNat 14))⟩, ⟨(some (K.ofNat 123)), none, .bin .add (.t (K.ofNat 122)) (.c (.i .i64 (.ofNat 1)))⟩, ⟨(some (K.ofNat 1)), none, .as (.t (K.ofNat 123))⟩]
noncomputable def f98_r28 : List EOper := [⟨(some (K.ofNat 124)), none, .mv (.t (K.ofNat 17))⟩, ⟨(some (K.ofNat 125)), none, .mv (.t (K.ofNat 18))⟩, ⟨(some (K.ofNat 126)), none, .bin .geq (.t (K.ofNat 124)) (.t (K.ofNat 125))⟩, ⟨(some (K.ofNat 8)), none, .as (.t (K.ofNat 126))⟩]
noncomputable def f98_r29 : List EOper := [⟨(some (K.ofNat 127)), none, .mv (.t (K.ofNat 0))⟩, ⟨(some (K.ofNat 128)), none, .mv (.t (K.ofNat 14))⟩, ⟨(some (K.ofNat 129)), none, .bin .add (.t (K.ofNat 128)) (.c (.i .i64 (.ofNat 1)))⟩, ⟨(some (K.ofNat 130)), none, .mv (.t (K.ofNat 2))⟩, ⟨(some (K.ofNat 131)), none, .mv (.t (K.ofNat 3))⟩, ⟨(some (K.ofNat 132)), none, .call (.c (.fn (K.ofNat 98) [])) [(.t (K.ofNat 127)), (.t (K.ofNat 129)), (.t (K.ofNat 130)), (.t (K.ofNat 131))]⟩]
noncomputable def f98_r30 : List EOper := [⟨(some (K.ofNat 133)), none, .mv (.t (K.ofNat 14))⟩, ⟨(some (K.ofNat 2)), none, .as (.t (K.ofNat 133))⟩]
noncomputable def f98_l0 : EC := (.block 1 (.seq (.reg f98_r2) (.seq (.seq (.reg f98_r3) (.cond (.t (K.ofNat 23)) (.seq (.reg f98_r4) .ret) .skip)) (.seq (.seq (.reg f98_r5) (.cond (.t (K.ofNat 29)) (.seq (.reg f98_r6) .ret) .skip)) (.seq (.seq (.reg f98_r7) (.cond (.t (K.ofNat 35)) (.seq (.reg f98_r8) (.reg f98_r9)) .skip)) (.seq (.reg f98_r10) (.seq (.seq (.reg f98_r11) (.cond (.t (K.ofNat 50)) (.seq (.reg f98_r12) (.seq (.reg f98_r13) (.reg f98_r14))) .skip)) (.seq (.seq (.reg f98_r15) (.cond (.t (K.ofNat 68)) (.seq (.reg f98_r16) (.cond (.t (K.ofNat 72)) .ret .skip)) .skip)) (.seq (.seq (.draw f98_r17) (.cond (.t (K.ofNat 87)) (.seq (.reg f98_r18) (.seq (.reg f98_r19) (.exit 1))) .skip)) (.seq (.reg f98_r20) (.seq (.reg f98_r21) (.seq (.reg f98_r22) (.seq (.reg f98_r23) (.seq (.reg f98_r24) (.cond (.t (K.ofNat 113)) (.seq (.reg f98_r25) (.seq (.reg f98_r26) (.reg f98_r27))) (.seq (.reg f98_r28) (.seq (.reg f98_r29) (.reg f98_r30))))))))))))))))))
noncomputable def f98_c : EC := (.seq (.reg f98_r0) (.seq (.reg f98_r1) (.block 0 (.loop f98_l0))))
noncomputable def f98 : EF := ⟨134, [], f98_c, none⟩
theorem f98_rs : f98.rs = [] := of_eq_true (eq_self _)
noncomputable def f86_r0 : List EOper := [⟨(some (K.ofNat 3)), none, .mv (.t (K.ofNat 0))⟩, ⟨(some (K.ofNat 4)), none, .len (.t (K.ofNat 3))⟩, ⟨(some (K.ofNat 2)), none, .as (.t (K.ofNat 4))⟩]
noncomputable def f86_r1 : List EOper := [⟨(some (K.ofNat 5)), none, .mv (.t (K.ofNat 0))⟩, ⟨(some (K.ofNat 6)), none, .mv (.t (K.ofNat 2))⟩, ⟨(some (K.ofNat 7)), none, .mv (.t (K.ofNat 2))⟩, ⟨(some (K.ofNat 8)), none, .conv .u64 (.t (K.ofNat 7))⟩, ⟨(some (K.ofNat 9)), none, .call (.c (.fn (K.ofNat 99) [])) [(.t (K.ofNat 8))]⟩, ⟨(some (K.ofNat 10)), none, .call (.c (.fn (K.ofNat 98) [])) [(.t (K.ofNat 5)), (.c (.i .i64 (.ofNat 0))), (.t (K.ofNat 6)), (.t (K.ofNat 9))]⟩]
noncomputable def f86_c : EC := (.seq (.reg f86_r0) (.reg f86_r1))
noncomputable def f86 : EF := ⟨11, [], f86_c, none⟩
theorem f86_rs : f86.rs = [] := of_eq_true (eq_self _)
def insL (x : Int) : List Int → List Int
  | [] => [x]
  | y :: P => if y ≤ x then y :: insL x P else x :: y :: P
def srtL (S : List Int) : List Int := S.foldl (fun P x => insL x P) []
theorem insL_len {x : Int} : ∀ {P : List Int}, (insL x P).length = P.length + 1
  | [] => rfl
  | y :: P => by
    unfold insL
    split
    · rw [List.length_cons, insL_len]; rfl
    · rfl
theorem insL_app {x : Int} {B : List Int} (hB : ∀ b ∈ B.head?, ¬ b ≤ x) : ∀ {A : List Int}, (∀ y ∈ A, y ≤ x) → insL x (A ++ B) = A ++ x :: B
  | [], _ => by
    cases B with
    | nil => rfl
    | cons b B => show (if b ≤ x then _ else _) = _; rw [if_neg (hB b (by simp))]; rfl
  | y :: A, h => by
    show (if y ≤ x then y :: insL x (A ++ B) else _) = _
    rw [if_pos (h y (by simp)), insL_app hB (fun z hz => h z (List.mem_cons_of_mem _ hz))]; rfl
theorem insL_mem {x z : Int} : ∀ {P : List Int}, z ∈ insL x P → z = x ∨ z ∈ P
  | [], h => .inl (List.mem_singleton.1 h)
  | y :: P, h => by
    unfold insL at h
    split at h
    · rcases List.mem_cons.1 h with rfl | h
      · exact .inr (by simp)
      · rcases insL_mem h with h | h
        · exact .inl h
        · exact .inr (List.mem_cons_of_mem _ h)
    · rcases List.mem_cons.1 h with rfl | h
      · exact .inl rfl
      · exact .inr h
theorem insL_srt {x : Int} : ∀ {P : List Int}, P.Pairwise (· ≤ ·) → (insL x P).Pairwise (· ≤ ·)
  | [], _ => by simp [insL]
  | y :: P, h => by
    obtain ⟨h1, h2⟩ := List.pairwise_cons.1 h
    unfold insL
    split
    · rename_i hy
      refine List.pairwise_cons.2 ⟨fun z hz => ?_, insL_srt h2⟩
      rcases insL_mem hz with rfl | hz
      · exact hy
      · exact h1 z hz
    · rename_i hy
      refine List.pairwise_cons.2 ⟨fun z hz => ?_, h⟩
      rcases List.mem_cons.1 hz with rfl | hz
      · omega
      · have := h1 z hz; omega
theorem srtL_snoc {S : List Int} {x : Int} : srtL (S ++ [x]) = insL x (srtL S) := by unfold srtL; rw [List.foldl_append]; rfl
theorem srt_aux : ∀ (S P : List Int), P.Pairwise (· ≤ ·) → (S.foldl (fun P x => insL x P) P).Pairwise (· ≤ ·) ∧ (S.foldl (fun P x => insL x P) P).length = P.length + S.length ∧ ∀ z ∈ S.foldl (fun P x => insL x P) P, z ∈ P ∨ z ∈ S
  | [], P, h => ⟨h, by simp, fun z hz => .inl hz⟩
  | x :: S, P, h => by
    obtain ⟨h1, h2, h3⟩ := srt_aux S (insL x P) (insL_srt h)
    refine ⟨h1, by show (S.foldl _ (insL x P)).length = _; rw [h2, insL_len]; simp; omega, fun z hz => ?_⟩
    rcases h3 z hz with h4 | h4
    · rcases insL_mem h4 with rfl | h4
      · exact .inr (by simp)
      · exact .inl h4
    · exact .inr (List.mem_cons_of_mem _ h4)
theorem srtL_srt {S : List Int} : (srtL S).Pairwise (· ≤ ·) := (srt_aux S [] List.Pairwise.nil).1
theorem srtL_len {S : List Int} : (srtL S).length = S.length := by have := (srt_aux S [] List.Pairwise.nil).2.1; unfold srtL; rw [this]; simp
theorem swap_at {p x : Int} {B : List Int} : ∀ {A : List Int}, ((A ++ p :: x :: B).set (A.length + 1) p).set A.length x = A ++ x :: p :: B
  | [] => rfl
  | a :: A => by simp
structure CallsSr (fs : T EF) : Prop where
  c_nan : fs.get (K.ofNat 103) = some f103
  c_less : fs.get (K.ofNat 110) = some f110
  c_ins : fs.get (K.ofNat 104) = some f104
  c_l64 : fs.get (K.ofNat 114) = some f114
  c_blen : fs.get (K.ofNat 99) = some f99
  c_pdq : fs.get (K.ofNat 98) = some f98
section
variable {fs : T EF} {h : H} {v : V} {S : List Int}
theorem nan_ret {x : Int} : Ret fs f103 [.i .i64 x] h fun r h' => r = .b false ∧ h' = h := by
  apply ret_of rfl
  show W fs none f103_c _ _ _
  unfold f103_c
  have d : decide (x ≠ x) = false := by simp
  simp (disch := omega) only [f103_r0, f103_r1, f103_rs, w_reg, w_seq, w_ret, seqK_n, retK_r, x_nil, x_mv, x_as, x_bin, kx, rvP_ok, okv_some, ev_t, ev_c, getV_some, putD_some, bin_neq, oGet_s, readRs_nil, readRs_t, retV_1, frame_1, Option.some.injEq, exists_eq_left', getK_set, Nat.reduceEqDiff, ↓reduceIte, d, and_self]
theorem less_ret {x y : Int} (k : CallsSr fs) : Ret fs f110 [.i .i64 x, .i .i64 y] h fun r h' => r = .b (decide (x < y)) ∧ h' = h := by
  apply ret_of rfl
  show W fs none f110_c _ _ _
  unfold f110_c
  simp (disch := omega) only [f110_r0, f110_r1, w_reg, w_seq, seqK_n, x_nil, x_mv, x_as, x_call, ev_t, ev_c, evs_nil, evs_cons, getV_some, putD_some, frame_2, getK_set, Nat.reduceEqDiff, ↓reduceIte]
  refine (callP_0 (ef := f103) k.c_nan rfl (nan_ret)).mono ?_
  rintro r h1 ⟨rfl, rfl⟩
  simp (disch := omega) only [f110_rs, w_ret, seqK_n, okG_b, asG_t, asG_f, retK_r, x_nil, x_g, x_mv, x_as, x_pick, x_bin, kx, rvP_ok, okv_some, ev_t, ev_c, getV_some, putD_some, bin_lss, pick_b, oGet_s, readRs_nil, readRs_t, retV_1, Option.some.injEq, exists_eq_left', getK_set, Nat.reduceEqDiff, ↓reduceIte, Bool.false_eq_true, Bool.not_false, and_self]
/-- What a sort leaves alone. -/
structure Only (v : V) (h h' : H) : Prop where
  nx : h'.nx = h.nx
  old : ∀ id, NotIn id v → h'.get id = h.get id
theorem Only.refl : Only v h h := ⟨rfl, fun _ _ => rfl⟩
theorem Only.hc {h' : H} (o : Only v h h') (hc : HC h) (hv : ∀ id off n sz, v = .sl id off n sz → id.nat < h.nx.nat) : HC h' := fun id hid => by
  rw [o.nx] at hid
  rw [o.old id (fun off n sz e => by have := hv _ _ _ _ e; omega)]
  exact hc id hid
theorem Only.put {h' : H} {id : K} {x : Blk} (o : Only v h h') (hv : ∃ off n sz, v = .sl id off n sz) : Only v h (h'.put id x) := ⟨o.nx, fun id' hn => by
  obtain ⟨off, n, sz, e⟩ := hv
  rw [get_put_other (fun q => hn off n sz (by rw [q]; exact e))]
  exact o.old id' hn⟩
theorem Only.grow {h' : H} {b : Nat} (o : Only v h h') (ho : Own b v) (hv : ∀ id off n sz, v = .sl id off n sz → id.nat < h.nx.nat) : Grow b h h' := ⟨by rw [o.nx]; exact Nat.le_refl _, fun id hi => o.old id (ho.notIn hi), fun hc => o.hc hc hv⟩
def ins_I (h : H) (v : V) (S : List Int) (i : Nat) (fr : Fr) (h1 : H) : Prop := 1 ≤ i ∧ i ≤ S.length ∧ Only v h h1 ∧ Sl iE h1 v (srtL (S.take i) ++ S.drop i) ∧ fr.get (K.ofNat 0) = some (v) ∧ fr.get (K.ofNat 1) = some (.i .i64 0) ∧ fr.get (K.ofNat 2) = some (.i .i64 (S.length : Int)) ∧ fr.get (K.ofNat 6) = some (.i .i64 (i : Int))
def ins_J (h : H) (v : V) (S P R : List Int) (x : Int) (i j : Nat) (fr : Fr) (h1 : H) : Prop := j ≤ i ∧ Only v h h1 ∧ Sl iE h1 v ((P.take j ++ x :: P.drop j) ++ R) ∧ (∀ b ∈ (P.drop j).head?, ¬ b ≤ x) ∧ fr.get (K.ofNat 0) = some (v) ∧ fr.get (K.ofNat 1) = some (.i .i64 0) ∧ fr.get (K.ofNat 2) = some (.i .i64 (S.length : Int)) ∧ fr.get (K.ofNat 6) = some (.i .i64 (i : Int)) ∧ fr.get (K.ofNat 7) = some (.i .i64 (j : Int))
theorem ins_ret (k : CallsSr fs) (hv : Sl iE h v S) (hS : S.length ≤ 1000) (h1 : 1 ≤ S.length) (hc : HC h) : Ret fs f104 [v, .i .i64 0, .i .i64 (S.length : Int)] h fun r h' => r = .tup [] ∧ Sl iE h' v (srtL S) ∧ Only v h h' := by
  have hlt0 := hv.lt hc
  apply ret_of rfl
  show W fs none f104_c _ _ _
  unfold f104_c
  simp (disch := omega) only [f104_r0, w_reg, w_seq, w_block, seqK_n, x_nil, x_mv, x_as, x_bin, kx, rvP_ok, okv_some, ev_t, ev_c, getV_some, putD_some, bin_add, frame_3, of1, getK_set, Nat.reduceEqDiff, ↓reduceIte, fw64]
  refine W_loop (ins_I h v S) (fun i => S.length - i) ?_ 1 ⟨by omega, h1, Only.refl, ?_, by simp (disch := omega) only [getK_set, Nat.reduceEqDiff, ↓reduceIte, and_self, Int.natCast_one, Int.zero_add]⟩
  · rintro i fr h2 ⟨hi0, hi, hO, hs, g0, g1, g2, g6⟩
    unfold f104_l1
    by_cases hlt : i < S.length
    · have d0 : decide ((i : Int) < (S.length : Int)) = true := by simpa using hlt
      have hP : (srtL (S.take i)).length = i := by rw [srtL_len]; simp; omega
      have hsr := srtL_srt (S := S.take i)
      have hsn : srtL (S.take (i + 1)) = insL S[i] (srtL (S.take i)) := by rw [List.take_succ_eq_append_getElem hlt, srtL_snoc]
      have hdr : S.drop i = S[i] :: S.drop (i + 1) := List.drop_eq_getElem_cons hlt
      generalize S[i] = x at *
      generalize srtL (S.take i) = P at *
      generalize hRe : S.drop (i + 1) = R at *
      simp (disch := omega) only [f104_r1, f104_r2, w_skip, w_reg, w_seq, w_cond, w_block, seqK_n, ckB_b, cbB_b, true_and, x_nil, x_mv, x_as, x_bin, kx, rvP_ok, okv_some, ev_t, getV_some, putD_some, bin_lss, getK_set, Nat.reduceEqDiff, ↓reduceIte, g2, g6, d0]
      refine W_loop (ins_J h v S P R x i) (fun j => j) ?_ i ⟨Nat.le_refl _, hO, by rw [List.take_of_length_le (by omega), List.drop_eq_nil_of_le (by omega), List.append_assoc]; rw [hdr] at hs; exact hs, by rw [List.drop_eq_nil_of_le (by omega)]; exact (fun b hb => absurd hb (by simp)), by simp (disch := omega) only [getK_set, Nat.reduceEqDiff, ↓reduceIte, g0, g1, g2, g6, and_self]⟩
      clear hs hO g0 g1 g2 g6 fr
      rintro j fr h3 ⟨hj, hO, hs, hB, g0, g1, g2, g6, g7⟩
      unfold f104_l0
      rcases j with _ | j
      · have d1 : decide ((0 : Int) > 0) = false := rfl
        have e := insL_app hB (A := []) (by simp)
        simp only [List.take_zero, List.drop_zero, List.nil_append] at hs e
        rw [← e, ← hsn] at hs
        simp (disch := omega) only [f104_r3, f104_r6, w_reg, w_draw, w_seq, w_cond, w_exit, seqK_n, seqK_e, atK_n, atK_e, loopK_n, loopK_e, ckB_b, cbB_b, okG_b, asG_t, true_and, x_nil, x_g, x_mv, x_as, x_bin, kx, kg, xg_nil, xg_g, xg_mv, xg_pick, xg_bin, xd_cons, fresh_nil, stK_n, stK_s, stay_nil, rvP_ok, okv_some, ev_t, ev_c, getV_some, putD_some, bin_add, bin_gtr, pick_b, of1, getK_set, Nat.reduceEqDiff, ↓reduceIte, Bool.false_eq_true, g1, g6, g7, Int.natCast_zero, d1, fw64]
        exact ⟨i + 1, by omega, by omega, by omega, hO, by rw [hRe]; exact hs, by simp (disch := omega) only [getK_set, Nat.reduceEqDiff, ↓reduceIte, g0, g1, g2, and_self, Int.natCast_add, Int.natCast_one]⟩
      · have d1 : decide (((j + 1 : Nat) : Int) > 0) = true := decide_eq_true (by omega)
        have hj1 : ((j + 1 : Nat) : Int) - 1 = (j : Int) := by omega
        have hjP : j < P.length := by omega
        have htk : P.take (j + 1) = P.take j ++ [P[j]] := List.take_succ_eq_append_getElem hjP
        have hdj : P.drop j = P[j] :: P.drop (j + 1) := List.drop_eq_getElem_cons hjP
        have hpw : ∀ y ∈ P.take (j + 1), y ≤ P[j] := fun y hy => by
          obtain ⟨a, ha, rfl⟩ := List.getElem_of_mem hy
          have ha' : a < j + 1 := by simp at ha; omega
          rw [List.getElem_take]
          by_cases e : a = j
          · subst e; exact Int.le_refl _
          · exact List.pairwise_iff_getElem.1 hsr a j (by omega) hjP (by omega)
        have hA : (P.take j).length = j := by simp; omega
        rw [htk] at hs
        have hs' : Sl iE h3 v (P.take j ++ P[j] :: x :: (P.drop (j + 1) ++ R)) := by rw [List.append_assoc (P.take j), List.append_assoc (P.take j)] at hs; exact hs
        generalize P[j] = p at *
        generalize hAe : P.take j = A at *
        generalize P.drop (j + 1) = B at *
        have hlen : (A ++ p :: x :: (B ++ R)).length = A.length + (B ++ R).length + 2 := by simp; omega
        obtain ⟨p1, a1, a2⟩ := hs'.at (j + 1) (by omega)
        obtain ⟨p0, b1, b2⟩ := hs'.at j (by omega)
        have x1 : (A ++ p :: x :: (B ++ R))[j + 1]'(by omega) = x := by simp [← hA]
        have x0 : (A ++ p :: x :: (B ++ R))[j]'(by omega) = p := by simp [← hA]
        rw [x1] at a2
        rw [x0] at b2
        cases d2 : decide (x < p) with
        | false =>
          have hle : p ≤ x := by have := of_decide_eq_false d2; omega
          have hall : ∀ y ∈ P.take (j + 1), y ≤ x := fun y hy => Int.le_trans (hpw y hy) hle
          rw [htk] at hall
          have e := insL_app hB hall
          have hPe : P = (A ++ [p]) ++ B := by
            have := List.take_append_drop (j + 1) P
            rw [htk] at this
            have e2 : P.drop (j + 1) = B := by
              have := hdj
              rw [List.drop_eq_getElem_cons hjP] at this
              injection this
            rw [e2] at this
            exact this.symm
          rw [← hPe] at e
          have hs2 : Sl iE h3 v (srtL (S.take (i + 1)) ++ R) := by rw [hsn, e]; exact hs
          simp (disch := omega) only [f104_r3, w_draw, w_seq, okG_b, asG_t, true_and, x_g, x_call, kg, xg_nil, xg_g, xg_mv, xg_ld, xg_bin, xg_iads, xd_cons, fresh_nil, stK_s, stay_nil, rvP_ok, okv_some, ev_t, ev_c, evs_nil, evs_cons, getV_some, putD_some, bin_sub, bin_gtr, of1, getK_set, Nat.reduceEqDiff, ↓reduceIte, g0, g1, g7, d1, hj1, a1, a2, b1, b2, iE, fw64]
          refine (callP_0 (ef := f110) k.c_less rfl (less_ret k)).mono ?_
          rintro r h4 ⟨rfl, rfl⟩
          simp (disch := omega) only [f104_r6, w_reg, w_cond, w_exit, seqK_n, seqK_e, atK_n, atK_e, loopK_n, loopK_e, ckB_b, cbB_b, true_and, x_nil, x_mv, x_as, x_bin, kx, kg, xg_nil, xg_pick, xd_cons, fresh_nil, stK_n, stay_nil, rvP_ok, okv_some, ev_t, ev_c, getV_some, putD_some, bin_add, pick_b, of1, getK_set, Nat.reduceEqDiff, ↓reduceIte, Bool.false_eq_true, g6, d2, fw64]
          exact ⟨i + 1, by omega, by omega, by omega, hO, by rw [hRe]; exact hs2, by simp (disch := omega) only [getK_set, Nat.reduceEqDiff, ↓reduceIte, g0, g1, g2, and_self, Int.natCast_add, Int.natCast_one]⟩
        | true =>
          have hgt : ¬ p ≤ x := by have := of_decide_eq_true d2; omega
          have hc3 := hO.hc hc hlt0
          obtain ⟨p1', id, m, cs', z1, z2, z3, ⟨off, nn, sz, z4⟩, z5⟩ := hs'.st (i := j + 1) (by omega) (x := p) (c := .i .i64 p) rfl rfl hc3
          obtain rfl : p1 = p1' := by have := (a1 .i64 h3).symm.trans (z1 .i64 h3); injection this
          have hc4 := (hO.put (x := .cells m cs') ⟨_, _, _, z4⟩).hc hc hlt0
          obtain ⟨p0', id2, m2, cs2, y1, y2, y3, y4, y5⟩ := z3.st (i := j) (by simp; omega) (x := x) (c := .i .i64 x) rfl rfl hc4
          obtain rfl : p0 = p0' := by have := (b1 .i64 h3).symm.trans (y1 .i64 h3); injection this
          have hsw : ((A ++ p :: x :: (B ++ R)).set (j + 1) p).set j x = (A ++ x :: (p :: B)) ++ R := by
            have := swap_at (p := p) (x := x) (B := B ++ R) (A := A)
            rw [hA] at this
            rw [this]; simp
          rw [hsw] at y3
          have hvb := hs.beq
          simp (disch := omega) only [f104_r3, w_draw, w_seq, okG_b, asG_t, true_and, x_g, x_call, kg, xg_nil, xg_g, xg_mv, xg_ld, xg_bin, xg_iads, xd_cons, fresh_nil, stK_s, stay_nil, rvP_ok, okv_some, ev_t, ev_c, evs_nil, evs_cons, getV_some, putD_some, bin_sub, bin_gtr, of1, getK_set, Nat.reduceEqDiff, ↓reduceIte, g0, g1, g7, d1, hj1, a1, a2, b1, b2, iE, fw64]
          refine (callP_0 (ef := f110) k.c_less rfl (less_ret k)).mono ?_
          rintro r h4 ⟨rfl, rfl⟩
          simp (disch := omega) only [f104_r4, f104_r5, w_skip, w_reg, w_draw, w_seq, w_cond, w_block, seqK_n, atK_n, loopK_n, ckB_b, cbB_b, true_and, x_nil, x_mv, x_as, x_st, x_bin, kx, kg, xg_nil, xg_mv, xg_pick, xg_ld, xg_bin, xg_iads, xd_cons, fresh_nil, stK_n, stK_s, stay_nil, stay_cons, again_ok, stay_mv, beq_i, stay_bin, rvP_ok, okv_some, ev_t, ev_c, getV_some, putD_some, putD_none, bin_sub, pick_b, of1, getK_set, Nat.reduceEqDiff, ↓reduceIte, g0, g7, d2, hj1, a1, a2, b1, b2, z2, y2, hvb, iE, fw64]
          refine ⟨j, by omega, by omega, (hO.put ⟨_, _, _, z4⟩).put y4, ?_, ?_, by simp (disch := omega) only [getK_set, Nat.reduceEqDiff, ↓reduceIte, g0, g1, g2, g6, and_self]⟩
          · rw [hAe, hdj]; exact y3
          · rw [hdj]; intro b hb
            obtain rfl : p = b := by simpa using hb
            exact hgt
    · have d0 : decide ((i : Int) < (S.length : Int)) = false := by simpa using hlt
      have ei : i = S.length := by omega
      rw [ei, List.take_length, List.drop_length, List.append_nil] at hs
      simp (disch := omega) only [f104_r1, f104_rs, w_reg, w_seq, w_cond, w_exit, seqK_n, seqK_e, atK_e, loopK_e, ckB_b, cbB_b, true_and, retK_n, x_nil, x_mv, x_bin, kx, rvP_ok, okv_some, ev_t, getV_some, putD_some, bin_lss, readRs_nil, retV_0, Option.some.injEq, exists_eq_left', getK_set, Nat.reduceEqDiff, ↓reduceIte, Bool.false_eq_true, g2, g6, d0, true_and]
      exact ⟨hs, hO⟩
  · have : S.take 1 = [S[0]] := by rw [List.take_succ_eq_append_getElem (by omega)]; simp
    rw [this, show srtL [S[0]] = [S[0]] from rfl, ← this, List.take_append_drop]; exact hv
theorem l64_ret {n : Nat} (hn : n ≤ 12) : Ret fs f114 [.i .u64 (n : Int)] h fun r h' => (∃ b, r = .i .i64 b) ∧ h' = h := by
  rcases (show n = 0 ∨ n = 1 ∨ n = 2 ∨ n = 3 ∨ n = 4 ∨ n = 5 ∨ n = 6 ∨ n = 7 ∨ n = 8 ∨ n = 9 ∨ n = 10 ∨ n = 11 ∨ n = 12 by omega) with rfl | rfl | rfl | rfl | rfl | rfl | rfl | rfl | rfl | rfl | rfl | rfl | rfl <;> exact ⟨20, _, _, rfl, ⟨_, rfl⟩, rfl⟩
theorem blen_ret {n : Nat} (k : CallsSr fs) (hn : n ≤ 12) : Ret fs f99 [.i .u64 (n : Int)] h fun r h' => (∃ b, r = .i .i64 b) ∧ h' = h := by
  apply ret_of rfl
  show W fs none f99_c _ _ _
  unfold f99_c
  simp (disch := omega) only [f99_r0, f99_r2, w_skip, w_reg, w_seq, w_cond, seqK_n, ckB_b, cbB_b, true_and, x_nil, x_mv, x_as, x_call, ev_t, ev_c, evs_nil, evs_cons, getV_some, putD_some, frame_1, of0, getK_set, Nat.reduceEqDiff, ↓reduceIte, Bool.false_eq_true]
  refine (callP_0 (ef := f114) k.c_l64 rfl (l64_ret hn)).mono ?_
  rintro r h1 ⟨⟨b, rfl⟩, rfl⟩
  simp (disch := omega) only [f99_rs, w_ret, seqK_n, retK_r, x_nil, x_as, kx, ev_t, getV_some, putD_some, oGet_s, readRs_nil, readRs_t, retV_1, Option.some.injEq, exists_eq_left', getK_set, ↓reduceIte, and_true]
  exact ⟨b, rfl⟩
theorem pdq_ret {b : Int} (k : CallsSr fs) (hv : Sl iE h v S) (hS : S.length ≤ 12) (h1 : 1 ≤ S.length) (hc : HC h) : Ret fs f98 [v, .i .i64 0, .i .i64 (S.length : Int), .i .i64 b] h fun r h' => r = .tup [] ∧ Sl iE h' v (srtL S) ∧ Only v h h' := by
  apply ret_of rfl
  show W fs none f98_c _ _ _
  unfold f98_c
  have d0 : decide ((S.length : Int) ≤ 12) = true := decide_eq_true (by omega)
  have e0 : (S.length : Int) - 0 = (S.length : Int) := Int.sub_zero _
  simp (disch := omega) only [f98_r0, f98_r1, w_reg, w_seq, w_block, seqK_n, x_nil, x_as, ev_c, putD_some, frame_4]
  refine W_loop (fun (_ : Unit) fr h1 => h1 = h ∧ fr.get (K.ofNat 0) = some (v) ∧ fr.get (K.ofNat 1) = some (.i .i64 0) ∧ fr.get (K.ofNat 2) = some (.i .i64 (S.length : Int))) (fun _ => 0) ?_ () ⟨rfl, by simp (disch := omega) only [getK_set, Nat.reduceEqDiff, ↓reduceIte, and_self]⟩
  rintro _ fr h2 ⟨rfl, g0, g1, g2⟩
  unfold f98_l0
  simp (disch := omega) only [f98_r2, f98_r3, f98_r4, w_reg, w_seq, w_cond, w_block, seqK_n, ckB_b, cbB_b, true_and, x_nil, x_mv, x_as, x_bin, x_call, kx, rvP_ok, okv_some, ev_t, ev_c, evs_nil, evs_cons, getV_some, putD_some, bin_sub, bin_leq, of12, getK_set, Nat.reduceEqDiff, ↓reduceIte, g0, g1, g2, e0, d0, fw64]
  refine (callP_0 (ef := f104) k.c_ins rfl (ins_ret k hv (by omega) h1 hc)).mono ?_
  rintro r h3 ⟨rfl, hs, hO⟩
  simp (disch := omega) only [f98_rs, w_ret, seqK_n, seqK_r, atK_r, loopK_r, true_and, retK_r, x_nil, kx, putD_some, readRs_nil, retV_0, Option.some.injEq, exists_eq_left', true_and]
  exact ⟨hs, hO⟩
/-- slices.Sort. -/
theorem sort_ret (k : CallsSr fs) (hv : Sl iE h v S) (hS : S.length ≤ 12) (h1 : 1 ≤ S.length) (hc : HC h) : Ret fs f86 [v] h fun r h' => r = .tup [] ∧ Sl iE h' v (srtL S) ∧ Only v h h' := by
  apply ret_of rfl
  show W fs none f86_c _ _ _
  unfold f86_c
  have hl := hv.len
  have fu : fw .u64 (S.length : Int) = (S.length : Int) := by
    show (bif Nat.ble S.length (kmax .u64) then Int.ofNat S.length else _) = _
    rw [Nat.ble_eq_true_of_le (show S.length ≤ kmax .u64 from by show S.length ≤ 18446744073709551615; omega)]; rfl
  simp (disch := omega) only [f86_r0, f86_r1, w_reg, w_seq, seqK_n, x_nil, x_mv, x_as, x_conv, x_call, x_len, kx, rvP_ok, ev_t, ev_c, evs_nil, evs_cons, getV_some, putD_some, onI_i, frame_1, of0, getK_set, Nat.reduceEqDiff, ↓reduceIte, hl, fu]
  refine (callP_0 (ef := f99) k.c_blen rfl (blen_ret k hS)).mono ?_
  rintro r h2 ⟨⟨b, rfl⟩, rfl⟩
  simp (disch := omega) only [x_call, kx, ev_t, ev_c, evs_nil, evs_cons, getV_some, putD_some, getK_set, Nat.reduceEqDiff, ↓reduceIte]
  refine (callP_0 (ef := f98) k.c_pdq rfl (pdq_ret k hv hS h1 hc)).mono ?_
  rintro r h3 ⟨rfl, hs, hO⟩
  simp (disch := omega) only [f86_rs, true_and, retK_n, x_nil, kx, putD_some, readRs_nil, retV_0, Option.some.injEq, exists_eq_left', true_and]
  exact ⟨hs, hO⟩
end
end Go.Ev
namespace Go.Ev
open Go Go.RowKit
noncomputable def f85_r0 : List EOper := [⟨(some (K.ofNat 6)), none, .as (.c (.i .u16 (.ofNat 0)))⟩]
noncomputable def f85_r1 : List EOper := [⟨(some (K.ofNat 7)), none, .as (.c (.i .u16 (.ofNat 0)))⟩]
noncomputable def f85_r2 : List EOper := [⟨(some (K.ofNat 9)), none, .mv (.t (K.ofNat 0))⟩, ⟨(some (K.ofNat 8)), none, .as (.t (K.ofNat 9))⟩]
noncomputable def f85_r3 : List EOper := [⟨(some (K.ofNat 10)), none, .mv (.t (K.ofNat 7))⟩, ⟨(some (K.ofNat 11)), none, .mv (.t (K.ofNat 8))⟩, ⟨(some (K.ofNat 12)), none, .call (.c (.fn (K.ofNat 76) [])) [(.t (K.ofNat 10)), (.t (K.ofNat 11))]⟩, ⟨(some (K.ofNat 13)), none, .not (.t (K.ofNat 12))⟩]
noncomputable def f85_r4 : List EOper := [⟨(some (K.ofNat 19)), none, .mv (.t (K.ofNat 7))⟩, ⟨(some (K.ofNat 20)), none, .mv (.t (K.ofNat 8))⟩, ⟨(some (K.ofNat 21)), none, .call (.c (.fn (K.ofNat 83) [])) [(.t (K.ofNat 19)), (.t (K.ofNat 20))]⟩, ⟨(some (K.ofNat 22)), none, .mv (.t (K.ofNat 1))⟩, ⟨(some (K.ofNat 23)), none, .mv (.t (K.ofNat 8))⟩, ⟨(some (K.ofNat 24)), none, .call (.t (K.ofNat 22)) [(.t (K.ofNat 23))]⟩, ⟨(some (K.ofNat 25)), none, .call (.c (.fn (K.ofNat 83) [])) [(.t (K.ofNat 21)), (.t (K.ofNat 24))]⟩, ⟨(some (K.ofNat 7)), none, .as (.t (K.ofNat 25))⟩]
noncomputable def f85_r5 : List EOper := [⟨(some (K.ofNat 14)), none, .mv (.t (K.ofNat 2))⟩, ⟨(some (K.ofNat 15)), none, .mv (.t (K.ofNat 1))⟩, ⟨(some (K.ofNat 16)), none, .mv (.t (K.ofNat 8))⟩, ⟨(some (K.ofNat 17)), none, .call (.t (K.ofNat 15)) [(.t (K.ofNat 16))]⟩, ⟨(some (K.ofNat 18)), none, .call (.t (K.ofNat 14)) [(.t (K.ofNat 17))]⟩, ⟨(some (K.ofNat 8)), none, .as (.t (K.ofNat 18))⟩]
noncomputable def f85_l0 : EC := (.seq (.seq (.reg f85_r3) (.cond (.t (K.ofNat 13)) .skip (.exit 0))) (.seq (.block 1 (.reg f85_r4)) (.reg f85_r5)))
noncomputable def f85_r6 : List EOper := [⟨(some (K.ofNat 26)), none, .mv (.t (K.ofNat 7))⟩, ⟨(some (K.ofNat 6)), none, .as (.t (K.ofNat 26))⟩]
noncomputable def f85_c : EC := (.seq (.reg f85_r0) (.seq (.reg f85_r1) (.seq (.seq (.reg f85_r2) (.block 0 (.loop f85_l0))) (.seq (.reg f85_r6) .ret))))
noncomputable def f85 : EF := ⟨27, [.tmp (K.ofNat 6)], f85_c, none⟩
theorem f85_rs : f85.rs = [.tmp (K.ofNat 6)] := of_eq_true (eq_self _)
noncomputable def f69_r0 : List EOper := [⟨(some (K.ofNat 6)), none, .as (.c .sn)⟩]
noncomputable def f69_r1 : List EOper := [⟨(some (K.ofNat 7)), none, .as (.c .sn)⟩]
noncomputable def f69_r2 : List EOper := [⟨(some (K.ofNat 8)), none, .as (.c (.i .u16 (.ofNat 0)))⟩]
noncomputable def f69_r3 : List EOper := [⟨(some (K.ofNat 11)), none, .mv (.t (K.ofNat 0))⟩, ⟨(some (K.ofNat 12)), none, .mv (.c (.i .i64 (.ofNat 0)))⟩]
noncomputable def f69_r4 : List EOper := [⟨(some (K.ofNat 13)), none, .bin .lss (.t (K.ofNat 12)) (.t (K.ofNat 11))⟩]
noncomputable def f69_r5 : List EOper := [⟨(some (K.ofNat 14)), none, .mv (.t (K.ofNat 12))⟩, ⟨(some (K.ofNat 9)), none, .as (.t (K.ofNat 14))⟩]
noncomputable def f69_r6 : List EOper := [⟨(some (K.ofNat 15)), none, .mv (.t (K.ofNat 8))⟩, ⟨(some (K.ofNat 16)), none, .mv (.t (K.ofNat 9))⟩, ⟨(some (K.ofNat 17)), none, .call (.c (.fn (K.ofNat 76) [])) [(.t (K.ofNat 15)), (.t (K.ofNat 16))]⟩]
noncomputable def f69_r7 : List EOper := [⟨(some (K.ofNat 18)), none, .mv (.t (K.ofNat 9))⟩, ⟨(some (K.ofNat 19)), none, .mv (.t (K.ofNat 1))⟩, ⟨(some (K.ofNat 20)), none, .mkbf (K.ofNat 58) [(.t (K.ofNat 19))] []⟩, ⟨(some (K.ofNat 21)), none, .mv (.t (K.ofNat 2))⟩, ⟨(some (K.ofNat 22)), none, .mkbf (K.ofNat 58) [(.t (K.ofNat 21))] []⟩, ⟨(some (K.ofNat 23)), none, .call (.c (.fn (K.ofNat 85) [])) [(.t (K.ofNat 18)), (.t (K.ofNat 20)), (.t (K.ofNat 22))]⟩, ⟨(some (K.ofNat 10)), none, .as (.t (K.ofNat 23))⟩]
noncomputable def f69_r8 : List EOper := [⟨(some (K.ofNat 24)), none, .mv (.t (K.ofNat 8))⟩, ⟨(some (K.ofNat 25)), none, .mv (.t (K.ofNat 10))⟩, ⟨(some (K.ofNat 26)), none, .bin .or (.t (K.ofNat 24)) (.t (K.ofNat 25))⟩, ⟨(some (K.ofNat 8)), none, .as (.t (K.ofNat 26))⟩]
noncomputable def f69_r9 : List EOper := [⟨(some (K.ofNat 27)), none, .mv (.t (K.ofNat 7))⟩, ⟨(some (K.ofNat 28)), none, .mv (.t (K.ofNat 10))⟩, ⟨(some (K.ofNat 29)), none, .call (.c (.fn (K.ofNat 74) [])) [(.t (K.ofNat 28))]⟩, ⟨(some (K.ofNat 30)), none, .bslice 1 1 [(.i .i64 (.ofNat 0))] [(0, 1, (.t (K.ofNat 29)))]⟩, ⟨(some (K.ofNat 31)), none, .app 1 (.t (K.ofNat 27)) (.t (K.ofNat 30))⟩, ⟨(some (K.ofNat 7)), none, .as (.t (K.ofNat 31))⟩]
noncomputable def f69_r10 : List EOper := [⟨(some (K.ofNat 32)), none, .bin .add (.t (K.ofNat 12)) (.c (.i .i64 (.ofNat 1)))⟩, ⟨(some (K.ofNat 12)), none, .mv (.t (K.ofNat 32))⟩]
noncomputable def f69_l0 : EC := (.seq (.reg f69_r4) (.seq (.cond (.t (K.ofNat 13)) .skip (.exit 0)) (.seq (.block 1 (.seq (.reg f69_r5) (.seq (.seq (.reg f69_r6) (.cond (.t (K.ofNat 17)) (.exit 1) .skip)) (.seq (.reg f69_r7) (.seq (.reg f69_r8) (.reg f69_r9)))))) (.reg f69_r10))))
noncomputable def f69_r11 : List EOper := [⟨(some (K.ofNat 33)), none, .mv (.t (K.ofNat 7))⟩, ⟨(some (K.ofNat 34)), none, .call (.c (.fn (K.ofNat 86) [])) [(.t (K.ofNat 33))]⟩]
noncomputable def f69_r12 : List EOper := [⟨(some (K.ofNat 35)), none, .mv (.t (K.ofNat 7))⟩, ⟨(some (K.ofNat 6)), none, .as (.t (K.ofNat 35))⟩]
noncomputable def f69_c : EC := (.seq (.reg f69_r0) (.seq (.reg f69_r1) (.seq (.reg f69_r2) (.seq (.seq (.reg f69_r3) (.block 0 (.loop f69_l0))) (.seq (.reg f69_r11) (.seq (.reg f69_r12) .ret))))))
noncomputable def f69 : EF := ⟨36, [.tmp (K.ofNat 6)], f69_c, none⟩
theorem f69_rs : f69.rs = [.tmp (K.ofNat 6)] := of_eq_true (eq_self _)
theorem rnd_inv {n : Nat} {l : List (Int × Int)} (hr : rndB n l = true) : Inv (opF l) n := by
  have hm : ∀ x, 0 ≤ x ∧ x < (n : Int) → (x, opF l x) ∈ l ∨ (opF l x, x) ∈ l := fun x hx => op_mem (rnd_all hr hx)
  refine ⟨fun x hx => ?_, fun x hx => ?_, fun x hx e => ?_⟩
  · rcases hm x hx with h | h
    · exact (rnd_e hr _ h).2.1
    · exact (rnd_e hr _ h).1
  · exact op_of (rnd_nd hr) (Or.symm (hm x hx))
  · rcases hm x hx with h | h
    · exact (rnd_e hr _ h).2.2 e.symm
    · exact (rnd_e hr _ h).2.2 e
theorem msk_len {m : Nat} {L : List Int} (hm : Msk m L) (hn : L.Nodup) (hr : ∀ z ∈ L, 0 ≤ z ∧ z ≤ 15) : pcN m = L.length := by
  rw [pcN_bits]
  have h1 := nodup_le (l := ((List.range 16).filter fun t => m.testBit t).map fun (k : Nat) => (k : Int)) (m := L) (by
    rw [List.nodup_iff_pairwise_ne, List.pairwise_map]
    exact ((List.nodup_iff_pairwise_ne.1 List.nodup_range).filter _).imp fun h => by omega) fun z hz => by
    obtain ⟨k, hk, rfl⟩ := List.mem_map.1 hz
    obtain ⟨hk1, hk2⟩ := List.mem_filter.1 hk
    have hk1 : k < 16 := by simpa using hk1
    rw [hm.2 k (by omega)] at hk2
    exact of_decide_eq_true hk2
  have h2 := nodup_le (l := L) (m := ((List.range 16).filter fun t => m.testBit t).map fun (k : Nat) => (k : Int)) hn fun z hz => by
    obtain ⟨z1, z2⟩ := hr z hz
    refine List.mem_map.2 ⟨z.toNat, List.mem_filter.2 ⟨by simp; omega, ?_⟩, by omega⟩
    rw [hm.2 _ (by omega)]
    exact decide_eq_true (by rw [show ((z.toNat : Nat) : Int) = z by omega]; exact hz)
  simp at h1 h2
  omega
theorem msk_or {m m' : Nat} {L L' : List Int} (h : Msk m L) (h' : Msk m' L') : Msk (m ||| m') (L ++ L') := by
  refine ⟨?_, fun y hy => ?_⟩
  · have := Nat.or_lt_two_pow (x := m) (y := m') (n := 16) (by have := h.1; show m < 65536; omega) (by have := h'.1; show m' < 65536; omega)
    have e : 2 ^ 16 = 65536 := by decide
    omega
  · rw [Nat.testBit_or, h.2 y hy, h'.2 y hy, Bool.eq_iff_iff]
    simp
theorem bin_or16 {a b : Nat} (ha : a ≤ 65535) (hb : b ≤ 65535) : binV .or (.i .u16 (a : Int)) (.i .u16 (b : Int)) = some (.i .u16 ((a ||| b : Nat) : Int)) := by
  show some (V.i .u16 (bif Nat.ble a 65535 && Nat.ble b 65535 then Int.ofNat (a ||| b) else _)) = _
  rw [Nat.ble_eq_true_of_le ha, Nat.ble_eq_true_of_le hb]; rfl
structure CallsRg (fs : T EF) : Prop extends CallsAa fs, CallsSr fs where
  c58 : fs.get (K.ofNat 58) = some f58
  c74 : fs.get (K.ofNat 74) = some f74
  c85 : fs.get (K.ofNat 85) = some f85
  c86 : fs.get (K.ofNat 86) = some f86
  c92 : fs.get (K.ofNat 92) = some f92
section
variable {fs : T EF} {h : H} {va vb : V} {a b : List (Int × Int)} {n : Nat}
def f85_I (h : H) (va vb : V) (a b : List (Int × Int)) (n t : Nat) (k : Nat) (fr : Fr) (h1 : H) : Prop := ∃ (x : Nat) (L : List Int) (m : Nat), RingI (opF a) (opF b) n (t : Int) (x : Int) L ∧ n < 2 * k + L.length ∧ ringR (opF a) (opF b) k (x : Int) L = ringR (opF a) (opF b) n (t : Int) [] ∧ Msk m L ∧ Grow h.nx.nat h h1 ∧ fr.get (K.ofNat 1) = some (.bf (K.ofNat 58) [va] []) ∧ fr.get (K.ofNat 2) = some (.bf (K.ofNat 58) [vb] []) ∧ fr.get (K.ofNat 7) = some (.i .u16 (m : Int)) ∧ fr.get (K.ofNat 8) = some (.i .i64 (x : Int))
theorem f85_ret {t : Nat} (k : CallsRg fs) (hva : Srp h va a) (hvb : Srp h vb b) (hla : a.length ≤ 1000000) (hlb : b.length ≤ 1000000) (iA : Inv (opF a) n) (iB : Inv (opF b) n) (hn : n ≤ 16) (ht : t < n) (hc : HC h) : Ret fs f85 [.i .i64 (t : Int), .bf (K.ofNat 58) [va] [], .bf (K.ofNat 58) [vb] []] h fun r h' => (∃ m : Nat, r = .i .u16 (m : Int) ∧ Msk m (ringR (opF a) (opF b) n (t : Int) [])) ∧ Grow h.nx.nat h h' := by
  apply ret_of rfl
  show W fs none f85_c _ _ _
  unfold f85_c
  simp (disch := omega) only [f85_r0, f85_r1, f85_r2, w_reg, w_seq, w_block, seqK_n, x_nil, x_mv, x_as, ev_t, ev_c, getV_some, putD_some, frame_3, of0, getK_set, Nat.reduceEqDiff, ↓reduceIte]
  refine W_loop (f85_I h va vb a b n t) (fun k => k) ?_ n ⟨t, [], 0, RingI.init (by omega), by simp; omega, rfl, Msk.nil, Grow.refl _ _, by simp (disch := omega) only [getK_set, Nat.reduceEqDiff, ↓reduceIte, and_self, Int.natCast_zero]⟩
  rintro q fr h1 ⟨x, L, m, hI, hq, he, hm, hG, g1, g2, g7, g8⟩
  have hc1 := hG.hc hc
  have hx := hI.xr
  unfold f85_l0
  simp (disch := omega) only [f85_r3, w_reg, w_seq, x_mv, x_call, ev_t, ev_c, evs_nil, evs_cons, getV_some, putD_some, getK_set, Nat.reduceEqDiff, ↓reduceIte, g7, g8]
  refine (callP_0 (ef := f76) k.c76 rfl (f76_ret hm.1 (show x ≤ 15 by omega))).mono ?_
  rintro r h2 ⟨rfl, e2⟩
  rw [e2, hm.2 x (by omega)]
  clear e2 h2
  cases hd : decide ((x : Int) ∈ L) with
  | true =>
    have hxL : (x : Int) ∈ L := of_decide_eq_true hd
    have hL : ringR (opF a) (opF b) q (x : Int) L = L := by
      cases q with
      | zero => rfl
      | succ q => unfold ringR; rw [if_pos hxL]
    rw [hL] at he
    simp (disch := omega) only [f85_r6, f85_rs, w_reg, w_seq, w_cond, w_exit, w_ret, seqK_n, seqK_e, atK_e, loopK_e, ckB_b, cbB_b, true_and, retK_r, x_nil, x_mv, x_as, x_not, kx, rvP_ok, ev_t, getV_some, putD_some, onB_b, oGet_s, readRs_nil, readRs_t, retV_1, Option.some.injEq, exists_eq_left', getK_set, Nat.reduceEqDiff, ↓reduceIte, Bool.false_eq_true, Bool.not_true, g7, Bool.not_true]
    exact ⟨⟨m, rfl, by rw [← he]; exact hm⟩, hG⟩
  | false =>
    have hxL : (x : Int) ∉ L := of_decide_eq_false hd
    obtain ⟨q, rfl⟩ : ∃ q', q = q' + 1 := ⟨q - 1, by have := hI.lt iA iB hxL; omega⟩
    have hst := hI.step iA iB hxL
    have hxr := hI.xr
    have hyr := iA.rng _ hI.xr
    have hzr := iB.rng _ hyr
    have he : ringR (opF a) (opF b) q (opF b (opF a (x : Int))) (L ++ [(x : Int), opF a (x : Int)]) = ringR (opF a) (opF b) n (t : Int) [] := by
      rw [← he]
      show _ = if (x : Int) ∈ L then L else _
      rw [if_neg hxL]
    simp (disch := omega) only [f85_r4, w_skip, w_reg, w_seq, w_cond, w_block, seqK_n, ckB_b, cbB_b, true_and, x_nil, x_mv, x_not, x_call, kx, rvP_ok, ev_t, ev_c, evs_nil, evs_cons, getV_some, putD_some, onB_b, getK_set, Nat.reduceEqDiff, ↓reduceIte, Bool.not_false, g7, g8, Bool.not_false]
    refine (callP_0 (ef := f83) k.c83 rfl (f83_ret hm.1 (show x ≤ 15 by omega))).mono ?_
    rintro r h2 ⟨rfl, e2⟩
    rw [e2]
    clear e2 h2
    have hm1 := hm.snoc (x := x) (by omega)
    simp (disch := omega) only [x_mv, x_call, kx, ev_t, evs_nil, evs_cons, getV_some, putD_some, getK_set, Nat.reduceEqDiff, ↓reduceIte, g1, g8]
    refine (callP_m (ef := f58) k.c58 rfl (f58_ret (t := (x : Int)) (hva.grow hc hG) hla hc1)).mono ?_
    rintro r h2 ⟨rfl, hG2⟩
    have hGa := hG.trans (hG2.low hG.nx)
    have hc2 := hG2.hc hc1
    obtain ⟨y, hy⟩ : ∃ y : Nat, opF a (x : Int) = (y : Int) := ⟨(opF a (x : Int)).toNat, by omega⟩
    rw [hy] at hst hyr hzr he ⊢
    simp (disch := omega) only [x_call, kx, ev_t, ev_c, evs_nil, evs_cons, getV_some, putD_some, getK_set, Nat.reduceEqDiff, ↓reduceIte]
    refine (callP_0 (ef := f83) k.c83 rfl (f83_ret hm1.1 (show y ≤ 15 by omega))).mono ?_
    rintro r h3 ⟨rfl, e3⟩
    rw [e3]
    clear e3 h3
    have hm2 := hm1.snoc (x := y) (by omega)
    rw [List.append_assoc] at hm2
    simp (disch := omega) only [f85_r5, w_reg, seqK_n, atK_n, x_nil, x_mv, x_as, x_call, kx, ev_t, evs_nil, evs_cons, getV_some, putD_some, getK_set, Nat.reduceEqDiff, ↓reduceIte, g1, g2, g8]
    refine (callP_m (ef := f58) k.c58 rfl (f58_ret (t := (x : Int)) (hva.grow hc hGa) hla hc2)).mono ?_
    rintro r h3 ⟨rfl, hG3⟩
    have hGb := hGa.trans (hG3.low hGa.nx)
    have hc3 := hG3.hc hc2
    rw [hy]
    simp (disch := omega) only [x_call, kx, ev_t, evs_nil, evs_cons, getV_some, putD_some, getK_set, Nat.reduceEqDiff, ↓reduceIte]
    refine (callP_m (ef := f58) k.c58 rfl (f58_ret (t := (y : Int)) (hvb.grow hc hGb) hlb hc3)).mono ?_
    rintro r h4 ⟨rfl, hG4⟩
    have hGc := hGb.trans (hG4.low hGb.nx)
    obtain ⟨z, hz⟩ : ∃ z : Nat, opF b (y : Int) = (z : Int) := ⟨(opF b (y : Int)).toNat, by omega⟩
    rw [hz] at hst he ⊢
    simp (disch := omega) only [loopK_n, x_nil, x_as, kx, ev_t, getV_some, putD_some, getK_set, ↓reduceIte]
    exact ⟨q, by omega, z, _, _, hst, by simp; omega, he, hm2, hGc, by simp (disch := omega) only [getK_set, Nat.reduceEqDiff, ↓reduceIte, g1, g2, and_self]⟩
def f69_I (h : H) (va vb : V) (a b : List (Int × Int)) (n : Nat) (t : Nat) (fr : Fr) (h1 : H) : Prop := t ≤ n ∧ ∃ m w, Msk m (rgs (opF a) (opF b) n t).1 ∧ Sl iE h1 w (rgs (opF a) (opF b) n t).2 ∧ Own h.nx.nat w ∧ Grow h.nx.nat h h1 ∧ fr.get (K.ofNat 1) = some (va) ∧ fr.get (K.ofNat 2) = some (vb) ∧ fr.get (K.ofNat 7) = some (w) ∧ fr.get (K.ofNat 8) = some (.i .u16 (m : Int)) ∧ fr.get (K.ofNat 11) = some (.i .i64 (n : Int)) ∧ fr.get (K.ofNat 12) = some (.i .i64 (t : Int))
/-- The rings, rising. -/
def rgL (a b : List (Int × Int)) (n : Nat) : List Int := srtL (rgs (opF a) (opF b) n n).2
theorem f69_ret (k : CallsRg fs) (hva : Srp h va a) (hvb : Srp h vb b) (hla : a.length ≤ 1000000) (hlb : b.length ≤ 1000000) (hra : rndB n a = true) (hrb : rndB n b = true) (hn : n ≤ 12) (hn1 : 1 ≤ n) (hc : HC h) : Ret fs f69 [.i .i64 (n : Int), va, vb] h fun r h' => Sl iE h' r (rgL a b n) ∧ Own h.nx.nat r ∧ Grow h.nx.nat h h' := by
  have iA := rnd_inv hra
  have iB := rnd_inv hrb
  apply ret_of rfl
  show W fs none f69_c _ _ _
  unfold f69_c
  simp (disch := omega) only [f69_r0, f69_r1, f69_r2, f69_r3, w_reg, w_seq, w_block, seqK_n, x_nil, x_mv, x_as, ev_t, ev_c, getV_some, putD_some, frame_3, of0, getK_set, Nat.reduceEqDiff, ↓reduceIte]
  refine W_loop (f69_I h va vb a b n) (fun t => n - t) ?_ 0 ⟨by omega, 0, .sn, Msk.nil, Sl.nil, Own.sn, Grow.refl _ _, by simp (disch := omega) only [getK_set, Nat.reduceEqDiff, ↓reduceIte, and_self, Int.natCast_zero]⟩
  rintro t fr h1 ⟨ht, m, w, hm, hw, how, hG, g1, g2, g7, g8, g11, g12⟩
  have hc1 := hG.hc hc
  have hR := rgs_I iA iB hn1 ht
  unfold f69_l0
  by_cases hlt : t < n
  · have d0 : decide ((t : Int) < (n : Int)) = true := by simpa using hlt
    simp (disch := omega) only [f69_r4, f69_r5, f69_r6, w_skip, w_reg, w_seq, w_cond, w_block, seqK_n, ckB_b, cbB_b, true_and, x_nil, x_mv, x_as, x_bin, x_call, kx, rvP_ok, okv_some, ev_t, ev_c, evs_nil, evs_cons, getV_some, putD_some, bin_lss, getK_set, Nat.reduceEqDiff, ↓reduceIte, g8, g11, g12, d0]
    refine (callP_0 (ef := f76) k.c76 rfl (f76_ret hm.1 (show t ≤ 15 by omega))).mono ?_
    rintro r h2 ⟨rfl, e2⟩
    rw [e2, hm.2 t (by omega)]
    clear e2 h2
    cases hd : decide ((t : Int) ∈ (rgs (opF a) (opF b) n t).1) with
    | true =>
      have hrs : rgs (opF a) (opF b) n (t + 1) = rgs (opF a) (opF b) n t := by
        show (if _ then _ else _) = _
        rw [if_pos (of_decide_eq_true hd)]
      simp (disch := omega) only [f69_r10, w_reg, w_cond, w_exit, seqK_n, seqK_e, atK_e, loopK_n, ckB_b, cbB_b, true_and, x_nil, x_mv, x_bin, kx, rvP_ok, okv_some, ev_t, ev_c, getV_some, putD_some, bin_add, of1, getK_set, Nat.reduceEqDiff, ↓reduceIte, g12, fw64]
      exact ⟨t + 1, by omega, by omega, m, w, by rw [hrs]; exact hm, by rw [hrs]; exact hw, how, hG, by simp (disch := omega) only [getK_set, Nat.reduceEqDiff, ↓reduceIte, g1, g2, g7, g8, g11, and_self, Int.natCast_add, Int.natCast_one]⟩
    | false =>
      have hrs : rgs (opF a) (opF b) n (t + 1) = ((rgs (opF a) (opF b) n t).1 ++ ringR (opF a) (opF b) n (t : Int) [], (rgs (opF a) (opF b) n t).2 ++ [((ringR (opF a) (opF b) n (t : Int) []).length : Int)]) := by
        show (if _ then _ else _) = _
        rw [if_neg (of_decide_eq_false hd)]
      have hE := ring_E iA iB (RingI.init (A := opF a) (B := opF b) (n := n) (t := (t : Int)) (by omega)) (k := n) (by simp; omega)
      simp (disch := omega) only [f69_r7, w_skip, w_reg, w_seq, w_cond, seqK_n, ckB_b, cbB_b, true_and, x_nil, x_mv, x_call, kx, ev_t, ev_c, evs_nil, evs_cons, getV_some, putD_some, getK_set, Nat.reduceEqDiff, ↓reduceIte, Bool.false_eq_true, x_mkbf, g1, g2]
      refine (callP_0 (ef := f85) k.c85 rfl (f85_ret (t := t) k (hva.grow hc hG) (hvb.grow hc hG) hla hlb iA iB (by omega) hlt hc1)).mono ?_
      rintro r h2 ⟨⟨m2, rfl, hm2⟩, hG2⟩
      have hc2 := hG2.hc hc1
      have hGa := hG.trans (hG2.low hG.nx)
      have hor := bin_or16 hm.1 hm2.1
      have hpc := msk_len hm2 hE.nd fun z hz => by have := hE.rng z hz; omega
      obtain ⟨w', h3, a1, s1, o1, gr1, _⟩ := Sl.push (e := iE) (x := ((ringR (opF a) (opF b) n (t : Int) []).length : Int)) (c := .i .i64 ((ringR (opF a) (opF b) n (t : Int) []).length : Int)) rfl (hw.grow hc1 hG2) how hGa.nx hc2 (by have := hR.few; omega)
      simp (disch := omega) only [f69_r8, f69_r9, w_reg, w_seq, seqK_n, x_nil, x_mv, x_as, x_bin, x_call, kx, rvP_ok, okv_some, ev_t, ev_c, evs_nil, evs_cons, getV_some, putD_some, of0, getK_set, Nat.reduceEqDiff, ↓reduceIte, g7, g8, hor]
      refine (callP_0 (ef := f74) k.c74 rfl (f74_ret k.c92 hm2.1)).mono ?_
      rintro r h4 ⟨rfl, e4⟩
      rw [e4, hpc]
      clear e4 h4
      simp (disch := omega) only [f69_r10, w_reg, seqK_n, atK_n, loopK_n, x_nil, x_mv, x_as, x_bslice, x_bin, x_app, kx, rvP_ok, okv_some, ev_t, ev_c, getV_some, putD_some, bin_add, oGet_s, cells1_i, fill_1, set_1, of1, getK_set, Nat.reduceEqDiff, ↓reduceIte, g12, fill_1, set_1, a1, fw64]
      exact ⟨t + 1, by omega, by omega, _, w', by rw [hrs]; exact msk_or hm hm2, by rw [hrs]; exact s1, o1, hGa.trans gr1, by simp (disch := omega) only [getK_set, Nat.reduceEqDiff, ↓reduceIte, g1, g2, g11, and_self, Int.natCast_add, Int.natCast_one]⟩
  · have d0 : decide ((t : Int) < (n : Int)) = false := by simpa using hlt
    have et : t = n := by omega
    subst et
    have hne : 1 ≤ (rgs (opF a) (opF b) t t).2.length := by
      rcases Nat.eq_zero_or_pos (rgs (opF a) (opF b) t t).2.length with h0 | h0
      · have h1 := List.length_eq_zero_iff.1 h0
        have h2 := hR.sum
        have h3 := List.length_pos_of_mem (hR.all 0 (by omega))
        rw [h1] at h2
        have : smI [] = 0 := rfl
        omega
      · exact h0
    simp (disch := omega) only [f69_r4, f69_r11, w_reg, w_seq, w_cond, w_exit, seqK_n, seqK_e, atK_e, loopK_e, ckB_b, cbB_b, true_and, x_nil, x_mv, x_bin, x_call, kx, rvP_ok, okv_some, ev_t, ev_c, evs_nil, evs_cons, getV_some, putD_some, bin_lss, getK_set, Nat.reduceEqDiff, ↓reduceIte, Bool.false_eq_true, g7, g11, g12, d0]
    refine (callP_0 (ef := f86) k.c86 rfl (sort_ret k.toCallsSr hw (by have := hR.few; omega) hne hc1)).mono ?_
    rintro r h2 ⟨rfl, hs, hO⟩
    simp (disch := omega) only [f69_r12, f69_rs, w_reg, w_seq, w_ret, seqK_n, retK_r, x_nil, x_mv, x_as, kx, ev_t, getV_some, putD_some, oGet_s, readRs_nil, readRs_t, retV_1, Option.some.injEq, exists_eq_left', getK_set, Nat.reduceEqDiff, ↓reduceIte, g7]
    exact ⟨hs, how, hG.trans (hO.grow how (hw.lt hc1))⟩
end
end Go.Ev
namespace Go.Ev
open Go Go.RowKit
section
variable {fs : T EF} {h : H} {va vb : V} {a b : List (Int × Int)} {n : Nat}
end
end Go.Ev
namespace Go.Ev
open Go Go.RowKit
section
variable {A B : Int → Int} {n : Nat}
theorem rgs_1 (hn : 1 ≤ n) {t : Nat} : ∃ M S, rgs A B n (t + 1) = (ringR A B n 0 [] ++ M, ((ringR A B n 0 []).length : Int) :: S) ∧ (S = [] ↔ M = []) := by
  induction t with
  | zero =>
    refine ⟨[], [], ?_, by simp⟩
    show (if (0 : Int) ∈ ([] : List Int) then _ else _) = _
    rw [if_neg (by simp)]
    simp [rgs]
  | succ t ih =>
    obtain ⟨M, S, e, hS⟩ := ih
    show ∃ M S, (if ((t + 1 : Nat) : Int) ∈ (rgs A B n (t + 1)).1 then rgs A B n (t + 1) else _) = _ ∧ _
    split
    · exact ⟨M, S, e, hS⟩
    · rename_i hm
      refine ⟨M ++ ringR A B n ((t + 1 : Nat) : Int) [], S ++ [((ringR A B n ((t + 1 : Nat) : Int) []).length : Int)], by rw [e]; simp, ?_⟩
      constructor
      · intro h; simp at h
      · intro h
        exfalso
        have h2 := (List.append_eq_nil_iff.1 h).2
        cases n with
        | zero => omega
        | succ n =>
          unfold ringR at h2
          rw [if_neg (by simp)] at h2
          have key : ∀ {k : Nat} {x : Int} {L : List Int}, L ≠ [] → ringR A B k x L ≠ [] := by
            intro k
            induction k with
            | zero => exact fun h => h
            | succ k ih =>
              intro x L hL
              unfold ringR
              split
              · exact hL
              · exact ih (by simp)
          exact key (by simp) h2
theorem rg_one (iA : Inv A n) (iB : Inv B n) (hn : 1 ≤ n) : (rgs A B n n).2.length = 1 ↔ (ringR A B n 0 []).length = n := by
  obtain ⟨m, rfl⟩ : ∃ m, n = m + 1 := ⟨n - 1, by omega⟩
  have hR := rgs_I iA iB hn (Nat.le_refl _)
  obtain ⟨M, S, e, hS⟩ := rgs_1 (A := A) (B := B) hn (t := m)
  have hl := all_len hR.nd hR.rng hR.all
  rw [e] at hl ⊢
  simp only [List.length_append, List.length_cons] at hl ⊢
  constructor
  · intro h
    have hM := hS.1 (List.length_eq_zero_iff.1 (by omega))
    rw [hM] at hl
    simpa using hl
  · intro h
    have hM : M = [] := List.length_eq_zero_iff.1 (by omega)
    rw [hS.2 hM]; rfl
theorem rgs_ne (iA : Inv A n) (iB : Inv B n) (hn : 1 ≤ n) : 1 ≤ (rgs A B n n).2.length := by
  obtain ⟨m, rfl⟩ : ∃ m, n = m + 1 := ⟨n - 1, by omega⟩
  obtain ⟨M, S, e, hS⟩ := rgs_1 (A := A) (B := B) hn (t := m)
  rw [e]; simp
theorem ring_comm (iA : Inv A n) (iB : Inv B n) (hn : 1 ≤ n) : (ringR A B n 0 []).length = (ringR B A n 0 []).length := by
  have e1 := ring_E iA iB (RingI.init (A := A) (B := B) (n := n) (t := 0) (by omega)) (k := n) (by simp; omega)
  have e2 := ring_E iB iA (RingI.init (A := B) (B := A) (n := n) (t := 0) (by omega)) (k := n) (by simp; omega)
  have h1 := nodup_le e1.nd (ring_min (A := A) (B := B) (k := n) (x := 0) (L := []) e2.clB e2.clA e2.mem (by simp))
  have h2 := nodup_le e2.nd (ring_min (A := B) (B := A) (k := n) (x := 0) (L := []) e1.clB e1.clA e1.mem (by simp))
  omega
theorem rg_comm {a b : List (Int × Int)} (hra : rndB n a = true) (hrb : rndB n b = true) (hn : 1 ≤ n) : decide (((rgL a b n).length : Int) > 1) = decide (((rgL b a n).length : Int) ≠ 1) := by
  have iA := rnd_inv hra
  have iB := rnd_inv hrb
  have h1 := rg_one iA iB hn
  have h2 := rg_one iB iA hn
  have h3 := rgs_ne iA iB hn
  have h4 := rgs_ne iB iA hn
  rw [ring_comm iA iB hn] at h1
  unfold rgL
  rw [srtL_len, srtL_len, Bool.eq_iff_iff, decide_eq_true_iff, decide_eq_true_iff]
  omega
end
end Go.Ev
namespace Go.Ev
open Go Go.RowKit
noncomputable def f56_r0 : List EOper := [⟨(some (K.ofNat 4)), none, .as (.c (.b false))⟩]
noncomputable def f56_r1 : List EOper := [⟨(some (K.ofNat 9)), none, .mv (.t (K.ofNat 0))⟩, ⟨(some (K.ofNat 10)), none, .len (.t (K.ofNat 9))⟩, ⟨(some (K.ofNat 11)), none, .mv (.c (.i .i64 (.ofNat 0)))⟩]
noncomputable def f56_r2 : List EOper := [⟨(some (K.ofNat 12)), none, .bin .lss (.t (K.ofNat 11)) (.t (K.ofNat 10))⟩]
noncomputable def f56_r3 : List EOper := [⟨(some (K.ofNat 13)), none, .mv (.t (K.ofNat 11))⟩, ⟨(some (K.ofNat 14)), none, .iads 1 (.t (K.ofNat 9)) (.t (K.ofNat 11))⟩, ⟨(some (K.ofNat 15)), none, .ld (.t (K.ofNat 14))⟩, ⟨(some (K.ofNat 5)), none, .as (.t (K.ofNat 13))⟩, ⟨(some (K.ofNat 6)), none, .as (.t (K.ofNat 15))⟩]
noncomputable def f56_r4 : List EOper := [⟨(some (K.ofNat 16)), none, .mv (.t (K.ofNat 0))⟩, ⟨(some (K.ofNat 17)), none, .mv (.t (K.ofNat 5))⟩, ⟨(some (K.ofNat 18)), none, .slice 1 (.t (K.ofNat 16)) none (some (.t (K.ofNat 17))) none⟩, ⟨(some (K.ofNat 19)), none, .len (.t (K.ofNat 18))⟩, ⟨(some (K.ofNat 20)), none, .mv (.c (.i .i64 (.ofNat 0)))⟩]
noncomputable def f56_r5 : List EOper := [⟨(some (K.ofNat 21)), none, .bin .lss (.t (K.ofNat 20)) (.t (K.ofNat 19))⟩]
noncomputable def f56_r6 : List EOper := [⟨(some (K.ofNat 22)), none, .iads 1 (.t (K.ofNat 18)) (.t (K.ofNat 20))⟩, ⟨(some (K.ofNat 23)), none, .ld (.t (K.ofNat 22))⟩, ⟨(some (K.ofNat 8)), none, .as (.t (K.ofNat 23))⟩]
noncomputable def f56_r7 : List EOper := [⟨(some (K.ofNat 24)), none, .mv (.t (K.ofNat 1))⟩, ⟨(some (K.ofNat 25)), none, .mv (.t (K.ofNat 8))⟩, ⟨(some (K.ofNat 26)), none, .mv (.t (K.ofNat 6))⟩, ⟨(some (K.ofNat 27)), none, .call (.c (.fn (K.ofNat 69) [])) [(.t (K.ofNat 24)), (.t (K.ofNat 25)), (.t (K.ofNat 26))]⟩, ⟨(some (K.ofNat 28)), none, .len (.t (K.ofNat 27))⟩, ⟨(some (K.ofNat 29)), none, .bin .gtr (.t (K.ofNat 28)) (.c (.i .i64 (.ofNat 1)))⟩]
noncomputable def f56_r8 : List EOper := [⟨(some (K.ofNat 4)), none, .as (.c (.b false))⟩]
noncomputable def f56_r9 : List EOper := [⟨(some (K.ofNat 30)), none, .bin .add (.t (K.ofNat 20)) (.c (.i .i64 (.ofNat 1)))⟩, ⟨(some (K.ofNat 20)), none, .mv (.t (K.ofNat 30))⟩]
noncomputable def f56_l0 : EC := (.seq (.reg f56_r5) (.seq (.cond (.t (K.ofNat 21)) .skip (.exit 2)) (.seq (.block 3 (.seq (.reg f56_r6) (.seq (.reg f56_r7) (.cond (.t (K.ofNat 29)) (.seq (.reg f56_r8) .ret) .skip)))) (.reg f56_r9))))
noncomputable def f56_r10 : List EOper := [⟨(some (K.ofNat 31)), none, .bin .add (.t (K.ofNat 11)) (.c (.i .i64 (.ofNat 1)))⟩, ⟨(some (K.ofNat 11)), none, .mv (.t (K.ofNat 31))⟩]
noncomputable def f56_l1 : EC := (.seq (.reg f56_r2) (.seq (.cond (.t (K.ofNat 12)) .skip (.exit 0)) (.seq (.block 1 (.seq (.reg f56_r3) (.seq (.reg f56_r4) (.block 2 (.loop f56_l0))))) (.reg f56_r10))))
noncomputable def f56_r11 : List EOper := [⟨(some (K.ofNat 4)), none, .as (.c (.b true))⟩]
noncomputable def f56_c : EC := (.seq (.reg f56_r0) (.seq (.seq (.reg f56_r1) (.block 0 (.loop f56_l1))) (.seq (.reg f56_r11) .ret)))
noncomputable def f56 : EF := ⟨32, [.tmp (K.ofNat 4)], f56_c, none⟩
theorem f56_rs : f56.rs = [.tmp (K.ofNat 4)] := of_eq_true (eq_self _)
noncomputable def f20_r0 : List EOper := [⟨(some (K.ofNat 4)), none, .as (.c (.b false))⟩, ⟨(some (K.ofNat 5)), none, .as (.c (.i .i64 (.ofNat 0)))⟩]
noncomputable def f20_r1 : List EOper := [⟨(some (K.ofNat 9)), none, .mv (.t (K.ofNat 0))⟩, ⟨(some (K.ofNat 10)), none, .mv (.t (K.ofNat 1))⟩, ⟨(some (K.ofNat 11)), none, .call (.c (.fn (K.ofNat 51) [])) [(.t (K.ofNat 9)), (.t (K.ofNat 10))]⟩, ⟨(some (K.ofNat 8)), none, .mv (.t (K.ofNat 11))⟩, ⟨(some (K.ofNat 12)), none, .ext (.t (K.ofNat 8)) 0⟩, ⟨(some (K.ofNat 13)), none, .ext (.t (K.ofNat 8)) 1⟩, ⟨(some (K.ofNat 6)), none, .as (.t (K.ofNat 12))⟩, ⟨(some (K.ofNat 7)), none, .as (.t (K.ofNat 13))⟩]
noncomputable def f20_r2 : List EOper := [⟨(some (K.ofNat 14)), none, .mv (.t (K.ofNat 7))⟩, ⟨(some (K.ofNat 15)), none, .bin .neq (.t (K.ofNat 14)) (.c (.i .i64 (.ofNat 0)))⟩]
noncomputable def f20_r3 : List EOper := [⟨(some (K.ofNat 16)), none, .mv (.t (K.ofNat 7))⟩, ⟨(some (K.ofNat 4)), none, .as (.c (.b false))⟩, ⟨(some (K.ofNat 5)), none, .as (.t (K.ofNat 16))⟩]
noncomputable def f20_r4 : List EOper := [⟨(some (K.ofNat 17)), none, .mv (.t (K.ofNat 6))⟩, ⟨(some (K.ofNat 18)), none, .mv (.t (K.ofNat 0))⟩, ⟨(some (K.ofNat 19)), none, .call (.c (.fn (K.ofNat 56) [])) [(.t (K.ofNat 17)), (.t (K.ofNat 18))]⟩, ⟨(some (K.ofNat 4)), none, .as (.t (K.ofNat 19))⟩, ⟨(some (K.ofNat 5)), none, .as (.c (.i .i64 (.ofNat 0)))⟩]
noncomputable def f20_c : EC := (.seq (.reg f20_r0) (.seq (.reg f20_r1) (.seq (.seq (.reg f20_r2) (.cond (.t (K.ofNat 15)) (.seq (.reg f20_r3) .ret) .skip)) (.seq (.reg f20_r4) .ret))))
noncomputable def f20 : EF := ⟨20, [.tmp (K.ofNat 4), .tmp (K.ofNat 5)], f20_c, none⟩
theorem f20_rs : f20.rs = [.tmp (K.ofNat 4), .tmp (K.ofNat 5)] := of_eq_true (eq_self _)
/-- Do the rounds before i make one ring with it, up to k? -/
def prR (n : Nat) (Ls : List (List (Int × Int))) (i k : Nat) : Bool := (List.range k).all fun k => !decide (((rgL (Ls.getD i []) (Ls.getD k []) n).length : Int) ≠ 1)
def prS (n : Nat) (Ls : List (List (Int × Int))) (i : Nat) : Bool := (List.range i).all fun i => prR n Ls i i
theorem prR_succ {n : Nat} {Ls : List (List (Int × Int))} {i k : Nat} : prR n Ls i (k + 1) = (prR n Ls i k && !decide (((rgL (Ls.getD i []) (Ls.getD k []) n).length : Int) ≠ 1)) := by
  unfold prR; rw [List.range_succ, List.all_append]; simp
theorem prS_succ {n : Nat} {Ls : List (List (Int × Int))} {i : Nat} : prS n Ls (i + 1) = (prS n Ls i && prR n Ls i i) := by
  unfold prS; rw [List.range_succ, List.all_append]; simp
theorem prR_le {n : Nat} {Ls : List (List (Int × Int))} {i k m : Nat} (h : k ≤ m) (hf : prR n Ls i k = false) : prR n Ls i m = false := by
  rw [Bool.eq_false_iff] at hf ⊢
  intro hm; apply hf
  unfold prR at hm ⊢
  rw [List.all_eq_true] at hm ⊢
  exact fun x hx => hm x (by simp at hx ⊢; omega)
theorem prS_le {n : Nat} {Ls : List (List (Int × Int))} {k m : Nat} (h : k ≤ m) (hf : prS n Ls k = false) : prS n Ls m = false := by
  rw [Bool.eq_false_iff] at hf ⊢
  intro hm; apply hf
  unfold prS at hm ⊢
  rw [List.all_eq_true] at hm ⊢
  exact fun x hx => hm x (by simp at hx ⊢; omega)
section
variable {fs : T EF} {h : H} {v : V} {us : List V} {Ls : List (List (Int × Int))} {n : Nat}
structure CallsPf (fs : T EF) : Prop extends CallsRg fs where
  c69 : fs.get (K.ofNat 69) = some f69
def f56_I (h : H) (v : V) (Ls : List (List (Int × Int))) (n : Nat) (i : Nat) (fr : Fr) (h1 : H) : Prop := i ≤ Ls.length ∧ Grow h.nx.nat h h1 ∧ prS n Ls i = true ∧ fr.get (K.ofNat 0) = some (v) ∧ fr.get (K.ofNat 1) = some (.i .i64 (n : Int)) ∧ fr.get (K.ofNat 9) = some (v) ∧ fr.get (K.ofNat 10) = some (.i .i64 (Ls.length : Int)) ∧ fr.get (K.ofNat 11) = some (.i .i64 (i : Int))
def f56_J (h : H) (v u w : V) (Ls : List (List (Int × Int))) (n : Nat) (i k : Nat) (fr : Fr) (h1 : H) : Prop := k ≤ i ∧ Grow h.nx.nat h h1 ∧ prR n Ls i k = true ∧ fr.get (K.ofNat 0) = some (v) ∧ fr.get (K.ofNat 1) = some (.i .i64 (n : Int)) ∧ fr.get (K.ofNat 6) = some (u) ∧ fr.get (K.ofNat 9) = some (v) ∧ fr.get (K.ofNat 10) = some (.i .i64 (Ls.length : Int)) ∧ fr.get (K.ofNat 11) = some (.i .i64 (i : Int)) ∧ fr.get (K.ofNat 18) = some (w) ∧ fr.get (K.ofNat 19) = some (.i .i64 (i : Int)) ∧ fr.get (K.ofNat 20) = some (.i .i64 (k : Int))
theorem f56_ret (kk : CallsPf fs) (hv : Nrp h v us Ls) (hvd : Vld n Ls) (hl : Ls.length ≤ 100) (hl2 : ∀ l ∈ Ls, l.length ≤ 100) (hn : n ≤ 12) (hn1 : 1 ≤ n) (hc : HC h) : Ret fs f56 [v, .i .i64 (n : Int)] h fun r h' => r = .b (prS n Ls Ls.length) ∧ Grow h.nx.nat h h' := by
  have hlen : ∀ h1, lenV v h1 = .ok (.i .i64 (Ls.length : Int)) h1 := fun h1 => by rw [hv.out.len, hv.len]
  apply ret_of rfl
  show W fs none f56_c _ _ _
  unfold f56_c
  simp (disch := omega) only [f56_r0, f56_r1, w_reg, w_seq, w_block, seqK_n, x_nil, x_mv, x_as, x_len, kx, rvP_ok, ev_t, ev_c, getV_some, putD_some, frame_2, of0, getK_set, Nat.reduceEqDiff, ↓reduceIte, hlen]
  refine W_loop (f56_I h v Ls n) (fun i => Ls.length - i) ?_ 0 ⟨by omega, Grow.refl _ _, rfl, by simp (disch := omega) only [getK_set, Nat.reduceEqDiff, ↓reduceIte, and_self, Int.natCast_zero]⟩
  rintro i fr h1 ⟨hi, hG, hP, g0, g1, g9, g10, g11⟩
  have hc1 := hG.hc hc
  have hv1 := hv.grow hc hG
  unfold f56_l1
  by_cases hlt : i < Ls.length
  · have d0 : decide ((i : Int) < (Ls.length : Int)) = true := by simpa using hlt
    have hps := prS_succ (n := n) (Ls := Ls) (i := i)
    rw [hP, Bool.true_and] at hps
    have hiu : i < us.length := by rw [hv.len]; exact hlt
    obtain ⟨p, p1, p2⟩ := hv1.out.at i hiu
    have p2 : loadV h1 p one? = .ok us[i] h1 := p2
    obtain ⟨w, cw, sw, _⟩ := hv.out.cut (lo := none) (hi := some (.i .i64 (i : Int))) (l := 0) (u := i) bnd_none bnd_i (by omega) (by omega)
    rw [List.drop_zero] at sw
    have hwl := sw.len
    rw [List.length_take, Nat.min_eq_left (by omega)] at hwl
    have hui := hv.inn i hiu hlt
    have r1 := hvd.rnd _ (List.getElem_mem hlt)
    have la := hl2 _ (List.getElem_mem hlt)
    generalize us[i] = ua at *
    simp (disch := omega) only [f56_r2, f56_r3, f56_r4, w_skip, w_reg, w_seq, w_cond, w_block, seqK_n, ckB_b, cbB_b, true_and, x_nil, x_mv, x_as, x_ld, x_bin, x_slice, sliceV_eq, Option.map_none, Option.map_some, x_iads, x_len, kx, rvP_ok, okv_some, ev_t, ev_c, getV_some, putD_some, bin_lss, of0, getK_set, Nat.reduceEqDiff, ↓reduceIte, g0, g9, g10, g11, d0, p1, p2, cw, hwl]
    refine W_loop (f56_J h v ua w Ls n i) (fun k => i - k) ?_ 0 ⟨by omega, hG, rfl, by simp (disch := omega) only [getK_set, Nat.reduceEqDiff, ↓reduceIte, g0, g1, g9, g10, g11, and_self, Int.natCast_zero]⟩
    have hG1 := hG
    clear g0 g1 g9 g10 g11 fr hG p1 p2 cw
    rintro k fr h2 ⟨hk, hG, hR, g0, g1, g6, g9, g10, g11, g18, g19, g20⟩
    have hc2 := hG.hc hc
    have hv2 := hv.grow hc hG
    unfold f56_l0
    by_cases hlt2 : k < i
    · have d1 : decide ((k : Int) < (i : Int)) = true := by simpa using hlt2
      have hkl : k < Ls.length := by omega
      have hku : k < us.length := by rw [hv.len]; exact hkl
      have r2 := hvd.rnd _ (List.getElem_mem hkl)
      have lb := hl2 _ (List.getElem_mem hkl)
      obtain ⟨q, q1, q2⟩ := (sw.grow hc hG).at k (by simp; omega)
      have q2 : loadV h2 q one? = .ok us[k] h2 := by
        rw [List.getElem_take] at q2; exact q2
      have hub := hv2.inn k hku hkl
      have hua := hui.grow hc hG
      have hrs := prR_succ (n := n) (Ls := Ls) (i := i) (k := k)
      rw [hR, Bool.true_and, getD_at hlt, getD_at hkl, ← rg_comm r2 r1 hn1] at hrs
      generalize us[k] = ub at *
      generalize Ls[i] = a at *
      generalize Ls[k] = b at *
      simp (disch := omega) only [f56_r5, f56_r6, f56_r7, w_skip, w_reg, w_seq, w_cond, w_block, seqK_n, ckB_b, cbB_b, true_and, x_nil, x_mv, x_as, x_ld, x_bin, x_iads, x_call, kx, rvP_ok, okv_some, ev_t, ev_c, evs_nil, evs_cons, getV_some, putD_some, bin_lss, of1, getK_set, Nat.reduceEqDiff, ↓reduceIte, g1, g6, g18, g19, g20, d1, q1, q2]
      refine (callP_0 (ef := f69) kk.c69 rfl (f69_ret kk.toCallsRg hub hua (by omega) (by omega) r2 r1 hn hn1 hc2)).mono ?_
      rintro r h3 ⟨hr, _, hG3⟩
      have hGa := hG.trans (hG3.low hG.nx)
      have hrl := hr.len
      cases hd : decide (((rgL b a n).length : Int) > 1) with
      | true =>
        rw [hd] at hrs
        have hf := prS_le (m := Ls.length) (show i + 1 ≤ Ls.length by omega) (by rw [hps]; exact prR_le (show k + 1 ≤ i by omega) hrs)
        simp (disch := omega) only [f56_r8, f56_rs, w_reg, w_seq, w_cond, w_ret, seqK_n, seqK_r, atK_r, loopK_r, ckB_b, cbB_b, true_and, retK_r, x_nil, x_as, x_bin, x_len, kx, rvP_ok, okv_some, ev_t, ev_c, getV_some, putD_some, bin_gtr, oGet_s, readRs_nil, readRs_t, retV_1, Option.some.injEq, exists_eq_left', getK_set, ↓reduceIte, hrl, hd, hf, true_and]
        exact hGa
      | false =>
        rw [hd] at hrs
        simp (disch := omega) only [f56_r9, w_skip, w_reg, w_cond, seqK_n, atK_n, loopK_n, ckB_b, cbB_b, true_and, x_nil, x_mv, x_bin, x_len, kx, rvP_ok, okv_some, ev_t, ev_c, getV_some, putD_some, bin_add, bin_gtr, of1, getK_set, Nat.reduceEqDiff, ↓reduceIte, Bool.false_eq_true, g20, hrl, hd, fw64]
        exact ⟨k + 1, by omega, by omega, hGa, hrs, by simp (disch := omega) only [getK_set, Nat.reduceEqDiff, ↓reduceIte, g0, g1, g6, g9, g10, g11, g18, g19, and_self, Int.natCast_add, Int.natCast_one]⟩
    · have d1 : decide ((k : Int) < (i : Int)) = false := by simpa using hlt2
      have ek : k = i := by omega
      rw [ek] at hR
      simp (disch := omega) only [f56_r5, f56_r10, w_reg, w_seq, w_cond, w_exit, seqK_n, seqK_e, atK_n, atK_e, loopK_n, loopK_e, ckB_b, cbB_b, true_and, x_nil, x_mv, x_bin, kx, rvP_ok, okv_some, ev_t, ev_c, getV_some, putD_some, bin_add, bin_lss, of1, getK_set, Nat.reduceEqDiff, ↓reduceIte, Bool.false_eq_true, g11, g19, g20, d1, fw64]
      exact ⟨i + 1, by omega, by omega, hG, by rw [hps, hR], by simp (disch := omega) only [getK_set, Nat.reduceEqDiff, ↓reduceIte, g0, g1, g9, g10, and_self, Int.natCast_add, Int.natCast_one]⟩
  · have d0 : decide ((i : Int) < (Ls.length : Int)) = false := by simpa using hlt
    have ei : i = Ls.length := by omega
    rw [ei] at hP
    simp (disch := omega) only [f56_r2, f56_r11, f56_rs, w_reg, w_seq, w_cond, w_exit, w_ret, seqK_n, seqK_e, atK_e, loopK_e, ckB_b, cbB_b, true_and, retK_r, x_nil, x_as, x_bin, kx, rvP_ok, okv_some, ev_t, ev_c, getV_some, putD_some, bin_lss, oGet_s, readRs_nil, readRs_t, retV_1, Option.some.injEq, exists_eq_left', getK_set, ↓reduceIte, Bool.false_eq_true, g10, g11, d0, hP, true_and]
    exact hG
theorem f20_ret (k : CallsPf fs) (kc : CallsCh fs) (h56 : fs.get (K.ofNat 56) = some f56) (hn : ok5 (n : Int)) (hv : Nrp h v us Ls) (hL2 : ∀ l ∈ Ls, l.length ≤ 9223372036854775807) (hsh : shB n Ls = true) (hc : HC h) : Ret fs f20 [.i .i64 (n : Int), v] h fun r h' => r = .tup [.b (prS n Ls Ls.length), .i .i64 0] ∧ Grow h.nx.nat h h' := by
  have hn' := hn
  unfold ok5 at hn'
  obtain ⟨hvd, hlen⟩ := sh_vld hsh
  have hfew := hvd.few (by omega) (by omega)
  apply ret_of rfl
  show W fs none f20_c _ _ _
  unfold f20_c
  simp (disch := omega) only [f20_r0, f20_r1, w_reg, w_seq, seqK_n, x_nil, x_mv, x_as, x_call, ev_t, ev_c, evs_nil, evs_cons, getV_some, putD_some, frame_2, of0, getK_set, Nat.reduceEqDiff, ↓reduceIte]
  refine (callP_0 (ef := f51) kc.c51 rfl (f51_ret kc hn hv hL2 hc)).mono ?_
  rintro r h2 ⟨c, ws, rfl, hs, hG⟩
  rw [if_pos hsh] at hs ⊢
  obtain ⟨hs, _⟩ := hs
  have ne0 : decide ((0 : Int) ≠ 0) = false := rfl
  simp (disch := omega) only [f20_r2, f20_r4, w_skip, w_reg, w_seq, w_cond, seqK_n, ckB_b, cbB_b, true_and, x_nil, x_mv, x_as, x_bin, x_ext, x_call, kx, rvP_ok, okv_some, ev_t, ev_c, evs_nil, evs_cons, getV_some, putD_some, bin_neq, onTup_t, nth0, nth1, of0, getK_set, Nat.reduceEqDiff, ↓reduceIte, Bool.false_eq_true, ne0]
  refine (callP_0 (ef := f56) h56 rfl (f56_ret k hs.nrp hvd (by omega) (fun l hl => (hfew.2 l hl).1) (by omega) (by omega) (hG.hc hc))).mono ?_
  rintro r h3 ⟨rfl, hG3⟩
  simp (disch := omega) only [f20_rs, w_ret, seqK_n, true_and, retK_r, x_nil, x_as, kx, ev_t, ev_c, getV_some, putD_some, oGet_s, readRs_nil, readRs_t, retV_2, Option.some.injEq, exists_eq_left', getK_set, Nat.reduceEqDiff, ↓reduceIte, true_and]
  exact hG.trans (hG3.low hG.nx)
end
end Go.Ev
namespace Go.Ev
open Go Go.RowKit
section
variable {h h' : H} {v u : V} {us : List V} {Ls : List (List (Int × Int))} {L : List (Int × Int)} {b : Nat}
end
theorem bin_quo2 {n : Nat} (hn : n ≤ 1000000) : binV .quo (.i .i64 (n : Int)) (.i .i64 2) = some (.i .i64 ((n / 2 : Nat) : Int)) := by
  show (bif ieq 2 0 then none else some (V.i .i64 (fw .i64 ((n : Int).tdiv 2)))) = _
  rw [show (n : Int).tdiv 2 = ((n / 2 : Nat) : Int) from rfl, fw64 (by omega) (by omega)]; rfl
section
variable {fs : T EF} {h : H}
end
section
variable {fs : T EF} {h : H}
end
end Go.Ev
