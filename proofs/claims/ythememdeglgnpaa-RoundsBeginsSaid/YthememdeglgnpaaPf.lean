/-
  Rounds: Home of the reference.
  Rounds: Homes, of the program and of the reference.
  Rounds: opponents, of the program and of the reference.
  Rounds: how many teams a set has; sums.
  Rounds: breaks, of the program.
  Rounds: breaks, of the reference.
  Rounds: names, and the same schedules, for the reference.
  Rounds: a slice of slices, filled row by row.
  Rounds: lists; schedules with other names, of the program.
  Rounds: schedules with other names, of the program.
  Rounds: Renamed, of the program.
  Rounds: the law RoundsHomes.
  Slices of slices whose elements take one cell each: read, filled row by row, gathered.
  Maps whose keys are pairs and whose values are numbers.
  Rounds: when each game is, of the program.
  Rounds: the follow numbers, of the program.
  Rounds: the follow numbers, counted by rounds.
  Rounds: whether a schedule is balanced; follow numbers of the reference.
  Rounds: the follow numbers of the reference.
  Rounds: rings.
  slices.Sort of few numbers.
  Rounds: rings, of the program.
  Rounds: rings, of the reference.
  Rounds: one ring, whichever round is the first.
  Rounds: whether a schedule is perfect; rings of two rounds.
  Rounds: schedules that are made.
  Rounds: is it a round, a beginning, a schedule? (the reference)
  Rounds: schedules that are made, checked by the reference.
  Rounds: the law RoundsFollows.
  Rounds: sums of follow numbers; other names.
  Rounds: Rings of the program; the law RoundsSums.
  Rounds: few; what is no schedule gives the same error.
-/
import Derived.Test.YthememdeglgnpaaPd
import Derived.Test.YthememdeglgnpaaPe
namespace Go.Ev
open Go Go.RowKit
noncomputable def f64_r0 : List EOper := [⟨(some (K.ofNat 4)), none, .as (.c (.b false))⟩, ⟨(some (K.ofNat 5)), none, .as (.c (.i .i64 (.ofNat 0)))⟩]
noncomputable def f64_r1 : List EOper := [⟨(some (K.ofNat 6)), none, .as (.c (.i .i64 (.ofNat 0)))⟩]
noncomputable def f64_r2 : List EOper := [⟨(some (K.ofNat 7)), none, .mv (.t (K.ofNat 6))⟩, ⟨(some (K.ofNat 8)), none, .mv (.t (K.ofNat 0))⟩, ⟨(some (K.ofNat 9)), none, .len (.t (K.ofNat 8))⟩, ⟨(some (K.ofNat 10)), none, .bin .lss (.t (K.ofNat 7)) (.t (K.ofNat 9))⟩]
noncomputable def f64_r3 : List EOper := [⟨(some (K.ofNat 13)), none, .mv (.t (K.ofNat 0))⟩, ⟨(some (K.ofNat 14)), none, .mv (.t (K.ofNat 6))⟩, ⟨(some (K.ofNat 15)), none, .iads 2 (.t (K.ofNat 13)) (.t (K.ofNat 14))⟩, ⟨(some (K.ofNat 16)), none, .iadr 2 1 (.t (K.ofNat 15)) (.c (.i .i64 (.ofNat 0)))⟩, ⟨(some (K.ofNat 17)), none, .ld (.t (K.ofNat 16))⟩, ⟨(some (K.ofNat 18)), none, .mv (.t (K.ofNat 1))⟩, ⟨(some (K.ofNat 19)), none, .bin .eql (.t (K.ofNat 17)) (.t (K.ofNat 18))⟩]
noncomputable def f64_r4 : List Stage := [⟨[⟨(some (K.ofNat 20)), none, .mv (.t (K.ofNat 0))⟩, ⟨(some (K.ofNat 21)), none, .mv (.t (K.ofNat 6))⟩, ⟨(some (K.ofNat 22)), none, .iads 2 (.t (K.ofNat 20)) (.t (K.ofNat 21))⟩, ⟨(some (K.ofNat 23)), none, .iadr 2 1 (.t (K.ofNat 22)) (.c (.i .i64 (.ofNat 1)))⟩, ⟨(some (K.ofNat 24)), none, .ld (.t (K.ofNat 23))⟩], [], (some ⟨(some (K.ofNat 4)), none, .as (.c (.b true))⟩), []⟩, ⟨[], [⟨(some (K.ofNat 20)), none, .mv (.t (K.ofNat 0))⟩, ⟨(some (K.ofNat 21)), none, .mv (.t (K.ofNat 6))⟩, ⟨(some (K.ofNat 22)), none, .iads 2 (.t (K.ofNat 20)) (.t (K.ofNat 21))⟩, ⟨(some (K.ofNat 23)), none, .iadr 2 1 (.t (K.ofNat 22)) (.c (.i .i64 (.ofNat 1)))⟩, ⟨(some (K.ofNat 24)), none, .ld (.t (K.ofNat 23))⟩], (some ⟨(some (K.ofNat 5)), none, .as (.t (K.ofNat 24))⟩), []⟩, ⟨[], [], none, []⟩]
noncomputable def f64_r5 : List EOper := [⟨(some (K.ofNat 25)), none, .mv (.t (K.ofNat 0))⟩, ⟨(some (K.ofNat 26)), none, .mv (.t (K.ofNat 6))⟩, ⟨(some (K.ofNat 27)), none, .iads 2 (.t (K.ofNat 25)) (.t (K.ofNat 26))⟩, ⟨(some (K.ofNat 28)), none, .iadr 2 1 (.t (K.ofNat 27)) (.c (.i .i64 (.ofNat 1)))⟩, ⟨(some (K.ofNat 29)), none, .ld (.t (K.ofNat 28))⟩, ⟨(some (K.ofNat 30)), none, .mv (.t (K.ofNat 1))⟩, ⟨(some (K.ofNat 31)), none, .bin .eql (.t (K.ofNat 29)) (.t (K.ofNat 30))⟩]
noncomputable def f64_r6 : List Stage := [⟨[⟨(some (K.ofNat 32)), none, .mv (.t (K.ofNat 0))⟩, ⟨(some (K.ofNat 33)), none, .mv (.t (K.ofNat 6))⟩, ⟨(some (K.ofNat 34)), none, .iads 2 (.t (K.ofNat 32)) (.t (K.ofNat 33))⟩, ⟨(some (K.ofNat 35)), none, .iadr 2 1 (.t (K.ofNat 34)) (.c (.i .i64 (.ofNat 0)))⟩, ⟨(some (K.ofNat 36)), none, .ld (.t (K.ofNat 35))⟩], [], (some ⟨(some (K.ofNat 4)), none, .as (.c (.b false))⟩), []⟩, ⟨[], [⟨(some (K.ofNat 32)), none, .mv (.t (K.ofNat 0))⟩, ⟨(some (K.ofNat 33)), none, .mv (.t (K.ofNat 6))⟩, ⟨(some (K.ofNat 34)), none, .iads 2 (.t (K.ofNat 32)) (.t (K.ofNat 33))⟩, ⟨(some (K.ofNat 35)), none, .iadr 2 1 (.t (K.ofNat 34)) (.c (.i .i64 (.ofNat 0)))⟩, ⟨(some (K.ofNat 36)), none, .ld (.t (K.ofNat 35))⟩], (some ⟨(some (K.ofNat 5)), none, .as (.t (K.ofNat 36))⟩), []⟩, ⟨[], [], none, []⟩]
noncomputable def f64_r7 : List EOper := [⟨(some (K.ofNat 11)), none, .mv (.t (K.ofNat 6))⟩, ⟨(some (K.ofNat 12)), none, .bin .add (.t (K.ofNat 11)) (.c (.i .i64 (.ofNat 1)))⟩, ⟨(some (K.ofNat 6)), none, .as (.t (K.ofNat 12))⟩]
noncomputable def f64_l0 : EC := (.seq (.seq (.reg f64_r2) (.cond (.t (K.ofNat 10)) .skip (.exit 0))) (.seq (.block 1 (.seq (.seq (.reg f64_r3) (.cond (.t (K.ofNat 19)) (.seq (.draw f64_r4) .ret) .skip)) (.seq (.reg f64_r5) (.cond (.t (K.ofNat 31)) (.seq (.draw f64_r6) .ret) .skip)))) (.reg f64_r7)))
noncomputable def f64_r8 : List EOper := [⟨(some (K.ofNat 4)), none, .as (.c (.b false))⟩, ⟨(some (K.ofNat 5)), none, .as (.c (.i .i64 (.negSucc 0)))⟩]
noncomputable def f64_c : EC := (.seq (.reg f64_r0) (.seq (.seq (.reg f64_r1) (.block 0 (.loop f64_l0))) (.seq (.reg f64_r8) .ret)))
noncomputable def f64 : EF := ⟨37, [.tmp (K.ofNat 4), .tmp (K.ofNat 5)], f64_c, none⟩
theorem f64_rs : f64.rs = [.tmp (K.ofNat 4), .tmp (K.ofNat 5)] := of_eq_true (eq_self _)
/-- Whether a team is at home, and with whom it plays. -/
def homeP : List (Int × Int) → Int → Bool × Int
  | [], _ => (false, -1)
  | x :: L, t => if x.1 = t then (true, x.2) else if x.2 = t then (false, x.1) else homeP L t
theorem homeP_drop {L : List (Int × Int)} {t : Int} {i : Nat} (hi : i < L.length) : homeP (L.drop i) t = if L[i].1 = t then (true, L[i].2) else if L[i].2 = t then (false, L[i].1) else homeP (L.drop (i + 1)) t := by
  rw [List.drop_eq_getElem_cons hi]; rfl
section
variable {fs : T EF} {ro : Option K}
def f64_I (h : H) (v : V) (L : List (Int × Int)) (t : Int) (i : Nat) (fr : Fr) (h1 : H) : Prop := h1 = h ∧ i ≤ L.length ∧ homeP (L.drop i) t = homeP L t ∧ fr.get (K.ofNat 0) = some (v) ∧ fr.get (K.ofNat 1) = some (.i .i64 t) ∧ fr.get (K.ofNat 6) = some (.i .i64 (i : Int))
theorem f64_ret {h : H} {v : V} {L : List (Int × Int)} {t : Int} (hv : Srp h v L) (hL : L.length ≤ 1000000) : Ret fs f64 [v, .i .i64 t] h fun r h' => r = .tup [.b (homeP L t).1, .i .i64 (homeP L t).2] ∧ h' = h := by
  apply ret_of rfl
  show W fs none f64_c _ _ _
  unfold f64_c
  simp (disch := omega) only [f64_r0, f64_r1, w_reg, w_seq, w_block, seqK_n, x_nil, x_as, ev_c, putD_some, frame_2, of0]
  refine W_loop (f64_I h v L t) (fun i => L.length - i) ?_ 0 ⟨rfl, by omega, rfl, by simp (disch := omega) only [getK_set, Nat.reduceEqDiff, ↓reduceIte, and_self, Int.natCast_zero]⟩
  rintro i fr h1 ⟨rfl, hi, hh, g0, g1, g6⟩
  unfold f64_l0
  by_cases hlt : i < L.length
  · have d0 : decide ((i : Int) < (L.length : Int)) = true := by simpa using hlt
    obtain ⟨id, q, hp1, hp2, hp3, hp4⟩ := hv.at2 hlt
    rw [homeP_drop hlt] at hh
    by_cases e1 : L[i].1 = t
    · rw [if_pos e1] at hh
      have d1 : decide (L[i].1 = t) = true := by simpa using e1
      simp (disch := omega) only [f64_r2, f64_r3, f64_r4, f64_rs, w_skip, w_reg, w_draw, w_seq, w_cond, w_block, w_ret, seqK_n, seqK_r, atK_r, loopK_r, ckB_b, cbB_b, retK_r, x_nil, x_mv, x_as, x_ld, x_bin, x_iadr, x_iads, x_len, kx, kg, xg_nil, xg_mv, xg_ld, xg_iadr, xg_iads, xd_cons, fresh_nil, stK_n, stK_s, stay_nil, stay_cons, again_ok, stay_mv, beq_i, stay_iads, stay_ld, beq_p, rvP_ok, okv_some, ev_t, ev_c, getV_some, putD_some, bin_eql, bin_lss, onP_p, oGet_s, readRs_nil, readRs_t, retV_2, of0, of1, Option.some.injEq, exists_eq_left', getK_set, Nat.reduceEqDiff, ↓reduceIte, stay_iadr, ix2_0, ix2_1, g0, g1, g6, hv.len, d0, hp1, hp3, hp4, d1, ← hh, and_self, hv.beq]
    · rw [if_neg e1] at hh
      have d1 : decide (L[i].1 = t) = false := by simpa using e1
      by_cases e2 : L[i].2 = t
      · rw [if_pos e2] at hh
        have d2 : decide (L[i].2 = t) = true := by simpa using e2
        simp (disch := omega) only [f64_r2, f64_r3, f64_r5, f64_r6, f64_rs, w_skip, w_reg, w_draw, w_seq, w_cond, w_block, w_ret, seqK_n, seqK_r, atK_r, loopK_r, ckB_b, cbB_b, retK_r, x_nil, x_mv, x_as, x_ld, x_bin, x_iadr, x_iads, x_len, kx, kg, xg_nil, xg_mv, xg_ld, xg_iadr, xg_iads, xd_cons, fresh_nil, stK_n, stK_s, stay_nil, stay_cons, again_ok, stay_mv, beq_i, stay_iads, stay_ld, beq_p, rvP_ok, okv_some, ev_t, ev_c, getV_some, putD_some, bin_eql, bin_lss, onP_p, oGet_s, readRs_nil, readRs_t, retV_2, of0, of1, Option.some.injEq, exists_eq_left', getK_set, Nat.reduceEqDiff, ↓reduceIte, Bool.false_eq_true, stay_iadr, ix2_0, ix2_1, g0, g1, g6, hv.len, d0, hp1, hp3, hp4, d1, d2, ← hh, and_self, hv.beq]
      · rw [if_neg e2] at hh
        have d2 : decide (L[i].2 = t) = false := by simpa using e2
        simp (disch := omega) only [f64_r2, f64_r3, f64_r5, f64_r7, w_skip, w_reg, w_seq, w_cond, w_block, seqK_n, atK_n, loopK_n, ckB_b, cbB_b, true_and, x_nil, x_mv, x_as, x_ld, x_bin, x_iadr, x_iads, x_len, kx, rvP_ok, okv_some, ev_t, ev_c, getV_some, putD_some, bin_add, bin_eql, bin_lss, onP_p, of0, of1, getK_set, Nat.reduceEqDiff, ↓reduceIte, Bool.false_eq_true, ix2_0, ix2_1, g0, g1, g6, hv.len, d0, hp1, hp3, hp4, d1, d2, fw64]
        exact ⟨i + 1, by omega, rfl, by omega, hh, by simp (disch := omega) only [getK_set, Nat.reduceEqDiff, ↓reduceIte, g0, g1, and_self, Int.natCast_add, Int.natCast_one]⟩
  · have d0 : decide ((i : Int) < (L.length : Int)) = false := by simpa using hlt
    have : homeP L t = (false, -1) := by rw [← hh, List.drop_of_length_le (by omega)]; rfl
    simp (disch := omega) only [f64_r2, f64_r8, f64_rs, w_reg, w_seq, w_cond, w_exit, w_ret, seqK_n, seqK_e, atK_e, loopK_e, ckB_b, cbB_b, true_and, retK_r, x_nil, x_mv, x_as, x_bin, x_len, kx, rvP_ok, okv_some, ev_t, ev_c, getV_some, putD_some, bin_lss, oGet_s, readRs_nil, readRs_t, retV_2, Option.some.injEq, exists_eq_left', getK_set, Nat.reduceEqDiff, ↓reduceIte, Bool.false_eq_true, g0, g6, hv.len, d0, this]
    exact ⟨rfl, trivial⟩
end
/-! ### As what the evaluator takes in place of its code -/
noncomputable def pairsI (n : Nat) : List V → Option (List (Int × Int)) := Nat.rec (fun _ => some []) (fun _ ih l => List.rec none (fun x l _ => List.rec none (fun y l _ => x.onI none fun k a => y.onI none fun k' b => bif k == .i64 && k' == .i64 then oGet (ih l) none fun L => some ((a, b) :: L) else none) l) l) n
theorem pairsI_spec : ∀ {n : Nat} {l : List V} {L : List (Int × Int)}, pairsI n l = some L → l.take (n * 2) = L.flatMap qE ∧ L.length = n ∧ n * 2 ≤ l.length
  | 0, l, L, h => by cases h; simp
  | n + 1, l, L, h => by
    match l, h with
    | x :: y :: l, h =>
      have h : (x.onI none fun k a => y.onI none fun k' b => bif k == .i64 && k' == .i64 then oGet (pairsI n l) none fun L => some ((a, b) :: L) else none) = some L := h
      obtain ⟨k, a, e1, h⟩ := V.onIo_ok (x := x) h
      obtain ⟨k', b, e2, h⟩ := V.onIo_ok (x := y) h
      subst e1 e2
      obtain ⟨hk, h⟩ := cond_ok (by simp) h
      obtain ⟨M, hM, h⟩ := oGet_some (by simp) h
      cases h
      simp only [Bool.and_eq_true, beq_iff_eq] at hk
      obtain ⟨rfl, rfl⟩ := hk
      obtain ⟨h1, h2, h3⟩ := pairsI_spec hM
      refine ⟨?_, by simp [h2], by simp; omega⟩
      rw [show (n + 1) * 2 = n * 2 + 1 + 1 by omega, List.take_succ_cons, List.take_succ_cons, h1]; rfl
/-- The pairs of a slice. -/
noncomputable def listP (h : H) (v : V) : Option (List (Int × Int)) := v.onSl0 none (some []) fun id off n sz => bif Nat.beq sz 2 && Nat.ble n 1000000 then ((h.get id).onC none fun m cs => bif Nat.beq (lenL cs) m && Nat.ble (off + n * 2) m then pairsI n (dropN off cs) else none) else none
theorem listP_spec {h : H} {v : V} {L : List (Int × Int)} (hl : listP h v = some L) : Srp h v L ∧ L.length ≤ 1000000 := by
  unfold listP at hl
  rcases V.onSl0_ok (by simp) hl with ⟨hv, hl⟩ | ⟨id, off, n, sz, hv, hl⟩
  · cases hl; exact ⟨.inl ⟨hv, rfl, rfl⟩, by simp⟩
  · obtain ⟨hc, hl1⟩ := cond_ok (by simp) hl
    rw [Bool.and_eq_true] at hc
    have hsz := Nat.eq_of_beq_eq_true hc.1
    subst hsz
    obtain ⟨m, cs, hb, hl2⟩ := Blk.onC_ok (by simp) hl1
    obtain ⟨hm, hl3⟩ := cond_ok (by simp) hl2
    rw [Bool.and_eq_true] at hm
    have hle := Nat.le_of_ble_eq_true hm.2
    have hm1 : cs.length = m := by rw [← lenL_eq]; exact Nat.eq_of_beq_eq_true hm.1
    clear hm
    obtain ⟨p1, p2, p3⟩ := pairsI_spec hl3
    rw [dropN_eq] at p1 p3
    subst p2
    refine ⟨.inr ⟨id, off, m, cs, hv, hb, hm1, hle, p1⟩, Nat.le_of_ble_eq_true hc.2⟩
noncomputable def homeK (L : List (Int × Int)) (t : Int) : V := List.rec (.tup [.b false, .i .i64 (-1)]) (fun x _ ih => bif ieq x.1 t then .tup [.b true, .i .i64 x.2] else bif ieq x.2 t then .tup [.b false, .i .i64 x.1] else ih) L
theorem homeK_eq : ∀ (L : List (Int × Int)) (t : Int), homeK L t = .tup [.b (homeP L t).1, .i .i64 (homeP L t).2]
  | [], t => rfl
  | x :: L, t => by
    show (bif ieq x.1 t then V.tup [.b true, .i .i64 x.2] else bif ieq x.2 t then .tup [.b false, .i .i64 x.1] else homeK L t) = _
    have e : homeP (x :: L) t = if x.1 = t then (true, x.2) else if x.2 = t then (false, x.1) else homeP L t := rfl
    rw [homeK_eq L t, ieq_eq, ieq_eq, e]
    by_cases h1 : x.1 = t
    · rw [if_pos h1, show (x.1 == t) = true by simpa using h1]; rfl
    · rw [if_neg h1, show (x.1 == t) = false by simpa using h1]
      by_cases h2 : x.2 = t
      · rw [if_pos h2, show (x.2 == t) = true by simpa using h2]; rfl
      · rw [if_neg h2, show (x.2 == t) = false by simpa using h2]; rfl
noncomputable def homeG (args : List V) (h : H) : Option (V × H) := match args with
  | [x, .i .i64 t] => oGet (listP h x) none fun L => some (homeK L t, h)
  | _ => none
theorem homeG_does {Y : Rig} {fs : T EF} (hfs : Fns Y fs) {k : K} (hf : f64.nv = none ∧ ∃ fn c, FnOk Y k f64 fn c) : ∀ args h v h', homeG args h = some (v, h') → Does Y k args h v h' := by
  intro args h v h' he
  unfold homeG at he
  split at he
  · obtain ⟨L, h1, he⟩ := oGet_some (by simp) he
    cases he
    obtain ⟨s1, s2⟩ := listP_spec h1
    obtain ⟨n, r, h2, hr, rfl, rfl⟩ := f64_ret (fs := fs) (t := ‹Int›) s1 s2
    rw [homeK_eq]
    exact does_of_run hfs hf hr
  · cases he
end Go.Ev
namespace Go.Ev
open Go Go.RowKit
noncomputable def f17_r0 : List EOper := [⟨(some (K.ofNat 4)), none, .as (.c .sn)⟩, ⟨(some (K.ofNat 5)), none, .as (.c (.i .i64 (.ofNat 0)))⟩]
noncomputable def f17_r1 : List EOper := [⟨(some (K.ofNat 11)), none, .mv (.t (K.ofNat 0))⟩, ⟨(some (K.ofNat 12)), none, .mv (.t (K.ofNat 1))⟩, ⟨(some (K.ofNat 13)), none, .call (.c (.fn (K.ofNat 51) [])) [(.t (K.ofNat 11)), (.t (K.ofNat 12))]⟩, ⟨(some (K.ofNat 10)), none, .mv (.t (K.ofNat 13))⟩, ⟨(some (K.ofNat 14)), none, .ext (.t (K.ofNat 10)) 0⟩, ⟨(some (K.ofNat 15)), none, .ext (.t (K.ofNat 10)) 1⟩, ⟨(some (K.ofNat 6)), none, .as (.t (K.ofNat 14))⟩, ⟨(some (K.ofNat 7)), none, .as (.t (K.ofNat 15))⟩]
noncomputable def f17_r2 : List EOper := [⟨(some (K.ofNat 16)), none, .mv (.t (K.ofNat 7))⟩, ⟨(some (K.ofNat 17)), none, .bin .neq (.t (K.ofNat 16)) (.c (.i .i64 (.ofNat 0)))⟩]
noncomputable def f17_r3 : List EOper := [⟨(some (K.ofNat 18)), none, .mv (.t (K.ofNat 7))⟩, ⟨(some (K.ofNat 4)), none, .as (.c .sn)⟩, ⟨(some (K.ofNat 5)), none, .as (.t (K.ofNat 18))⟩]
noncomputable def f17_r4 : List EOper := [⟨(some (K.ofNat 19)), none, .mv (.t (K.ofNat 0))⟩, ⟨(some (K.ofNat 20)), none, .mkslice 1 [(.s ⟨#[]⟩)] (.t (K.ofNat 19))⟩, ⟨(some (K.ofNat 8)), none, .as (.t (K.ofNat 20))⟩]
noncomputable def f17_r5 : List EOper := [⟨(some (K.ofNat 21)), none, .mv (.t (K.ofNat 0))⟩, ⟨(some (K.ofNat 22)), none, .mv (.c (.i .i64 (.ofNat 0)))⟩]
noncomputable def f17_r6 : List EOper := [⟨(some (K.ofNat 23)), none, .bin .lss (.t (K.ofNat 22)) (.t (K.ofNat 21))⟩]
noncomputable def f17_r7 : List EOper := [⟨(some (K.ofNat 24)), none, .mv (.t (K.ofNat 22))⟩, ⟨(some (K.ofNat 9)), none, .as (.t (K.ofNat 24))⟩]
noncomputable def f17_r8 : List EOper := [⟨(some (K.ofNat 25)), none, .mv (.t (K.ofNat 8))⟩, ⟨(some (K.ofNat 26)), none, .mv (.t (K.ofNat 9))⟩, ⟨(some (K.ofNat 27)), none, .mv (.t (K.ofNat 6))⟩, ⟨(some (K.ofNat 28)), none, .mv (.t (K.ofNat 9))⟩, ⟨(some (K.ofNat 29)), none, .call (.c (.fn (K.ofNat 53) [])) [(.t (K.ofNat 27)), (.t (K.ofNat 28))]⟩, ⟨(some (K.ofNat 30)), none, .iads 1 (.t (K.ofNat 25)) (.t (K.ofNat 26))⟩, ⟨none, none, .st 1 (.t (K.ofNat 30)) (.t (K.ofNat 29))⟩]
noncomputable def f17_r9 : List EOper := [⟨(some (K.ofNat 31)), none, .bin .add (.t (K.ofNat 22)) (.c (.i .i64 (.ofNat 1)))⟩, ⟨(some (K.ofNat 22)), none, .mv (.t (K.ofNat 31))⟩]
noncomputable def f17_l0 : EC := (.seq (.reg f17_r6) (.seq (.cond (.t (K.ofNat 23)) .skip (.exit 0)) (.seq (.block 1 (.seq (.reg f17_r7) (.reg f17_r8))) (.reg f17_r9))))
noncomputable def f17_r10 : List EOper := [⟨(some (K.ofNat 32)), none, .mv (.t (K.ofNat 8))⟩, ⟨(some (K.ofNat 4)), none, .as (.t (K.ofNat 32))⟩, ⟨(some (K.ofNat 5)), none, .as (.c (.i .i64 (.ofNat 0)))⟩]
noncomputable def f17_c : EC := (.seq (.reg f17_r0) (.seq (.reg f17_r1) (.seq (.seq (.reg f17_r2) (.cond (.t (K.ofNat 17)) (.seq (.reg f17_r3) .ret) .skip)) (.seq (.reg f17_r4) (.seq (.seq (.reg f17_r5) (.block 0 (.loop f17_l0))) (.seq (.reg f17_r10) .ret))))))
noncomputable def f17 : EF := ⟨33, [.tmp (K.ofNat 4), .tmp (K.ofNat 5)], f17_c, none⟩
noncomputable def f26_r0 : List EOper := [⟨(some (K.ofNat 4)), none, .as (.c .sn)⟩]
noncomputable def f26_r1 : List EOper := [⟨(some (K.ofNat 5)), none, .as (.c .sn)⟩]
noncomputable def f26_r2 : List EOper := [⟨(some (K.ofNat 6)), none, .as (.c (.i .i64 (.ofNat 0)))⟩]
noncomputable def f26_r3 : List EOper := [⟨(some (K.ofNat 11)), none, .mv (.t (K.ofNat 6))⟩, ⟨(some (K.ofNat 12)), none, .mv (.t (K.ofNat 0))⟩, ⟨(some (K.ofNat 13)), none, .bin .lss (.t (K.ofNat 11)) (.t (K.ofNat 12))⟩]
noncomputable def f26_r4 : List EOper := [⟨(some (K.ofNat 7)), none, .as (.c (.s ⟨#[]⟩))⟩]
noncomputable def f26_r5 : List EOper := [⟨(some (K.ofNat 8)), none, .as (.c (.i .i64 (.ofNat 0)))⟩]
noncomputable def f26_r6 : List EOper := [⟨(some (K.ofNat 16)), none, .mv (.t (K.ofNat 8))⟩, ⟨(some (K.ofNat 17)), none, .mv (.t (K.ofNat 1))⟩, ⟨(some (K.ofNat 18)), none, .len (.t (K.ofNat 17))⟩, ⟨(some (K.ofNat 19)), none, .bin .lss (.t (K.ofNat 16)) (.t (K.ofNat 18))⟩]
noncomputable def f26_r7 : List EOper := [⟨(some (K.ofNat 23)), none, .mv (.t (K.ofNat 1))⟩, ⟨(some (K.ofNat 24)), none, .mv (.t (K.ofNat 8))⟩, ⟨(some (K.ofNat 25)), none, .iads 1 (.t (K.ofNat 23)) (.t (K.ofNat 24))⟩, ⟨(some (K.ofNat 26)), none, .ld (.t (K.ofNat 25))⟩, ⟨(some (K.ofNat 27)), none, .mv (.t (K.ofNat 6))⟩, ⟨(some (K.ofNat 28)), none, .call (.c (.fn (K.ofNat 64) [])) [(.t (K.ofNat 26)), (.t (K.ofNat 27))]⟩, ⟨(some (K.ofNat 22)), none, .mv (.t (K.ofNat 28))⟩, ⟨(some (K.ofNat 29)), none, .ext (.t (K.ofNat 22)) 0⟩, ⟨(some (K.ofNat 30)), none, .ext (.t (K.ofNat 22)) 1⟩, ⟨(some (K.ofNat 9)), none, .as (.t (K.ofNat 29))⟩, ⟨(some (K.ofNat 10)), none, .as (.t (K.ofNat 30))⟩]
noncomputable def f26_r8 : List EOper := [⟨(some (K.ofNat 31)), none, .mv (.t (K.ofNat 9))⟩]
noncomputable def f26_r9 : List EOper := [⟨(some (K.ofNat 32)), none, .mv (.t (K.ofNat 7))⟩, ⟨(some (K.ofNat 33)), none, .pr .sadd (.t (K.ofNat 32)) (.c (.s ⟨#[72]⟩))⟩, ⟨(some (K.ofNat 7)), none, .as (.t (K.ofNat 33))⟩]
noncomputable def f26_r10 : List EOper := [⟨(some (K.ofNat 34)), none, .mv (.t (K.ofNat 7))⟩, ⟨(some (K.ofNat 35)), none, .pr .sadd (.t (K.ofNat 34)) (.c (.s ⟨#[65]⟩))⟩, ⟨(some (K.ofNat 7)), none, .as (.t (K.ofNat 35))⟩]
noncomputable def f26_r11 : List EOper := [⟨(some (K.ofNat 20)), none, .mv (.t (K.ofNat 8))⟩, ⟨(some (K.ofNat 21)), none, .bin .add (.t (K.ofNat 20)) (.c (.i .i64 (.ofNat 1)))⟩, ⟨(some (K.ofNat 8)), none, .as (.t (K.ofNat 21))⟩]
noncomputable def f26_l0 : EC := (.seq (.seq (.reg f26_r6) (.cond (.t (K.ofNat 19)) .skip (.exit 2))) (.seq (.block 3 (.seq (.reg f26_r7) (.seq (.reg f26_r8) (.cond (.t (K.ofNat 31)) (.reg f26_r9) (.reg f26_r10))))) (.reg f26_r11)))
noncomputable def f26_r12 : List EOper := [⟨(some (K.ofNat 36)), none, .mv (.t (K.ofNat 5))⟩, ⟨(some (K.ofNat 37)), none, .mv (.t (K.ofNat 7))⟩, ⟨(some (K.ofNat 38)), none, .bslice 1 1 [(.s ⟨#[]⟩)] [(0, 1, (.t (K.ofNat 37)))]⟩, ⟨(some (K.ofNat 39)), none, .app 1 (.t (K.ofNat 36)) (.t (K.ofNat 38))⟩, ⟨(some (K.ofNat 5)), none, .as (.t (K.ofNat 39))⟩]
noncomputable def f26_r13 : List EOper := [⟨(some (K.ofNat 14)), none, .mv (.t (K.ofNat 6))⟩, ⟨(some (K.ofNat 15)), none, .bin .add (.t (K.ofNat 14)) (.c (.i .i64 (.ofNat 1)))⟩, ⟨(some (K.ofNat 6)), none, .as (.t (K.ofNat 15))⟩]
noncomputable def f26_l1 : EC := (.seq (.seq (.reg f26_r3) (.cond (.t (K.ofNat 13)) .skip (.exit 0))) (.seq (.block 1 (.seq (.reg f26_r4) (.seq (.seq (.reg f26_r5) (.block 2 (.loop f26_l0))) (.reg f26_r12)))) (.reg f26_r13)))
noncomputable def f26_r14 : List EOper := [⟨(some (K.ofNat 40)), none, .mv (.t (K.ofNat 5))⟩, ⟨(some (K.ofNat 4)), none, .as (.t (K.ofNat 40))⟩]
noncomputable def f26_c : EC := (.seq (.reg f26_r0) (.seq (.reg f26_r1) (.seq (.seq (.reg f26_r2) (.block 0 (.loop f26_l1))) (.seq (.reg f26_r14) .ret))))
noncomputable def f26 : EF := ⟨41, [.tmp (K.ofNat 4)], f26_c, none⟩
theorem hm_pl {l : List (Int × Int)} {t : Int} (h : t ∈ hmL l) : t ∈ plL l := by
  obtain ⟨e, he, rfl⟩ := List.mem_map.1 h
  exact (pl_sub he).subset (by simp)
theorem rnd_nd {n : Nat} {l : List (Int × Int)} (h : rndB n l = true) : (plL l).Nodup := by
  unfold rndB aaB at h
  simp only [Bool.and_eq_true, decide_eq_true_iff] at h
  exact h.2.2.2
/-- A table that is filled from its beginning. -/
def tbL {α : Type} (f : Nat → α) (d : α) (n i : Nat) : List α := (List.range n).map fun x => if x < i then f x else d
theorem tb_at {α : Type} {f : Nat → α} {d : α} {n i x : Nat} (h : x < (tbL f d n i).length) : (tbL f d n i)[x] = if x < i then f x else d := by simp [tbL]
theorem tb_set {α : Type} {f : Nat → α} {d : α} {n i : Nat} : (tbL f d n i).set i (f i) = tbL f d n (i + 1) := by
  apply List.ext_getElem
  · simp [tbL]
  · intro x h1 h2
    rw [List.getElem_set, tb_at]
    by_cases h : i = x
    · subst h; rw [if_pos rfl, tb_at, if_pos (by omega)]
    · rw [if_neg h, tb_at]
      by_cases h3 : x < i
      · rw [if_pos h3, if_pos (by omega)]
      · rw [if_neg h3, if_neg (by omega)]
theorem tb_all {α : Type} {f : Nat → α} {d : α} {n : Nat} : tbL f d n n = (List.range n).map f := by
  unfold tbL
  refine List.map_congr_left fun x hx => ?_
  rw [if_pos (by simpa using hx)]
theorem tb_nil {α : Type} {f : Nat → α} {d : α} {n : Nat} : tbL f d n 0 = List.replicate n d := by
  unfold tbL
  apply List.ext_getElem
  · simp
  · intro x h1 h2; simp
structure CallsH (fs : T EF) : Prop extends CallsCh fs, CallsHo fs where
  c17 : fs.get (K.ofNat 17) = some f17
  c26 : fs.get (K.ofNat 26) = some f26
  c64 : fs.get (K.ofNat 64) = some f64
section
variable {fs : T EF} {h : H} {v : V} {us : List V} {Ls : List (List (Int × Int))}
theorem Vld.few {n : Nat} (hv : Vld n Ls) (hn : n ≤ 16) (hl : Ls.length ≤ 100) : Few Ls := ⟨hl, fun l hll => by
  have h1 := hv.rnd l hll
  have h2 := rnd_e h1
  unfold rndB at h1
  rw [Bool.and_eq_true, decide_eq_true_iff] at h1
  exact ⟨by omega, fun e he => by have := h2 e he; omega⟩⟩
theorem sh_vld {n : Nat} (h : shB n Ls = true) : Vld n Ls ∧ Ls.length = n - 1 := by
  unfold shB bgB at h
  simp only [Bool.and_eq_true, decide_eq_true_iff] at h
  exact ⟨⟨fun l hl => List.all_eq_true.1 h.1.2.1 l hl, h.1.2.2⟩, h.2⟩
end
end Go.Ev
namespace Go.Ev
open Go Go.RowKit
noncomputable def f21_r0 : List EOper := [⟨(some (K.ofNat 6)), none, .as (.c .sn)⟩, ⟨(some (K.ofNat 7)), none, .as (.c (.i .i64 (.ofNat 0)))⟩]
noncomputable def f21_r1 : List EOper := [⟨(some (K.ofNat 14)), none, .mv (.t (K.ofNat 0))⟩, ⟨(some (K.ofNat 15)), none, .mv (.t (K.ofNat 1))⟩, ⟨(some (K.ofNat 16)), none, .call (.c (.fn (K.ofNat 51) [])) [(.t (K.ofNat 14)), (.t (K.ofNat 15))]⟩, ⟨(some (K.ofNat 13)), none, .mv (.t (K.ofNat 16))⟩, ⟨(some (K.ofNat 17)), none, .ext (.t (K.ofNat 13)) 0⟩, ⟨(some (K.ofNat 18)), none, .ext (.t (K.ofNat 13)) 1⟩, ⟨(some (K.ofNat 8)), none, .as (.t (K.ofNat 17))⟩, ⟨(some (K.ofNat 9)), none, .as (.t (K.ofNat 18))⟩]
noncomputable def f21_r2 : List EOper := [⟨(some (K.ofNat 19)), none, .mv (.t (K.ofNat 9))⟩, ⟨(some (K.ofNat 20)), none, .bin .neq (.t (K.ofNat 19)) (.c (.i .i64 (.ofNat 0)))⟩]
noncomputable def f21_r3 : List EOper := [⟨(some (K.ofNat 21)), none, .mv (.t (K.ofNat 9))⟩, ⟨(some (K.ofNat 6)), none, .as (.c .sn)⟩, ⟨(some (K.ofNat 7)), none, .as (.t (K.ofNat 21))⟩]
noncomputable def f21_r4 : List EOper := [⟨(some (K.ofNat 22)), none, .mv (.t (K.ofNat 0))⟩, ⟨(some (K.ofNat 23)), none, .mv (.t (K.ofNat 2))⟩, ⟨(some (K.ofNat 24)), none, .call (.c (.fn (K.ofNat 57) [])) [(.t (K.ofNat 22)), (.t (K.ofNat 23))]⟩, ⟨(some (K.ofNat 25)), none, .not (.t (K.ofNat 24))⟩]
noncomputable def f21_r5 : List EOper := [⟨(some (K.ofNat 6)), none, .as (.c .sn)⟩, ⟨(some (K.ofNat 7)), none, .as (.c (.i .i64 (.ofNat 1)))⟩]
noncomputable def f21_r6 : List EOper := [⟨(some (K.ofNat 26)), none, .mv (.t (K.ofNat 8))⟩, ⟨(some (K.ofNat 27)), none, .len (.t (K.ofNat 26))⟩, ⟨(some (K.ofNat 28)), none, .mkslice 1 [(.i .i64 (.ofNat 0))] (.t (K.ofNat 27))⟩, ⟨(some (K.ofNat 10)), none, .as (.t (K.ofNat 28))⟩]
noncomputable def f21_r7 : List EOper := [⟨(some (K.ofNat 29)), none, .mv (.t (K.ofNat 8))⟩, ⟨(some (K.ofNat 30)), none, .len (.t (K.ofNat 29))⟩, ⟨(some (K.ofNat 31)), none, .mv (.c (.i .i64 (.ofNat 0)))⟩]
noncomputable def f21_r8 : List EOper := [⟨(some (K.ofNat 32)), none, .bin .lss (.t (K.ofNat 31)) (.t (K.ofNat 30))⟩]
noncomputable def f21_r9 : List EOper := [⟨(some (K.ofNat 33)), none, .mv (.t (K.ofNat 31))⟩, ⟨(some (K.ofNat 34)), none, .iads 1 (.t (K.ofNat 29)) (.t (K.ofNat 31))⟩, ⟨(some (K.ofNat 35)), none, .ld (.t (K.ofNat 34))⟩, ⟨(some (K.ofNat 11)), none, .as (.t (K.ofNat 33))⟩, ⟨(some (K.ofNat 12)), none, .as (.t (K.ofNat 35))⟩]
noncomputable def f21_r10 : List EOper := [⟨(some (K.ofNat 36)), none, .mv (.t (K.ofNat 10))⟩, ⟨(some (K.ofNat 37)), none, .mv (.t (K.ofNat 11))⟩, ⟨(some (K.ofNat 38)), none, .mv (.t (K.ofNat 12))⟩, ⟨(some (K.ofNat 39)), none, .mv (.t (K.ofNat 2))⟩, ⟨(some (K.ofNat 40)), none, .call (.c (.fn (K.ofNat 58) [])) [(.t (K.ofNat 38)), (.t (K.ofNat 39))]⟩, ⟨(some (K.ofNat 41)), none, .iads 1 (.t (K.ofNat 36)) (.t (K.ofNat 37))⟩, ⟨none, none, .st 1 (.t (K.ofNat 41)) (.t (K.ofNat 40))⟩]
noncomputable def f21_r11 : List EOper := [⟨(some (K.ofNat 42)), none, .bin .add (.t (K.ofNat 31)) (.c (.i .i64 (.ofNat 1)))⟩, ⟨(some (K.ofNat 31)), none, .mv (.t (K.ofNat 42))⟩]
noncomputable def f21_l0 : EC := (.seq (.reg f21_r8) (.seq (.cond (.t (K.ofNat 32)) .skip (.exit 0)) (.seq (.block 1 (.seq (.reg f21_r9) (.reg f21_r10))) (.reg f21_r11))))
noncomputable def f21_r12 : List EOper := [⟨(some (K.ofNat 43)), none, .mv (.t (K.ofNat 10))⟩, ⟨(some (K.ofNat 6)), none, .as (.t (K.ofNat 43))⟩, ⟨(some (K.ofNat 7)), none, .as (.c (.i .i64 (.ofNat 0)))⟩]
noncomputable def f21_c : EC := (.seq (.reg f21_r0) (.seq (.reg f21_r1) (.seq (.seq (.reg f21_r2) (.cond (.t (K.ofNat 20)) (.seq (.reg f21_r3) .ret) .skip)) (.seq (.seq (.reg f21_r4) (.cond (.t (K.ofNat 25)) (.seq (.reg f21_r5) .ret) .skip)) (.seq (.reg f21_r6) (.seq (.seq (.reg f21_r7) (.block 0 (.loop f21_l0))) (.seq (.reg f21_r12) .ret)))))))
noncomputable def f21 : EF := ⟨44, [.tmp (K.ofNat 6), .tmp (K.ofNat 7)], f21_c, none⟩
noncomputable def f29_r0 : List EOper := [⟨(some (K.ofNat 4)), none, .as (.c .sn)⟩]
noncomputable def f29_r1 : List EOper := [⟨(some (K.ofNat 5)), none, .as (.c .sn)⟩]
noncomputable def f29_r2 : List EOper := [⟨(some (K.ofNat 6)), none, .as (.c (.i .i64 (.ofNat 0)))⟩]
noncomputable def f29_r3 : List EOper := [⟨(some (K.ofNat 9)), none, .mv (.t (K.ofNat 6))⟩, ⟨(some (K.ofNat 10)), none, .mv (.t (K.ofNat 0))⟩, ⟨(some (K.ofNat 11)), none, .len (.t (K.ofNat 10))⟩, ⟨(some (K.ofNat 12)), none, .bin .lss (.t (K.ofNat 9)) (.t (K.ofNat 11))⟩]
noncomputable def f29_r4 : List EOper := [⟨(some (K.ofNat 16)), none, .mv (.t (K.ofNat 0))⟩, ⟨(some (K.ofNat 17)), none, .mv (.t (K.ofNat 6))⟩, ⟨(some (K.ofNat 18)), none, .iads 1 (.t (K.ofNat 16)) (.t (K.ofNat 17))⟩, ⟨(some (K.ofNat 19)), none, .ld (.t (K.ofNat 18))⟩, ⟨(some (K.ofNat 20)), none, .mv (.t (K.ofNat 1))⟩, ⟨(some (K.ofNat 21)), none, .call (.c (.fn (K.ofNat 64) [])) [(.t (K.ofNat 19)), (.t (K.ofNat 20))]⟩, ⟨(some (K.ofNat 15)), none, .mv (.t (K.ofNat 21))⟩, ⟨(some (K.ofNat 22)), none, .ext (.t (K.ofNat 15)) 0⟩, ⟨(some (K.ofNat 23)), none, .ext (.t (K.ofNat 15)) 1⟩, ⟨(some (K.ofNat 7)), none, .as (.t (K.ofNat 22))⟩, ⟨(some (K.ofNat 8)), none, .as (.t (K.ofNat 23))⟩]
noncomputable def f29_r5 : List EOper := [⟨(some (K.ofNat 24)), none, .mv (.t (K.ofNat 5))⟩, ⟨(some (K.ofNat 25)), none, .mv (.t (K.ofNat 8))⟩, ⟨(some (K.ofNat 26)), none, .bslice 1 1 [(.i .i64 (.ofNat 0))] [(0, 1, (.t (K.ofNat 25)))]⟩, ⟨(some (K.ofNat 27)), none, .app 1 (.t (K.ofNat 24)) (.t (K.ofNat 26))⟩, ⟨(some (K.ofNat 5)), none, .as (.t (K.ofNat 27))⟩]
noncomputable def f29_r6 : List EOper := [⟨(some (K.ofNat 13)), none, .mv (.t (K.ofNat 6))⟩, ⟨(some (K.ofNat 14)), none, .bin .add (.t (K.ofNat 13)) (.c (.i .i64 (.ofNat 1)))⟩, ⟨(some (K.ofNat 6)), none, .as (.t (K.ofNat 14))⟩]
noncomputable def f29_l0 : EC := (.seq (.seq (.reg f29_r3) (.cond (.t (K.ofNat 12)) .skip (.exit 0))) (.seq (.block 1 (.seq (.reg f29_r4) (.reg f29_r5))) (.reg f29_r6)))
noncomputable def f29_r7 : List EOper := [⟨(some (K.ofNat 28)), none, .mv (.t (K.ofNat 5))⟩, ⟨(some (K.ofNat 4)), none, .as (.t (K.ofNat 28))⟩]
noncomputable def f29_c : EC := (.seq (.reg f29_r0) (.seq (.reg f29_r1) (.seq (.seq (.reg f29_r2) (.block 0 (.loop f29_l0))) (.seq (.reg f29_r7) .ret))))
noncomputable def f29 : EF := ⟨29, [.tmp (K.ofNat 4)], f29_c, none⟩
noncomputable def f28_r0 : List EOper := [⟨(some (K.ofNat 4)), none, .as (.c (.b false))⟩]
noncomputable def f28_r1 : List EOper := [⟨(some (K.ofNat 6)), none, .mv (.t (K.ofNat 0))⟩, ⟨(some (K.ofNat 7)), none, .len (.t (K.ofNat 6))⟩, ⟨(some (K.ofNat 8)), none, .mv (.t (K.ofNat 1))⟩, ⟨(some (K.ofNat 9)), none, .len (.t (K.ofNat 8))⟩, ⟨(some (K.ofNat 10)), none, .bin .neq (.t (K.ofNat 7)) (.t (K.ofNat 9))⟩]
noncomputable def f28_r2 : List EOper := [⟨(some (K.ofNat 4)), none, .as (.c (.b false))⟩]
noncomputable def f28_r3 : List EOper := [⟨(some (K.ofNat 5)), none, .as (.c (.i .i64 (.ofNat 0)))⟩]
noncomputable def f28_r4 : List EOper := [⟨(some (K.ofNat 11)), none, .mv (.t (K.ofNat 5))⟩, ⟨(some (K.ofNat 12)), none, .mv (.t (K.ofNat 0))⟩, ⟨(some (K.ofNat 13)), none, .len (.t (K.ofNat 12))⟩, ⟨(some (K.ofNat 14)), none, .bin .lss (.t (K.ofNat 11)) (.t (K.ofNat 13))⟩]
noncomputable def f28_r5 : List Stage := [⟨[⟨(some (K.ofNat 17)), none, .mv (.t (K.ofNat 0))⟩, ⟨(some (K.ofNat 18)), none, .mv (.t (K.ofNat 5))⟩, ⟨(some (K.ofNat 19)), none, .iads 1 (.t (K.ofNat 17)) (.t (K.ofNat 18))⟩, ⟨(some (K.ofNat 20)), none, .ld (.t (K.ofNat 19))⟩, ⟨(some (K.ofNat 21)), none, .mv (.t (K.ofNat 1))⟩, ⟨(some (K.ofNat 22)), none, .mv (.t (K.ofNat 5))⟩, ⟨(some (K.ofNat 23)), none, .iads 1 (.t (K.ofNat 21)) (.t (K.ofNat 22))⟩, ⟨(some (K.ofNat 24)), none, .ld (.t (K.ofNat 23))⟩, ⟨(some (K.ofNat 25)), none, .bin .neq (.t (K.ofNat 20)) (.t (K.ofNat 24))⟩], [], none, []⟩]
noncomputable def f28_r6 : List EOper := [⟨(some (K.ofNat 4)), none, .as (.c (.b false))⟩]
noncomputable def f28_r7 : List EOper := [⟨(some (K.ofNat 15)), none, .mv (.t (K.ofNat 5))⟩, ⟨(some (K.ofNat 16)), none, .bin .add (.t (K.ofNat 15)) (.c (.i .i64 (.ofNat 1)))⟩, ⟨(some (K.ofNat 5)), none, .as (.t (K.ofNat 16))⟩]
noncomputable def f28_l0 : EC := (.seq (.seq (.reg f28_r4) (.cond (.t (K.ofNat 14)) .skip (.exit 0))) (.seq (.block 1 (.seq (.draw f28_r5) (.cond (.t (K.ofNat 25)) (.seq (.reg f28_r6) .ret) .skip))) (.reg f28_r7)))
noncomputable def f28_r8 : List EOper := [⟨(some (K.ofNat 4)), none, .as (.c (.b true))⟩]
noncomputable def f28_c : EC := (.seq (.reg f28_r0) (.seq (.seq (.reg f28_r1) (.cond (.t (K.ofNat 10)) (.seq (.reg f28_r2) .ret) .skip)) (.seq (.seq (.reg f28_r3) (.block 0 (.loop f28_l0))) (.seq (.reg f28_r8) .ret))))
noncomputable def f28 : EF := ⟨26, [.tmp (K.ofNat 4)], f28_c, none⟩
theorem nodup_le {α : Type} [DecidableEq α] : ∀ {l m : List α}, l.Nodup → (∀ x ∈ l, x ∈ m) → l.length ≤ m.length
  | [], _, _, _ => Nat.zero_le _
  | x :: l, m, hn, hs => by
    rw [List.nodup_cons] at hn
    have hx : x ∈ m := hs x (by simp)
    have := nodup_le (l := l) (m := m.erase x) hn.2 fun y hy => (List.mem_erase_of_ne (fun e : y = x => hn.1 (e ▸ hy))).2 (hs y (by simp [hy]))
    rw [List.length_erase_of_mem hx] at this
    have : 0 < m.length := List.length_pos_of_mem hx
    rw [List.length_cons]; omega
/-- Each team plays in a round. -/
theorem rnd_all {n : Nat} {l : List (Int × Int)} (h : rndB n l = true) {t : Int} (ht : 0 ≤ t ∧ t < (n : Int)) : t ∈ plL l := by
  unfold rndB aaB at h
  simp only [Bool.and_eq_true, decide_eq_true_iff] at h
  obtain ⟨_, h1, h2, h3⟩ := h
  apply Classical.byContradiction
  intro hno
  have := nodup_le (l := t :: plL l) (m := (List.range n).map fun x : Nat => (x : Int)) (List.nodup_cons.2 ⟨hno, h3⟩) fun x hx => by
    have hx' : 0 ≤ x ∧ x < (n : Int) := by
      rcases List.mem_cons.1 hx with rfl | hx
      · exact ht
      · exact h2 x hx
    exact List.mem_map.2 ⟨x.toNat, by simp; omega, by omega⟩
  rw [List.length_cons, List.length_map, List.length_range] at this
  omega
structure CallsO (fs : T EF) : Prop extends CallsH fs where
  c21 : fs.get (K.ofNat 21) = some f21
  c28 : fs.get (K.ofNat 28) = some f28
  c29 : fs.get (K.ofNat 29) = some f29
  c58 : fs.get (K.ofNat 58) = some f58
section
variable {fs : T EF} {h : H} {v w : V} {us : List V} {Ls : List (List (Int × Int))} {L : List Int}
end
end Go.Ev
namespace Go.Ev
open Go Go.RowKit
noncomputable def f92_r0 : List EOper := [⟨(some (K.ofNat 2)), none, .as (.c (.i .i64 (.ofNat 0)))⟩]
noncomputable def f92_r1 : List Stage := [⟨[⟨(some (K.ofNat 3)), none, .mv (.t (K.ofNat 0))⟩, ⟨(some (K.ofNat 4)), none, .bin .shr (.t (K.ofNat 3)) (.c (.i .u64 (.ofNat 8)))⟩, ⟨(some (K.ofNat 5)), none, .pr .sidx (.c (.s ⟨#[0, 1, 1, 2, 1, 2, 2, 3, 1, 2, 2, 3, 2, 3, 3, 4, 1, 2, 2, 3, 2, 3, 3, 4, 2, 3, 3, 4, 3, 4, 4, 5, 1, 2, 2, 3, 2, 3, 3, 4, 2, 3, 3, 4, 3, 4, 4, 5, 2, 3, 3, 4, 3, 4, 4, 5, 3, 4, 4, 5, 4, 5, 5, 6, 1, 2, 2, 3, 2, 3, 3, 4, 2, 3, 3, 4, 3, 4, 4, 5, 2, 3, 3, 4, 3, 4, 4, 5, 3, 4, 4, 5, 4, 5, 5, 6, 2, 3, 3, 4, 3, 4, 4, 5, 3, 4, 4, 5, 4, 5, 5, 6, 3, 4, 4, 5, 4, 5, 5, 6, 4, 5, 5, 6, 5, 6, 6, 7, 1, 2, 2, 3, 2, 3, 3, 4, 2, 3, 3, 4, 3, 4, 4, 5, 2, 3, 3, 4, 3, 4, 4, 5, 3, 4, 4, 5, 4, 5, 5, 6, 2, 3, 3, 4, 3, 4, 4, 5, 3, 4, 4, 5, 4, 5, 5, 6, 3, 4, 4, 5, 4, 5, 5, 6, 4, 5, 5, 6, 5, 6, 6, 7, 2, 3, 3, 4, 3, 4, 4, 5, 3, 4, 4, 5, 4, 5, 5, 6, 3, 4, 4, 5, 4, 5, 5, 6, 4, 5, 5, 6, 5, 6, 6, 7, 3, 4, 4, 5, 4, 5, 5, 6, 4, 5, 5, 6, 5, 6, 6, 7, 4, 5, 5, 6, 5, 6, 6, 7, 5, 6, 6, 7, 6, 7, 7, 8]⟩)) (.t (K.ofNat 4))⟩, ⟨(some (K.ofNat 6)), none, .mv (.t (K.ofNat 0))⟩, ⟨(some (K.ofNat 7)), none, .bin .and (.t (K.ofNat 6)) (.c (.i .u16 (.ofNat 255)))⟩, ⟨(some (K.ofNat 8)), none, .pr .sidx (.c (.s ⟨#[0, 1, 1, 2, 1, 2, 2, 3, 1, 2, 2, 3, 2, 3, 3, 4, 1, 2, 2, 3, 2, 3, 3, 4, 2, 3, 3, 4, 3, 4, 4, 5, 1, 2, 2, 3, 2, 3, 3, 4, 2, 3, 3, 4, 3, 4, 4, 5, 2, 3, 3, 4, 3, 4, 4, 5, 3, 4, 4, 5, 4, 5, 5, 6, 1, 2, 2, 3, 2, 3, 3, 4, 2, 3, 3, 4, 3, 4, 4, 5, 2, 3, 3, 4, 3, 4, 4, 5, 3, 4, 4, 5, 4, 5, 5, 6, 2, 3, 3, 4, 3, 4, 4, 5, 3, 4, 4, 5, 4, 5, 5, 6, 3, 4, 4, 5, 4, 5, 5, 6, 4, 5, 5, 6, 5, 6, 6, 7, 1, 2, 2, 3, 2, 3, 3, 4, 2, 3, 3, 4, 3, 4, 4, 5, 2, 3, 3, 4, 3, 4, 4, 5, 3, 4, 4, 5, 4, 5, 5, 6, 2, 3, 3, 4, 3, 4, 4, 5, 3, 4, 4, 5, 4, 5, 5, 6, 3, 4, 4, 5, 4, 5, 5, 6, 4, 5, 5, 6, 5, 6, 6, 7, 2, 3, 3, 4, 3, 4, 4, 5, 3, 4, 4, 5, 4, 5, 5, 6, 3, 4, 4, 5, 4, 5, 5, 6, 4, 5, 5, 6, 5, 6, 6, 7, 3, 4, 4, 5, 4, 5, 5, 6, 4, 5, 5, 6, 5, 6, 6, 7, 4, 5, 5, 6, 5, 6, 6, 7, 5, 6, 6, 7, 6, 7, 7, 8]⟩)) (.t (K.ofNat 7))⟩, ⟨(some (K.ofNat 9)), none, .bin .add (.t (K.ofNat 5)) (.t (K.ofNat 8))⟩, ⟨(some (K.ofNat 10)), none, .conv .i64 (.t (K.ofNat 9))⟩], [], (some ⟨(some (K.ofNat 2)), none, .as (.t (K.ofNat 10))⟩), []⟩, ⟨[], [], none, []⟩]
noncomputable def f92_c : EC := (.seq (.reg f92_r0) (.seq (.draw f92_r1) .ret))
noncomputable def f92 : EF := ⟨11, [.tmp (K.ofNat 2)], f92_c, none⟩
theorem f92_rs : f92.rs = [.tmp (K.ofNat 2)] := of_eq_true (eq_self _)
noncomputable def f74_r0 : List EOper := [⟨(some (K.ofNat 2)), none, .as (.c (.i .i64 (.ofNat 0)))⟩]
noncomputable def f74_r1 : List EOper := [⟨(some (K.ofNat 3)), none, .mv (.t (K.ofNat 0))⟩, ⟨(some (K.ofNat 4)), none, .call (.c (.fn (K.ofNat 92) [])) [(.t (K.ofNat 3))]⟩, ⟨(some (K.ofNat 2)), none, .as (.t (K.ofNat 4))⟩]
noncomputable def f74_c : EC := (.seq (.reg f74_r0) (.seq (.reg f74_r1) .ret))
noncomputable def f74 : EF := ⟨5, [.tmp (K.ofNat 2)], f74_c, none⟩
theorem f74_rs : f74.rs = [.tmp (K.ofNat 2)] := of_eq_true (eq_self _)
noncomputable def f75_r0 : List EOper := [⟨(some (K.ofNat 2)), none, .as (.c (.i .i64 (.ofNat 0)))⟩]
noncomputable def f75_r1 : List EOper := [⟨(some (K.ofNat 3)), none, .as (.c (.i .i64 (.ofNat 0)))⟩]
noncomputable def f75_r2 : List EOper := [⟨(some (K.ofNat 6)), none, .mv (.t (K.ofNat 0))⟩, ⟨(some (K.ofNat 7)), none, .len (.t (K.ofNat 6))⟩, ⟨(some (K.ofNat 8)), none, .mv (.c (.i .i64 (.ofNat 0)))⟩]
noncomputable def f75_r3 : List EOper := [⟨(some (K.ofNat 9)), none, .bin .lss (.t (K.ofNat 8)) (.t (K.ofNat 7))⟩]
noncomputable def f75_r4 : List EOper := [⟨(some (K.ofNat 10)), none, .iads 1 (.t (K.ofNat 6)) (.t (K.ofNat 8))⟩, ⟨(some (K.ofNat 11)), none, .ld (.t (K.ofNat 10))⟩, ⟨(some (K.ofNat 5)), none, .as (.t (K.ofNat 11))⟩]
noncomputable def f75_r5 : List EOper := [⟨(some (K.ofNat 12)), none, .mv (.t (K.ofNat 3))⟩, ⟨(some (K.ofNat 13)), none, .mv (.t (K.ofNat 5))⟩, ⟨(some (K.ofNat 14)), none, .bin .add (.t (K.ofNat 12)) (.t (K.ofNat 13))⟩, ⟨(some (K.ofNat 3)), none, .as (.t (K.ofNat 14))⟩]
noncomputable def f75_r6 : List EOper := [⟨(some (K.ofNat 15)), none, .bin .add (.t (K.ofNat 8)) (.c (.i .i64 (.ofNat 1)))⟩, ⟨(some (K.ofNat 8)), none, .mv (.t (K.ofNat 15))⟩]
noncomputable def f75_l0 : EC := (.seq (.reg f75_r3) (.seq (.cond (.t (K.ofNat 9)) .skip (.exit 0)) (.seq (.block 1 (.seq (.reg f75_r4) (.reg f75_r5))) (.reg f75_r6))))
noncomputable def f75_r7 : List EOper := [⟨(some (K.ofNat 16)), none, .mv (.t (K.ofNat 3))⟩, ⟨(some (K.ofNat 2)), none, .as (.t (K.ofNat 16))⟩]
noncomputable def f75_c : EC := (.seq (.reg f75_r0) (.seq (.reg f75_r1) (.seq (.seq (.reg f75_r2) (.block 0 (.loop f75_l0))) (.seq (.reg f75_r7) .ret))))
noncomputable def f75 : EF := ⟨17, [.tmp (K.ofNat 2)], f75_c, none⟩
def T8 : List UInt8 := [0, 1, 1, 2, 1, 2, 2, 3, 1, 2, 2, 3, 2, 3, 3, 4, 1, 2, 2, 3, 2, 3, 3, 4, 2, 3, 3, 4, 3, 4, 4, 5, 1, 2, 2, 3, 2, 3, 3, 4, 2, 3, 3, 4, 3, 4, 4, 5, 2, 3, 3, 4, 3, 4, 4, 5, 3, 4, 4, 5, 4, 5, 5, 6, 1, 2, 2, 3, 2, 3, 3, 4, 2, 3, 3, 4, 3, 4, 4, 5, 2, 3, 3, 4, 3, 4, 4, 5, 3, 4, 4, 5, 4, 5, 5, 6, 2, 3, 3, 4, 3, 4, 4, 5, 3, 4, 4, 5, 4, 5, 5, 6, 3, 4, 4, 5, 4, 5, 5, 6, 4, 5, 5, 6, 5, 6, 6, 7, 1, 2, 2, 3, 2, 3, 3, 4, 2, 3, 3, 4, 3, 4, 4, 5, 2, 3, 3, 4, 3, 4, 4, 5, 3, 4, 4, 5, 4, 5, 5, 6, 2, 3, 3, 4, 3, 4, 4, 5, 3, 4, 4, 5, 4, 5, 5, 6, 3, 4, 4, 5, 4, 5, 5, 6, 4, 5, 5, 6, 5, 6, 6, 7, 2, 3, 3, 4, 3, 4, 4, 5, 3, 4, 4, 5, 4, 5, 5, 6, 3, 4, 4, 5, 4, 5, 5, 6, 4, 5, 5, 6, 5, 6, 6, 7, 3, 4, 4, 5, 4, 5, 5, 6, 4, 5, 5, 6, 5, 6, 6, 7, 4, 5, 5, 6, 5, 6, 6, 7, 5, 6, 6, 7, 6, 7, 7, 8]
def pc8 (k : Nat) : Nat := ((List.range 8).filter fun i => k.testBit i).length
theorem t8_all : ((List.range 256).all fun k => decide (T8[k]? = some (UInt8.ofNat (pc8 k)) ∧ pc8 k ≤ 8)) = true := by decide +kernel
theorem t8_at {k : Nat} (hk : k < 256) : T8[k]? = some (UInt8.ofNat (pc8 k)) ∧ pc8 k ≤ 8 := by
  have := List.all_eq_true.1 t8_all k (by simpa using hk)
  simpa using this
theorem sidx_t8 {kk : IntKind} {k : Nat} (hk : k < 256) : prV .sidx (V.s ⟨#[0, 1, 1, 2, 1, 2, 2, 3, 1, 2, 2, 3, 2, 3, 3, 4, 1, 2, 2, 3, 2, 3, 3, 4, 2, 3, 3, 4, 3, 4, 4, 5, 1, 2, 2, 3, 2, 3, 3, 4, 2, 3, 3, 4, 3, 4, 4, 5, 2, 3, 3, 4, 3, 4, 4, 5, 3, 4, 4, 5, 4, 5, 5, 6, 1, 2, 2, 3, 2, 3, 3, 4, 2, 3, 3, 4, 3, 4, 4, 5, 2, 3, 3, 4, 3, 4, 4, 5, 3, 4, 4, 5, 4, 5, 5, 6, 2, 3, 3, 4, 3, 4, 4, 5, 3, 4, 4, 5, 4, 5, 5, 6, 3, 4, 4, 5, 4, 5, 5, 6, 4, 5, 5, 6, 5, 6, 6, 7, 1, 2, 2, 3, 2, 3, 3, 4, 2, 3, 3, 4, 3, 4, 4, 5, 2, 3, 3, 4, 3, 4, 4, 5, 3, 4, 4, 5, 4, 5, 5, 6, 2, 3, 3, 4, 3, 4, 4, 5, 3, 4, 4, 5, 4, 5, 5, 6, 3, 4, 4, 5, 4, 5, 5, 6, 4, 5, 5, 6, 5, 6, 6, 7, 2, 3, 3, 4, 3, 4, 4, 5, 3, 4, 4, 5, 4, 5, 5, 6, 3, 4, 4, 5, 4, 5, 5, 6, 4, 5, 5, 6, 5, 6, 6, 7, 3, 4, 4, 5, 4, 5, 5, 6, 4, 5, 5, 6, 5, 6, 6, 7, 4, 5, 5, 6, 5, 6, 6, 7, 5, 6, 6, 7, 6, 7, 7, 8]⟩) (.i kk (k : Int)) = some (.i .u8 (pc8 k : Int)) := by
  obtain ⟨h1, h2⟩ := t8_at hk
  have e : bytes ⟨#[0, 1, 1, 2, 1, 2, 2, 3, 1, 2, 2, 3, 2, 3, 3, 4, 1, 2, 2, 3, 2, 3, 3, 4, 2, 3, 3, 4, 3, 4, 4, 5, 1, 2, 2, 3, 2, 3, 3, 4, 2, 3, 3, 4, 3, 4, 4, 5, 2, 3, 3, 4, 3, 4, 4, 5, 3, 4, 4, 5, 4, 5, 5, 6, 1, 2, 2, 3, 2, 3, 3, 4, 2, 3, 3, 4, 3, 4, 4, 5, 2, 3, 3, 4, 3, 4, 4, 5, 3, 4, 4, 5, 4, 5, 5, 6, 2, 3, 3, 4, 3, 4, 4, 5, 3, 4, 4, 5, 4, 5, 5, 6, 3, 4, 4, 5, 4, 5, 5, 6, 4, 5, 5, 6, 5, 6, 6, 7, 1, 2, 2, 3, 2, 3, 3, 4, 2, 3, 3, 4, 3, 4, 4, 5, 2, 3, 3, 4, 3, 4, 4, 5, 3, 4, 4, 5, 4, 5, 5, 6, 2, 3, 3, 4, 3, 4, 4, 5, 3, 4, 4, 5, 4, 5, 5, 6, 3, 4, 4, 5, 4, 5, 5, 6, 4, 5, 5, 6, 5, 6, 6, 7, 2, 3, 3, 4, 3, 4, 4, 5, 3, 4, 4, 5, 4, 5, 5, 6, 3, 4, 4, 5, 4, 5, 5, 6, 4, 5, 5, 6, 5, 6, 6, 7, 3, 4, 4, 5, 4, 5, 5, 6, 4, 5, 5, 6, 5, 6, 6, 7, 4, 5, 5, 6, 5, 6, 6, 7, 5, 6, 6, 7, 6, 7, 7, 8]⟩ = T8 := rfl
  show (oGet (nonneg (k : Int)) none fun n => oGet (nth (bytes ⟨#[0, 1, 1, 2, 1, 2, 2, 3, 1, 2, 2, 3, 2, 3, 3, 4, 1, 2, 2, 3, 2, 3, 3, 4, 2, 3, 3, 4, 3, 4, 4, 5, 1, 2, 2, 3, 2, 3, 3, 4, 2, 3, 3, 4, 3, 4, 4, 5, 2, 3, 3, 4, 3, 4, 4, 5, 3, 4, 4, 5, 4, 5, 5, 6, 1, 2, 2, 3, 2, 3, 3, 4, 2, 3, 3, 4, 3, 4, 4, 5, 2, 3, 3, 4, 3, 4, 4, 5, 3, 4, 4, 5, 4, 5, 5, 6, 2, 3, 3, 4, 3, 4, 4, 5, 3, 4, 4, 5, 4, 5, 5, 6, 3, 4, 4, 5, 4, 5, 5, 6, 4, 5, 5, 6, 5, 6, 6, 7, 1, 2, 2, 3, 2, 3, 3, 4, 2, 3, 3, 4, 3, 4, 4, 5, 2, 3, 3, 4, 3, 4, 4, 5, 3, 4, 4, 5, 4, 5, 5, 6, 2, 3, 3, 4, 3, 4, 4, 5, 3, 4, 4, 5, 4, 5, 5, 6, 3, 4, 4, 5, 4, 5, 5, 6, 4, 5, 5, 6, 5, 6, 6, 7, 2, 3, 3, 4, 3, 4, 4, 5, 3, 4, 4, 5, 4, 5, 5, 6, 3, 4, 4, 5, 4, 5, 5, 6, 4, 5, 5, 6, 5, 6, 6, 7, 3, 4, 4, 5, 4, 5, 5, 6, 4, 5, 5, 6, 5, 6, 6, 7, 4, 5, 5, 6, 5, 6, 6, 7, 5, 6, 6, 7, 6, 7, 7, 8]⟩) n) none fun b => some (V.i .u8 (.ofNat b.toNat))) = _
  rw [e]
  show (oGet (nth T8 k) none fun b => some (V.i .u8 (.ofNat b.toNat))) = _
  rw [nth_eq, h1]
  show some (V.i .u8 (.ofNat (UInt8.ofNat (pc8 k)).toNat)) = _
  have : (UInt8.ofNat (pc8 k)).toNat = pc8 k := by rw [UInt8.toNat_ofNat']; omega
  rw [this]; rfl
def pcN (m : Nat) : Nat := pc8 (m / 256) + pc8 (m % 256)
noncomputable def f92_q (T : V) : List Stage := [⟨[⟨(some (K.ofNat 3)), none, .mv (.t (K.ofNat 0))⟩, ⟨(some (K.ofNat 4)), none, .bin .shr (.t (K.ofNat 3)) (.c (.i .u64 (.ofNat 8)))⟩, ⟨(some (K.ofNat 5)), none, .pr .sidx (.c T) (.t (K.ofNat 4))⟩, ⟨(some (K.ofNat 6)), none, .mv (.t (K.ofNat 0))⟩, ⟨(some (K.ofNat 7)), none, .bin .and (.t (K.ofNat 6)) (.c (.i .u16 (.ofNat 255)))⟩, ⟨(some (K.ofNat 8)), none, .pr .sidx (.c T) (.t (K.ofNat 7))⟩, ⟨(some (K.ofNat 9)), none, .bin .add (.t (K.ofNat 5)) (.t (K.ofNat 8))⟩, ⟨(some (K.ofNat 10)), none, .conv .i64 (.t (K.ofNat 9))⟩], [], (some ⟨(some (K.ofNat 2)), none, .as (.t (K.ofNat 10))⟩), []⟩, ⟨[], [], none, []⟩]
theorem f92_e : f92_r1 = f92_q (V.s ⟨#[0, 1, 1, 2, 1, 2, 2, 3, 1, 2, 2, 3, 2, 3, 3, 4, 1, 2, 2, 3, 2, 3, 3, 4, 2, 3, 3, 4, 3, 4, 4, 5, 1, 2, 2, 3, 2, 3, 3, 4, 2, 3, 3, 4, 3, 4, 4, 5, 2, 3, 3, 4, 3, 4, 4, 5, 3, 4, 4, 5, 4, 5, 5, 6, 1, 2, 2, 3, 2, 3, 3, 4, 2, 3, 3, 4, 3, 4, 4, 5, 2, 3, 3, 4, 3, 4, 4, 5, 3, 4, 4, 5, 4, 5, 5, 6, 2, 3, 3, 4, 3, 4, 4, 5, 3, 4, 4, 5, 4, 5, 5, 6, 3, 4, 4, 5, 4, 5, 5, 6, 4, 5, 5, 6, 5, 6, 6, 7, 1, 2, 2, 3, 2, 3, 3, 4, 2, 3, 3, 4, 3, 4, 4, 5, 2, 3, 3, 4, 3, 4, 4, 5, 3, 4, 4, 5, 4, 5, 5, 6, 2, 3, 3, 4, 3, 4, 4, 5, 3, 4, 4, 5, 4, 5, 5, 6, 3, 4, 4, 5, 4, 5, 5, 6, 4, 5, 5, 6, 5, 6, 6, 7, 2, 3, 3, 4, 3, 4, 4, 5, 3, 4, 4, 5, 4, 5, 5, 6, 3, 4, 4, 5, 4, 5, 5, 6, 4, 5, 5, 6, 5, 6, 6, 7, 3, 4, 4, 5, 4, 5, 5, 6, 4, 5, 5, 6, 5, 6, 6, 7, 4, 5, 5, 6, 5, 6, 6, 7, 5, 6, 6, 7, 6, 7, 7, 8]⟩) := rfl
theorem of255 : Int.ofNat 255 = 255 := of_eq_true (eq_self _)
section
variable {fs : T EF} {h : H} {v : V}
theorem f92_ret {m : Nat} (hm : m ≤ 65535) : Ret fs f92 [.i .u16 (m : Int)] h fun r h' => r = .i .i64 (pcN m : Int) ∧ h' = h := by
  have h1 : binV .shr (.i .u16 (m : Int)) (.i .u64 8) = some (.i .u16 ((m / 256 : Nat) : Int)) := by
    have := bin_shr (k := .u16) (k' := .u64) (m := m) (n := 8)
    rw [show min 8 (IntKind.bits .u16) = 8 from rfl] at this
    exact this
  have h2 : binV .and (.i .u16 (m : Int)) (.i .u16 255) = some (.i .u16 ((m % 256 : Nat) : Int)) := by
    have := bin_and (k := .u16) (m := m) (n := 255) (show m ≤ 65535 by omega) (show 255 ≤ 65535 by omega)
    rw [show m &&& 255 = m % 256 from Nat.and_two_pow_sub_one_eq_mod m 8] at this
    exact this
  have a1 := t8_at (k := m / 256) (by omega)
  have a2 := t8_at (k := m % 256) (by omega)
  have h3 := sidx_t8 (kk := .u16) (k := m / 256) (by omega)
  have h4 := sidx_t8 (kk := .u16) (k := m % 256) (by omega)
  have e1 : (pc8 (m / 256) : Int) + (pc8 (m % 256) : Int) = (pcN m : Int) := by unfold pcN; omega
  have hp : pcN m ≤ 16 := by unfold pcN; omega
  have f8 : fw .u8 (pcN m : Int) = (pcN m : Int) := fw_in (by have : (0 : Int) ≤ (pcN m : Int) := Int.natCast_nonneg _; omega) (by show (pcN m : Int) ≤ 255; omega)
  apply ret_of rfl
  show W fs none f92_c _ _ _
  unfold f92_c
  rw [f92_e]
  generalize V.s ⟨#[0, 1, 1, 2, 1, 2, 2, 3, 1, 2, 2, 3, 2, 3, 3, 4, 1, 2, 2, 3, 2, 3, 3, 4, 2, 3, 3, 4, 3, 4, 4, 5, 1, 2, 2, 3, 2, 3, 3, 4, 2, 3, 3, 4, 3, 4, 4, 5, 2, 3, 3, 4, 3, 4, 4, 5, 3, 4, 4, 5, 4, 5, 5, 6, 1, 2, 2, 3, 2, 3, 3, 4, 2, 3, 3, 4, 3, 4, 4, 5, 2, 3, 3, 4, 3, 4, 4, 5, 3, 4, 4, 5, 4, 5, 5, 6, 2, 3, 3, 4, 3, 4, 4, 5, 3, 4, 4, 5, 4, 5, 5, 6, 3, 4, 4, 5, 4, 5, 5, 6, 4, 5, 5, 6, 5, 6, 6, 7, 1, 2, 2, 3, 2, 3, 3, 4, 2, 3, 3, 4, 3, 4, 4, 5, 2, 3, 3, 4, 3, 4, 4, 5, 3, 4, 4, 5, 4, 5, 5, 6, 2, 3, 3, 4, 3, 4, 4, 5, 3, 4, 4, 5, 4, 5, 5, 6, 3, 4, 4, 5, 4, 5, 5, 6, 4, 5, 5, 6, 5, 6, 6, 7, 2, 3, 3, 4, 3, 4, 4, 5, 3, 4, 4, 5, 4, 5, 5, 6, 3, 4, 4, 5, 4, 5, 5, 6, 4, 5, 5, 6, 5, 6, 6, 7, 3, 4, 4, 5, 4, 5, 5, 6, 4, 5, 5, 6, 5, 6, 6, 7, 4, 5, 5, 6, 5, 6, 6, 7, 5, 6, 6, 7, 6, 7, 7, 8]⟩ = T at *
  simp (disch := omega) only [f92_r0, f92_q, f92_rs, w_reg, w_draw, w_seq, w_ret, seqK_n, retK_r, x_nil, x_as, kg, xg_nil, xg_mv, xg_bin, xg_conv, xd_cons, fresh_nil, stK_n, stK_s, stay_nil, rvP_ok, okv_some, ev_t, ev_c, getV_some, putD_some, bin_add, onI_i, oGet_s, readRs_nil, readRs_t, retV_1, frame_1, of0, of8, Option.some.injEq, exists_eq_left', getK_set, Nat.reduceEqDiff, ↓reduceIte, xg_pr, of8, of255, h1, h2, h3, h4, e1, f8, fw64, and_self]
theorem f74_ret {m : Nat} (h92 : fs.get (K.ofNat 92) = some f92) (hm : m ≤ 65535) : Ret fs f74 [.i .u16 (m : Int)] h fun r h' => r = .i .i64 (pcN m : Int) ∧ h' = h := by
  apply ret_of rfl
  show W fs none f74_c _ _ _
  unfold f74_c
  simp (disch := omega) only [f74_r0, f74_r1, w_reg, w_seq, seqK_n, x_nil, x_mv, x_as, x_call, ev_t, ev_c, evs_nil, evs_cons, getV_some, putD_some, frame_1, of0, getK_set, Nat.reduceEqDiff, ↓reduceIte]
  refine (callP_0 (ef := f92) h92 rfl (f92_ret hm)).mono ?_
  rintro r h1 ⟨rfl, e⟩
  rw [e]
  simp (disch := omega) only [f74_rs, w_ret, seqK_n, retK_r, x_nil, x_as, kx, ev_t, getV_some, putD_some, oGet_s, readRs_nil, readRs_t, retV_1, Option.some.injEq, exists_eq_left', getK_set, ↓reduceIte, and_self]
def smI (L : List Int) : Int := L.foldl (· + ·) 0
end
end Go.Ev
namespace Go.Ev
open Go Go.RowKit
noncomputable def f52_r0 : List EOper := [⟨(some (K.ofNat 4)), none, .as (.c (.i .i64 (.ofNat 0)))⟩]
noncomputable def f52_r1 : List EOper := [⟨(some (K.ofNat 5)), none, .as (.c .sn)⟩]
noncomputable def f52_r2 : List EOper := [⟨(some (K.ofNat 9)), none, .mv (.t (K.ofNat 0))⟩, ⟨(some (K.ofNat 10)), none, .slice 1 (.t (K.ofNat 9)) (some (.c (.i .i64 (.ofNat 1)))) none none⟩, ⟨(some (K.ofNat 11)), none, .len (.t (K.ofNat 10))⟩, ⟨(some (K.ofNat 12)), none, .mv (.c (.i .i64 (.ofNat 0)))⟩]
noncomputable def f52_r3 : List EOper := [⟨(some (K.ofNat 13)), none, .bin .lss (.t (K.ofNat 12)) (.t (K.ofNat 11))⟩]
noncomputable def f52_r4 : List EOper := [⟨(some (K.ofNat 14)), none, .mv (.t (K.ofNat 12))⟩, ⟨(some (K.ofNat 15)), none, .iads 1 (.t (K.ofNat 10)) (.t (K.ofNat 12))⟩, ⟨(some (K.ofNat 16)), none, .ld (.t (K.ofNat 15))⟩, ⟨(some (K.ofNat 6)), none, .as (.t (K.ofNat 14))⟩, ⟨(some (K.ofNat 7)), none, .as (.t (K.ofNat 16))⟩]
noncomputable def f52_r5 : List EOper := [⟨(some (K.ofNat 17)), none, .mv (.t (K.ofNat 0))⟩, ⟨(some (K.ofNat 18)), none, .mv (.t (K.ofNat 6))⟩, ⟨(some (K.ofNat 19)), none, .iads 1 (.t (K.ofNat 17)) (.t (K.ofNat 18))⟩, ⟨(some (K.ofNat 20)), none, .ld (.t (K.ofNat 19))⟩, ⟨(some (K.ofNat 21)), none, .call (.c (.fn (K.ofNat 73) [])) [(.t (K.ofNat 20))]⟩, ⟨(some (K.ofNat 22)), none, .mv (.t (K.ofNat 7))⟩, ⟨(some (K.ofNat 23)), none, .call (.c (.fn (K.ofNat 73) [])) [(.t (K.ofNat 22))]⟩, ⟨(some (K.ofNat 24)), none, .bin .xor (.t (K.ofNat 21)) (.t (K.ofNat 23))⟩, ⟨(some (K.ofNat 8)), none, .as (.t (K.ofNat 24))⟩]
noncomputable def f52_r6 : List EOper := [⟨(some (K.ofNat 25)), none, .mv (.t (K.ofNat 5))⟩, ⟨(some (K.ofNat 26)), none, .mv (.t (K.ofNat 1))⟩, ⟨(some (K.ofNat 27)), none, .mv (.t (K.ofNat 8))⟩, ⟨(some (K.ofNat 28)), none, .call (.c (.fn (K.ofNat 74) [])) [(.t (K.ofNat 27))]⟩, ⟨(some (K.ofNat 29)), none, .bin .sub (.t (K.ofNat 26)) (.t (K.ofNat 28))⟩, ⟨(some (K.ofNat 30)), none, .bslice 1 1 [(.i .i64 (.ofNat 0))] [(0, 1, (.t (K.ofNat 29)))]⟩, ⟨(some (K.ofNat 31)), none, .app 1 (.t (K.ofNat 25)) (.t (K.ofNat 30))⟩, ⟨(some (K.ofNat 5)), none, .as (.t (K.ofNat 31))⟩]
noncomputable def f52_r7 : List EOper := [⟨(some (K.ofNat 32)), none, .bin .add (.t (K.ofNat 12)) (.c (.i .i64 (.ofNat 1)))⟩, ⟨(some (K.ofNat 12)), none, .mv (.t (K.ofNat 32))⟩]
noncomputable def f52_l0 : EC := (.seq (.reg f52_r3) (.seq (.cond (.t (K.ofNat 13)) .skip (.exit 0)) (.seq (.block 1 (.seq (.reg f52_r4) (.seq (.reg f52_r5) (.reg f52_r6)))) (.reg f52_r7))))
noncomputable def f52_r8 : List EOper := [⟨(some (K.ofNat 33)), none, .mv (.t (K.ofNat 5))⟩, ⟨(some (K.ofNat 34)), none, .call (.c (.fn (K.ofNat 75) [])) [(.t (K.ofNat 33))]⟩, ⟨(some (K.ofNat 4)), none, .as (.t (K.ofNat 34))⟩]
noncomputable def f52_c : EC := (.seq (.reg f52_r0) (.seq (.reg f52_r1) (.seq (.seq (.reg f52_r2) (.block 0 (.loop f52_l0))) (.seq (.reg f52_r8) .ret))))
noncomputable def f52 : EF := ⟨35, [.tmp (K.ofNat 4)], f52_c, none⟩
noncomputable def f16_r0 : List EOper := [⟨(some (K.ofNat 4)), none, .as (.c (.i .i64 (.ofNat 0)))⟩, ⟨(some (K.ofNat 5)), none, .as (.c (.i .i64 (.ofNat 0)))⟩]
noncomputable def f16_r1 : List EOper := [⟨(some (K.ofNat 9)), none, .mv (.t (K.ofNat 0))⟩, ⟨(some (K.ofNat 10)), none, .mv (.t (K.ofNat 1))⟩, ⟨(some (K.ofNat 11)), none, .call (.c (.fn (K.ofNat 51) [])) [(.t (K.ofNat 9)), (.t (K.ofNat 10))]⟩, ⟨(some (K.ofNat 8)), none, .mv (.t (K.ofNat 11))⟩, ⟨(some (K.ofNat 12)), none, .ext (.t (K.ofNat 8)) 0⟩, ⟨(some (K.ofNat 13)), none, .ext (.t (K.ofNat 8)) 1⟩, ⟨(some (K.ofNat 6)), none, .as (.t (K.ofNat 12))⟩, ⟨(some (K.ofNat 7)), none, .as (.t (K.ofNat 13))⟩]
noncomputable def f16_r2 : List EOper := [⟨(some (K.ofNat 14)), none, .mv (.t (K.ofNat 7))⟩, ⟨(some (K.ofNat 15)), none, .bin .neq (.t (K.ofNat 14)) (.c (.i .i64 (.ofNat 0)))⟩]
noncomputable def f16_r3 : List EOper := [⟨(some (K.ofNat 16)), none, .mv (.t (K.ofNat 7))⟩, ⟨(some (K.ofNat 4)), none, .as (.c (.i .i64 (.ofNat 0)))⟩, ⟨(some (K.ofNat 5)), none, .as (.t (K.ofNat 16))⟩]
noncomputable def f16_r4 : List EOper := [⟨(some (K.ofNat 17)), none, .mv (.t (K.ofNat 6))⟩, ⟨(some (K.ofNat 18)), none, .mv (.t (K.ofNat 0))⟩, ⟨(some (K.ofNat 19)), none, .call (.c (.fn (K.ofNat 52) [])) [(.t (K.ofNat 17)), (.t (K.ofNat 18))]⟩, ⟨(some (K.ofNat 4)), none, .as (.t (K.ofNat 19))⟩, ⟨(some (K.ofNat 5)), none, .as (.c (.i .i64 (.ofNat 0)))⟩]
noncomputable def f16_c : EC := (.seq (.reg f16_r0) (.seq (.reg f16_r1) (.seq (.seq (.reg f16_r2) (.cond (.t (K.ofNat 15)) (.seq (.reg f16_r3) .ret) .skip)) (.seq (.reg f16_r4) .ret))))
noncomputable def f16 : EF := ⟨20, [.tmp (K.ofNat 4), .tmp (K.ofNat 5)], f16_c, none⟩
/-- For how many teams one is at home and the other isn't. -/
def dfC (l l' : List (Int × Int)) : Nat := ((List.range 16).filter fun t => hoB l t != hoB l' t).length
theorem pcN_bits {m : Nat} : pcN m = ((List.range 16).filter fun t => m.testBit t).length := by
  have h1 : List.range 16 = List.range 8 ++ (List.range 8).map (· + 8) := by decide
  rw [h1, List.filter_append, List.length_append, List.filter_map, List.length_map]
  unfold pcN pc8
  rw [Nat.add_comm]
  congr 1
  · congr 1
    refine List.filter_congr fun t ht => ?_
    have ht : t < 8 := by simpa using ht
    have := Nat.testBit_mod_two_pow m 8 t
    rw [show (2 : Nat) ^ 8 = 256 from rfl] at this
    rw [this, decide_eq_true ht, Bool.true_and]
  · congr 1
    refine List.filter_congr fun t _ => ?_
    have := Nat.testBit_div_two_pow (n := 8) m t
    rw [show (2 : Nat) ^ 8 = 256 from rfl] at this
    rw [this]; rfl
/-- Breaks between each two rounds. -/
def bkL (n : Nat) (Ls : List (List (Int × Int))) (i : Nat) : List Int := (List.range i).map fun i => (n : Int) - (dfC (Ls.getD i []) (Ls.getD (i + 1) []) : Int)
structure CallsBk (fs : T EF) : Prop extends CallsO fs where
  c16 : fs.get (K.ofNat 16) = some f16
  c52 : fs.get (K.ofNat 52) = some f52
  c74 : fs.get (K.ofNat 74) = some f74
  c75 : fs.get (K.ofNat 75) = some f75
  c92 : fs.get (K.ofNat 92) = some f92
section
variable {fs : T EF} {h : H} {v : V} {us : List V} {Ls : List (List (Int × Int))}
end
end Go.Ev
namespace Go.Ev
open Go Go.RowKit
section
variable {fs : T EF} {h : H} {v : V} {us : List V} {Ls : List (List (Int × Int))}
end
end Go.Ev
namespace Go.Ev
open Go Go.RowKit
noncomputable def f31_r0 : List EOper := [⟨(some (K.ofNat 4)), none, .as (.c (.b false))⟩]
noncomputable def f31_r1 : List EOper := [⟨(some (K.ofNat 7)), none, .mv (.t (K.ofNat 0))⟩, ⟨(some (K.ofNat 8)), none, .len (.t (K.ofNat 7))⟩, ⟨(some (K.ofNat 9)), none, .mv (.t (K.ofNat 1))⟩, ⟨(some (K.ofNat 10)), none, .len (.t (K.ofNat 9))⟩, ⟨(some (K.ofNat 11)), none, .bin .neq (.t (K.ofNat 8)) (.t (K.ofNat 10))⟩]
noncomputable def f31_r2 : List EOper := [⟨(some (K.ofNat 4)), none, .as (.c (.b false))⟩]
noncomputable def f31_r3 : List EOper := [⟨(some (K.ofNat 5)), none, .as (.c (.i .i64 (.ofNat 0)))⟩]
noncomputable def f31_r4 : List EOper := [⟨(some (K.ofNat 12)), none, .mv (.t (K.ofNat 5))⟩, ⟨(some (K.ofNat 13)), none, .mv (.t (K.ofNat 0))⟩, ⟨(some (K.ofNat 14)), none, .len (.t (K.ofNat 13))⟩, ⟨(some (K.ofNat 15)), none, .bin .lss (.t (K.ofNat 12)) (.t (K.ofNat 14))⟩]
noncomputable def f31_r5 : List Stage := [⟨[⟨(some (K.ofNat 18)), none, .mv (.t (K.ofNat 0))⟩, ⟨(some (K.ofNat 19)), none, .mv (.t (K.ofNat 5))⟩, ⟨(some (K.ofNat 20)), none, .iads 1 (.t (K.ofNat 18)) (.t (K.ofNat 19))⟩, ⟨(some (K.ofNat 21)), none, .ld (.t (K.ofNat 20))⟩, ⟨(some (K.ofNat 22)), none, .len (.t (K.ofNat 21))⟩, ⟨(some (K.ofNat 23)), none, .mv (.t (K.ofNat 1))⟩, ⟨(some (K.ofNat 24)), none, .mv (.t (K.ofNat 5))⟩, ⟨(some (K.ofNat 25)), none, .iads 1 (.t (K.ofNat 23)) (.t (K.ofNat 24))⟩, ⟨(some (K.ofNat 26)), none, .ld (.t (K.ofNat 25))⟩, ⟨(some (K.ofNat 27)), none, .len (.t (K.ofNat 26))⟩, ⟨(some (K.ofNat 28)), none, .bin .neq (.t (K.ofNat 22)) (.t (K.ofNat 27))⟩], [], none, []⟩]
noncomputable def f31_r6 : List EOper := [⟨(some (K.ofNat 4)), none, .as (.c (.b false))⟩]
noncomputable def f31_r7 : List EOper := [⟨(some (K.ofNat 6)), none, .as (.c (.i .i64 (.ofNat 0)))⟩]
noncomputable def f31_r8 : List EOper := [⟨(some (K.ofNat 29)), none, .mv (.t (K.ofNat 6))⟩, ⟨(some (K.ofNat 30)), none, .mv (.t (K.ofNat 0))⟩, ⟨(some (K.ofNat 31)), none, .mv (.t (K.ofNat 5))⟩, ⟨(some (K.ofNat 32)), none, .iads 1 (.t (K.ofNat 30)) (.t (K.ofNat 31))⟩, ⟨(some (K.ofNat 33)), none, .ld (.t (K.ofNat 32))⟩, ⟨(some (K.ofNat 34)), none, .len (.t (K.ofNat 33))⟩, ⟨(some (K.ofNat 35)), none, .bin .lss (.t (K.ofNat 29)) (.t (K.ofNat 34))⟩]
noncomputable def f31_r9 : List Stage := [⟨[⟨(some (K.ofNat 38)), none, .mv (.t (K.ofNat 0))⟩, ⟨(some (K.ofNat 39)), none, .mv (.t (K.ofNat 5))⟩, ⟨(some (K.ofNat 40)), none, .iads 1 (.t (K.ofNat 38)) (.t (K.ofNat 39))⟩, ⟨(some (K.ofNat 41)), none, .ld (.t (K.ofNat 40))⟩, ⟨(some (K.ofNat 42)), none, .mv (.t (K.ofNat 6))⟩, ⟨(some (K.ofNat 43)), none, .iads 2 (.t (K.ofNat 41)) (.t (K.ofNat 42))⟩, ⟨(some (K.ofNat 44)), none, .ldn 2 (.t (K.ofNat 43))⟩, ⟨(some (K.ofNat 45)), none, .mv (.t (K.ofNat 1))⟩, ⟨(some (K.ofNat 46)), none, .mv (.t (K.ofNat 5))⟩, ⟨(some (K.ofNat 47)), none, .iads 1 (.t (K.ofNat 45)) (.t (K.ofNat 46))⟩, ⟨(some (K.ofNat 48)), none, .ld (.t (K.ofNat 47))⟩, ⟨(some (K.ofNat 49)), none, .mv (.t (K.ofNat 6))⟩, ⟨(some (K.ofNat 50)), none, .iads 2 (.t (K.ofNat 48)) (.t (K.ofNat 49))⟩, ⟨(some (K.ofNat 51)), none, .ldn 2 (.t (K.ofNat 50))⟩, ⟨(some (K.ofNat 52)), none, .eqk (.many [(some .i64), (some .i64)]) true (.t (K.ofNat 44)) (.t (K.ofNat 51))⟩], [], none, []⟩]
noncomputable def f31_r10 : List EOper := [⟨(some (K.ofNat 4)), none, .as (.c (.b false))⟩]
noncomputable def f31_r11 : List EOper := [⟨(some (K.ofNat 36)), none, .mv (.t (K.ofNat 6))⟩, ⟨(some (K.ofNat 37)), none, .bin .add (.t (K.ofNat 36)) (.c (.i .i64 (.ofNat 1)))⟩, ⟨(some (K.ofNat 6)), none, .as (.t (K.ofNat 37))⟩]
noncomputable def f31_l0 : EC := (.seq (.seq (.reg f31_r8) (.cond (.t (K.ofNat 35)) .skip (.exit 2))) (.seq (.block 3 (.seq (.draw f31_r9) (.cond (.t (K.ofNat 52)) (.seq (.reg f31_r10) .ret) .skip))) (.reg f31_r11)))
noncomputable def f31_r12 : List EOper := [⟨(some (K.ofNat 16)), none, .mv (.t (K.ofNat 5))⟩, ⟨(some (K.ofNat 17)), none, .bin .add (.t (K.ofNat 16)) (.c (.i .i64 (.ofNat 1)))⟩, ⟨(some (K.ofNat 5)), none, .as (.t (K.ofNat 17))⟩]
noncomputable def f31_l1 : EC := (.seq (.seq (.reg f31_r4) (.cond (.t (K.ofNat 15)) .skip (.exit 0))) (.seq (.block 1 (.seq (.seq (.draw f31_r5) (.cond (.t (K.ofNat 28)) (.seq (.reg f31_r6) .ret) .skip)) (.seq (.reg f31_r7) (.block 2 (.loop f31_l0))))) (.reg f31_r12)))
noncomputable def f31_r13 : List EOper := [⟨(some (K.ofNat 4)), none, .as (.c (.b true))⟩]
noncomputable def f31_c : EC := (.seq (.reg f31_r0) (.seq (.seq (.reg f31_r1) (.cond (.t (K.ofNat 11)) (.seq (.reg f31_r2) .ret) .skip)) (.seq (.seq (.reg f31_r3) (.block 0 (.loop f31_l1))) (.seq (.reg f31_r13) .ret))))
noncomputable def f31 : EF := ⟨53, [.tmp (K.ofNat 4)], f31_c, none⟩
theorem f31_rs : f31.rs = [.tmp (K.ofNat 4)] := of_eq_true (eq_self _)
section
variable {fs : T EF} {h : H} {v w : V} {us ws : List V} {Ls : List (List (Int × Int))} {L : List Int}
def f31_I (h : H) (v w : V) (Ls : List (List (Int × Int))) (i : Nat) (fr : Fr) (h1 : H) : Prop := i ≤ Ls.length ∧ h1 = h ∧ fr.get (K.ofNat 0) = some (v) ∧ fr.get (K.ofNat 1) = some (w) ∧ fr.get (K.ofNat 5) = some (.i .i64 (i : Int))
def f31_J (h : H) (v w : V) (l : List (Int × Int)) (i j : Nat) (fr : Fr) (h1 : H) : Prop := j ≤ l.length ∧ h1 = h ∧ fr.get (K.ofNat 0) = some (v) ∧ fr.get (K.ofNat 1) = some (w) ∧ fr.get (K.ofNat 5) = some (.i .i64 (i : Int)) ∧ fr.get (K.ofNat 6) = some (.i .i64 (j : Int))
theorem f31_same (hv : Nrp h v us Ls) (hw : Nrp h w ws Ls) (hF : Ls.length ≤ 1000 ∧ ∀ l ∈ Ls, l.length ≤ 1000) (hI : ∀ l ∈ Ls, ∀ e ∈ l, inR .i64 e.1 = true ∧ inR .i64 e.2 = true) : Ret fs f31 [v, w] h fun r h' => r = .b true ∧ h' = h := by
  have hl1 : ∀ h1, lenV v h1 = .ok (.i .i64 (Ls.length : Int)) h1 := fun h1 => by rw [hv.out.len, hv.len]
  have hl2 : ∀ h1, lenV w h1 = .ok (.i .i64 (Ls.length : Int)) h1 := fun h1 => by rw [hw.out.len, hw.len]
  have d : decide ((Ls.length : Int) ≠ (Ls.length : Int)) = false := by simp
  apply ret_of rfl
  show W fs none f31_c _ _ _
  unfold f31_c
  simp (disch := omega) only [f31_r0, f31_r1, f31_r3, w_skip, w_reg, w_seq, w_cond, w_block, seqK_n, ckB_b, cbB_b, true_and, x_nil, x_mv, x_as, x_bin, x_len, kx, rvP_ok, okv_some, ev_t, ev_c, getV_some, putD_some, bin_neq, frame_2, of0, getK_set, Nat.reduceEqDiff, ↓reduceIte, Bool.false_eq_true, hl1, hl2, d]
  refine W_loop (f31_I h v w Ls) (fun i => Ls.length - i) ?_ 0 ⟨by omega, rfl, by simp (disch := omega) only [getK_set, Nat.reduceEqDiff, ↓reduceIte, and_self, Int.natCast_zero]⟩
  rintro i fr h1 ⟨hi, rfl, g0, g1, g5⟩
  unfold f31_l1
  by_cases hlt : i < Ls.length
  · have d0 : decide ((i : Int) < (Ls.length : Int)) = true := by simpa using hlt
    have hL := hF.1
    have hiu : i < us.length := by rw [hv.len]; exact hlt
    have hiw : i < ws.length := by rw [hw.len]; exact hlt
    obtain ⟨p, hp1, hp2'⟩ := hv.out.at i hiu
    have hp2 : loadV h1 p one? = .ok us[i] h1 := hp2'
    clear hp2'
    obtain ⟨q, hq1, hq2'⟩ := hw.out.at i hiw
    have hq2 : loadV h1 q one? = .ok ws[i] h1 := hq2'
    clear hq2'
    have hu := hv.inn i hiu hlt
    have hx := hw.inn i hiw hlt
    have hl := hF.2 Ls[i] (List.getElem_mem hlt)
    have hIl := hI Ls[i] (List.getElem_mem hlt)
    generalize us[i] = u at *
    generalize ws[i] = x at *
    generalize Ls[i] = l at *
    have lu := hu.len
    have lx := hx.len
    have d1 : decide ((l.length : Int) ≠ (l.length : Int)) = false := by simp
    simp (disch := omega) only [f31_r4, f31_r5, f31_r7, w_skip, w_reg, w_draw, w_seq, w_cond, w_block, seqK_n, ckB_b, cbB_b, true_and, x_nil, x_mv, x_as, x_bin, x_len, kx, kg, xg_nil, xg_mv, xg_ld, xg_bin, xg_iads, xg_len, xd_cons, fresh_nil, stK_n, stay_nil, rvP_ok, okv_some, ev_t, ev_c, getV_some, putD_some, bin_neq, bin_lss, of0, getK_set, Nat.reduceEqDiff, ↓reduceIte, Bool.false_eq_true, g0, g1, g5, hl1, d0, hp1, hp2, hq1, hq2, lu, lx, d1]
    refine W_loop (f31_J h1 v w l i) (fun j => l.length - j) ?_ 0 ⟨by omega, rfl, by simp (disch := omega) only [getK_set, Nat.reduceEqDiff, ↓reduceIte, g0, g1, g5, and_self, Int.natCast_zero]⟩
    clear g0 g1 g5 fr
    rintro j fr h2 ⟨hj, rfl, g0, g1, g5, g6⟩
    unfold f31_l0
    by_cases hlt2 : j < l.length
    · have d2 : decide ((j : Int) < (l.length : Int)) = true := by simpa using hlt2
      obtain ⟨ida, a, ha1, ha2, _, _⟩ := hu.at2 hlt2
      obtain ⟨idb, b, hb1, hb2, _, _⟩ := hx.at2 hlt2
      obtain ⟨r1, r2⟩ := hIl l[j] (List.getElem_mem hlt2)
      have hke : keyEq (.many [some .i64, some .i64]) (.agg [.i .i64 l[j].1, .i .i64 l[j].2]) (.agg [.i .i64 l[j].1, .i .i64 l[j].2]) = some true := by rw [keyEq_2 r1 r2 r1 r2]; simp
      simp (disch := omega) only [f31_r8, f31_r9, f31_r11, w_skip, w_reg, w_draw, w_seq, w_cond, w_block, seqK_n, atK_n, loopK_n, ckB_b, cbB_b, true_and, x_nil, x_mv, x_as, x_ld, x_bin, x_iads, x_len, kx, kg, xg_nil, xg_mv, xg_ld, xg_ldn, xg_eqk, xg_iads, xd_cons, fresh_nil, stK_n, stay_nil, rvP_ok, okv_some, ev_t, ev_c, getV_some, putD_some, bin_add, bin_lss, oGet_s, of1, getK_set, Nat.reduceEqDiff, ↓reduceIte, Bool.not_true, g0, g1, g5, g6, hp1, hp2, lu, d2, ha1, ha2, hq1, hq2, hb1, hb2, hke, fw64, Bool.not_true]
      exact ⟨j + 1, by omega, by omega, rfl, by simp (disch := omega) only [getK_set, Nat.reduceEqDiff, ↓reduceIte, g0, g1, g5, and_self, Int.natCast_add, Int.natCast_one]⟩
    · have d2 : decide ((j : Int) < (l.length : Int)) = false := by simpa using hlt2
      simp (disch := omega) only [f31_r8, f31_r12, w_reg, w_seq, w_cond, w_exit, seqK_n, seqK_e, atK_n, atK_e, loopK_n, loopK_e, ckB_b, cbB_b, true_and, x_nil, x_mv, x_as, x_ld, x_bin, x_iads, x_len, kx, rvP_ok, okv_some, ev_t, ev_c, getV_some, putD_some, bin_add, bin_lss, of1, getK_set, Nat.reduceEqDiff, ↓reduceIte, Bool.false_eq_true, g0, g5, g6, hp1, hp2, lu, d2, fw64]
      exact ⟨i + 1, by omega, by omega, rfl, by simp (disch := omega) only [getK_set, Nat.reduceEqDiff, ↓reduceIte, g0, g1, and_self, Int.natCast_add, Int.natCast_one]⟩
  · have d0 : decide ((i : Int) < (Ls.length : Int)) = false := by simpa using hlt
    simp (disch := omega) only [f31_r4, f31_r13, f31_rs, w_reg, w_seq, w_cond, w_exit, w_ret, seqK_n, seqK_e, atK_e, loopK_e, ckB_b, cbB_b, retK_r, x_nil, x_mv, x_as, x_bin, x_len, kx, rvP_ok, okv_some, ev_t, ev_c, getV_some, putD_some, bin_lss, oGet_s, readRs_nil, readRs_t, retV_1, Option.some.injEq, exists_eq_left', getK_set, Nat.reduceEqDiff, ↓reduceIte, Bool.false_eq_true, g0, g5, hl1, d0, and_self]
end
end Go.Ev
namespace Go.Ev
open Go Go.RowKit
section
variable {h : H} {w : V} {xs : List V} {Q : List (List (Int × Int))} {b : Nat}
theorem mks_sn {k : IntKind} {n : Nat} (hn : n ≤ 1000000) : mksV 1 [.sn] h (.i k (n : Int)) = .ok (.sl h.nx 0 n 1) (h.new (.cells (n * 1) (rep [.sn] n))) := by
  show (bif Nat.ble n 1000000 then RV.ok (.sl h.nx 0 n 1) (h.new (.cells (n * 1) (rep [.sn] n))) else .no) = _
  rw [Nat.ble_eq_true_of_le hn]; rfl
theorem mkssn_sl {n : Nat} : Sl vE (h.new (.cells (n * 1) (rep [.sn] n))) (.sl h.nx 0 n 1) (List.replicate n .sn) :=
  .inr ⟨h.nx, 0, n * 1, rep [.sn] n, by rw [List.length_replicate], get_new_same, by rw [rep_cell, List.length_replicate, Nat.mul_one], by rw [List.length_replicate]; omega, fun i hi => by
    have hi : i < n := by simpa using hi
    rw [rep_cell, Nat.zero_add, List.getElem?_replicate, if_pos hi, List.getElem_replicate]; rfl⟩
theorem Sld.empty {n : Nat} : Sld (h.new (.cells (n * 1) (rep [.sn] n))) (.sl h.nx 0 n 1) (List.replicate n .sn) (List.replicate n []) := by
  have sk : ∀ i (h1 : i < (List.replicate n V.sn).length) (h2 : i < (List.replicate n ([] : List (Int × Int))).length), Sk 2 qE (h.new (.cells (n * 1) (rep [.sn] n))) (List.replicate n V.sn)[i] (List.replicate n ([] : List (Int × Int)))[i] := fun i h1 h2 => by
    rw [List.getElem_replicate, List.getElem_replicate]; exact Sk.nil
  exact ⟨⟨by simp, mkssn_sl, fun i h1 h2 => (sk i h1 h2).srp, fun u hu id off n' sz e => by rw [(List.mem_replicate.1 hu).2] at e; cases e⟩, sk, fun i j hi hj _ id off n' sz e => by rw [List.getElem_replicate] at e; cases e⟩
/-- One game more in a row. -/
theorem Sld.row (s : Sld h w xs Q) (how : Own b w) (hox : ∀ x ∈ xs, Own b x) (hb : b ≤ h.nx.nat) (hc : HC h) {i : Nat} (hi : i < xs.length) (hi2 : i < Q.length) {x : Int × Int} (hn : Q[i].length < 16777216) :
    ∃ u' h' p id m cs', appV 2 (h.new (.cells (1 * 2) [.i .i64 x.1, .i .i64 x.2])) xs[i] (.sl h.nx 0 1 2) = .ok u' h' ∧ (∀ k h1, iadsV 1 w (.i k (i : Int)) h1 = .ok p h1) ∧ loadV h p one? = .ok xs[i] h ∧ storeV h' 1 p u' = .ok undefV (h'.put id (.cells m cs')) ∧ Sld (h'.put id (.cells m cs')) w (xs.set i u') (Q.set i (Q[i] ++ [x])) ∧ (∀ y ∈ xs.set i u', Own b y) ∧ Grow b h (h'.put id (.cells m cs')) ∧ (∀ k : K, k.nat < h.nx.nat → (∀ off n sz, w ≠ .sl k off n sz) → (∀ y ∈ xs, NotIn k y) → (h'.put id (.cells m cs')).get k = h.get k) := by
  have hbw : ∀ id off n sz, w = .sl id off n sz → id.nat < h.nx.nat := s.out.lt hc
  have hbx : ∀ j (hj : j < xs.length), ∀ id off n sz, xs[j] = .sl id off n sz → id.nat < h.nx.nat := fun j hj => (s.sk j hj (by rw [← s.len]; exact hj)).lt hc
  obtain ⟨u', h', a1, s1, o1, gr1, k1⟩ := Sk.push qE_len (by omega) (x := x) (s.sk i hi hi2) (hox _ (List.getElem_mem hi)) hb hc hn
  have hc' := gr1.hc hc
  have nw : ∀ id off n sz, w = .sl id off n sz → NotIn id xs[i] := fun id off n sz e off' n' sz' e' => s.sep _ (List.getElem_mem hi) _ _ _ _ e' _ _ _ e
  have hout : Sl vE h' w xs := s.out.same fun id off n sz e => (k1 id (hbw _ _ _ _ e) (nw _ _ _ _ e)).1
  obtain ⟨p0, q1, q2⟩ := s.out.at i hi
  obtain ⟨p, id, m, cs', b1, b2, b3, ⟨off, n, sz, b4⟩, b5⟩ := hout.st hi (x := u') (c := u') rfl s1.one hc'
  obtain rfl : p0 = p := by have := (q1 .i64 h').symm.trans (b1 .i64 h'); injection this
  have hidb := how _ _ _ _ b4
  have nwu : NotIn id u' := (k1 id (hbw _ _ _ _ b4) (nw _ _ _ _ b4)).2
  have sk : ∀ j (h1 : j < (xs.set i u').length) (h2 : j < (Q.set i (Q[i] ++ [x])).length), Sk 2 qE (h'.put id (.cells m cs')) (xs.set i u')[j] (Q.set i (Q[i] ++ [x]))[j] := fun j h1 h2 => by
    have hj : j < xs.length := by simpa using h1
    have hj2 : j < Q.length := by simpa using h2
    rw [List.getElem_set, List.getElem_set]
    by_cases e : i = j
    · rw [if_pos e, if_pos e]; exact s1.put nwu _
    · rw [if_neg e, if_neg e]
      refine ((s.sk j hj hj2).same fun id' off' n' sz' e' => (k1 id' (hbx j hj _ _ _ _ e') (s.dis j i hj hi (Ne.symm e) _ _ _ _ e')).1).put (fun off' n' sz' e' => s.sep _ (List.getElem_mem hj) _ _ _ _ e' _ _ _ b4) _
  refine ⟨u', h', p0, id, m, cs', a1, b1, q2, b2, ⟨⟨by simp [s.len], b3, fun j h1 h2 => (sk j h1 h2).srp, fun y hy id' off' n' sz' e' => ?_⟩, sk, fun j j' hj hj' hjj id' off' n' sz' e' => ?_⟩, fun y hy => ?_, gr1.trans (Grow.put hidb b5 _), fun k2 hk hw hx => ?_⟩
  · rcases List.mem_or_eq_of_mem_set hy with hy | hy
    · exact s.sep y hy _ _ _ _ e'
    · rw [hy] at e'
      intro off2 n2 sz2 e2
      exact (k1 id' (hbw _ _ _ _ e2) (nw _ _ _ _ e2)).2 _ _ _ e'
  · have hj1 : j < xs.length := by simpa using hj
    have hj2 : j' < xs.length := by simpa using hj'
    rw [List.getElem_set] at e' ⊢
    by_cases e : i = j
    · rw [if_pos e] at e'
      have e3 : ¬ i = j' := fun e3 => hjj (e.symm.trans e3)
      rw [if_neg e3]
      intro off2 n2 sz2 e2
      exact (k1 id' (hbx j' hj2 _ _ _ _ e2) (s.dis j' i hj2 hi (fun q => e3 q.symm) _ _ _ _ e2)).2 _ _ _ e'
    · rw [if_neg e] at e'
      by_cases e3 : i = j'
      · rw [if_pos e3]
        exact (k1 id' (hbx j hj1 _ _ _ _ e') (s.dis j i hj1 hi (fun q => e q.symm) _ _ _ _ e')).2
      · rw [if_neg e3]
        exact s.dis j j' hj1 hj2 hjj _ _ _ _ e'
  · rcases List.mem_or_eq_of_mem_set hy with hy | hy
    · exact hox y hy
    · rw [hy]; exact o1
  · rw [get_put_other (fun e => hw off n sz (by rw [e]; exact b4))]
    exact (k1 k2 hk (hx _ (List.getElem_mem hi))).1
end
end Go.Ev
namespace Go.Ev
open Go Go.RowKit
noncomputable def f60_r0 : List EOper := [⟨(some (K.ofNat 2)), none, .as (.c .sn)⟩]
noncomputable def f60_r1 : List EOper := [⟨(some (K.ofNat 8)), none, .mv (.t (K.ofNat 0))⟩, ⟨(some (K.ofNat 9)), none, .len (.t (K.ofNat 8))⟩, ⟨(some (K.ofNat 10)), none, .mkslice 1 [.sn] (.t (K.ofNat 9))⟩, ⟨(some (K.ofNat 3)), none, .as (.t (K.ofNat 10))⟩]
noncomputable def f60_r2 : List EOper := [⟨(some (K.ofNat 11)), none, .mv (.t (K.ofNat 0))⟩, ⟨(some (K.ofNat 12)), none, .len (.t (K.ofNat 11))⟩, ⟨(some (K.ofNat 13)), none, .mv (.c (.i .i64 (.ofNat 0)))⟩]
noncomputable def f60_r3 : List EOper := [⟨(some (K.ofNat 14)), none, .bin .lss (.t (K.ofNat 13)) (.t (K.ofNat 12))⟩]
noncomputable def f60_r4 : List EOper := [⟨(some (K.ofNat 15)), none, .mv (.t (K.ofNat 13))⟩, ⟨(some (K.ofNat 16)), none, .iads 1 (.t (K.ofNat 11)) (.t (K.ofNat 13))⟩, ⟨(some (K.ofNat 17)), none, .ld (.t (K.ofNat 16))⟩, ⟨(some (K.ofNat 4)), none, .as (.t (K.ofNat 15))⟩, ⟨(some (K.ofNat 5)), none, .as (.t (K.ofNat 17))⟩]
noncomputable def f60_r5 : List EOper := [⟨(some (K.ofNat 18)), none, .mv (.t (K.ofNat 5))⟩, ⟨(some (K.ofNat 19)), none, .len (.t (K.ofNat 18))⟩, ⟨(some (K.ofNat 20)), none, .mv (.c (.i .i64 (.ofNat 0)))⟩]
noncomputable def f60_r6 : List EOper := [⟨(some (K.ofNat 21)), none, .bin .lss (.t (K.ofNat 20)) (.t (K.ofNat 19))⟩]
noncomputable def f60_r7 : List EOper := [⟨(some (K.ofNat 22)), none, .iads 2 (.t (K.ofNat 18)) (.t (K.ofNat 20))⟩, ⟨(some (K.ofNat 23)), none, .ldn 2 (.t (K.ofNat 22))⟩, ⟨(some (K.ofNat 7)), none, .alloc 2 [(.i .i64 (.ofNat 0)), (.i .i64 (.ofNat 0))]⟩, ⟨none, none, .st 2 (.t (K.ofNat 7)) (.t (K.ofNat 23))⟩]
noncomputable def f60_r8 : List Stage := [⟨[⟨(some (K.ofNat 24)), none, .mv (.t (K.ofNat 3))⟩, ⟨(some (K.ofNat 25)), none, .mv (.t (K.ofNat 4))⟩, ⟨(some (K.ofNat 26)), none, .mv (.t (K.ofNat 3))⟩, ⟨(some (K.ofNat 27)), none, .mv (.t (K.ofNat 4))⟩, ⟨(some (K.ofNat 28)), none, .iads 1 (.t (K.ofNat 26)) (.t (K.ofNat 27))⟩, ⟨(some (K.ofNat 29)), none, .ld (.t (K.ofNat 28))⟩, ⟨(some (K.ofNat 30)), none, .fadr 0 (.t (K.ofNat 7))⟩, ⟨(some (K.ofNat 31)), none, .ld (.t (K.ofNat 30))⟩, ⟨(some (K.ofNat 32)), none, .fadr 1 (.t (K.ofNat 7))⟩, ⟨(some (K.ofNat 33)), none, .ld (.t (K.ofNat 32))⟩, ⟨(some (K.ofNat 34)), none, .build [(.i .i64 (.ofNat 0)), (.i .i64 (.ofNat 0))] [(0, 1, (.t (K.ofNat 31))), (1, 1, (.t (K.ofNat 33)))]⟩, ⟨(some (K.ofNat 35)), none, .bslice 1 2 [(.i .i64 (.ofNat 0)), (.i .i64 (.ofNat 0))] [(0, 2, (.t (K.ofNat 34)))]⟩], [], (some ⟨(some (K.ofNat 36)), none, .app 2 (.t (K.ofNat 29)) (.t (K.ofNat 35))⟩), [(K.ofNat 35)]⟩, ⟨[⟨(some (K.ofNat 37)), none, .iads 1 (.t (K.ofNat 24)) (.t (K.ofNat 25))⟩], [⟨(some (K.ofNat 24)), none, .mv (.t (K.ofNat 3))⟩, ⟨(some (K.ofNat 25)), none, .mv (.t (K.ofNat 4))⟩], (some ⟨none, none, .st 1 (.t (K.ofNat 37)) (.t (K.ofNat 36))⟩), []⟩, ⟨[], [], none, []⟩]
noncomputable def f60_r9 : List EOper := [⟨(some (K.ofNat 38)), none, .bin .add (.t (K.ofNat 20)) (.c (.i .i64 (.ofNat 1)))⟩, ⟨(some (K.ofNat 20)), none, .mv (.t (K.ofNat 38))⟩]
noncomputable def f60_l0 : EC := (.seq (.reg f60_r6) (.seq (.cond (.t (K.ofNat 21)) .skip (.exit 2)) (.seq (.block 3 (.seq (.reg f60_r7) (.draw f60_r8))) (.reg f60_r9))))
noncomputable def f60_r10 : List EOper := [⟨(some (K.ofNat 39)), none, .bin .add (.t (K.ofNat 13)) (.c (.i .i64 (.ofNat 1)))⟩, ⟨(some (K.ofNat 13)), none, .mv (.t (K.ofNat 39))⟩]
noncomputable def f60_l1 : EC := (.seq (.reg f60_r3) (.seq (.cond (.t (K.ofNat 14)) .skip (.exit 0)) (.seq (.block 1 (.seq (.reg f60_r4) (.seq (.reg f60_r5) (.block 2 (.loop f60_l0))))) (.reg f60_r10))))
noncomputable def f60_r11 : List EOper := [⟨(some (K.ofNat 40)), none, .mv (.t (K.ofNat 3))⟩, ⟨(some (K.ofNat 2)), none, .as (.t (K.ofNat 40))⟩]
noncomputable def f60_c : EC := (.seq (.reg f60_r0) (.seq (.reg f60_r1) (.seq (.seq (.reg f60_r2) (.block 0 (.loop f60_l1))) (.seq (.reg f60_r11) .ret))))
noncomputable def f60 : EF := ⟨41, [.tmp (K.ofNat 2)], f60_c, none⟩
theorem f60_rs : f60.rs = [.tmp (K.ofNat 2)] := of_eq_true (eq_self _)
section
variable {fs : T EF} {h : H} {v w : V} {us : List V} {Ls : List (List (Int × Int))} {M : List Int}
theorem tb_len {α : Type} {f : Nat → α} {d : α} {n i : Nat} : (tbL f d n i).length = n := by simp [tbL]
theorem tb_first {α : Type} {f : Nat → α} {d : α} {n i : Nat} (hi : i < n) : (tbL f d n i).set i d = tbL f d n i := by
  have : (tbL f d n i)[i]'(by rw [tb_len]; exact hi) = d := by rw [tb_at, if_neg (by omega)]
  apply List.ext_getElem
  · simp
  · intro x h1 h2
    rw [List.getElem_set]
    split
    · rename_i e; subst e; exact this.symm
    · rfl
structure Rows (h : H) (h1 : H) (w : V) (xs : List V) (Q : List (List (Int × Int))) : Prop where
  sd : Sld h1 w xs Q
  ow : Own h.nx.nat w
  ox : ∀ x ∈ xs, Own h.nx.nat x
  gr : Grow h.nx.nat h h1
def rwF (Ls : List (List (Int × Int))) (x : Nat) : List (Int × Int) := Ls.getD x []
def f60_I (h : H) (v : V) (Ls : List (List (Int × Int))) (i : Nat) (fr : Fr) (h1 : H) : Prop := i ≤ Ls.length ∧ ∃ w xs, Rows h h1 w xs (tbL (rwF Ls) [] Ls.length i) ∧ fr.get (K.ofNat 3) = some (w) ∧ fr.get (K.ofNat 11) = some (v) ∧ fr.get (K.ofNat 12) = some (.i .i64 (Ls.length : Int)) ∧ fr.get (K.ofNat 13) = some (.i .i64 (i : Int))
def f60_J (h : H) (v u : V) (Ls : List (List (Int × Int))) (l : List (Int × Int)) (i j : Nat) (fr : Fr) (h1 : H) : Prop := j ≤ l.length ∧ ∃ w xs, Rows h h1 w xs ((tbL (rwF Ls) [] Ls.length i).set i (l.take j)) ∧ fr.get (K.ofNat 3) = some (w) ∧ fr.get (K.ofNat 4) = some (.i .i64 (i : Int)) ∧ fr.get (K.ofNat 11) = some (v) ∧ fr.get (K.ofNat 12) = some (.i .i64 (Ls.length : Int)) ∧ fr.get (K.ofNat 13) = some (.i .i64 (i : Int)) ∧ fr.get (K.ofNat 18) = some (u) ∧ fr.get (K.ofNat 19) = some (.i .i64 (l.length : Int)) ∧ fr.get (K.ofNat 20) = some (.i .i64 (j : Int))
theorem f60_ret (hv : Nrp h v us Ls) (hF : Ls.length ≤ 1000 ∧ ∀ l ∈ Ls, l.length ≤ 1000) (hc : HC h) : Ret fs f60 [v] h fun r h' => ∃ xs, Nrp h' r xs Ls ∧ Grow h.nx.nat h h' := by
  have hlen : ∀ h1, lenV v h1 = .ok (.i .i64 (Ls.length : Int)) h1 := fun h1 => by rw [hv.out.len, hv.len]
  have hL := hF.1
  apply ret_of rfl
  show W fs none f60_c _ _ _
  unfold f60_c
  have hmk := mks_sn (h := h) (k := .i64) (n := Ls.length) (by omega)
  have hs0 := Sld.empty (h := h) (n := Ls.length)
  have gD := Grow.new (Nat.le_refl h.nx.nat) (.cells (Ls.length * 1) (rep [.sn] Ls.length))
  rw [← tb_nil (f := rwF Ls)] at hs0
  simp (disch := omega) only [f60_r0, f60_r1, f60_r2, w_reg, w_seq, w_block, seqK_n, x_nil, x_mv, x_as, x_mks, x_len, kx, rvP_ok, ev_t, ev_c, getV_some, putD_some, frame_1, of0, getK_set, Nat.reduceEqDiff, ↓reduceIte, hlen, hmk]
  refine W_loop (f60_I h v Ls) (fun i => Ls.length - i) ?_ 0 ⟨by omega, .sl h.nx 0 Ls.length 1, _, ⟨hs0, (fun _ _ _ _ e => (by cases e; exact Nat.le_refl _)), (fun x hx id off n sz e => (by rw [(List.mem_replicate.1 hx).2] at e; cases e)), gD⟩, by simp (disch := omega) only [getK_set, Nat.reduceEqDiff, ↓reduceIte, and_self, Int.natCast_zero]⟩
  clear hmk hs0 gD
  rintro i fr h1 ⟨hi, w, xs, hR, g3, g11, g12, g13⟩
  have hv1 := hv.grow hc hR.gr
  unfold f60_l1
  by_cases hlt : i < Ls.length
  · have d0 : decide ((i : Int) < (Ls.length : Int)) = true := by simpa using hlt
    have hiu : i < us.length := by rw [hv.len]; exact hlt
    obtain ⟨p, hp1, hp2'⟩ := hv1.out.at i hiu
    have hp2 : loadV h1 p one? = .ok us[i] h1 := hp2'
    clear hp2'
    have hui := hv.inn i hiu hlt
    have hl := hF.2 Ls[i] (List.getElem_mem hlt)
    have hFi : rwF Ls i = Ls[i] := by unfold rwF; rw [List.getD_eq_getElem?_getD, List.getElem?_eq_getElem hlt]; rfl
    generalize us[i] = u at *
    generalize Ls[i] = l at *
    have hlu := hui.len
    simp (disch := omega) only [f60_r3, f60_r4, f60_r5, w_skip, w_reg, w_seq, w_cond, w_block, seqK_n, ckB_b, cbB_b, true_and, x_nil, x_mv, x_as, x_ld, x_bin, x_iads, x_len, kx, rvP_ok, okv_some, ev_t, ev_c, getV_some, putD_some, bin_lss, of0, getK_set, Nat.reduceEqDiff, ↓reduceIte, g11, g12, g13, d0, hp1, hp2, hlu]
    refine W_loop (f60_J h v u Ls l i) (fun j => l.length - j) ?_ 0 ⟨by omega, w, xs, by rw [List.take_zero, tb_first hlt]; exact hR, by simp (disch := omega) only [getK_set, Nat.reduceEqDiff, ↓reduceIte, g3, g11, g12, g13, and_self, Int.natCast_zero]⟩
    clear hR g3 g11 g12 g13 fr hp1 hp2 hv1
    clear w xs
    rintro j fr h2 ⟨hj, w, xs, hR, g3, g4, g11, g12, g13, g18, g19, g20⟩
    have hc2 := hR.gr.hc hc
    unfold f60_l0
    by_cases hlt2 : j < l.length
    · have d1 : decide ((j : Int) < (l.length : Int)) = true := by simpa using hlt2
      have hu2 := hui.grow hc hR.gr
      obtain ⟨ida, a, ha1, ha2, _, _⟩ := hu2.at2 hlt2
      have htk := List.take_succ_eq_append_getElem hlt2
      generalize l[j] = e at *
      have hst2 : storeV (h2.new (.cells 2 zz)) 2 (.p h2.nx 0) (.agg [.i .i64 e.1, .i .i64 e.2]) = .ok undefV ((h2.new (.cells 2 zz)).put h2.nx (.cells 2 [.i .i64 e.1, .i .i64 e.2])) := st2 (a := .i .i64 (.ofNat 0)) (b := .i .i64 (.ofNat 0)) get_new_same
      have nx1 := nx_new h2 (.cells 2 zz)
      have gB : Grow h2.nx.nat h2 ((h2.new (.cells 2 zz)).put h2.nx (.cells 2 [.i .i64 e.1, .i .i64 e.2])) := (Grow.new (Nat.le_refl _) _).trans (Grow.put (Nat.le_refl _) (by omega) _)
      have c7 : ((h2.new (.cells 2 zz)).put h2.nx (.cells 2 [.i .i64 e.1, .i .i64 e.2])).get h2.nx = .cells 2 [.i .i64 e.1, .i .i64 e.2] := get_put_same
      have hzz : ([.i .i64 0, .i .i64 0] : List V) = zz := rfl
      generalize (h2.new (.cells 2 zz)).put h2.nx (.cells 2 [.i .i64 e.1, .i .i64 e.2]) = h3 at *
      have hc3 := gB.hc hc2
      have l0 : loadV h3 (.p h2.nx (0 + 0)) one? = .ok (.i .i64 e.1) h3 := load_p c7 rfl
      have l1 : loadV h3 (.p h2.nx (0 + 1)) one? = .ok (.i .i64 e.2) h3 := load_p c7 rfl
      have hs3 := hR.sd.grow hc2 gB
      have hgr3 := hR.gr.trans (gB.low hR.gr.nx)
      have hQl : ((tbL (rwF Ls) [] Ls.length i).set i (l.take j)).length = Ls.length := by rw [List.length_set, tb_len]
      have hQi : ((tbL (rwF Ls) [] Ls.length i).set i (l.take j))[i]'(by rw [hQl]; exact hlt) = l.take j := List.getElem_set_self _
      obtain ⟨u', h4, p, id, m, cs', a1, b1, b2, b3, b4, b5, b6, _⟩ := hs3.row hR.ow hR.ox hgr3.nx hc3 (i := i) (by rw [hs3.len, hQl]; exact hlt) (by rw [hQl]; exact hlt) (x := e) (by rw [hQi]; simp; omega)
      rw [hQi, List.set_set, ← htk] at b4
      have hwb := hs3.out.sr.beq
      have ha2 : loadV h2 (.p ida a) (many? 2) = .ok (.agg [.i .i64 e.1, .i .i64 e.2]) h2 := ha2
      simp (disch := omega) only [f60_r6, f60_r7, f60_r8, w_skip, w_reg, w_draw, w_seq, w_cond, w_block, seqK_n, ckB_b, cbB_b, true_and, x_nil, x_alloc, x_ldn, x_st, x_bin, x_iads, kx, kg, xg_mv, xg_build, xg_ld, xg_fadr, xg_iads, xd_cons, rvP_ok, okv_some, ev_t, getV_some, putD_some, putD_none, bin_lss, onP_p, of0, getK_set, Nat.reduceEqDiff, ↓reduceIte, g3, g4, g18, g19, g20, d1, ha1, ha2, hzz, hst2, b1, b2, l0, l1]
      rw [← hzz]
      simp (disch := omega) only [true_and, x_app, kg, xg_nil, xg_bslice, stK_s, stay_nil, rvP_ok, ev_t, getV_some, putD_some, oGet_s, cells1_i, Option.some.injEq, exists_eq_left', getK_set, Nat.reduceEqDiff, ↓reduceIte, fill_2, set_2, cells2, fill_2, set_2, cells2, fill_p2, set_p2, hc3.dead]
      refine ⟨fresh_one (n := 1) (sz := 2) (by simp (disch := omega) only [getK_set, ↓reduceIte]), ?_⟩
      simp (disch := omega) only [f60_r9, w_reg, seqK_n, atK_n, loopK_n, true_and, x_nil, x_mv, x_st, x_bin, kx, kg, xg_nil, xg_iads, xd_cons, fresh_nil, stK_n, stK_s, stay_nil, stay_cons, stay_mv, beq_i, rvP_ok, okv_some, ev_t, ev_c, getV_some, putD_some, putD_none, bin_add, of1, getK_set, Nat.reduceEqDiff, ↓reduceIte, g3, g4, g20, a1, b1, b3, hwb, beq_i, fw64]
      exact ⟨j + 1, by omega, by omega, w, _, ⟨b4, hR.ow, b5, hgr3.trans b6⟩, by simp (disch := omega) only [getK_set, Nat.reduceEqDiff, ↓reduceIte, g3, g4, g11, g12, g13, g18, g19, and_self, Int.natCast_add, Int.natCast_one]⟩
    · have d1 : decide ((j : Int) < (l.length : Int)) = false := by simpa using hlt2
      have ej : j = l.length := by omega
      rw [ej, List.take_length, ← hFi, tb_set] at hR
      simp (disch := omega) only [f60_r6, f60_r10, w_reg, w_seq, w_cond, w_exit, seqK_n, seqK_e, atK_n, atK_e, loopK_n, loopK_e, ckB_b, cbB_b, true_and, x_nil, x_mv, x_bin, kx, rvP_ok, okv_some, ev_t, ev_c, getV_some, putD_some, bin_add, bin_lss, of1, getK_set, Nat.reduceEqDiff, ↓reduceIte, Bool.false_eq_true, g13, g19, g20, d1, fw64]
      exact ⟨i + 1, by omega, by omega, w, xs, hR, by simp (disch := omega) only [getK_set, Nat.reduceEqDiff, ↓reduceIte, g3, g11, g12, and_self, Int.natCast_add, Int.natCast_one]⟩
  · have d0 : decide ((i : Int) < (Ls.length : Int)) = false := by simpa using hlt
    have ei : i = Ls.length := by omega
    have hall : tbL (rwF Ls) [] Ls.length Ls.length = Ls := by
      rw [tb_all]
      apply List.ext_getElem
      · simp
      · intro x h1 h2
        simp only [List.getElem_map, List.getElem_range, rwF, List.getD_eq_getElem?_getD, List.getElem?_eq_getElem h2, Option.getD_some]
    rw [ei, hall] at hR
    simp (disch := omega) only [f60_r3, f60_r11, f60_rs, w_reg, w_seq, w_cond, w_exit, w_ret, seqK_n, seqK_e, atK_e, loopK_e, ckB_b, cbB_b, true_and, retK_r, x_nil, x_mv, x_as, x_bin, kx, rvP_ok, okv_some, ev_t, getV_some, putD_some, bin_lss, oGet_s, readRs_nil, readRs_t, retV_1, Option.some.injEq, exists_eq_left', getK_set, Nat.reduceEqDiff, ↓reduceIte, Bool.false_eq_true, g3, g12, g13, d0]
    exact ⟨xs, hR.sd.nrp, hR.gr⟩
end
end Go.Ev
namespace Go.Ev
open Go Go.RowKit
section
variable {fs : T EF} {h : H} {v w : V} {us : List V} {Ls : List (List (Int × Int))} {M : List Int}
end
end Go.Ev
namespace Go.Ev
open Go Go.RowKit
section
variable {fs : T EF} {h : H} {v wm : V} {us : List V} {Ls : List (List (Int × Int))} {M : List Int}
end
end Go.Ev
namespace Go.Ev
open Go Go.RowKit
theorem teams_nat {n : Int} {m : Nat} (hm : (m : Int) = teamsN n) : ok5 (m : Int) := by rw [hm]; exact teamsN_ok n
section
variable {fs : T EF}
end
end Go.Ev
namespace Go.Ev
open Go Go.RowKit
section
variable {α : Type} {e : α → V} {h h' : H} {w v u : V} {xs us : List V} {Q Ls : List (List α)} {L : List α} {b : Nat}
end
end Go.Ev
namespace Go.Ev
open Go Go.RowKit
end Go.Ev
namespace Go.Ev
open Go Go.RowKit
end Go.Ev
namespace Go.Ev
open Go Go.RowKit
noncomputable def f84_r0 : List EOper := [⟨(some (K.ofNat 1)), none, .box 2 (.t (K.ofNat 0))⟩, ⟨(some (K.ofNat 2)), none, .alloc 2 [(.i .i64 (.ofNat 0)), (.i .i64 (.ofNat 0))]⟩]
noncomputable def f84_r1 : List EOper := [⟨(some (K.ofNat 3)), none, .fadr 1 (.t (K.ofNat 1))⟩, ⟨(some (K.ofNat 4)), none, .ld (.t (K.ofNat 3))⟩, ⟨(some (K.ofNat 5)), none, .fadr 0 (.t (K.ofNat 1))⟩, ⟨(some (K.ofNat 6)), none, .ld (.t (K.ofNat 5))⟩, ⟨(some (K.ofNat 7)), none, .build [(.i .i64 (.ofNat 0)), (.i .i64 (.ofNat 0))] [(0, 1, (.t (K.ofNat 4))), (1, 1, (.t (K.ofNat 6)))]⟩, ⟨none, none, .st 2 (.t (K.ofNat 2)) (.t (K.ofNat 7))⟩]
noncomputable def f84_c : EC := (.seq (.reg f84_r0) (.seq (.reg f84_r1) .ret))
noncomputable def f84 : EF := ⟨8, [.celln (K.ofNat 2) 2], f84_c, none⟩
section
variable {fs : T EF} {h : H} {v : V} {us : List V} {Ls : List (List (Int × Int))}
theorem ldn2_r {id : K} {a b : V} {h : H} (hb : h.get id = .cells 2 [a, b]) : readP h (.p id 0) (many? 2) = some (.agg [a, b]) := by
  show (h.get id).onC none (fun n cs => many? 2 cs n 0) = _
  rw [hb]; rfl
def upd2 (f : Int × Int → Option Int) (e : Int × Int) (r : Int) : Int × Int → Option Int := fun y => if y = (e.2, e.1) then some r else if y = e then some r else f y
def whR (r : Int) (l : List (Int × Int)) (f : Int × Int → Option Int) : Int × Int → Option Int := l.foldl (fun f e => upd2 f e r) f
def whP (Ls : List (List (Int × Int))) : Nat → Int × Int → Option Int
  | 0 => fun _ => none
  | i + 1 => whR (i : Int) (Ls.getD i []) (whP Ls i)
end
end Go.Ev
namespace Go.Ev
open Go Go.RowKit
section
variable {fs : T EF} {h : H} {f : Int × Int → Option Int} {L n : Nat} {idn idw ids : K}
end
end Go.Ev
namespace Go.Ev
open Go Go.RowKit
theorem op_mem {t : Int} : ∀ {l : List (Int × Int)}, t ∈ plL l → (t, opF l t) ∈ l ∨ (opF l t, t) ∈ l
  | [], h => by simp [plL] at h
  | e :: l, h => by
    unfold opF
    by_cases h1 : t = e.1
    · rw [if_pos h1]; left; rw [h1]; simp
    · rw [if_neg h1]
      by_cases h2 : t = e.2
      · rw [if_pos h2]; right; rw [h2]; simp
      · rw [if_neg h2]
        have : t ∈ plL l := by
          have h : t ∈ e.1 :: e.2 :: plL l := h
          rcases List.mem_cons.1 h with h | h
          · exact absurd h h1
          · rcases List.mem_cons.1 h with h | h
            · exact absurd h h2
            · exact h
        rcases op_mem this with h | h
        · exact .inl (List.mem_cons_of_mem _ h)
        · exact .inr (List.mem_cons_of_mem _ h)
theorem pl_mem {l : List (Int × Int)} {e : Int × Int} (h : e ∈ l) : e.1 ∈ plL l ∧ e.2 ∈ plL l :=
  ⟨List.mem_flatMap.2 ⟨e, h, by simp⟩, List.mem_flatMap.2 ⟨e, h, by simp⟩⟩
theorem op_of {a b : Int} : ∀ {l : List (Int × Int)}, (plL l).Nodup → (a, b) ∈ l ∨ (b, a) ∈ l → opF l a = b
  | [], _, h => by simp at h
  | e :: l, hn, h => by
    have hn : (e.1 :: e.2 :: plL l).Nodup := hn
    obtain ⟨n1, n2⟩ := List.nodup_cons.1 hn
    obtain ⟨n3, n4⟩ := List.nodup_cons.1 n2
    have ne : e.1 ≠ e.2 := fun q => n1 (by rw [q]; simp)
    unfold opF
    have tail : (a, b) ∈ l ∨ (b, a) ∈ l → (if a = e.1 then e.2 else if a = e.2 then e.1 else opF l a) = b := fun h => by
      have ha : a ∈ plL l := by rcases h with h | h; exact (pl_mem h).1; exact (pl_mem h).2
      rw [if_neg (fun q => n1 (by rw [← q]; exact List.mem_cons_of_mem _ ha)), if_neg (fun q => n3 (by rw [← q]; exact ha))]
      exact op_of n4 h
    rcases h with h | h
    · rcases List.mem_cons.1 h with h | h
      · rw [← h, if_pos rfl]
      · exact tail (.inl h)
    · rcases List.mem_cons.1 h with h | h
      · rw [← h] at ne ⊢
        rw [if_neg (fun q => ne q.symm), if_pos rfl]
      · exact tail (.inr h)
theorem whR_eq {r : Int} {x : Int × Int} : ∀ {l : List (Int × Int)} {f : Int × Int → Option Int}, whR r l f x = if x ∈ l ∨ (x.2, x.1) ∈ l then some r else f x
  | [], f => by simp [whR]
  | e :: l, f => by
    show whR r l (upd2 f e r) x = _
    rw [whR_eq]
    unfold upd2
    by_cases h : x ∈ l ∨ (x.2, x.1) ∈ l
    · rw [if_pos h, if_pos (by rcases h with h | h; exact .inl (List.mem_cons_of_mem _ h); exact .inr (List.mem_cons_of_mem _ h))]
    · rw [if_neg h]
      by_cases h1 : x = (e.2, e.1)
      · rw [if_pos h1, if_pos (.inr (by rw [h1]; simp))]
      · rw [if_neg h1]
        by_cases h2 : x = e
        · rw [if_pos h2, if_pos (.inl (by rw [h2]; simp))]
        · rw [if_neg h2, if_neg]
          rintro (h3 | h3)
          · rcases List.mem_cons.1 h3 with h3 | h3
            · exact h2 h3
            · exact h (.inl h3)
          · rcases List.mem_cons.1 h3 with h3 | h3
            · exact h1 (by rw [← h3])
            · exact h (.inr h3)
section
variable {Q : List (List (Int × Int))} {n : Nat}
theorem wh_some {x : Int × Int} {a : Int} : ∀ {i : Nat}, whP Q i x = some a → ∃ r : Nat, a = (r : Int) ∧ r < i ∧ (x ∈ Q.getD r [] ∨ (x.2, x.1) ∈ Q.getD r [])
  | 0, h => by cases h
  | i + 1, h => by
    have h : whR (i : Int) (Q.getD i []) (whP Q i) x = some a := h
    rw [whR_eq] at h
    split at h
    · rename_i hx
      injection h with h
      exact ⟨i, h.symm, by omega, hx⟩
    · obtain ⟨r, h1, h2, h3⟩ := wh_some h
      exact ⟨r, h1, by omega, h3⟩
theorem vld_ds (v : Vld n Q) {i j : Nat} (hij : i < j) (hj : j < Q.length) : ∀ x ∈ Q[i]'(by omega), ∀ y ∈ Q[j], dsR x y := by
  have := v.pw
  rw [List.pairwise_flatten] at this
  exact List.pairwise_iff_getElem.1 this.2 i j (by omega) hj hij
theorem getD_at {α : Type} {l : List α} {i : Nat} {d : α} (h : i < l.length) : l.getD i d = l[i] := by
  rw [List.getD_eq_getElem?_getD, List.getElem?_eq_getElem h]; rfl
theorem wh_of (v : Vld n Q) {x : Int × Int} {r : Nat} (hx : x ∈ Q.getD r [] ∨ (x.2, x.1) ∈ Q.getD r []) : ∀ {i : Nat}, r < i → i ≤ Q.length → whP Q i x = some (r : Int)
  | 0, h, _ => by omega
  | i + 1, h, hl => by
    show whR (i : Int) (Q.getD i []) (whP Q i) x = _
    rw [whR_eq]
    by_cases e : r = i
    · subst e; rw [if_pos hx]
    · rw [if_neg, wh_of v hx (by omega) (by omega)]
      rw [getD_at (show i < Q.length by omega)]
      rw [getD_at (show r < Q.length by omega)] at hx
      have ds := vld_ds v (show r < i by omega) (by omega)
      rintro (h2 | h2) <;> rcases hx with hx | hx
      · exact (ds _ hx _ h2).1 rfl
      · exact (ds _ hx _ h2).2 rfl
      · exact (ds _ hx _ h2).2 rfl
      · exact (ds _ hx _ h2).1 rfl
theorem wh_op (v : Vld n Q) {i j : Nat} (hi : i < n) {r : Nat} (hr : r < Q.length) : whP Q Q.length ((i : Int), (j : Int)) = some (r : Int) ↔ opF (Q.getD r []) (i : Int) = (j : Int) := by
  have hrd := v.rnd (Q[r]) (List.getElem_mem hr)
  constructor
  · intro h
    obtain ⟨r', h1, h2, h3⟩ := wh_some h
    have : r = r' := by omega
    subst this
    rw [getD_at hr] at h3 ⊢
    exact op_of (rnd_nd hrd) h3
  · intro h
    have hm := op_mem (rnd_all hrd (t := (i : Int)) (by omega))
    rw [getD_at hr] at h
    rw [h] at hm
    exact wh_of v (by rw [getD_at hr]; exact hm) hr (Nat.le_refl _)
theorem op_in (v : Vld n Q) {r : Nat} (hr : r < Q.length) {t : Nat} (ht : t < n) : ∃ u : Nat, u < n ∧ opF (Q.getD r []) (t : Int) = (u : Int) := by
  have hrd := v.rnd (Q[r]) (List.getElem_mem hr)
  rw [getD_at hr]
  rcases op_mem (rnd_all hrd (t := (t : Int)) (by omega)) with h | h
  · have := (rnd_e hrd _ h).2.1
    exact ⟨(opF Q[r] (t : Int)).toNat, by omega, by omega⟩
  · have := (rnd_e hrd _ h).1
    exact ⟨(opF Q[r] (t : Int)).toNat, by omega, by omega⟩
end
end Go.Ev
namespace Go.Ev
open Go Go.RowKit
section
variable {fs : T EF} {h : H} {w : V} {xs : List V} {T : List (List Int)}
end
section
variable {fs : T EF} {h : H} {v : V} {us : List V} {Ls : List (List (Int × Int))} {n : Nat}
end
end Go.Ev
namespace Go.Ev
open Go Go.RowKit
section
variable {fs : T EF} {h : H} {v : V} {us : List V} {Ls : List (List (Int × Int))} {n : Nat}
end
end Go.Ev
namespace Go.Ev
open Go Go.RowKit
section
variable {A B : Int → Int} {n : Nat} {t x : Int} {L : List Int}
end
end Go.Ev
namespace Go.Ev
open Go Go.RowKit
noncomputable def f103_r0 : List EOper := [⟨(some (K.ofNat 2)), none, .as (.c (.b false))⟩]
noncomputable def f103_r1 : List EOper := [⟨(some (K.ofNat 3)), none, .mv (.t (K.ofNat 0))⟩, ⟨(some (K.ofNat 4)), none, .mv (.t (K.ofNat 0))⟩, ⟨(some (K.ofNat 5)), none, .bin .neq (.t (K.ofNat 3)) (.t (K.ofNat 4))⟩, ⟨(some (K.ofNat 2)), none, .as (.t (K.ofNat 5))⟩]
noncomputable def f103_c : EC := (.seq (.reg f103_r0) (.seq (.reg f103_r1) .ret))
noncomputable def f103 : EF := ⟨6, [.tmp (K.ofNat 2)], f103_c, none⟩
section
variable {fs : T EF} {h : H} {v : V} {S : List Int}
end
end Go.Ev
namespace Go.Ev
open Go Go.RowKit
theorem msk_len {m : Nat} {L : List Int} (hm : Msk m L) (hn : L.Nodup) (hr : ∀ z ∈ L, 0 ≤ z ∧ z ≤ 15) : pcN m = L.length := by
  rw [pcN_bits]
  have h1 := nodup_le (l := ((List.range 16).filter fun t => m.testBit t).map fun (k : Nat) => (k : Int)) (m := L) (by
    rw [List.nodup_iff_pairwise_ne, List.pairwise_map]
    exact ((List.nodup_iff_pairwise_ne.1 List.nodup_range).filter _).imp fun h => by omega) fun z hz => by
    obtain ⟨k, hk, rfl⟩ := List.mem_map.1 hz
    obtain ⟨hk1, hk2⟩ := List.mem_filter.1 hk
    have hk1 : k < 16 := by simpa using hk1
    rw [hm.2 k (by omega)] at hk2
    exact of_decide_eq_true hk2
  have h2 := nodup_le (l := L) (m := ((List.range 16).filter fun t => m.testBit t).map fun (k : Nat) => (k : Int)) hn fun z hz => by
    obtain ⟨z1, z2⟩ := hr z hz
    refine List.mem_map.2 ⟨z.toNat, List.mem_filter.2 ⟨by simp; omega, ?_⟩, by omega⟩
    rw [hm.2 _ (by omega)]
    exact decide_eq_true (by rw [show ((z.toNat : Nat) : Int) = z by omega]; exact hz)
  simp at h1 h2
  omega
section
variable {fs : T EF} {h : H} {va vb : V} {a b : List (Int × Int)} {n : Nat}
end
end Go.Ev
namespace Go.Ev
open Go Go.RowKit
section
variable {fs : T EF} {h : H} {va vb : V} {a b : List (Int × Int)} {n : Nat}
end
end Go.Ev
namespace Go.Ev
open Go Go.RowKit
section
variable {A B : Int → Int} {n : Nat}
end
end Go.Ev
namespace Go.Ev
open Go Go.RowKit
section
variable {fs : T EF} {h : H} {v : V} {us : List V} {Ls : List (List (Int × Int))} {n : Nat}
end
end Go.Ev
namespace Go.Ev
open Go Go.RowKit
section
variable {h h' : H} {v u : V} {us : List V} {Ls : List (List (Int × Int))} {L : List (Int × Int)} {b : Nat}
end
theorem bin_quo2 {n : Nat} (hn : n ≤ 1000000) : binV .quo (.i .i64 (n : Int)) (.i .i64 2) = some (.i .i64 ((n / 2 : Nat) : Int)) := by
  show (bif ieq 2 0 then none else some (V.i .i64 (fw .i64 ((n : Int).tdiv 2)))) = _
  rw [show (n : Int).tdiv 2 = ((n / 2 : Nat) : Int) from rfl, fw64 (by omega) (by omega)]; rfl
section
variable {fs : T EF} {h : H}
end
section
variable {fs : T EF} {h : H}
end
end Go.Ev
namespace Go.Ev
open Go Go.RowKit
noncomputable def f45_r0 : List EOper := [⟨(some (K.ofNat 4)), none, .as (.c (.b false))⟩]
noncomputable def f45_r1 : List EOper := [⟨(some (K.ofNat 5)), none, .as (.c (.i .i64 (.ofNat 0)))⟩]
noncomputable def f45_r2 : List EOper := [⟨(some (K.ofNat 6)), none, .as (.c (.i .i64 (.ofNat 0)))⟩]
noncomputable def f45_r3 : List EOper := [⟨(some (K.ofNat 9)), none, .mv (.t (K.ofNat 6))⟩, ⟨(some (K.ofNat 10)), none, .mv (.t (K.ofNat 1))⟩, ⟨(some (K.ofNat 11)), none, .len (.t (K.ofNat 10))⟩, ⟨(some (K.ofNat 12)), none, .bin .lss (.t (K.ofNat 9)) (.t (K.ofNat 11))⟩]
noncomputable def f45_r4 : List Stage := [⟨[⟨(some (K.ofNat 15)), none, .mv (.t (K.ofNat 1))⟩, ⟨(some (K.ofNat 16)), none, .mv (.t (K.ofNat 6))⟩, ⟨(some (K.ofNat 17)), none, .iads 2 (.t (K.ofNat 15)) (.t (K.ofNat 16))⟩, ⟨(some (K.ofNat 18)), none, .iadr 2 1 (.t (K.ofNat 17)) (.c (.i .i64 (.ofNat 0)))⟩, ⟨(some (K.ofNat 19)), none, .ld (.t (K.ofNat 18))⟩, ⟨(some (K.ofNat 20)), none, .mv (.t (K.ofNat 1))⟩, ⟨(some (K.ofNat 21)), none, .mv (.t (K.ofNat 6))⟩, ⟨(some (K.ofNat 22)), none, .iads 2 (.t (K.ofNat 20)) (.t (K.ofNat 21))⟩, ⟨(some (K.ofNat 23)), none, .iadr 2 1 (.t (K.ofNat 22)) (.c (.i .i64 (.ofNat 1)))⟩, ⟨(some (K.ofNat 24)), none, .ld (.t (K.ofNat 23))⟩], [], (some ⟨(some (K.ofNat 7)), none, .as (.t (K.ofNat 19))⟩), []⟩, ⟨[], [⟨(some (K.ofNat 20)), none, .mv (.t (K.ofNat 1))⟩, ⟨(some (K.ofNat 21)), none, .mv (.t (K.ofNat 6))⟩, ⟨(some (K.ofNat 22)), none, .iads 2 (.t (K.ofNat 20)) (.t (K.ofNat 21))⟩, ⟨(some (K.ofNat 23)), none, .iadr 2 1 (.t (K.ofNat 22)) (.c (.i .i64 (.ofNat 1)))⟩, ⟨(some (K.ofNat 24)), none, .ld (.t (K.ofNat 23))⟩], (some ⟨(some (K.ofNat 8)), none, .as (.t (K.ofNat 24))⟩), []⟩, ⟨[], [], none, []⟩]
noncomputable def f45_r5 : List EOper := [⟨(some (K.ofNat 25)), none, .mv (.t (K.ofNat 7))⟩, ⟨(some (K.ofNat 26)), none, .bin .lss (.t (K.ofNat 25)) (.c (.i .i64 (.ofNat 0)))⟩, ⟨(some (K.ofNat 27)), none, .mv (.t (K.ofNat 26))⟩, ⟨(some (K.ofNat 28)), (some ((K.ofNat 27), false)), .mv (.t (K.ofNat 8))⟩, ⟨(some (K.ofNat 29)), (some ((K.ofNat 27), false)), .bin .lss (.t (K.ofNat 28)) (.c (.i .i64 (.ofNat 0)))⟩, ⟨(some (K.ofNat 30)), none, .pick (.t (K.ofNat 27)) (.c (.b true)) (.t (K.ofNat 29))⟩, ⟨(some (K.ofNat 31)), none, .mv (.t (K.ofNat 30))⟩, ⟨(some (K.ofNat 32)), (some ((K.ofNat 31), false)), .mv (.t (K.ofNat 7))⟩, ⟨(some (K.ofNat 33)), (some ((K.ofNat 31), false)), .mv (.t (K.ofNat 0))⟩, ⟨(some (K.ofNat 34)), (some ((K.ofNat 31), false)), .bin .geq (.t (K.ofNat 32)) (.t (K.ofNat 33))⟩, ⟨(some (K.ofNat 35)), none, .pick (.t (K.ofNat 31)) (.c (.b true)) (.t (K.ofNat 34))⟩, ⟨(some (K.ofNat 36)), none, .mv (.t (K.ofNat 35))⟩, ⟨(some (K.ofNat 37)), (some ((K.ofNat 36), false)), .mv (.t (K.ofNat 8))⟩, ⟨(some (K.ofNat 38)), (some ((K.ofNat 36), false)), .mv (.t (K.ofNat 0))⟩, ⟨(some (K.ofNat 39)), (some ((K.ofNat 36), false)), .bin .geq (.t (K.ofNat 37)) (.t (K.ofNat 38))⟩, ⟨(some (K.ofNat 40)), none, .pick (.t (K.ofNat 36)) (.c (.b true)) (.t (K.ofNat 39))⟩, ⟨(some (K.ofNat 41)), none, .mv (.t (K.ofNat 40))⟩, ⟨(some (K.ofNat 42)), (some ((K.ofNat 41), false)), .mv (.t (K.ofNat 7))⟩, ⟨(some (K.ofNat 43)), (some ((K.ofNat 41), false)), .mv (.t (K.ofNat 8))⟩, ⟨(some (K.ofNat 44)), (some ((K.ofNat 41), false)), .bin .eql (.t (K.ofNat 42)) (.t (K.ofNat 43))⟩, ⟨(some (K.ofNat 45)), none, .pick (.t (K.ofNat 41)) (.c (.b true)) (.t (K.ofNat 44))⟩, ⟨(some (K.ofNat 46)), none, .mv (.t (K.ofNat 45))⟩, ⟨(some (K.ofNat 47)), (some ((K.ofNat 46), false)), .mv (.t (K.ofNat 5))⟩, ⟨(some (K.ofNat 48)), (some ((K.ofNat 46), false)), .mv (.t (K.ofNat 7))⟩, ⟨(some (K.ofNat 49)), (some ((K.ofNat 46), false)), .bin .shr (.t (K.ofNat 47)) (.t (K.ofNat 48))⟩, ⟨(some (K.ofNat 50)), (some ((K.ofNat 46), false)), .bin .rem (.t (K.ofNat 49)) (.c (.i .i64 (.ofNat 2)))⟩, ⟨(some (K.ofNat 51)), (some ((K.ofNat 46), false)), .bin .eql (.t (K.ofNat 50)) (.c (.i .i64 (.ofNat 1)))⟩, ⟨(some (K.ofNat 52)), none, .pick (.t (K.ofNat 46)) (.c (.b true)) (.t (K.ofNat 51))⟩, ⟨(some (K.ofNat 53)), none, .mv (.t (K.ofNat 52))⟩, ⟨(some (K.ofNat 54)), (some ((K.ofNat 53), false)), .mv (.t (K.ofNat 5))⟩, ⟨(some (K.ofNat 55)), (some ((K.ofNat 53), false)), .mv (.t (K.ofNat 8))⟩, ⟨(some (K.ofNat 56)), (some ((K.ofNat 53), false)), .bin .shr (.t (K.ofNat 54)) (.t (K.ofNat 55))⟩, ⟨(some (K.ofNat 57)), (some ((K.ofNat 53), false)), .bin .rem (.t (K.ofNat 56)) (.c (.i .i64 (.ofNat 2)))⟩, ⟨(some (K.ofNat 58)), (some ((K.ofNat 53), false)), .bin .eql (.t (K.ofNat 57)) (.c (.i .i64 (.ofNat 1)))⟩, ⟨(some (K.ofNat 59)), none, .pick (.t (K.ofNat 53)) (.c (.b true)) (.t (K.ofNat 58))⟩]
noncomputable def f45_r6 : List EOper := [⟨(some (K.ofNat 4)), none, .as (.c (.b false))⟩]
noncomputable def f45_r7 : List Stage := [⟨[⟨(some (K.ofNat 60)), none, .mv (.t (K.ofNat 5))⟩, ⟨(some (K.ofNat 61)), none, .mv (.t (K.ofNat 7))⟩, ⟨(some (K.ofNat 62)), none, .bin .shl (.c (.i .i64 (.ofNat 1))) (.t (K.ofNat 61))⟩, ⟨(some (K.ofNat 63)), none, .bin .or (.t (K.ofNat 60)) (.t (K.ofNat 62))⟩, ⟨(some (K.ofNat 64)), none, .mv (.t (K.ofNat 8))⟩, ⟨(some (K.ofNat 65)), none, .bin .shl (.c (.i .i64 (.ofNat 1))) (.t (K.ofNat 64))⟩, ⟨(some (K.ofNat 66)), none, .bin .or (.t (K.ofNat 63)) (.t (K.ofNat 65))⟩], [], (some ⟨(some (K.ofNat 5)), none, .as (.t (K.ofNat 66))⟩), []⟩, ⟨[], [], none, []⟩]
noncomputable def f45_r8 : List EOper := [⟨(some (K.ofNat 13)), none, .mv (.t (K.ofNat 6))⟩, ⟨(some (K.ofNat 14)), none, .bin .add (.t (K.ofNat 13)) (.c (.i .i64 (.ofNat 1)))⟩, ⟨(some (K.ofNat 6)), none, .as (.t (K.ofNat 14))⟩]
noncomputable def f45_l0 : EC := (.seq (.seq (.reg f45_r3) (.cond (.t (K.ofNat 12)) .skip (.exit 0))) (.seq (.block 1 (.seq (.draw f45_r4) (.seq (.seq (.reg f45_r5) (.cond (.t (K.ofNat 59)) (.seq (.reg f45_r6) .ret) .skip)) (.draw f45_r7)))) (.reg f45_r8)))
noncomputable def f45_r9 : List EOper := [⟨(some (K.ofNat 67)), none, .mv (.t (K.ofNat 1))⟩, ⟨(some (K.ofNat 68)), none, .len (.t (K.ofNat 67))⟩, ⟨(some (K.ofNat 69)), none, .mv (.t (K.ofNat 0))⟩, ⟨(some (K.ofNat 70)), none, .bin .quo (.t (K.ofNat 69)) (.c (.i .i64 (.ofNat 2)))⟩, ⟨(some (K.ofNat 71)), none, .bin .eql (.t (K.ofNat 68)) (.t (K.ofNat 70))⟩, ⟨(some (K.ofNat 4)), none, .as (.t (K.ofNat 71))⟩]
noncomputable def f45_c : EC := (.seq (.reg f45_r0) (.seq (.reg f45_r1) (.seq (.seq (.reg f45_r2) (.block 0 (.loop f45_l0))) (.seq (.reg f45_r9) .ret))))
noncomputable def f45 : EF := ⟨72, [.tmp (K.ofNat 4)], f45_c, none⟩
theorem f45_rs : f45.rs = [.tmp (K.ofNat 4)] := of_eq_true (eq_self _)
noncomputable def f48_r0 : List EOper := [⟨(some (K.ofNat 4)), none, .as (.c (.b false))⟩]
noncomputable def f48_r1 : List EOper := [⟨(some (K.ofNat 5)), none, .alloc 100 (List.replicate 100 (.b false))⟩]
noncomputable def f48_r2 : List EOper := [⟨(some (K.ofNat 6)), none, .as (.c (.i .i64 (.ofNat 0)))⟩]
noncomputable def f48_r3 : List EOper := [⟨(some (K.ofNat 11)), none, .mv (.t (K.ofNat 6))⟩, ⟨(some (K.ofNat 12)), none, .mv (.t (K.ofNat 1))⟩, ⟨(some (K.ofNat 13)), none, .len (.t (K.ofNat 12))⟩, ⟨(some (K.ofNat 14)), none, .bin .lss (.t (K.ofNat 11)) (.t (K.ofNat 13))⟩]
noncomputable def f48_r4 : List EOper := [⟨(some (K.ofNat 17)), none, .mv (.t (K.ofNat 0))⟩, ⟨(some (K.ofNat 18)), none, .mv (.t (K.ofNat 1))⟩, ⟨(some (K.ofNat 19)), none, .mv (.t (K.ofNat 6))⟩, ⟨(some (K.ofNat 20)), none, .iads 1 (.t (K.ofNat 18)) (.t (K.ofNat 19))⟩, ⟨(some (K.ofNat 21)), none, .ld (.t (K.ofNat 20))⟩, ⟨(some (K.ofNat 22)), none, .call (.c (.fn (K.ofNat 45) [])) [(.t (K.ofNat 17)), (.t (K.ofNat 21))]⟩, ⟨(some (K.ofNat 23)), none, .not (.t (K.ofNat 22))⟩]
noncomputable def f48_r5 : List EOper := [⟨(some (K.ofNat 4)), none, .as (.c (.b false))⟩]
noncomputable def f48_r6 : List EOper := [⟨(some (K.ofNat 7)), none, .as (.c (.i .i64 (.ofNat 0)))⟩]
noncomputable def f48_r7 : List EOper := [⟨(some (K.ofNat 24)), none, .mv (.t (K.ofNat 7))⟩, ⟨(some (K.ofNat 25)), none, .mv (.t (K.ofNat 1))⟩, ⟨(some (K.ofNat 26)), none, .mv (.t (K.ofNat 6))⟩, ⟨(some (K.ofNat 27)), none, .iads 1 (.t (K.ofNat 25)) (.t (K.ofNat 26))⟩, ⟨(some (K.ofNat 28)), none, .ld (.t (K.ofNat 27))⟩, ⟨(some (K.ofNat 29)), none, .len (.t (K.ofNat 28))⟩, ⟨(some (K.ofNat 30)), none, .bin .lss (.t (K.ofNat 24)) (.t (K.ofNat 29))⟩]
noncomputable def f48_r8 : List Stage := [⟨[⟨(some (K.ofNat 33)), none, .mv (.t (K.ofNat 1))⟩, ⟨(some (K.ofNat 34)), none, .mv (.t (K.ofNat 6))⟩, ⟨(some (K.ofNat 35)), none, .iads 1 (.t (K.ofNat 33)) (.t (K.ofNat 34))⟩, ⟨(some (K.ofNat 36)), none, .ld (.t (K.ofNat 35))⟩, ⟨(some (K.ofNat 37)), none, .mv (.t (K.ofNat 7))⟩, ⟨(some (K.ofNat 38)), none, .iads 2 (.t (K.ofNat 36)) (.t (K.ofNat 37))⟩, ⟨(some (K.ofNat 39)), none, .iadr 2 1 (.t (K.ofNat 38)) (.c (.i .i64 (.ofNat 0)))⟩, ⟨(some (K.ofNat 40)), none, .ld (.t (K.ofNat 39))⟩, ⟨(some (K.ofNat 41)), none, .mv (.t (K.ofNat 1))⟩, ⟨(some (K.ofNat 42)), none, .mv (.t (K.ofNat 6))⟩, ⟨(some (K.ofNat 43)), none, .iads 1 (.t (K.ofNat 41)) (.t (K.ofNat 42))⟩, ⟨(some (K.ofNat 44)), none, .ld (.t (K.ofNat 43))⟩, ⟨(some (K.ofNat 45)), none, .mv (.t (K.ofNat 7))⟩, ⟨(some (K.ofNat 46)), none, .iads 2 (.t (K.ofNat 44)) (.t (K.ofNat 45))⟩, ⟨(some (K.ofNat 47)), none, .iadr 2 1 (.t (K.ofNat 46)) (.c (.i .i64 (.ofNat 1)))⟩, ⟨(some (K.ofNat 48)), none, .ld (.t (K.ofNat 47))⟩], [], (some ⟨(some (K.ofNat 8)), none, .as (.t (K.ofNat 40))⟩), []⟩, ⟨[], [⟨(some (K.ofNat 41)), none, .mv (.t (K.ofNat 1))⟩, ⟨(some (K.ofNat 42)), none, .mv (.t (K.ofNat 6))⟩, ⟨(some (K.ofNat 43)), none, .iads 1 (.t (K.ofNat 41)) (.t (K.ofNat 42))⟩, ⟨(some (K.ofNat 44)), none, .ld (.t (K.ofNat 43))⟩, ⟨(some (K.ofNat 45)), none, .mv (.t (K.ofNat 7))⟩, ⟨(some (K.ofNat 46)), none, .iads 2 (.t (K.ofNat 44)) (.t (K.ofNat 45))⟩, ⟨(some (K.ofNat 47)), none, .iadr 2 1 (.t (K.ofNat 46)) (.c (.i .i64 (.ofNat 1)))⟩, ⟨(some (K.ofNat 48)), none, .ld (.t (K.ofNat 47))⟩], (some ⟨(some (K.ofNat 9)), none, .as (.t (K.ofNat 48))⟩), []⟩, ⟨[], [], none, []⟩]
noncomputable def f48_r9 : List EOper := [⟨(some (K.ofNat 49)), none, .mv (.t (K.ofNat 8))⟩, ⟨(some (K.ofNat 50)), none, .mv (.t (K.ofNat 9))⟩, ⟨(some (K.ofNat 51)), none, .min (.t (K.ofNat 49)) (.t (K.ofNat 50))⟩, ⟨(some (K.ofNat 52)), none, .bin .mul (.t (K.ofNat 51)) (.c (.i .i64 (.ofNat 10)))⟩, ⟨(some (K.ofNat 53)), none, .mv (.t (K.ofNat 8))⟩, ⟨(some (K.ofNat 54)), none, .mv (.t (K.ofNat 9))⟩, ⟨(some (K.ofNat 55)), none, .max (.t (K.ofNat 53)) (.t (K.ofNat 54))⟩, ⟨(some (K.ofNat 56)), none, .bin .add (.t (K.ofNat 52)) (.t (K.ofNat 55))⟩, ⟨(some (K.ofNat 10)), none, .as (.t (K.ofNat 56))⟩]
noncomputable def f48_r10 : List EOper := [⟨(some (K.ofNat 57)), none, .mv (.t (K.ofNat 10))⟩, ⟨(some (K.ofNat 58)), none, .iadr 100 1 (.t (K.ofNat 5)) (.t (K.ofNat 57))⟩, ⟨(some (K.ofNat 59)), none, .ld (.t (K.ofNat 58))⟩]
noncomputable def f48_r11 : List EOper := [⟨(some (K.ofNat 4)), none, .as (.c (.b false))⟩]
noncomputable def f48_r12 : List EOper := [⟨(some (K.ofNat 60)), none, .mv (.t (K.ofNat 10))⟩, ⟨(some (K.ofNat 61)), none, .iadr 100 1 (.t (K.ofNat 5)) (.t (K.ofNat 60))⟩, ⟨none, none, .st 1 (.t (K.ofNat 61)) (.c (.b true))⟩]
noncomputable def f48_r13 : List EOper := [⟨(some (K.ofNat 31)), none, .mv (.t (K.ofNat 7))⟩, ⟨(some (K.ofNat 32)), none, .bin .add (.t (K.ofNat 31)) (.c (.i .i64 (.ofNat 1)))⟩, ⟨(some (K.ofNat 7)), none, .as (.t (K.ofNat 32))⟩]
noncomputable def f48_l0 : EC := (.seq (.seq (.reg f48_r7) (.cond (.t (K.ofNat 30)) .skip (.exit 2))) (.seq (.block 3 (.seq (.draw f48_r8) (.seq (.reg f48_r9) (.seq (.seq (.reg f48_r10) (.cond (.t (K.ofNat 59)) (.seq (.reg f48_r11) .ret) .skip)) (.reg f48_r12))))) (.reg f48_r13)))
noncomputable def f48_r14 : List EOper := [⟨(some (K.ofNat 15)), none, .mv (.t (K.ofNat 6))⟩, ⟨(some (K.ofNat 16)), none, .bin .add (.t (K.ofNat 15)) (.c (.i .i64 (.ofNat 1)))⟩, ⟨(some (K.ofNat 6)), none, .as (.t (K.ofNat 16))⟩]
noncomputable def f48_l1 : EC := (.seq (.seq (.reg f48_r3) (.cond (.t (K.ofNat 14)) .skip (.exit 0))) (.seq (.block 1 (.seq (.seq (.reg f48_r4) (.cond (.t (K.ofNat 23)) (.seq (.reg f48_r5) .ret) .skip)) (.seq (.reg f48_r6) (.block 2 (.loop f48_l0))))) (.reg f48_r14)))
noncomputable def f48_r15 : List EOper := [⟨(some (K.ofNat 62)), none, .mv (.t (K.ofNat 1))⟩, ⟨(some (K.ofNat 63)), none, .len (.t (K.ofNat 62))⟩, ⟨(some (K.ofNat 64)), none, .mv (.t (K.ofNat 0))⟩, ⟨(some (K.ofNat 65)), none, .bin .lss (.t (K.ofNat 63)) (.t (K.ofNat 64))⟩, ⟨(some (K.ofNat 4)), none, .as (.t (K.ofNat 65))⟩]
noncomputable def f48_c : EC := (.seq (.reg f48_r0) (.seq (.reg f48_r1) (.seq (.seq (.reg f48_r2) (.block 0 (.loop f48_l1))) (.seq (.reg f48_r15) .ret))))
noncomputable def f48 : EF := ⟨66, [.tmp (K.ofNat 4)], f48_c, none⟩
theorem f48_rs : f48.rs = [.tmp (K.ofNat 4)] := of_eq_true (eq_self _)
noncomputable def f14_r0 : List EOper := [⟨(some (K.ofNat 4)), none, .as (.c (.i .i64 (.ofNat 0)))⟩]
noncomputable def f14_r1 : List EOper := [⟨(some (K.ofNat 6)), none, .mv (.t (K.ofNat 0))⟩, ⟨(some (K.ofNat 7)), none, .call (.c (.fn (K.ofNat 37) [])) [(.t (K.ofNat 6))]⟩, ⟨(some (K.ofNat 8)), none, .not (.t (K.ofNat 7))⟩, ⟨(some (K.ofNat 5)), none, .as (.t (K.ofNat 8))⟩]
noncomputable def f14_r2 : List EOper := [⟨(some (K.ofNat 4)), none, .as (.c (.i .i64 (.ofNat 1)))⟩]
noncomputable def f14_r3 : List EOper := [⟨(some (K.ofNat 10)), none, .mv (.t (K.ofNat 1))⟩, ⟨(some (K.ofNat 11)), none, .len (.t (K.ofNat 10))⟩, ⟨(some (K.ofNat 12)), none, .mv (.t (K.ofNat 0))⟩, ⟨(some (K.ofNat 13)), none, .bin .sub (.t (K.ofNat 12)) (.c (.i .i64 (.ofNat 1)))⟩, ⟨(some (K.ofNat 14)), none, .bin .neq (.t (K.ofNat 11)) (.t (K.ofNat 13))⟩, ⟨(some (K.ofNat 15)), none, .mv (.t (K.ofNat 14))⟩, ⟨(some (K.ofNat 16)), (some ((K.ofNat 15), false)), .mv (.t (K.ofNat 0))⟩, ⟨(some (K.ofNat 17)), (some ((K.ofNat 15), false)), .mv (.t (K.ofNat 1))⟩, ⟨(some (K.ofNat 18)), (some ((K.ofNat 15), false)), .call (.c (.fn (K.ofNat 48) [])) [(.t (K.ofNat 16)), (.t (K.ofNat 17))]⟩, ⟨(some (K.ofNat 19)), (some ((K.ofNat 15), false)), .not (.t (K.ofNat 18))⟩, ⟨(some (K.ofNat 20)), none, .pick (.t (K.ofNat 15)) (.c (.b true)) (.t (K.ofNat 19))⟩, ⟨(some (K.ofNat 9)), none, .as (.t (K.ofNat 20))⟩]
noncomputable def f14_r4 : List EOper := [⟨(some (K.ofNat 4)), none, .as (.c (.i .i64 (.ofNat 40)))⟩]
noncomputable def f14_r5 : List EOper := [⟨(some (K.ofNat 4)), none, .as (.c (.i .i64 (.ofNat 0)))⟩]
noncomputable def f14_c : EC := (.seq (.reg f14_r0) (.seq (.block 0 (.seq (.reg f14_r1) (.cond (.t (K.ofNat 5)) (.seq (.reg f14_r2) .ret) (.seq (.reg f14_r3) (.cond (.t (K.ofNat 9)) (.seq (.reg f14_r4) .ret) .skip))))) (.seq (.reg f14_r5) .ret)))
noncomputable def f14 : EF := ⟨21, [.tmp (K.ofNat 4)], f14_c, none⟩
theorem f14_rs : f14.rs = [.tmp (K.ofNat 4)] := of_eq_true (eq_self _)
section
variable {fs : T EF} {h : H} {v : V} {us : List V} {Ls : List (List (Int × Int))} {l : List (Int × Int)} {n : Nat}
/-- One bit of a mask. -/
theorem bit_i {m x : Nat} (hx : x ≤ 15) : binV .shr (.i .i64 (m : Int)) (.i .i64 (x : Int)) = some (.i .i64 ((m / 2 ^ x : Nat) : Int)) ∧ ((m / 2 ^ x : Nat) : Int).tmod 2 = ((m / 2 ^ x % 2 : Nat) : Int) ∧ decide (((m / 2 ^ x % 2 : Nat) : Int) = 1) = m.testBit x ∧ binV .shl (.i .i64 1) (.i .i64 (x : Int)) = some (.i .i64 ((2 ^ x : Nat) : Int)) ∧ 2 ^ x ≤ 32768 := by
  have hp : 2 ^ x ≤ 2 ^ 15 := Nat.pow_le_pow_right (by omega) hx
  have hp2' : 2 ^ 15 = 32768 := by decide
  refine ⟨by rw [bin_shr, show min x (IntKind.bits .i64) = x by show min x 64 = x; omega], rfl, ?_, ?_, by omega⟩
  · rw [Nat.testBit_eq_decide_div_mod_eq]
    congr 1
    apply propext
    omega
  · rw [bin_shl (by omega), show min ((x : Int).toNat) (IntKind.bits .i64) = x by show min ((x : Int).toNat) 64 = x; omega, Int.one_mul]
    have hz : (2 : Int) ^ x = ((2 ^ x : Nat) : Int) := by rw [Int.natCast_pow]; rfl
    rw [hz, fw64 (by have : (0 : Int) ≤ ((2 ^ x : Nat) : Int) := Int.natCast_nonneg _; omega) (by omega)]
theorem aa_no {n : Nat} {L : List Int} (h : ¬ ((∀ x ∈ L, 0 ≤ x ∧ x < (n : Int)) ∧ L.Nodup)) : aaB (n : Int) L = false := by
  rw [Bool.eq_false_iff]
  intro hh
  unfold aaB at hh
  simp only [Bool.and_eq_true, decide_eq_true_iff] at hh
  exact h hh.2
def f45_I (h : H) (n : Nat) (v : V) (l : List (Int × Int)) (i : Nat) (fr : Fr) (h1 : H) : Prop := i ≤ l.length ∧ h1 = h ∧ (∀ x ∈ plL (l.take i), 0 ≤ x ∧ x < (n : Int)) ∧ (plL (l.take i)).Nodup ∧ ∃ m, Msk m (plL (l.take i)) ∧ fr.get (K.ofNat 0) = some (.i .i64 (n : Int)) ∧ fr.get (K.ofNat 1) = some (v) ∧ fr.get (K.ofNat 5) = some (.i .i64 (m : Int)) ∧ fr.get (K.ofNat 6) = some (.i .i64 (i : Int))
theorem f45_ret (hn : n ≤ 10) (he : n % 2 = 0) (hv : Srp h v l) (hL : l.length ≤ 9223372036854775807) : Ret fs f45 [.i .i64 (n : Int), v] h fun r h' => r = .b (rndB n l) ∧ h' = h := by
  apply ret_of rfl
  show W fs none f45_c _ _ _
  unfold f45_c
  have hlen := hv.len
  have hvb := hv.beq
  have hk : kmax .i64 = 9223372036854775807 := rfl
  simp (disch := omega) only [f45_r0, f45_r1, f45_r2, w_reg, w_seq, w_block, seqK_n, x_nil, x_as, ev_c, putD_some, frame_2, of0]
  refine W_loop (f45_I h n v l) (fun i => l.length - i) ?_ 0 ⟨by omega, rfl, by simp [plL], by simp [plL], 0, Msk.nil, by simp (disch := omega) only [getK_set, Nat.reduceEqDiff, ↓reduceIte, and_self, Int.natCast_zero]⟩
  rintro i fr h1 ⟨hi, rfl, hin, hnd, m, hm, g0, g1, g5, g6⟩
  unfold f45_l0
  by_cases hlt : i < l.length
  · have d0 : decide ((i : Int) < (l.length : Int)) = true := by simpa using hlt
    obtain ⟨ida, q, hp1, _, hp3, hp4⟩ := hv.at2 hlt
    have htk := plL_snoc hlt
    have hsub : (plL (l.take (i + 1))).Sublist (plL l) := by
      conv => rhs; rw [← List.take_append_drop (i + 1) l]
      unfold plL
      rw [List.flatMap_append]
      exact List.sublist_append_left _ _
    have bad : ¬ ((∀ x ∈ plL (l.take (i + 1)), 0 ≤ x ∧ x < (n : Int)) ∧ (plL (l.take (i + 1))).Nodup) → rndB n l = false := fun hb => by
      have := aa_no (n := n) (L := plL l) fun hh => hb ⟨fun x hx => hh.1 x (hsub.subset hx), List.Pairwise.sublist hsub hh.2⟩
      unfold rndB
      rw [this, Bool.and_false]
    have hpl : i ≤ 16 := by
      have h1 := nodup_le (m := (List.range n).map fun (k : Nat) => (k : Int)) hnd fun z hz => by
        obtain ⟨h1, h2⟩ := hin z hz
        exact List.mem_map.2 ⟨z.toNat, by simp; omega, by omega⟩
      rw [plL_len, List.length_take] at h1
      simp at h1
      omega
    rw [htk] at bad
    generalize l[i] = e at *
    have b1 : ¬ (0 ≤ e.1 ∧ e.1 < (n : Int)) → rndB n l = false := fun hb => bad fun hh => hb (hh.1 e.1 (by simp))
    have b2 : ¬ (0 ≤ e.2 ∧ e.2 < (n : Int)) → rndB n l = false := fun hb => bad fun hh => hb (hh.1 e.2 (by simp))
    have b3 : ¬ (plL (l.take i) ++ [e.1, e.2]).Nodup → rndB n l = false := fun hb => bad fun hh => hb hh.2
    obtain ⟨a, b⟩ := e
    simp only at hp3 hp4 b1 b2 b3 htk
    simp (disch := omega) only [f45_r3, f45_r4, w_skip, w_reg, w_draw, w_seq, w_cond, w_block, seqK_n, ckB_b, cbB_b, true_and, x_nil, x_mv, x_as, x_bin, x_len, kx, kg, xg_nil, xg_mv, xg_ld, xg_iadr, xg_iads, xd_cons, fresh_nil, stK_n, stK_s, stay_nil, stay_cons, again_ok, stay_mv, beq_i, stay_iads, stay_ld, beq_p, rvP_ok, okv_some, ev_t, ev_c, getV_some, putD_some, bin_lss, onP_p, of0, of1, getK_set, Nat.reduceEqDiff, ↓reduceIte, stay_iadr, ix2_0, ix2_1, g1, g6, hlen, d0, hp1, hp3, hp4, hvb]
    by_cases h1 : a < 0
    · have d1 : decide (a < 0) = true := decide_eq_true h1
      have hno := b1 (by omega)
      simp (disch := omega) only [f45_r5, f45_r6, f45_rs, w_reg, w_seq, w_cond, w_ret, seqK_n, seqK_r, atK_r, loopK_r, ckB_b, cbB_b, okG_b, asG_f, retK_r, x_nil, x_g, x_mv, x_as, x_pick, x_bin, kx, rvP_ok, okv_some, ev_t, ev_c, getV_some, putD_some, bin_lss, pick_b, oGet_s, readRs_nil, readRs_t, retV_1, of0, of1, of2, Option.some.injEq, exists_eq_left', getK_set, Nat.reduceEqDiff, ↓reduceIte, Bool.false_eq_true, Bool.not_true, d1, hno, and_self]
    have d1 : decide (a < 0) = false := decide_eq_false h1
    by_cases h2 : b < 0
    · have d2 : decide (b < 0) = true := decide_eq_true h2
      have hno := b2 (by omega)
      simp (disch := omega) only [f45_r5, f45_r6, f45_rs, w_reg, w_seq, w_cond, w_ret, seqK_n, seqK_r, atK_r, loopK_r, ckB_b, cbB_b, okG_b, asG_f, retK_r, x_nil, x_g, x_mv, x_as, x_pick, x_bin, kx, rvP_ok, okv_some, ev_t, ev_c, getV_some, putD_some, bin_lss, pick_b, oGet_s, readRs_nil, readRs_t, retV_1, of0, of1, of2, Option.some.injEq, exists_eq_left', getK_set, Nat.reduceEqDiff, ↓reduceIte, Bool.false_eq_true, Bool.not_true, Bool.not_false, d1, d2, hno, and_self]
    have d2 : decide (b < 0) = false := decide_eq_false h2
    by_cases h3 : a ≥ (n : Int)
    · have d3 : decide (a ≥ (n : Int)) = true := decide_eq_true h3
      have hno := b1 (by omega)
      simp (disch := omega) only [f45_r5, f45_r6, f45_rs, w_reg, w_seq, w_cond, w_ret, seqK_n, seqK_r, atK_r, loopK_r, ckB_b, cbB_b, okG_b, asG_f, retK_r, x_nil, x_g, x_mv, x_as, x_pick, x_bin, kx, rvP_ok, okv_some, ev_t, ev_c, getV_some, putD_some, bin_lss, bin_geq, pick_b, oGet_s, readRs_nil, readRs_t, retV_1, of0, of1, of2, Option.some.injEq, exists_eq_left', getK_set, Nat.reduceEqDiff, ↓reduceIte, Bool.false_eq_true, Bool.not_true, Bool.not_false, g0, d1, d2, d3, hno, and_self]
    have d3 : decide (a ≥ (n : Int)) = false := decide_eq_false h3
    by_cases h4 : b ≥ (n : Int)
    · have d4 : decide (b ≥ (n : Int)) = true := decide_eq_true h4
      have hno := b2 (by omega)
      simp (disch := omega) only [f45_r5, f45_r6, f45_rs, w_reg, w_seq, w_cond, w_ret, seqK_n, seqK_r, atK_r, loopK_r, ckB_b, cbB_b, okG_b, asG_f, retK_r, x_nil, x_g, x_mv, x_as, x_pick, x_bin, kx, rvP_ok, okv_some, ev_t, ev_c, getV_some, putD_some, bin_lss, bin_geq, pick_b, oGet_s, readRs_nil, readRs_t, retV_1, of0, of1, of2, Option.some.injEq, exists_eq_left', getK_set, Nat.reduceEqDiff, ↓reduceIte, Bool.false_eq_true, Bool.not_true, Bool.not_false, g0, d1, d2, d3, d4, hno, and_self]
    have d4 : decide (b ≥ (n : Int)) = false := decide_eq_false h4
    by_cases h5 : a = b
    · have d5 : decide (a = b) = true := decide_eq_true h5
      have hno := b3 (by rw [h5, List.nodup_append]; simp)
      simp (disch := omega) only [f45_r5, f45_r6, f45_rs, w_reg, w_seq, w_cond, w_ret, seqK_n, seqK_r, atK_r, loopK_r, ckB_b, cbB_b, okG_b, asG_f, retK_r, x_nil, x_g, x_mv, x_as, x_pick, x_bin, kx, rvP_ok, okv_some, ev_t, ev_c, getV_some, putD_some, bin_eql, bin_lss, bin_geq, pick_b, oGet_s, readRs_nil, readRs_t, retV_1, of0, of1, of2, Option.some.injEq, exists_eq_left', getK_set, Nat.reduceEqDiff, ↓reduceIte, Bool.false_eq_true, Bool.not_true, Bool.not_false, g0, d1, d2, d3, d4, d5, hno, and_self]
    have d5 : decide (a = b) = false := decide_eq_false h5
    obtain ⟨x, rfl⟩ : ∃ x : Nat, a = (x : Int) := ⟨a.toNat, by omega⟩
    obtain ⟨y, rfl⟩ : ∃ y : Nat, b = (y : Int) := ⟨b.toNat, by omega⟩
    have hm1 := hm.1
    obtain ⟨s1, s2, s3, s4, s5⟩ := bit_i (m := m) (show x ≤ 15 by omega)
    obtain ⟨t1, t2, t3, t4, t5⟩ := bit_i (m := m) (show y ≤ 15 by omega)
    rw [hm.2 x (by omega)] at s3
    rw [hm.2 y (by omega)] at t3
    by_cases h6 : (x : Int) ∈ plL (l.take i)
    · rw [decide_eq_true h6] at s3
      have hno := b3 (by rw [List.nodup_append]; exact fun hh => hh.2.2 _ h6 _ (by simp) rfl)
      simp (disch := omega) only [f45_r5, f45_r6, f45_rs, w_reg, w_seq, w_cond, w_ret, seqK_n, seqK_r, atK_r, loopK_r, ckB_b, cbB_b, okG_b, asG_f, retK_r, x_nil, x_g, x_mv, x_as, x_pick, x_bin, kx, rvP_ok, okv_some, ev_t, ev_c, getV_some, putD_some, bin_eql, bin_lss, bin_geq, bin_rem, pick_b, oGet_s, readRs_nil, readRs_t, retV_1, of0, of1, of2, Option.some.injEq, exists_eq_left', getK_set, Nat.reduceEqDiff, ↓reduceIte, Bool.false_eq_true, Bool.not_true, Bool.not_false, g0, g5, d1, d2, d3, d4, d5, s1, s2, s3, hno, and_self]
    rw [decide_eq_false h6] at s3
    by_cases h7 : (y : Int) ∈ plL (l.take i)
    · rw [decide_eq_true h7] at t3
      have hno := b3 (by rw [List.nodup_append]; exact fun hh => hh.2.2 _ h7 _ (by simp) rfl)
      simp (disch := omega) only [f45_r5, f45_r6, f45_rs, w_reg, w_seq, w_cond, w_ret, seqK_n, seqK_r, atK_r, loopK_r, ckB_b, cbB_b, okG_b, asG_f, retK_r, x_nil, x_g, x_mv, x_as, x_pick, x_bin, kx, rvP_ok, okv_some, ev_t, ev_c, getV_some, putD_some, bin_eql, bin_lss, bin_geq, bin_rem, pick_b, oGet_s, readRs_nil, readRs_t, retV_1, of0, of1, of2, Option.some.injEq, exists_eq_left', getK_set, Nat.reduceEqDiff, ↓reduceIte, Bool.false_eq_true, Bool.not_false, g0, g5, d1, d2, d3, d4, d5, s1, s2, s3, t1, t2, t3, hno, and_self]
    rw [decide_eq_false h7] at t3
    have hm2 := hm.snoc (show x ≤ 15 by omega)
    have hm3 := hm2.snoc (show y ≤ 15 by omega)
    rw [List.append_assoc] at hm3
    have q1 : binV .or (.i .i64 (m : Int)) (.i .i64 ((2 ^ x : Nat) : Int)) = some (.i .i64 ((m ||| 2 ^ x : Nat) : Int)) := bin_or (by omega) (by omega)
    have q2 : binV .or (.i .i64 ((m ||| 2 ^ x : Nat) : Int)) (.i .i64 ((2 ^ y : Nat) : Int)) = some (.i .i64 ((m ||| 2 ^ x ||| 2 ^ y : Nat) : Int)) := bin_or (by have := hm2.1; omega) (by omega)
    simp (disch := omega) only [f45_r5, w_skip, w_draw, w_cond, seqK_n, ckB_b, cbB_b, okG_b, asG_f, true_and, x_nil, x_g, x_mv, x_pick, x_bin, kx, rvP_ok, okv_some, ev_t, ev_c, getV_some, putD_some, bin_eql, bin_lss, bin_geq, bin_rem, pick_b, of0, of1, of2, getK_set, Nat.reduceEqDiff, ↓reduceIte, Bool.false_eq_true, Bool.not_false, g0, g5, d1, d2, d3, d4, d5, s1, s2, s3, t1, t2, t3]
    simp (disch := omega) only [f45_r7, f45_r8, w_reg, seqK_n, atK_n, loopK_n, true_and, x_nil, x_mv, x_as, x_bin, kx, kg, xg_nil, xg_mv, xg_bin, xd_cons, fresh_nil, stK_n, stK_s, stay_nil, rvP_ok, okv_some, ev_t, ev_c, getV_some, putD_some, bin_add, of1, getK_set, Nat.reduceEqDiff, ↓reduceIte, g5, g6, s4, t4, q1, q2, fw64]
    refine ⟨i + 1, by omega, by omega, rfl, ?_, ?_, _, by rw [htk]; exact hm3, by simp (disch := omega) only [getK_set, Nat.reduceEqDiff, ↓reduceIte, g0, g1, and_self, Int.natCast_add, Int.natCast_one]⟩
    · rw [htk]
      intro z hz
      rcases List.mem_append.1 hz with hz | hz
      · exact hin z hz
      · rcases List.mem_cons.1 hz with rfl | hz
        · omega
        · rw [List.mem_singleton.1 hz]; omega
    · rw [htk, List.nodup_append]
      refine ⟨hnd, by simpa using h5, fun p hp r hr er => ?_⟩
      rcases List.mem_cons.1 hr with rfl | hr
      · exact h6 (er ▸ hp)
      · rw [List.mem_singleton.1 hr] at er; exact h7 (er ▸ hp)
  · have d0 : decide ((i : Int) < (l.length : Int)) = false := by simpa using hlt
    have ei : i = l.length := by omega
    rw [ei, List.take_length] at hin hnd
    have hq2 : binV .quo (.i .i64 (n : Int)) (.i .i64 2) = some (.i .i64 ((n / 2 : Nat) : Int)) := bin_quo2 (by omega)
    have hyes : decide ((l.length : Int) = ((n / 2 : Nat) : Int)) = rndB n l := by
      unfold rndB aaB
      rw [decide_eq_true hin, decide_eq_true hnd, Bool.and_true, Bool.and_true, plL_len, Bool.eq_iff_iff]
      simp only [Bool.and_eq_true, decide_eq_true_iff]
      omega
    simp (disch := omega) only [f45_r3, f45_r9, f45_rs, w_reg, w_seq, w_cond, w_exit, w_ret, seqK_n, seqK_e, atK_e, loopK_e, ckB_b, cbB_b, retK_r, x_nil, x_mv, x_as, x_bin, x_len, kx, rvP_ok, okv_some, ev_t, ev_c, getV_some, putD_some, bin_eql, bin_lss, oGet_s, readRs_nil, readRs_t, retV_1, of2, Option.some.injEq, exists_eq_left', getK_set, Nat.reduceEqDiff, ↓reduceIte, Bool.false_eq_true, g0, g1, g6, hlen, d0, hq2, hyes, and_self]
/-- Which pairs have met. -/
structure MetB (T : List Bool) (P : List (Int × Int)) : Prop where
  len : T.length = 100
  at' : ∀ x y : Nat, x < y → y < 10 → T.getD (x * 10 + y) false = decide (((x : Int), (y : Int)) ∈ P ∨ ((y : Int), (x : Int)) ∈ P)
theorem MetB.nil : MetB (List.replicate 100 false) [] := ⟨by simp, fun x y _ hy => by
  rw [List.getD_eq_getElem?_getD, List.getElem?_replicate]
  split <;> simp⟩
theorem MetB.add {T : List Bool} {P : List (Int × Int)} {a b : Nat} (m : MetB T P) (ha : a < b) (hb : b < 10) {e : Int × Int} (he : e = ((a : Int), (b : Int)) ∨ e = ((b : Int), (a : Int))) : MetB (T.set (a * 10 + b) true) (P ++ [e]) := by
  refine ⟨by rw [List.length_set]; exact m.len, fun x y hxy hy => ?_⟩
  rw [List.getD_eq_getElem?_getD, List.getElem?_set]
  by_cases h : a * 10 + b = x * 10 + y
  · have h1 : a = x := by omega
    have h2 : b = y := by omega
    subst h1; subst h2
    rw [if_pos rfl, if_pos (by rw [m.len]; omega)]
    refine (decide_eq_true ?_).symm
    rcases he with rfl | rfl <;> simp
  · rw [if_neg h, ← List.getD_eq_getElem?_getD, m.at' x y hxy hy]
    congr 1
    refine propext ⟨fun h => ?_, fun h => ?_⟩
    · rcases h with h | h
      · exact .inl (List.mem_append_left _ h)
      · exact .inr (List.mem_append_left _ h)
    · have key : ∀ z : Int × Int, (z = ((x : Int), (y : Int)) ∨ z = ((y : Int), (x : Int))) → z ≠ e := by
        intro z hz q
        rw [q] at hz
        rcases he with rfl | rfl <;> rcases hz with hz | hz <;> simp only [Prod.mk.injEq] at hz <;> omega
      rcases h with h | h
      · rcases List.mem_append.1 h with h | h
        · exact .inl h
        · exact absurd (List.mem_singleton.1 h) (key _ (.inl rfl))
      · rcases List.mem_append.1 h with h | h
        · exact .inr h
        · exact absurd (List.mem_singleton.1 h) (key _ (.inr rfl))
theorem rep_b100 : List.replicate 100 (V.b false) = (List.replicate 100 false).map (fun b => V.b b) := by rw [List.map_replicate]
theorem bg_no {n : Nat} {Ls : List (List (Int × Int))} (h : ¬ ((∀ l ∈ Ls, rndB n l = true) ∧ Ls.flatten.Pairwise dsR)) : bgB n Ls = false := by
  rw [Bool.eq_false_iff]
  intro hh
  unfold bgB at hh
  simp only [Bool.and_eq_true, decide_eq_true_iff, List.all_eq_true] at hh
  exact h hh.2
def f48_I (h : H) (n : Nat) (v : V) (Ls : List (List (Int × Int))) (i : Nat) (fr : Fr) (h1 : H) : Prop := i ≤ Ls.length ∧ Grow h.nx.nat h h1 ∧ (∀ l ∈ Ls.take i, rndB n l = true) ∧ (Ls.take i).flatten.Pairwise dsR ∧ ∃ T, Ar (fun b => V.b b) h1 h.nx T ∧ MetB T (Ls.take i).flatten ∧ h.nx.nat < h1.nx.nat ∧ fr.get (K.ofNat 0) = some (.i .i64 (n : Int)) ∧ fr.get (K.ofNat 1) = some (v) ∧ fr.get (K.ofNat 5) = some (.p h.nx 0) ∧ fr.get (K.ofNat 6) = some (.i .i64 (i : Int))
def f48_J (h : H) (n : Nat) (v : V) (P l : List (Int × Int)) (i j : Nat) (fr : Fr) (h1 : H) : Prop := j ≤ l.length ∧ Grow h.nx.nat h h1 ∧ (P ++ l.take j).Pairwise dsR ∧ ∃ T, Ar (fun b => V.b b) h1 h.nx T ∧ MetB T (P ++ l.take j) ∧ h.nx.nat < h1.nx.nat ∧ fr.get (K.ofNat 0) = some (.i .i64 (n : Int)) ∧ fr.get (K.ofNat 1) = some (v) ∧ fr.get (K.ofNat 5) = some (.p h.nx 0) ∧ fr.get (K.ofNat 6) = some (.i .i64 (i : Int)) ∧ fr.get (K.ofNat 7) = some (.i .i64 (j : Int))
theorem f48_ret (h45 : fs.get (K.ofNat 45) = some f45) (hn : n ≤ 10) (hn1 : 1 ≤ n) (he : n % 2 = 0) (hv : Nrp h v us Ls) (hL : Ls.length ≤ 1000000) (hL2 : ∀ l ∈ Ls, l.length ≤ 9223372036854775807) (hc : HC h) : Ret fs f48 [.i .i64 (n : Int), v] h fun r h' => r = .b (bgB n Ls) ∧ Grow h.nx.nat h h' := by
  have hlen : ∀ h1, lenV v h1 = .ok (.i .i64 (Ls.length : Int)) h1 := fun h1 => by rw [hv.out.len, hv.len]
  have hvb := hv.out.beq
  apply ret_of rfl
  show W fs none f48_c _ _ _
  unfold f48_c
  have n1 := nx_new h (.cells 100 (List.replicate 100 (.b false)))
  have e1 : Ar (fun b => V.b b) (h.new (.cells 100 (List.replicate 100 (.b false)))) h.nx (List.replicate 100 false) := by
    unfold Ar
    rw [get_new_same, rep_b100]
    rfl
  have gA := Grow.new (Nat.le_refl h.nx.nat) (.cells 100 (List.replicate 100 (.b false)))
  simp (disch := omega) only [f48_r0, f48_r1, f48_r2, w_reg, w_seq, w_block, seqK_n, x_nil, x_as, x_alloc, ev_c, putD_some, frame_2, of0]
  refine W_loop (f48_I h n v Ls) (fun i => Ls.length - i) ?_ 0 ⟨by omega, gA, by simp, by simp, _, e1, MetB.nil, by omega, by simp (disch := omega) only [getK_set, Nat.reduceEqDiff, ↓reduceIte, and_self, Int.natCast_zero]⟩
  clear n1 e1 gA
  rintro i fr h1 ⟨hi, hG, hall, hpw, T, hT, hM, hnx, g0, g1, g5, g6⟩
  have hv1 := hv.grow hc hG
  unfold f48_l1
  by_cases hlt : i < Ls.length
  · have d0 : decide ((i : Int) < (Ls.length : Int)) = true := by simpa using hlt
    have hiu : i < us.length := by rw [hv.len]; exact hlt
    obtain ⟨p, hp1, hp2'⟩ := hv1.out.at i hiu
    have hp2 : loadV h1 p one? = .ok us[i] h1 := hp2'
    clear hp2'
    have hui := hv.inn i hiu hlt
    have hl2 := hL2 Ls[i] (List.getElem_mem hlt)
    have hsn : Ls.take (i + 1) = Ls.take i ++ [Ls[i]] := List.take_succ_eq_append_getElem hlt
    have hbad : rndB n Ls[i] = false → bgB n Ls = false := fun hr => bg_no fun hh => by
      have := hh.1 _ (List.getElem_mem hlt)
      rw [hr] at this; cases this
    have hfl : Ls.flatten = ((Ls.take i).flatten ++ Ls[i]) ++ (Ls.drop (i + 1)).flatten := by
      conv => lhs; rw [← List.take_append_drop (i + 1) Ls, hsn]
      rw [List.flatten_append, List.flatten_append]; simp
    simp (disch := omega) only [f48_r3, f48_r4, w_skip, w_reg, w_seq, w_cond, w_block, seqK_n, ckB_b, cbB_b, true_and, x_nil, x_mv, x_ld, x_bin, x_iads, x_call, x_len, kx, rvP_ok, okv_some, ev_t, ev_c, evs_nil, evs_cons, getV_some, putD_some, bin_lss, getK_set, Nat.reduceEqDiff, ↓reduceIte, g0, g1, g6, hlen, d0, hp1, hp2]
    refine (callP_0 (ef := f45) h45 rfl (f45_ret hn he (hui.grow hc hG) hl2)).mono ?_
    rintro r h2 ⟨rfl, rfl⟩
    cases hr : rndB n Ls[i] with
    | false =>
      have hno := hbad hr
      simp (disch := omega) only [f48_r5, f48_rs, w_reg, w_seq, w_cond, w_ret, seqK_n, seqK_r, atK_r, loopK_r, ckB_b, cbB_b, true_and, retK_r, x_nil, x_as, x_not, kx, rvP_ok, ev_t, ev_c, getV_some, putD_some, onB_b, oGet_s, readRs_nil, readRs_t, retV_1, Option.some.injEq, exists_eq_left', getK_set, ↓reduceIte, Bool.not_false, Bool.not_false, hno, true_and]
      exact hG
    | true =>
      have hre := rnd_e hr
      have hll : Ls[i].length = n / 2 := by
        unfold rndB at hr
        simp only [Bool.and_eq_true, decide_eq_true_iff] at hr
        exact hr.1
      have hfin : ∀ h3, Grow h.nx.nat h h3 → loadV h3 p one? = .ok us[i] h3 := fun h3 hG3 => by
        obtain ⟨p', a1, a2⟩ := (hv.grow hc hG3).out.at i hiu
        obtain rfl : p = p' := by have := (hp1 .i64 h3).symm.trans (a1 .i64 h3); injection this
        exact a2
      generalize us[i] = u at *
      generalize Ls[i] = l at *
      have hlu := hui.len
      have hub := hui.beq
      simp (disch := omega) only [f48_r6, w_skip, w_reg, w_seq, w_cond, w_block, seqK_n, ckB_b, cbB_b, true_and, x_nil, x_as, x_not, kx, rvP_ok, ev_t, ev_c, getV_some, putD_some, onB_b, of0, getK_set, ↓reduceIte, Bool.false_eq_true, Bool.not_true, Bool.not_true]
      refine W_loop (f48_J h n v (Ls.take i).flatten l i) (fun j => l.length - j) ?_ 0 ⟨by omega, hG, by simpa using hpw, T, hT, by simpa using hM, hnx, by simp (disch := omega) only [getK_set, Nat.reduceEqDiff, ↓reduceIte, g0, g1, g5, g6, and_self, Int.natCast_zero]⟩
      clear g0 g1 g5 g6 fr hG hT hM hnx hp2 hv1 hpw
      clear T
      rintro j fr h3 ⟨hj, hG, hpw, T, hT, hM, hnx, g0, g1, g5, g6, g7⟩
      have hp2 := hfin h3 hG
      unfold f48_l0
      by_cases hlt2 : j < l.length
      · have d1 : decide ((j : Int) < (l.length : Int)) = true := by simpa using hlt2
        obtain ⟨ida, q, hq1, _, hq3, hq4⟩ := (hui.grow hc hG).at2 hlt2
        obtain ⟨r1, r2, r3⟩ := hre l[j] (List.getElem_mem hlt2)
        have htk : (Ls.take i).flatten ++ l.take (j + 1) = ((Ls.take i).flatten ++ l.take j) ++ [l[j]] := by rw [List.take_succ_eq_append_getElem hlt2, List.append_assoc]
        have hds := ds_snoc (e := l[j]) hpw
        rw [← htk] at hds
        have hbad2 : (l[j] ∈ (Ls.take i).flatten ++ l.take j ∨ (l[j].2, l[j].1) ∈ (Ls.take i).flatten ++ l.take j) → bgB n Ls = false := fun hb => bg_no fun hh => by
          have h1 := hh.2
          rw [hfl, ← List.take_append_drop (j + 1) l, ← List.append_assoc, List.append_assoc] at h1
          exact absurd hb (hds.1 (List.pairwise_append.1 h1).1)
        obtain ⟨x, hx⟩ : ∃ x : Nat, l[j].1 = (x : Int) := ⟨l[j].1.toNat, by omega⟩
        obtain ⟨y, hy⟩ : ∃ y : Nat, l[j].2 = (y : Int) := ⟨l[j].2.toNat, by omega⟩
        have hee : l[j] = ((x : Int), (y : Int)) := Prod.ext hx hy
        rw [hee] at htk hds hbad2 hq3 hq4 r1 r2 r3
        simp only at r1 r2 r3 hbad2 hds
        obtain ⟨a, b, hab, hb10, hmin, hmax, hor⟩ : ∃ a b : Nat, a < b ∧ b < 10 ∧ min (x : Int) (y : Int) = (a : Int) ∧ max (x : Int) (y : Int) = (b : Int) ∧ ((((x : Int), (y : Int)) : Int × Int) = ((a : Int), (b : Int)) ∨ (((x : Int), (y : Int)) : Int × Int) = ((b : Int), (a : Int))) := by
          rcases Nat.lt_or_ge x y with h | h
          · exact ⟨x, y, h, by omega, by omega, by omega, .inl rfl⟩
          · exact ⟨y, x, by omega, by omega, by omega, by omega, .inr rfl⟩
        have hid : (a : Int) * 10 + (b : Int) = ((a * 10 + b : Nat) : Int) := by omega
        have hil : a * 10 + b < T.length := by rw [hM.len]; omega
        have hil2 : a * 10 + b < 100 := by omega
        have hl0 := hT.ld hil
        have hat := hM.at' a b hab hb10
        rw [getD_at hil] at hat
        have heq : decide (((a : Int), (b : Int)) ∈ (Ls.take i).flatten ++ l.take j ∨ ((b : Int), (a : Int)) ∈ (Ls.take i).flatten ++ l.take j) = decide (((x : Int), (y : Int)) ∈ (Ls.take i).flatten ++ l.take j ∨ ((y : Int), (x : Int)) ∈ (Ls.take i).flatten ++ l.take j) := by
          congr 1
          rcases hor with h | h
          · injection h with h1 h2; rw [h1, h2]
          · injection h with h1 h2; rw [h1, h2]; exact propext Or.comm
        rw [heq] at hat
        rw [hat] at hl0
        obtain ⟨hst, hT2⟩ := hT.st hil (x := true) (c := .b true) rfl rfl
        have hM2 := hM.add hab hb10 hor
        rw [← htk] at hM2
        have e10 : (a : Int) * 10 = ((a * 10 : Nat) : Int) := by omega
        have e11 : ((a * 10 : Nat) : Int) + (b : Int) = ((a * 10 + b : Nat) : Int) := by omega
        have hpb : beqV p p = true := by
          obtain ⟨p2, z1, _, z3⟩ := (hv.grow hc hG).out.atb i hiu
          obtain rfl : p = p2 := by have := (hp1 .i64 h3).symm.trans (z1 .i64 h3); injection this
          exact z3
        cases hd : decide (((x : Int), (y : Int)) ∈ (Ls.take i).flatten ++ l.take j ∨ ((y : Int), (x : Int)) ∈ (Ls.take i).flatten ++ l.take j) with
        | true =>
          rw [hd] at hl0
          have hno := hbad2 (of_decide_eq_true hd)
          simp (disch := omega) only [f48_r7, f48_r8, f48_r9, f48_r10, f48_r11, f48_rs, w_skip, w_reg, w_draw, w_seq, w_cond, w_block, w_ret, seqK_n, seqK_r, atK_r, loopK_r, ckB_b, cbB_b, true_and, retK_r, x_nil, x_mv, x_as, x_ld, x_bin, x_iadr, x_iads, x_len, x_min, x_max, kx, kg, xg_nil, xg_mv, xg_ld, xg_iadr, xg_iads, xd_cons, fresh_nil, stK_n, stK_s, stay_nil, stay_cons, again_ok, stay_mv, beq_i, stay_iads, stay_ld, beq_p, rvP_ok, okv_some, ev_t, ev_c, getV_some, putD_some, bin_add, bin_mul, bin_lss, onP_p, oGet_s, idx_n, min_ii, max_ii, readRs_nil, readRs_t, retV_1, of0, of1, of10, Option.some.injEq, exists_eq_left', getK_set, Nat.reduceEqDiff, ↓reduceIte, stay_iadr, ix2_0, ix2_1, g1, g5, g6, g7, hp1, hp2, hlu, d1, hq1, hq3, hq4, hvb, hub, hpb, hmin, hmax, e10, e11, hl0, hno, true_and, fw64]
          exact hG
        | false =>
          rw [hd] at hl0
          simp (disch := omega) only [f48_r7, f48_r8, f48_r9, f48_r10, w_skip, w_reg, w_draw, w_seq, w_cond, w_block, seqK_n, ckB_b, cbB_b, true_and, x_nil, x_mv, x_as, x_ld, x_bin, x_iadr, x_iads, x_len, x_min, x_max, kx, kg, xg_nil, xg_mv, xg_ld, xg_iadr, xg_iads, xd_cons, fresh_nil, stK_n, stK_s, stay_nil, stay_cons, again_ok, stay_mv, beq_i, stay_iads, stay_ld, beq_p, rvP_ok, okv_some, ev_t, ev_c, getV_some, putD_some, bin_add, bin_mul, bin_lss, onP_p, idx_n, min_ii, max_ii, of0, of1, of10, getK_set, Nat.reduceEqDiff, ↓reduceIte, Bool.false_eq_true, stay_iadr, ix2_0, ix2_1, g1, g5, g6, g7, hp1, hp2, hlu, d1, hq1, hq3, hq4, hvb, hub, hpb, hmin, hmax, e10, e11, hl0, fw64]
          simp (disch := omega) only [f48_r12, f48_r13, w_reg, seqK_n, atK_n, loopK_n, x_nil, x_mv, x_as, x_st, x_bin, x_iadr, kx, rvP_ok, okv_some, ev_t, ev_c, getV_some, putD_some, putD_none, bin_add, onP_p, idx_n, of1, getK_set, Nat.reduceEqDiff, ↓reduceIte, g5, g7, hst, fw64]
          exact ⟨j + 1, by omega, by omega, hG.trans (Grow.put (Nat.le_refl _) hnx _), hds.2 (of_decide_eq_false hd), _, hT2, hM2, hnx, by simp (disch := omega) only [getK_set, Nat.reduceEqDiff, ↓reduceIte, g0, g1, g5, g6, and_self, Int.natCast_add, Int.natCast_one]⟩
      · have d1 : decide ((j : Int) < (l.length : Int)) = false := by simpa using hlt2
        have ej : j = l.length := by omega
        have hfl2 : (Ls.take (i + 1)).flatten = (Ls.take i).flatten ++ l := by rw [hsn, List.flatten_append]; simp
        rw [ej, List.take_length, ← hfl2] at hM hpw
        simp (disch := omega) only [f48_r7, f48_r14, w_reg, w_seq, w_cond, w_exit, seqK_n, seqK_e, atK_n, atK_e, loopK_n, loopK_e, ckB_b, cbB_b, true_and, x_nil, x_mv, x_as, x_ld, x_bin, x_iads, x_len, kx, rvP_ok, okv_some, ev_t, ev_c, getV_some, putD_some, bin_add, bin_lss, of1, getK_set, Nat.reduceEqDiff, ↓reduceIte, Bool.false_eq_true, g1, g6, g7, hp1, hp2, hlu, d1, fw64]
        exact ⟨i + 1, by omega, by omega, hG, fun l' hl' => by
          rw [hsn] at hl'
          rcases List.mem_append.1 hl' with hl' | hl'
          · exact hall _ hl'
          · rw [List.mem_singleton.1 hl']; exact hr, hpw, T, hT, hM, hnx, by simp (disch := omega) only [getK_set, Nat.reduceEqDiff, ↓reduceIte, g0, g1, g5, and_self, Int.natCast_add, Int.natCast_one]⟩
  · have d0 : decide ((i : Int) < (Ls.length : Int)) = false := by simpa using hlt
    have ei : i = Ls.length := by omega
    rw [ei, List.take_length] at hall hpw
    have hyes : decide ((Ls.length : Int) < (n : Int)) = bgB n Ls := by
      unfold bgB
      rw [List.all_eq_true.2 hall, decide_eq_true hpw, Bool.and_true, Bool.and_true, Bool.eq_iff_iff]
      simp only [decide_eq_true_iff]
      omega
    simp (disch := omega) only [f48_r3, f48_r15, f48_rs, w_reg, w_seq, w_cond, w_exit, w_ret, seqK_n, seqK_e, atK_e, loopK_e, ckB_b, cbB_b, true_and, retK_r, x_nil, x_mv, x_as, x_bin, x_len, kx, rvP_ok, okv_some, ev_t, getV_some, putD_some, bin_lss, oGet_s, readRs_nil, readRs_t, retV_1, Option.some.injEq, exists_eq_left', getK_set, Nat.reduceEqDiff, ↓reduceIte, Bool.false_eq_true, g0, g1, g6, hlen, d0, hyes, true_and]
    exact hG
end
end Go.Ev
namespace Go.Ev
open Go Go.RowKit
section
variable {fs : T EF} {h : H} {v : V} {us : List V} {Ls : List (List (Int × Int))} {n : Nat}
theorem f37_ok {n : Int} (hn : ok5 n) : Ret fs f37 [.i .i64 n] h fun r h' => r = .b true ∧ h' = h := by
  unfold ok5 at hn
  have d1 : decide (n ≥ 2) = true := decide_eq_true (by omega)
  have d2 : decide (n ≤ 10) = true := decide_eq_true (by omega)
  have d3 : decide (n.tmod 2 = 0) = true := by rcases hn with rfl | rfl | rfl | rfl | rfl <;> rfl
  apply ret_of rfl
  show W fs none f37_c _ _ _
  unfold f37_c
  simp (disch := omega) only [f37_r0, f37_r1, f37_rs, w_reg, w_seq, w_ret, seqK_n, okG_b, asG_t, retK_r, x_nil, x_g, x_mv, x_as, x_pick, x_bin, kx, rvP_ok, okv_some, ev_t, ev_c, getV_some, putD_some, bin_eql, bin_leq, bin_geq, bin_rem, pick_b, oGet_s, readRs_nil, readRs_t, retV_1, frame_1, of0, of2, of10, Option.some.injEq, exists_eq_left', getK_set, Nat.reduceEqDiff, ↓reduceIte, d1, d2, d3, and_self]
/-- What Check says. -/
def ckI (n : Nat) (Ls : List (List (Int × Int))) : Int := if shB n Ls = true then 0 else 40
structure CallsRc (fs : T EF) : Prop where
  c14 : fs.get (K.ofNat 14) = some f14
  c37 : fs.get (K.ofNat 37) = some f37
  c45 : fs.get (K.ofNat 45) = some f45
  c48 : fs.get (K.ofNat 48) = some f48
theorem f14_ret (k : CallsRc fs) (hn : ok5 (n : Int)) (hv : Nrp h v us Ls) (hL : Ls.length ≤ 1000000) (hL2 : ∀ l ∈ Ls, l.length ≤ 9223372036854775807) (hc : HC h) : Ret fs f14 [.i .i64 (n : Int), v] h fun r h' => r = .i .i64 (ckI n Ls) ∧ Grow h.nx.nat h h' := by
  have hlen : ∀ h1, lenV v h1 = .ok (.i .i64 (Ls.length : Int)) h1 := fun h1 => by rw [hv.out.len, hv.len]
  have hn' := hn
  unfold ok5 at hn'
  apply ret_of rfl
  show W fs none f14_c _ _ _
  unfold f14_c
  simp (disch := omega) only [f14_r0, f14_r1, w_reg, w_seq, w_block, seqK_n, x_nil, x_mv, x_as, x_call, ev_t, ev_c, evs_nil, evs_cons, getV_some, putD_some, frame_2, of0, getK_set, Nat.reduceEqDiff, ↓reduceIte]
  refine (callP_0 (ef := f37) k.c37 rfl (f37_ok hn)).mono ?_
  rintro r h1 ⟨rfl, e1⟩
  rw [e1]
  clear e1 h1
  have en1 : (n : Int) - 1 = ((n - 1 : Nat) : Int) := by omega
  unfold ckI shB
  by_cases hl : Ls.length = n - 1
  · have d1 : decide ((Ls.length : Int) ≠ ((n - 1 : Nat) : Int)) = false := decide_eq_false (by omega)
    simp (disch := omega) only [f14_r3, w_reg, w_seq, w_cond, seqK_n, ckB_b, cbB_b, okG_b, asG_f, true_and, x_nil, x_g, x_mv, x_as, x_bin, x_not, x_call, x_len, kx, rvP_ok, okv_some, ev_t, ev_c, evs_nil, evs_cons, getV_some, putD_some, bin_sub, bin_neq, onB_b, of1, getK_set, Nat.reduceEqDiff, ↓reduceIte, Bool.false_eq_true, Bool.not_true, Bool.not_false, hlen, en1, d1, Bool.not_true, fw64]
    refine (callP_0 (ef := f48) k.c48 rfl (f48_ret k.c45 (by omega) (by omega) (by omega) hv hL hL2 hc)).mono ?_
    rintro r h2 ⟨rfl, hG⟩
    cases hb : bgB n Ls with
    | true =>
      have e0 : (if (true && decide (Ls.length = n - 1)) = true then (0 : Int) else 40) = 0 := by simp [hl]
      simp (disch := omega) only [f14_r5, f14_rs, w_skip, w_reg, w_seq, w_cond, w_ret, seqK_n, atK_n, ckB_b, cbB_b, okG_b, asG_f, true_and, retK_r, x_nil, x_g, x_as, x_pick, x_not, kx, rvP_ok, ev_t, ev_c, getV_some, putD_some, pick_b, onB_b, oGet_s, readRs_nil, readRs_t, retV_1, of0, Option.some.injEq, exists_eq_left', getK_set, Nat.reduceEqDiff, ↓reduceIte, Bool.false_eq_true, Bool.not_true, Bool.not_false, Bool.not_true, e0, true_and]
      exact hG
    | false =>
      have e0 : (if (false && decide (Ls.length = n - 1)) = true then (0 : Int) else 40) = 40 := by simp
      simp (disch := omega) only [f14_r4, f14_rs, w_reg, w_seq, w_cond, w_ret, seqK_n, seqK_r, atK_r, ckB_b, cbB_b, okG_b, asG_f, true_and, retK_r, x_nil, x_g, x_as, x_pick, x_not, kx, rvP_ok, ev_t, ev_c, getV_some, putD_some, pick_b, onB_b, oGet_s, readRs_nil, readRs_t, retV_1, Option.some.injEq, exists_eq_left', getK_set, Nat.reduceEqDiff, ↓reduceIte, Bool.false_eq_true, Bool.not_false, of40, Bool.not_false, of40, e0, true_and]
      exact hG
  · have d1 : decide ((Ls.length : Int) ≠ ((n - 1 : Nat) : Int)) = true := decide_eq_true (by omega)
    have e0 : (if (bgB n Ls && decide (Ls.length = n - 1)) = true then (0 : Int) else 40) = 40 := by simp [hl]
    simp (disch := omega) only [f14_r3, f14_r4, f14_rs, w_reg, w_seq, w_cond, w_ret, seqK_n, seqK_r, atK_r, ckB_b, cbB_b, okG_b, asG_f, true_and, retK_r, x_nil, x_g, x_mv, x_as, x_pick, x_bin, x_not, x_len, kx, rvP_ok, okv_some, ev_t, ev_c, getV_some, putD_some, bin_sub, bin_neq, pick_b, onB_b, oGet_s, readRs_nil, readRs_t, retV_1, of1, Option.some.injEq, exists_eq_left', getK_set, Nat.reduceEqDiff, ↓reduceIte, Bool.false_eq_true, Bool.not_true, of40, hlen, en1, d1, Bool.not_true, of40, e0, true_and, fw64]
    exact Grow.refl _ _
end
end Go.Ev
namespace Go.Ev
open Go Go.RowKit
section
variable {fs : T EF} {n : Nat} {Q : List (List (Int × Int))}
theorem nm_in {B : List Int} : ∀ x ∈ nmL B n, 0 ≤ x ∧ x < (n : Int) := fun _ hx => nmL_mem.1 hx
theorem ren_sh {B : List Int} (_hn : ok5 (n : Int)) (h : shB n Q = true) : shB n (renS (nmL B n) Q) = true := by
  obtain ⟨hv, hl⟩ := sh_vld h
  refine (hv.ren nmL_nodup nmL_len nm_in).sh ?_
  simp [renS, hl]
structure Sched (n : Nat) (Q : List (List (Int × Int))) : Prop where
  ok : ok5 (n : Int)
  sh : shB n Q = true
  vd : Vld n Q
  len : Q.length = n - 1
  row : ∀ l ∈ Q, l.length ≤ 100
  big : ∀ l ∈ Q, l.length ≤ 9223372036854775807
  bd : n ≤ 10 ∧ 2 ≤ n
theorem Sched.of (hn : ok5 (n : Int)) (hs : shB n Q = true) : Sched n Q := by
  obtain ⟨hv, hl⟩ := sh_vld hs
  have hn' := hn
  unfold ok5 at hn'
  have hf := hv.few (by omega) (by omega)
  exact ⟨hn, hs, hv, hl, fun l hl => (hf.2 l hl).1, fun l hl => by have := (hf.2 l hl).1; omega, by omega, by omega⟩
/-- The next schedule. -/
def nx4 (k : Nat) : Nat := 4 + 4 * (k % 2)
end
end Go.Ev
namespace Go.Ev
open Go Go.RowKit
section
variable {n : Nat} {Q : List (List (Int × Int))}
/-- Each team is some team's name. -/
theorem onto {M : List Int} (hM : M.length = n) (hr : ∀ x ∈ M, 0 ≤ x ∧ x < (n : Int)) (hd : M.Nodup) {u : Nat} (hu : u < n) : ∃ t : Nat, t < n ∧ M.getD t 0 = (u : Int) := by
  rcases Classical.em ((u : Int) ∈ M) with h | h
  · obtain ⟨t, ht, e⟩ := List.getElem_of_mem h
    exact ⟨t, by omega, by rw [getD_at ht]; exact e⟩
  · exfalso
    have h1 := nodup_le (l := (u : Int) :: M) (m := (List.range n).map fun (k : Nat) => (k : Int)) (List.nodup_cons.2 ⟨h, hd⟩) fun z hz => by
      rcases List.mem_cons.1 hz with rfl | hz
      · exact List.mem_map.2 ⟨u, by simpa using hu, rfl⟩
      · have := hr z hz
        exact List.mem_map.2 ⟨z.toNat, by simp; omega, by omega⟩
    simp at h1
    omega
end
end Go.Ev
namespace Go.Ev
open Go Go.RowKit
section
variable {fs : T EF} {h : H} {va vb : V} {a b : List (Int × Int)} {n : Nat}
end
section
variable {fs : T EF}
end
end Go.Ev
namespace Go.Ev
open Go Go.RowKit
section
variable {fs : T EF} {h : H} {v : V} {us : List V} {Ls : List (List (Int × Int))}
instance ok5_dec {n : Int} : Decidable (ok5 n) := inferInstanceAs (Decidable (n = 2 ∨ n = 4 ∨ n = 6 ∨ n = 8 ∨ n = 10))
end
end Go.Ev
