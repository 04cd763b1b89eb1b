/-
  Rounds: Home of the reference.
  Rounds: Homes, of the program and of the reference.
  Rounds: opponents, of the program and of the reference.
  Rounds: how many teams a set has; sums.
  Rounds: breaks, of the program.
  Rounds: breaks, of the reference.
  Rounds: names, and the same schedules, for the reference.
  Rounds: a slice of slices, filled row by row.
  Rounds: lists; schedules with other names, of the program.
  Rounds: schedules with other names, of the program.
  Rounds: Renamed, of the program.
  Rounds: the law RoundsHomes.
  Slices of slices whose elements take one cell each: read, filled row by row, gathered.
  Maps whose keys are pairs and whose values are numbers.
  Rounds: when each game is, of the program.
  Rounds: the follow numbers, of the program.
  Rounds: the follow numbers, counted by rounds.
-/
import Derived.Test.YthememdeglgnpaaPd
import Derived.Test.YthememdeglgnpaaPe
namespace Go.Ev
open Go Go.RowKit
noncomputable def f64_r0 : List EOper := [⟨(some (K.ofNat 4)), none, .as (.c (.b false))⟩, ⟨(some (K.ofNat 5)), none, .as (.c (.i .i64 (.ofNat 0)))⟩]
noncomputable def f64_r1 : List EOper := [⟨(some (K.ofNat 6)), none, .as (.c (.i .i64 (.ofNat 0)))⟩]
noncomputable def f64_r2 : List EOper := [⟨(some (K.ofNat 7)), none, .mv (.t (K.ofNat 6))⟩, ⟨(some (K.ofNat 8)), none, .mv (.t (K.ofNat 0))⟩, ⟨(some (K.ofNat 9)), none, .len (.t (K.ofNat 8))⟩, ⟨(some (K.ofNat 10)), none, .bin .lss (.t (K.ofNat 7)) (.t (K.ofNat 9))⟩]
noncomputable def f64_r3 : List EOper := [⟨(some (K.ofNat 13)), none, .mv (.t (K.ofNat 0))⟩, ⟨(some (K.ofNat 14)), none, .mv (.t (K.ofNat 6))⟩, ⟨(some (K.ofNat 15)), none, .iads 2 (.t (K.ofNat 13)) (.t (K.ofNat 14))⟩, ⟨(some (K.ofNat 16)), none, .iadr 2 1 (.t (K.ofNat 15)) (.c (.i .i64 (.ofNat 0)))⟩, ⟨(some (K.ofNat 17)), none, .ld (.t (K.ofNat 16))⟩, ⟨(some (K.ofNat 18)), none, .mv (.t (K.ofNat 1))⟩, ⟨(some (K.ofNat 19)), none, .bin .eql (.t (K.ofNat 17)) (.t (K.ofNat 18))⟩]
noncomputable def f64_r4 : List Stage := [⟨[⟨(some (K.ofNat 20)), none, .mv (.t (K.ofNat 0))⟩, ⟨(some (K.ofNat 21)), none, .mv (.t (K.ofNat 6))⟩, ⟨(some (K.ofNat 22)), none, .iads 2 (.t (K.ofNat 20)) (.t (K.ofNat 21))⟩, ⟨(some (K.ofNat 23)), none, .iadr 2 1 (.t (K.ofNat 22)) (.c (.i .i64 (.ofNat 1)))⟩, ⟨(some (K.ofNat 24)), none, .ld (.t (K.ofNat 23))⟩], [], (some ⟨(some (K.ofNat 4)), none, .as (.c (.b true))⟩), []⟩, ⟨[], [⟨(some (K.ofNat 20)), none, .mv (.t (K.ofNat 0))⟩, ⟨(some (K.ofNat 21)), none, .mv (.t (K.ofNat 6))⟩, ⟨(some (K.ofNat 22)), none, .iads 2 (.t (K.ofNat 20)) (.t (K.ofNat 21))⟩, ⟨(some (K.ofNat 23)), none, .iadr 2 1 (.t (K.ofNat 22)) (.c (.i .i64 (.ofNat 1)))⟩, ⟨(some (K.ofNat 24)), none, .ld (.t (K.ofNat 23))⟩], (some ⟨(some (K.ofNat 5)), none, .as (.t (K.ofNat 24))⟩), []⟩, ⟨[], [], none, []⟩]
noncomputable def f64_r5 : List EOper := [⟨(some (K.ofNat 25)), none, .mv (.t (K.ofNat 0))⟩, ⟨(some (K.ofNat 26)), none, .mv (.t (K.ofNat 6))⟩, ⟨(some (K.ofNat 27)), none, .iads 2 (.t (K.ofNat 25)) (.t (K.ofNat 26))⟩, ⟨(some (K.ofNat 28)), none, .iadr 2 1 (.t (K.ofNat 27)) (.c (.i .i64 (.ofNat 1)))⟩, ⟨(some (K.ofNat 29)), none, .ld (.t (K.ofNat 28))⟩, ⟨(some (K.ofNat 30)), none, .mv (.t (K.ofNat 1))⟩, ⟨(some (K.ofNat 31)), none, .bin .eql (.t (K.ofNat 29)) (.t (K.ofNat 30))⟩]
noncomputable def f64_r6 : List Stage := [⟨[⟨(some (K.ofNat 32)), none, .mv (.t (K.ofNat 0))⟩, ⟨(some (K.ofNat 33)), none, .mv (.t (K.ofNat 6))⟩, ⟨(some (K.ofNat 34)), none, .iads 2 (.t (K.ofNat 32)) (.t (K.ofNat 33))⟩, ⟨(some (K.ofNat 35)), none, .iadr 2 1 (.t (K.ofNat 34)) (.c (.i .i64 (.ofNat 0)))⟩, ⟨(some (K.ofNat 36)), none, .ld (.t (K.ofNat 35))⟩], [], (some ⟨(some (K.ofNat 4)), none, .as (.c (.b false))⟩), []⟩, ⟨[], [⟨(some (K.ofNat 32)), none, .mv (.t (K.ofNat 0))⟩, ⟨(some (K.ofNat 33)), none, .mv (.t (K.ofNat 6))⟩, ⟨(some (K.ofNat 34)), none, .iads 2 (.t (K.ofNat 32)) (.t (K.ofNat 33))⟩, ⟨(some (K.ofNat 35)), none, .iadr 2 1 (.t (K.ofNat 34)) (.c (.i .i64 (.ofNat 0)))⟩, ⟨(some (K.ofNat 36)), none, .ld (.t (K.ofNat 35))⟩], (some ⟨(some (K.ofNat 5)), none, .as (.t (K.ofNat 36))⟩), []⟩, ⟨[], [], none, []⟩]
noncomputable def f64_r7 : List EOper := [⟨(some (K.ofNat 11)), none, .mv (.t (K.ofNat 6))⟩, ⟨(some (K.ofNat 12)), none, .bin .add (.t (K.ofNat 11)) (.c (.i .i64 (.ofNat 1)))⟩, ⟨(some (K.ofNat 6)), none, .as (.t (K.ofNat 12))⟩]
noncomputable def f64_l0 : EC := (.seq (.seq (.reg f64_r2) (.cond (.t (K.ofNat 10)) .skip (.exit 0))) (.seq (.block 1 (.seq (.seq (.reg f64_r3) (.cond (.t (K.ofNat 19)) (.seq (.draw f64_r4) .ret) .skip)) (.seq (.reg f64_r5) (.cond (.t (K.ofNat 31)) (.seq (.draw f64_r6) .ret) .skip)))) (.reg f64_r7)))
noncomputable def f64_r8 : List EOper := [⟨(some (K.ofNat 4)), none, .as (.c (.b false))⟩, ⟨(some (K.ofNat 5)), none, .as (.c (.i .i64 (.negSucc 0)))⟩]
noncomputable def f64_c : EC := (.seq (.reg f64_r0) (.seq (.seq (.reg f64_r1) (.block 0 (.loop f64_l0))) (.seq (.reg f64_r8) .ret)))
noncomputable def f64 : EF := ⟨37, [.tmp (K.ofNat 4), .tmp (K.ofNat 5)], f64_c, none⟩
theorem f64_rs : f64.rs = [.tmp (K.ofNat 4), .tmp (K.ofNat 5)] := of_eq_true (eq_self _)
/-- Whether a team is at home, and with whom it plays. -/
def homeP : List (Int × Int) → Int → Bool × Int
  | [], _ => (false, -1)
  | x :: L, t => if x.1 = t then (true, x.2) else if x.2 = t then (false, x.1) else homeP L t
theorem homeP_drop {L : List (Int × Int)} {t : Int} {i : Nat} (hi : i < L.length) : homeP (L.drop i) t = if L[i].1 = t then (true, L[i].2) else if L[i].2 = t then (false, L[i].1) else homeP (L.drop (i + 1)) t := by
  rw [List.drop_eq_getElem_cons hi]; rfl
section
variable {fs : T EF} {ro : Option K}
def f64_I (h : H) (v : V) (L : List (Int × Int)) (t : Int) (i : Nat) (fr : Fr) (h1 : H) : Prop := h1 = h ∧ i ≤ L.length ∧ homeP (L.drop i) t = homeP L t ∧ fr.get (K.ofNat 0) = some (v) ∧ fr.get (K.ofNat 1) = some (.i .i64 t) ∧ fr.get (K.ofNat 6) = some (.i .i64 (i : Int))
theorem f64_ret {h : H} {v : V} {L : List (Int × Int)} {t : Int} (hv : Srp h v L) (hL : L.length ≤ 1000000) : Ret fs f64 [v, .i .i64 t] h fun r h' => r = .tup [.b (homeP L t).1, .i .i64 (homeP L t).2] ∧ h' = h := by
  apply ret_of rfl
  show W fs none f64_c _ _ _
  unfold f64_c
  simp (disch := omega) only [f64_r0, f64_r1, w_reg, w_seq, w_block, seqK_n, x_nil, x_as, ev_c, putD_some, frame_2, of0]
  refine W_loop (f64_I h v L t) (fun i => L.length - i) ?_ 0 ⟨rfl, by omega, rfl, by simp (disch := omega) only [getK_set, Nat.reduceEqDiff, ↓reduceIte, and_self, Int.natCast_zero]⟩
  rintro i fr h1 ⟨rfl, hi, hh, g0, g1, g6⟩
  unfold f64_l0
  by_cases hlt : i < L.length
  · have d0 : decide ((i : Int) < (L.length : Int)) = true := by simpa using hlt
    obtain ⟨id, q, hp1, hp2, hp3, hp4⟩ := hv.at2 hlt
    rw [homeP_drop hlt] at hh
    by_cases e1 : L[i].1 = t
    · rw [if_pos e1] at hh
      have d1 : decide (L[i].1 = t) = true := by simpa using e1
      simp (disch := omega) only [f64_r2, f64_r3, f64_r4, f64_rs, w_skip, w_reg, w_draw, w_seq, w_cond, w_block, w_ret, seqK_n, seqK_r, atK_r, loopK_r, ckB_b, cbB_b, retK_r, x_nil, x_mv, x_as, x_ld, x_bin, x_iadr, x_iads, x_len, kx, kg, xg_nil, xg_mv, xg_ld, xg_iadr, xg_iads, xd_cons, fresh_nil, stK_n, stK_s, stay_nil, stay_cons, again_ok, stay_mv, beq_i, stay_iads, stay_ld, beq_p, rvP_ok, okv_some, ev_t, ev_c, getV_some, putD_some, bin_eql, bin_lss, onP_p, oGet_s, readRs_nil, readRs_t, retV_2, of0, of1, Option.some.injEq, exists_eq_left', getK_set, Nat.reduceEqDiff, ↓reduceIte, stay_iadr, ix2_0, ix2_1, g0, g1, g6, hv.len, d0, hp1, hp3, hp4, d1, ← hh, and_self, hv.beq]
    · rw [if_neg e1] at hh
      have d1 : decide (L[i].1 = t) = false := by simpa using e1
      by_cases e2 : L[i].2 = t
      · rw [if_pos e2] at hh
        have d2 : decide (L[i].2 = t) = true := by simpa using e2
        simp (disch := omega) only [f64_r2, f64_r3, f64_r5, f64_r6, f64_rs, w_skip, w_reg, w_draw, w_seq, w_cond, w_block, w_ret, seqK_n, seqK_r, atK_r, loopK_r, ckB_b, cbB_b, retK_r, x_nil, x_mv, x_as, x_ld, x_bin, x_iadr, x_iads, x_len, kx, kg, xg_nil, xg_mv, xg_ld, xg_iadr, xg_iads, xd_cons, fresh_nil, stK_n, stK_s, stay_nil, stay_cons, again_ok, stay_mv, beq_i, stay_iads, stay_ld, beq_p, rvP_ok, okv_some, ev_t, ev_c, getV_some, putD_some, bin_eql, bin_lss, onP_p, oGet_s, readRs_nil, readRs_t, retV_2, of0, of1, Option.some.injEq, exists_eq_left', getK_set, Nat.reduceEqDiff, ↓reduceIte, Bool.false_eq_true, stay_iadr, ix2_0, ix2_1, g0, g1, g6, hv.len, d0, hp1, hp3, hp4, d1, d2, ← hh, and_self, hv.beq]
      · rw [if_neg e2] at hh
        have d2 : decide (L[i].2 = t) = false := by simpa using e2
        simp (disch := omega) only [f64_r2, f64_r3, f64_r5, f64_r7, w_skip, w_reg, w_seq, w_cond, w_block, seqK_n, atK_n, loopK_n, ckB_b, cbB_b, true_and, x_nil, x_mv, x_as, x_ld, x_bin, x_iadr, x_iads, x_len, kx, rvP_ok, okv_some, ev_t, ev_c, getV_some, putD_some, bin_add, bin_eql, bin_lss, onP_p, of0, of1, getK_set, Nat.reduceEqDiff, ↓reduceIte, Bool.false_eq_true, ix2_0, ix2_1, g0, g1, g6, hv.len, d0, hp1, hp3, hp4, d1, d2, fw64]
        exact ⟨i + 1, by omega, rfl, by omega, hh, by simp (disch := omega) only [getK_set, Nat.reduceEqDiff, ↓reduceIte, g0, g1, and_self, Int.natCast_add, Int.natCast_one]⟩
  · have d0 : decide ((i : Int) < (L.length : Int)) = false := by simpa using hlt
    have : homeP L t = (false, -1) := by rw [← hh, List.drop_of_length_le (by omega)]; rfl
    simp (disch := omega) only [f64_r2, f64_r8, f64_rs, w_reg, w_seq, w_cond, w_exit, w_ret, seqK_n, seqK_e, atK_e, loopK_e, ckB_b, cbB_b, true_and, retK_r, x_nil, x_mv, x_as, x_bin, x_len, kx, rvP_ok, okv_some, ev_t, ev_c, getV_some, putD_some, bin_lss, oGet_s, readRs_nil, readRs_t, retV_2, Option.some.injEq, exists_eq_left', getK_set, Nat.reduceEqDiff, ↓reduceIte, Bool.false_eq_true, g0, g6, hv.len, d0, this]
    exact ⟨rfl, trivial⟩
end
/-! ### As what the evaluator takes in place of its code -/
noncomputable def pairsI (n : Nat) : List V → Option (List (Int × Int)) := Nat.rec (fun _ => some []) (fun _ ih l => List.rec none (fun x l _ => List.rec none (fun y l _ => x.onI none fun k a => y.onI none fun k' b => bif k == .i64 && k' == .i64 then oGet (ih l) none fun L => some ((a, b) :: L) else none) l) l) n
theorem pairsI_spec : ∀ {n : Nat} {l : List V} {L : List (Int × Int)}, pairsI n l = some L → l.take (n * 2) = L.flatMap qE ∧ L.length = n ∧ n * 2 ≤ l.length
  | 0, l, L, h => by cases h; simp
  | n + 1, l, L, h => by
    match l, h with
    | x :: y :: l, h =>
      have h : (x.onI none fun k a => y.onI none fun k' b => bif k == .i64 && k' == .i64 then oGet (pairsI n l) none fun L => some ((a, b) :: L) else none) = some L := h
      obtain ⟨k, a, e1, h⟩ := V.onIo_ok (x := x) h
      obtain ⟨k', b, e2, h⟩ := V.onIo_ok (x := y) h
      subst e1 e2
      obtain ⟨hk, h⟩ := cond_ok (by simp) h
      obtain ⟨M, hM, h⟩ := oGet_some (by simp) h
      cases h
      simp only [Bool.and_eq_true, beq_iff_eq] at hk
      obtain ⟨rfl, rfl⟩ := hk
      obtain ⟨h1, h2, h3⟩ := pairsI_spec hM
      refine ⟨?_, by simp [h2], by simp; omega⟩
      rw [show (n + 1) * 2 = n * 2 + 1 + 1 by omega, List.take_succ_cons, List.take_succ_cons, h1]; rfl
/-- The pairs of a slice. -/
noncomputable def listP (h : H) (v : V) : Option (List (Int × Int)) := v.onSl0 none (some []) fun id off n sz => bif Nat.beq sz 2 && Nat.ble n 1000000 then ((h.get id).onC none fun m cs => bif Nat.beq (lenL cs) m && Nat.ble (off + n * 2) m then pairsI n (dropN off cs) else none) else none
theorem listP_spec {h : H} {v : V} {L : List (Int × Int)} (hl : listP h v = some L) : Srp h v L ∧ L.length ≤ 1000000 := by
  unfold listP at hl
  rcases V.onSl0_ok (by simp) hl with ⟨hv, hl⟩ | ⟨id, off, n, sz, hv, hl⟩
  · cases hl; exact ⟨.inl ⟨hv, rfl, rfl⟩, by simp⟩
  · obtain ⟨hc, hl1⟩ := cond_ok (by simp) hl
    rw [Bool.and_eq_true] at hc
    have hsz := Nat.eq_of_beq_eq_true hc.1
    subst hsz
    obtain ⟨m, cs, hb, hl2⟩ := Blk.onC_ok (by simp) hl1
    obtain ⟨hm, hl3⟩ := cond_ok (by simp) hl2
    rw [Bool.and_eq_true] at hm
    have hle := Nat.le_of_ble_eq_true hm.2
    have hm1 : cs.length = m := by rw [← lenL_eq]; exact Nat.eq_of_beq_eq_true hm.1
    clear hm
    obtain ⟨p1, p2, p3⟩ := pairsI_spec hl3
    rw [dropN_eq] at p1 p3
    subst p2
    refine ⟨.inr ⟨id, off, m, cs, hv, hb, hm1, hle, p1⟩, Nat.le_of_ble_eq_true hc.2⟩
noncomputable def homeK (L : List (Int × Int)) (t : Int) : V := List.rec (.tup [.b false, .i .i64 (-1)]) (fun x _ ih => bif ieq x.1 t then .tup [.b true, .i .i64 x.2] else bif ieq x.2 t then .tup [.b false, .i .i64 x.1] else ih) L
theorem homeK_eq : ∀ (L : List (Int × Int)) (t : Int), homeK L t = .tup [.b (homeP L t).1, .i .i64 (homeP L t).2]
  | [], t => rfl
  | x :: L, t => by
    show (bif ieq x.1 t then V.tup [.b true, .i .i64 x.2] else bif ieq x.2 t then .tup [.b false, .i .i64 x.1] else homeK L t) = _
    have e : homeP (x :: L) t = if x.1 = t then (true, x.2) else if x.2 = t then (false, x.1) else homeP L t := rfl
    rw [homeK_eq L t, ieq_eq, ieq_eq, e]
    by_cases h1 : x.1 = t
    · rw [if_pos h1, show (x.1 == t) = true by simpa using h1]; rfl
    · rw [if_neg h1, show (x.1 == t) = false by simpa using h1]
      by_cases h2 : x.2 = t
      · rw [if_pos h2, show (x.2 == t) = true by simpa using h2]; rfl
      · rw [if_neg h2, show (x.2 == t) = false by simpa using h2]; rfl
noncomputable def homeG (args : List V) (h : H) : Option (V × H) := match args with
  | [x, .i .i64 t] => oGet (listP h x) none fun L => some (homeK L t, h)
  | _ => none
theorem homeG_does {Y : Rig} {fs : T EF} (hfs : Fns Y fs) {k : K} (hf : f64.nv = none ∧ ∃ fn c, FnOk Y k f64 fn c) : ∀ args h v h', homeG args h = some (v, h') → Does Y k args h v h' := by
  intro args h v h' he
  unfold homeG at he
  split at he
  · obtain ⟨L, h1, he⟩ := oGet_some (by simp) he
    cases he
    obtain ⟨s1, s2⟩ := listP_spec h1
    obtain ⟨n, r, h2, hr, rfl, rfl⟩ := f64_ret (fs := fs) (t := ‹Int›) s1 s2
    rw [homeK_eq]
    exact does_of_run hfs hf hr
  · cases he
end Go.Ev
namespace Go.Ev
open Go Go.RowKit
noncomputable def f17_r0 : List EOper := [⟨(some (K.ofNat 4)), none, .as (.c .sn)⟩, ⟨(some (K.ofNat 5)), none, .as (.c (.i .i64 (.ofNat 0)))⟩]
noncomputable def f17_r1 : List EOper := [⟨(some (K.ofNat 11)), none, .mv (.t (K.ofNat 0))⟩, ⟨(some (K.ofNat 12)), none, .mv (.t (K.ofNat 1))⟩, ⟨(some (K.ofNat 13)), none, .call (.c (.fn (K.ofNat 51) [])) [(.t (K.ofNat 11)), (.t (K.ofNat 12))]⟩, ⟨(some (K.ofNat 10)), none, .mv (.t (K.ofNat 13))⟩, ⟨(some (K.ofNat 14)), none, .ext (.t (K.ofNat 10)) 0⟩, ⟨(some (K.ofNat 15)), none, .ext (.t (K.ofNat 10)) 1⟩, ⟨(some (K.ofNat 6)), none, .as (.t (K.ofNat 14))⟩, ⟨(some (K.ofNat 7)), none, .as (.t (K.ofNat 15))⟩]
noncomputable def f17_r2 : List EOper := [⟨(some (K.ofNat 16)), none, .mv (.t (K.ofNat 7))⟩, ⟨(some (K.ofNat 17)), none, .bin .neq (.t (K.ofNat 16)) (.c (.i .i64 (.ofNat 0)))⟩]
noncomputable def f17_r3 : List EOper := [⟨(some (K.ofNat 18)), none, .mv (.t (K.ofNat 7))⟩, ⟨(some (K.ofNat 4)), none, .as (.c .sn)⟩, ⟨(some (K.ofNat 5)), none, .as (.t (K.ofNat 18))⟩]
noncomputable def f17_r4 : List EOper := [⟨(some (K.ofNat 19)), none, .mv (.t (K.ofNat 0))⟩, ⟨(some (K.ofNat 20)), none, .mkslice 1 [(.s ⟨#[]⟩)] (.t (K.ofNat 19))⟩, ⟨(some (K.ofNat 8)), none, .as (.t (K.ofNat 20))⟩]
noncomputable def f17_r5 : List EOper := [⟨(some (K.ofNat 21)), none, .mv (.t (K.ofNat 0))⟩, ⟨(some (K.ofNat 22)), none, .mv (.c (.i .i64 (.ofNat 0)))⟩]
noncomputable def f17_r6 : List EOper := [⟨(some (K.ofNat 23)), none, .bin .lss (.t (K.ofNat 22)) (.t (K.ofNat 21))⟩]
noncomputable def f17_r7 : List EOper := [⟨(some (K.ofNat 24)), none, .mv (.t (K.ofNat 22))⟩, ⟨(some (K.ofNat 9)), none, .as (.t (K.ofNat 24))⟩]
noncomputable def f17_r8 : List EOper := [⟨(some (K.ofNat 25)), none, .mv (.t (K.ofNat 8))⟩, ⟨(some (K.ofNat 26)), none, .mv (.t (K.ofNat 9))⟩, ⟨(some (K.ofNat 27)), none, .mv (.t (K.ofNat 6))⟩, ⟨(some (K.ofNat 28)), none, .mv (.t (K.ofNat 9))⟩, ⟨(some (K.ofNat 29)), none, .call (.c (.fn (K.ofNat 53) [])) [(.t (K.ofNat 27)), (.t (K.ofNat 28))]⟩, ⟨(some (K.ofNat 30)), none, .iads 1 (.t (K.ofNat 25)) (.t (K.ofNat 26))⟩, ⟨none, none, .st 1 (.t (K.ofNat 30)) (.t (K.ofNat 29))⟩]
noncomputable def f17_r9 : List EOper := [⟨(some (K.ofNat 31)), none, .bin .add (.t (K.ofNat 22)) (.c (.i .i64 (.ofNat 1)))⟩, ⟨(some (K.ofNat 22)), none, .mv (.t (K.ofNat 31))⟩]
noncomputable def f17_l0 : EC := (.seq (.reg f17_r6) (.seq (.cond (.t (K.ofNat 23)) .skip (.exit 0)) (.seq (.block 1 (.seq (.reg f17_r7) (.reg f17_r8))) (.reg f17_r9))))
noncomputable def f17_r10 : List EOper := [⟨(some (K.ofNat 32)), none, .mv (.t (K.ofNat 8))⟩, ⟨(some (K.ofNat 4)), none, .as (.t (K.ofNat 32))⟩, ⟨(some (K.ofNat 5)), none, .as (.c (.i .i64 (.ofNat 0)))⟩]
noncomputable def f17_c : EC := (.seq (.reg f17_r0) (.seq (.reg f17_r1) (.seq (.seq (.reg f17_r2) (.cond (.t (K.ofNat 17)) (.seq (.reg f17_r3) .ret) .skip)) (.seq (.reg f17_r4) (.seq (.seq (.reg f17_r5) (.block 0 (.loop f17_l0))) (.seq (.reg f17_r10) .ret))))))
noncomputable def f17 : EF := ⟨33, [.tmp (K.ofNat 4), .tmp (K.ofNat 5)], f17_c, none⟩
noncomputable def f26_r0 : List EOper := [⟨(some (K.ofNat 4)), none, .as (.c .sn)⟩]
noncomputable def f26_r1 : List EOper := [⟨(some (K.ofNat 5)), none, .as (.c .sn)⟩]
noncomputable def f26_r2 : List EOper := [⟨(some (K.ofNat 6)), none, .as (.c (.i .i64 (.ofNat 0)))⟩]
noncomputable def f26_r3 : List EOper := [⟨(some (K.ofNat 11)), none, .mv (.t (K.ofNat 6))⟩, ⟨(some (K.ofNat 12)), none, .mv (.t (K.ofNat 0))⟩, ⟨(some (K.ofNat 13)), none, .bin .lss (.t (K.ofNat 11)) (.t (K.ofNat 12))⟩]
noncomputable def f26_r4 : List EOper := [⟨(some (K.ofNat 7)), none, .as (.c (.s ⟨#[]⟩))⟩]
noncomputable def f26_r5 : List EOper := [⟨(some (K.ofNat 8)), none, .as (.c (.i .i64 (.ofNat 0)))⟩]
noncomputable def f26_r6 : List EOper := [⟨(some (K.ofNat 16)), none, .mv (.t (K.ofNat 8))⟩, ⟨(some (K.ofNat 17)), none, .mv (.t (K.ofNat 1))⟩, ⟨(some (K.ofNat 18)), none, .len (.t (K.ofNat 17))⟩, ⟨(some (K.ofNat 19)), none, .bin .lss (.t (K.ofNat 16)) (.t (K.ofNat 18))⟩]
noncomputable def f26_r7 : List EOper := [⟨(some (K.ofNat 23)), none, .mv (.t (K.ofNat 1))⟩, ⟨(some (K.ofNat 24)), none, .mv (.t (K.ofNat 8))⟩, ⟨(some (K.ofNat 25)), none, .iads 1 (.t (K.ofNat 23)) (.t (K.ofNat 24))⟩, ⟨(some (K.ofNat 26)), none, .ld (.t (K.ofNat 25))⟩, ⟨(some (K.ofNat 27)), none, .mv (.t (K.ofNat 6))⟩, ⟨(some (K.ofNat 28)), none, .call (.c (.fn (K.ofNat 64) [])) [(.t (K.ofNat 26)), (.t (K.ofNat 27))]⟩, ⟨(some (K.ofNat 22)), none, .mv (.t (K.ofNat 28))⟩, ⟨(some (K.ofNat 29)), none, .ext (.t (K.ofNat 22)) 0⟩, ⟨(some (K.ofNat 30)), none, .ext (.t (K.ofNat 22)) 1⟩, ⟨(some (K.ofNat 9)), none, .as (.t (K.ofNat 29))⟩, ⟨(some (K.ofNat 10)), none, .as (.t (K.ofNat 30))⟩]
noncomputable def f26_r8 : List EOper := [⟨(some (K.ofNat 31)), none, .mv (.t (K.ofNat 9))⟩]
noncomputable def f26_r9 : List EOper := [⟨(some (K.ofNat 32)), none, .mv (.t (K.ofNat 7))⟩, ⟨(some (K.ofNat 33)), none, .pr .sadd (.t (K.ofNat 32)) (.c (.s ⟨#[72]⟩))⟩, ⟨(some (K.ofNat 7)), none, .as (.t (K.ofNat 33))⟩]
noncomputable def f26_r10 : List EOper := [⟨(some (K.ofNat 34)), none, .mv (.t (K.ofNat 7))⟩, ⟨(some (K.ofNat 35)), none, .pr .sadd (.t (K.ofNat 34)) (.c (.s ⟨#[65]⟩))⟩, ⟨(some (K.ofNat 7)), none, .as (.t (K.ofNat 35))⟩]
noncomputable def f26_r11 : List EOper := [⟨(some (K.ofNat 20)), none, .mv (.t (K.ofNat 8))⟩, ⟨(some (K.ofNat 21)), none, .bin .add (.t (K.ofNat 20)) (.c (.i .i64 (.ofNat 1)))⟩, ⟨(some (K.ofNat 8)), none, .as (.t (K.ofNat 21))⟩]
noncomputable def f26_l0 : EC := (.seq (.seq (.reg f26_r6) (.cond (.t (K.ofNat 19)) .skip (.exit 2))) (.seq (.block 3 (.seq (.reg f26_r7) (.seq (.reg f26_r8) (.cond (.t (K.ofNat 31)) (.reg f26_r9) (.reg f26_r10))))) (.reg f26_r11)))
noncomputable def f26_r12 : List EOper := [⟨(some (K.ofNat 36)), none, .mv (.t (K.ofNat 5))⟩, ⟨(some (K.ofNat 37)), none, .mv (.t (K.ofNat 7))⟩, ⟨(some (K.ofNat 38)), none, .bslice 1 1 [(.s ⟨#[]⟩)] [(0, 1, (.t (K.ofNat 37)))]⟩, ⟨(some (K.ofNat 39)), none, .app 1 (.t (K.ofNat 36)) (.t (K.ofNat 38))⟩, ⟨(some (K.ofNat 5)), none, .as (.t (K.ofNat 39))⟩]
noncomputable def f26_r13 : List EOper := [⟨(some (K.ofNat 14)), none, .mv (.t (K.ofNat 6))⟩, ⟨(some (K.ofNat 15)), none, .bin .add (.t (K.ofNat 14)) (.c (.i .i64 (.ofNat 1)))⟩, ⟨(some (K.ofNat 6)), none, .as (.t (K.ofNat 15))⟩]
noncomputable def f26_l1 : EC := (.seq (.seq (.reg f26_r3) (.cond (.t (K.ofNat 13)) .skip (.exit 0))) (.seq (.block 1 (.seq (.reg f26_r4) (.seq (.seq (.reg f26_r5) (.block 2 (.loop f26_l0))) (.reg f26_r12)))) (.reg f26_r13)))
noncomputable def f26_r14 : List EOper := [⟨(some (K.ofNat 40)), none, .mv (.t (K.ofNat 5))⟩, ⟨(some (K.ofNat 4)), none, .as (.t (K.ofNat 40))⟩]
noncomputable def f26_c : EC := (.seq (.reg f26_r0) (.seq (.reg f26_r1) (.seq (.seq (.reg f26_r2) (.block 0 (.loop f26_l1))) (.seq (.reg f26_r14) .ret))))
noncomputable def f26 : EF := ⟨41, [.tmp (K.ofNat 4)], f26_c, none⟩
theorem f26_rs : f26.rs = [.tmp (K.ofNat 4)] := of_eq_true (eq_self _)
theorem hm_pl {l : List (Int × Int)} {t : Int} (h : t ∈ hmL l) : t ∈ plL l := by
  obtain ⟨e, he, rfl⟩ := List.mem_map.1 h
  exact (pl_sub he).subset (by simp)
/-- Home tells what the program's methods tell. -/
theorem homeP_nd {t : Int} : ∀ {l : List (Int × Int)}, (plL l).Nodup → (homeP l t).1 = decide (t ∈ hmL l) ∧ (t ∈ plL l → (homeP l t).2 = opF l t)
  | [], _ => ⟨rfl, fun h => absurd h (by simp [plL])⟩
  | x :: l, hn => by
    have hn : (x.1 :: x.2 :: plL l).Nodup := hn
    rw [List.nodup_cons, List.nodup_cons] at hn
    obtain ⟨n1, n2, n3⟩ := hn
    have ih := homeP_nd (t := t) n3
    have eh : homeP (x :: l) t = if x.1 = t then (true, x.2) else if x.2 = t then (false, x.1) else homeP l t := rfl
    have eo : opF (x :: l) t = if t = x.1 then x.2 else if t = x.2 then x.1 else opF l t := rfl
    have em : (t ∈ hmL (x :: l)) ↔ t = x.1 ∨ t ∈ hmL l := by show t ∈ x.1 :: hmL l ↔ _; rw [List.mem_cons]
    have ep : (t ∈ plL (x :: l)) ↔ t = x.1 ∨ t = x.2 ∨ t ∈ plL l := by show t ∈ x.1 :: x.2 :: plL l ↔ _; rw [List.mem_cons, List.mem_cons]
    rw [eh, eo]
    by_cases h1 : x.1 = t
    · rw [if_pos h1, if_pos h1.symm]
      exact ⟨(decide_eq_true (em.2 (.inl h1.symm))).symm, fun _ => rfl⟩
    · rw [if_neg h1, if_neg (Ne.symm h1)]
      by_cases h2 : x.2 = t
      · rw [if_pos h2, if_pos h2.symm]
        refine ⟨(decide_eq_false fun h => ?_).symm, fun _ => rfl⟩
        rcases em.1 h with h | h
        · exact h1 h.symm
        · exact n2 (h2 ▸ hm_pl h)
      · rw [if_neg h2, if_neg (Ne.symm h2)]
        refine ⟨?_, fun h => ?_⟩
        · rw [ih.1]
          congr 1
          apply propext
          rw [em]
          exact ⟨.inr, fun h => h.resolve_left (Ne.symm h1)⟩
        · rcases ep.1 h with h | h | h
          · exact absurd h.symm h1
          · exact absurd h.symm h2
          · exact ih.2 h
theorem rnd_nd {n : Nat} {l : List (Int × Int)} (h : rndB n l = true) : (plL l).Nodup := by
  unfold rndB aaB at h
  simp only [Bool.and_eq_true, decide_eq_true_iff] at h
  exact h.2.2.2
/-- A table that is filled from its beginning. -/
def tbL {α : Type} (f : Nat → α) (d : α) (n i : Nat) : List α := (List.range n).map fun x => if x < i then f x else d
theorem tb_at {α : Type} {f : Nat → α} {d : α} {n i x : Nat} (h : x < (tbL f d n i).length) : (tbL f d n i)[x] = if x < i then f x else d := by simp [tbL]
theorem tb_set {α : Type} {f : Nat → α} {d : α} {n i : Nat} : (tbL f d n i).set i (f i) = tbL f d n (i + 1) := by
  apply List.ext_getElem
  · simp [tbL]
  · intro x h1 h2
    rw [List.getElem_set, tb_at]
    by_cases h : i = x
    · subst h; rw [if_pos rfl, tb_at, if_pos (by omega)]
    · rw [if_neg h, tb_at]
      by_cases h3 : x < i
      · rw [if_pos h3, if_pos (by omega)]
      · rw [if_neg h3, if_neg (by omega)]
theorem tb_all {α : Type} {f : Nat → α} {d : α} {n : Nat} : tbL f d n n = (List.range n).map f := by
  unfold tbL
  refine List.map_congr_left fun x hx => ?_
  rw [if_pos (by simpa using hx)]
theorem tb_nil {α : Type} {f : Nat → α} {d : α} {n : Nat} : tbL f d n 0 = List.replicate n d := by
  unfold tbL
  apply List.ext_getElem
  · simp
  · intro x h1 h2; simp
structure CallsH (fs : T EF) : Prop extends CallsCh fs, CallsHo fs where
  c17 : fs.get (K.ofNat 17) = some f17
  c26 : fs.get (K.ofNat 26) = some f26
  c64 : fs.get (K.ofNat 64) = some f64
section
variable {fs : T EF} {h : H} {v : V} {us : List V} {Ls : List (List (Int × Int))}
theorem Vld.few {n : Nat} (hv : Vld n Ls) (hn : n ≤ 16) (hl : Ls.length ≤ 100) : Few Ls := ⟨hl, fun l hll => by
  have h1 := hv.rnd l hll
  have h2 := rnd_e h1
  unfold rndB at h1
  rw [Bool.and_eq_true, decide_eq_true_iff] at h1
  exact ⟨by omega, fun e he => by have := h2 e he; omega⟩⟩
theorem sh_vld {n : Nat} (h : shB n Ls = true) : Vld n Ls ∧ Ls.length = n - 1 := by
  unfold shB bgB at h
  simp only [Bool.and_eq_true, decide_eq_true_iff] at h
  exact ⟨⟨fun l hl => List.all_eq_true.1 h.1.2.1 l hl, h.1.2.2⟩, h.2⟩
def f26_I (h : H) (n : Nat) (v : V) (Ls : List (List (Int × Int))) (t : Nat) (fr : Fr) (h1 : H) : Prop := t ≤ n ∧ Grow h.nx.nat h h1 ∧ ∃ w, Sl sE h1 w ((List.range t).map (hoS Ls)) ∧ Own h.nx.nat w ∧ fr.get (K.ofNat 0) = some (.i .i64 (n : Int)) ∧ fr.get (K.ofNat 1) = some (v) ∧ fr.get (K.ofNat 5) = some (w) ∧ fr.get (K.ofNat 6) = some (.i .i64 (t : Int))
def f26_J (h2 : H) (n : Nat) (v w : V) (Ls : List (List (Int × Int))) (t : Nat) (i : Nat) (fr : Fr) (h1 : H) : Prop := i ≤ Ls.length ∧ h1 = h2 ∧ fr.get (K.ofNat 0) = some (.i .i64 (n : Int)) ∧ fr.get (K.ofNat 1) = some (v) ∧ fr.get (K.ofNat 5) = some (w) ∧ fr.get (K.ofNat 6) = some (.i .i64 (t : Int)) ∧ fr.get (K.ofNat 7) = some (sE (hoS (Ls.take i) t)) ∧ fr.get (K.ofNat 8) = some (.i .i64 (i : Int))
theorem f26_ret {n : Nat} (h64 : fs.get (K.ofNat 64) = some f64) (hn : n ≤ 16) (hv : Nrp h v us Ls) (hvd : Vld n Ls) (hl : Ls.length ≤ 100) (hc : HC h) : Ret fs f26 [.i .i64 (n : Int), v] h fun r h' => Sl sE h' r ((List.range n).map (hoS Ls)) ∧ Grow h.nx.nat h h' := by
  have hlen : ∀ h1, lenV v h1 = .ok (.i .i64 (Ls.length : Int)) h1 := fun h1 => by rw [hv.out.len, hv.len]
  have hfew := hvd.few hn hl
  apply ret_of rfl
  show W fs none f26_c _ _ _
  unfold f26_c
  simp (disch := omega) only [f26_r0, f26_r1, f26_r2, w_reg, w_seq, w_block, seqK_n, x_nil, x_as, ev_c, putD_some, frame_2, of0]
  refine W_loop (f26_I h n v Ls) (fun t => n - t) ?_ 0 ⟨by omega, Grow.refl _ _, .sn, Sl.nil, Own.sn, by simp (disch := omega) only [getK_set, Nat.reduceEqDiff, ↓reduceIte, and_self, Int.natCast_zero]⟩
  rintro t fr h1 ⟨ht, hG, w, hw, how, g0, g1, g5, g6⟩
  have hc1 := hG.hc hc
  have hv1 := hv.grow hc hG
  unfold f26_l1
  by_cases hlt : t < n
  · have d0 : decide ((t : Int) < (n : Int)) = true := by simpa using hlt
    simp (disch := omega) only [f26_r3, f26_r4, f26_r5, w_skip, w_reg, w_seq, w_cond, w_block, seqK_n, ckB_b, cbB_b, true_and, x_nil, x_mv, x_as, x_bin, kx, rvP_ok, okv_some, ev_t, ev_c, getV_some, putD_some, bin_lss, of0, getK_set, Nat.reduceEqDiff, ↓reduceIte, g0, g6, d0, s_nil]
    refine W_loop (f26_J h1 n v w Ls t) (fun i => Ls.length - i) ?_ 0 ⟨by omega, rfl, by simp (disch := omega) only [getK_set, Nat.reduceEqDiff, ↓reduceIte, g0, g1, g5, g6, and_self, Int.natCast_zero, List.take_zero, hoS, List.map_nil, List.flatten_nil]⟩
    clear g0 g1 g5 g6 fr
    rintro i fr h2 ⟨hi, rfl, g0, g1, g5, g6, g7, g8⟩
    unfold f26_l0
    by_cases hlt2 : i < Ls.length
    · have d1 : decide ((i : Int) < (Ls.length : Int)) = true := by simpa using hlt2
      have hiu : i < us.length := by rw [hv.len]; exact hlt2
      obtain ⟨p, hp1, hp2'⟩ := hv1.out.at i hiu
      have hp2 : loadV h2 p one? = .ok us[i] h2 := hp2'
      clear hp2'
      have hui := hv1.inn i hiu hlt2
      obtain ⟨f1, f2⟩ := hfew.2 Ls[i] (List.getElem_mem hlt2)
      have hrn := hvd.rnd Ls[i] (List.getElem_mem hlt2)
      have htk : hoS (Ls.take (i + 1)) t = hoS (Ls.take i) t ++ ltr (hoB Ls[i] t) := by rw [List.take_succ_eq_append_getElem hlt2, hoS_snoc]
      have hsl : (hoS (Ls.take i) t).length ≤ 100 := by rw [hoS_len, List.length_take]; omega
      generalize us[i] = u at *
      generalize Ls[i] = l at *
      have hho : (homeP l (t : Int)).1 = hoB l t := (homeP_nd (rnd_nd hrn)).1
      simp (disch := omega) only [f26_r6, f26_r7, w_skip, w_reg, w_seq, w_cond, w_block, seqK_n, ckB_b, cbB_b, true_and, x_nil, x_mv, x_ld, x_bin, x_iads, x_call, x_len, kx, rvP_ok, okv_some, ev_t, ev_c, evs_nil, evs_cons, getV_some, putD_some, bin_lss, getK_set, Nat.reduceEqDiff, ↓reduceIte, g1, g6, g8, hlen, d1, hp1, hp2]
      refine (callP_0 (ef := f64) h64 rfl (f64_ret (t := (t : Int)) hui (by omega))).mono ?_
      rintro r h3 ⟨rfl, rfl⟩
      rw [hho]
      have hadd := sadd_s (a := hoS (Ls.take i) t) (b := ltr (hoB l t)) (by rw [ltr_len]; omega)
      rw [← htk] at hadd
      cases hb : hoB l t with
      | true =>
        rw [hb] at hadd
        have hadd : prV .sadd (sE (hoS (Ls.take i) t)) (sE [72]) = some (sE (hoS (Ls.take (i + 1)) t)) := hadd
        simp (disch := omega) only [f26_r8, f26_r9, f26_r11, w_reg, w_seq, w_cond, seqK_n, atK_n, loopK_n, ckB_b, cbB_b, true_and, x_nil, x_mv, x_as, x_bin, x_ext, kx, rvP_ok, okv_some, ev_t, ev_c, getV_some, putD_some, bin_add, onTup_t, nth0, nth1, of1, getK_set, Nat.reduceEqDiff, ↓reduceIte, x_pr, g7, g8, s_H, hadd, fw64]
        exact ⟨i + 1, by omega, by omega, rfl, by simp (disch := omega) only [getK_set, Nat.reduceEqDiff, ↓reduceIte, g0, g1, g5, g6, and_self, Int.natCast_add, Int.natCast_one]⟩
      | false =>
        rw [hb] at hadd
        have hadd : prV .sadd (sE (hoS (Ls.take i) t)) (sE [65]) = some (sE (hoS (Ls.take (i + 1)) t)) := hadd
        simp (disch := omega) only [f26_r8, f26_r10, f26_r11, w_reg, w_seq, w_cond, seqK_n, atK_n, loopK_n, ckB_b, cbB_b, true_and, x_nil, x_mv, x_as, x_bin, x_ext, kx, rvP_ok, okv_some, ev_t, ev_c, getV_some, putD_some, bin_add, onTup_t, nth0, nth1, of1, getK_set, Nat.reduceEqDiff, ↓reduceIte, Bool.false_eq_true, x_pr, g7, g8, s_A, hadd, fw64]
        exact ⟨i + 1, by omega, by omega, rfl, by simp (disch := omega) only [getK_set, Nat.reduceEqDiff, ↓reduceIte, g0, g1, g5, g6, and_self, Int.natCast_add, Int.natCast_one]⟩
    · have d1 : decide ((i : Int) < (Ls.length : Int)) = false := by simpa using hlt2
      have ei : i = Ls.length := by omega
      rw [ei, List.take_length] at g7
      obtain ⟨w', h4, a1, s1, o1, gr1, _⟩ := Sl.push (e := sE) (x := hoS Ls t) (c := sE (hoS Ls t)) rfl hw how hG.nx hc1 (by simp; omega)
      have hrs : (List.range t).map (hoS Ls) ++ [hoS Ls t] = (List.range (t + 1)).map (hoS Ls) := by rw [List.range_succ, List.map_append]; rfl
      rw [hrs] at s1
      simp (disch := omega) only [f26_r6, f26_r12, f26_r13, w_reg, w_seq, w_cond, w_exit, seqK_n, seqK_e, atK_n, atK_e, loopK_n, loopK_e, ckB_b, cbB_b, true_and, x_nil, x_mv, x_as, x_bslice, x_bin, x_len, x_app, kx, rvP_ok, okv_some, ev_t, ev_c, getV_some, putD_some, bin_add, bin_lss, oGet_s, fill_1, set_1, of1, getK_set, Nat.reduceEqDiff, ↓reduceIte, Bool.false_eq_true, g1, g5, g6, g7, g8, hlen, d1, fill_1, cell_s, set_1, a1, fw64]
      exact ⟨t + 1, by omega, by omega, hG.trans gr1, w', s1, o1, by simp (disch := omega) only [getK_set, Nat.reduceEqDiff, ↓reduceIte, g0, g1, and_self, Int.natCast_add, Int.natCast_one]⟩
  · have d0 : decide ((t : Int) < (n : Int)) = false := by simpa using hlt
    have et : t = n := by omega
    subst et
    simp (disch := omega) only [f26_r3, f26_r14, f26_rs, w_reg, w_seq, w_cond, w_exit, w_ret, seqK_n, seqK_e, atK_e, loopK_e, ckB_b, cbB_b, true_and, retK_r, x_nil, x_mv, x_as, x_bin, kx, rvP_ok, okv_some, ev_t, getV_some, putD_some, bin_lss, oGet_s, readRs_nil, readRs_t, retV_1, Option.some.injEq, exists_eq_left', getK_set, Nat.reduceEqDiff, ↓reduceIte, Bool.false_eq_true, g0, g5, g6, d0]
    exact ⟨hw, hG⟩
end
end Go.Ev
namespace Go.Ev
open Go Go.RowKit
noncomputable def f21_r0 : List EOper := [⟨(some (K.ofNat 6)), none, .as (.c .sn)⟩, ⟨(some (K.ofNat 7)), none, .as (.c (.i .i64 (.ofNat 0)))⟩]
noncomputable def f21_r1 : List EOper := [⟨(some (K.ofNat 14)), none, .mv (.t (K.ofNat 0))⟩, ⟨(some (K.ofNat 15)), none, .mv (.t (K.ofNat 1))⟩, ⟨(some (K.ofNat 16)), none, .call (.c (.fn (K.ofNat 51) [])) [(.t (K.ofNat 14)), (.t (K.ofNat 15))]⟩, ⟨(some (K.ofNat 13)), none, .mv (.t (K.ofNat 16))⟩, ⟨(some (K.ofNat 17)), none, .ext (.t (K.ofNat 13)) 0⟩, ⟨(some (K.ofNat 18)), none, .ext (.t (K.ofNat 13)) 1⟩, ⟨(some (K.ofNat 8)), none, .as (.t (K.ofNat 17))⟩, ⟨(some (K.ofNat 9)), none, .as (.t (K.ofNat 18))⟩]
noncomputable def f21_r2 : List EOper := [⟨(some (K.ofNat 19)), none, .mv (.t (K.ofNat 9))⟩, ⟨(some (K.ofNat 20)), none, .bin .neq (.t (K.ofNat 19)) (.c (.i .i64 (.ofNat 0)))⟩]
noncomputable def f21_r3 : List EOper := [⟨(some (K.ofNat 21)), none, .mv (.t (K.ofNat 9))⟩, ⟨(some (K.ofNat 6)), none, .as (.c .sn)⟩, ⟨(some (K.ofNat 7)), none, .as (.t (K.ofNat 21))⟩]
noncomputable def f21_r4 : List EOper := [⟨(some (K.ofNat 22)), none, .mv (.t (K.ofNat 0))⟩, ⟨(some (K.ofNat 23)), none, .mv (.t (K.ofNat 2))⟩, ⟨(some (K.ofNat 24)), none, .call (.c (.fn (K.ofNat 57) [])) [(.t (K.ofNat 22)), (.t (K.ofNat 23))]⟩, ⟨(some (K.ofNat 25)), none, .not (.t (K.ofNat 24))⟩]
noncomputable def f21_r5 : List EOper := [⟨(some (K.ofNat 6)), none, .as (.c .sn)⟩, ⟨(some (K.ofNat 7)), none, .as (.c (.i .i64 (.ofNat 1)))⟩]
noncomputable def f21_r6 : List EOper := [⟨(some (K.ofNat 26)), none, .mv (.t (K.ofNat 8))⟩, ⟨(some (K.ofNat 27)), none, .len (.t (K.ofNat 26))⟩, ⟨(some (K.ofNat 28)), none, .mkslice 1 [(.i .i64 (.ofNat 0))] (.t (K.ofNat 27))⟩, ⟨(some (K.ofNat 10)), none, .as (.t (K.ofNat 28))⟩]
noncomputable def f21_r7 : List EOper := [⟨(some (K.ofNat 29)), none, .mv (.t (K.ofNat 8))⟩, ⟨(some (K.ofNat 30)), none, .len (.t (K.ofNat 29))⟩, ⟨(some (K.ofNat 31)), none, .mv (.c (.i .i64 (.ofNat 0)))⟩]
noncomputable def f21_r8 : List EOper := [⟨(some (K.ofNat 32)), none, .bin .lss (.t (K.ofNat 31)) (.t (K.ofNat 30))⟩]
noncomputable def f21_r9 : List EOper := [⟨(some (K.ofNat 33)), none, .mv (.t (K.ofNat 31))⟩, ⟨(some (K.ofNat 34)), none, .iads 1 (.t (K.ofNat 29)) (.t (K.ofNat 31))⟩, ⟨(some (K.ofNat 35)), none, .ld (.t (K.ofNat 34))⟩, ⟨(some (K.ofNat 11)), none, .as (.t (K.ofNat 33))⟩, ⟨(some (K.ofNat 12)), none, .as (.t (K.ofNat 35))⟩]
noncomputable def f21_r10 : List EOper := [⟨(some (K.ofNat 36)), none, .mv (.t (K.ofNat 10))⟩, ⟨(some (K.ofNat 37)), none, .mv (.t (K.ofNat 11))⟩, ⟨(some (K.ofNat 38)), none, .mv (.t (K.ofNat 12))⟩, ⟨(some (K.ofNat 39)), none, .mv (.t (K.ofNat 2))⟩, ⟨(some (K.ofNat 40)), none, .call (.c (.fn (K.ofNat 58) [])) [(.t (K.ofNat 38)), (.t (K.ofNat 39))]⟩, ⟨(some (K.ofNat 41)), none, .iads 1 (.t (K.ofNat 36)) (.t (K.ofNat 37))⟩, ⟨none, none, .st 1 (.t (K.ofNat 41)) (.t (K.ofNat 40))⟩]
noncomputable def f21_r11 : List EOper := [⟨(some (K.ofNat 42)), none, .bin .add (.t (K.ofNat 31)) (.c (.i .i64 (.ofNat 1)))⟩, ⟨(some (K.ofNat 31)), none, .mv (.t (K.ofNat 42))⟩]
noncomputable def f21_l0 : EC := (.seq (.reg f21_r8) (.seq (.cond (.t (K.ofNat 32)) .skip (.exit 0)) (.seq (.block 1 (.seq (.reg f21_r9) (.reg f21_r10))) (.reg f21_r11))))
noncomputable def f21_r12 : List EOper := [⟨(some (K.ofNat 43)), none, .mv (.t (K.ofNat 10))⟩, ⟨(some (K.ofNat 6)), none, .as (.t (K.ofNat 43))⟩, ⟨(some (K.ofNat 7)), none, .as (.c (.i .i64 (.ofNat 0)))⟩]
noncomputable def f21_c : EC := (.seq (.reg f21_r0) (.seq (.reg f21_r1) (.seq (.seq (.reg f21_r2) (.cond (.t (K.ofNat 20)) (.seq (.reg f21_r3) .ret) .skip)) (.seq (.seq (.reg f21_r4) (.cond (.t (K.ofNat 25)) (.seq (.reg f21_r5) .ret) .skip)) (.seq (.reg f21_r6) (.seq (.seq (.reg f21_r7) (.block 0 (.loop f21_l0))) (.seq (.reg f21_r12) .ret)))))))
noncomputable def f21 : EF := ⟨44, [.tmp (K.ofNat 6), .tmp (K.ofNat 7)], f21_c, none⟩
noncomputable def f29_r0 : List EOper := [⟨(some (K.ofNat 4)), none, .as (.c .sn)⟩]
noncomputable def f29_r1 : List EOper := [⟨(some (K.ofNat 5)), none, .as (.c .sn)⟩]
noncomputable def f29_r2 : List EOper := [⟨(some (K.ofNat 6)), none, .as (.c (.i .i64 (.ofNat 0)))⟩]
noncomputable def f29_r3 : List EOper := [⟨(some (K.ofNat 9)), none, .mv (.t (K.ofNat 6))⟩, ⟨(some (K.ofNat 10)), none, .mv (.t (K.ofNat 0))⟩, ⟨(some (K.ofNat 11)), none, .len (.t (K.ofNat 10))⟩, ⟨(some (K.ofNat 12)), none, .bin .lss (.t (K.ofNat 9)) (.t (K.ofNat 11))⟩]
noncomputable def f29_r4 : List EOper := [⟨(some (K.ofNat 16)), none, .mv (.t (K.ofNat 0))⟩, ⟨(some (K.ofNat 17)), none, .mv (.t (K.ofNat 6))⟩, ⟨(some (K.ofNat 18)), none, .iads 1 (.t (K.ofNat 16)) (.t (K.ofNat 17))⟩, ⟨(some (K.ofNat 19)), none, .ld (.t (K.ofNat 18))⟩, ⟨(some (K.ofNat 20)), none, .mv (.t (K.ofNat 1))⟩, ⟨(some (K.ofNat 21)), none, .call (.c (.fn (K.ofNat 64) [])) [(.t (K.ofNat 19)), (.t (K.ofNat 20))]⟩, ⟨(some (K.ofNat 15)), none, .mv (.t (K.ofNat 21))⟩, ⟨(some (K.ofNat 22)), none, .ext (.t (K.ofNat 15)) 0⟩, ⟨(some (K.ofNat 23)), none, .ext (.t (K.ofNat 15)) 1⟩, ⟨(some (K.ofNat 7)), none, .as (.t (K.ofNat 22))⟩, ⟨(some (K.ofNat 8)), none, .as (.t (K.ofNat 23))⟩]
noncomputable def f29_r5 : List EOper := [⟨(some (K.ofNat 24)), none, .mv (.t (K.ofNat 5))⟩, ⟨(some (K.ofNat 25)), none, .mv (.t (K.ofNat 8))⟩, ⟨(some (K.ofNat 26)), none, .bslice 1 1 [(.i .i64 (.ofNat 0))] [(0, 1, (.t (K.ofNat 25)))]⟩, ⟨(some (K.ofNat 27)), none, .app 1 (.t (K.ofNat 24)) (.t (K.ofNat 26))⟩, ⟨(some (K.ofNat 5)), none, .as (.t (K.ofNat 27))⟩]
noncomputable def f29_r6 : List EOper := [⟨(some (K.ofNat 13)), none, .mv (.t (K.ofNat 6))⟩, ⟨(some (K.ofNat 14)), none, .bin .add (.t (K.ofNat 13)) (.c (.i .i64 (.ofNat 1)))⟩, ⟨(some (K.ofNat 6)), none, .as (.t (K.ofNat 14))⟩]
noncomputable def f29_l0 : EC := (.seq (.seq (.reg f29_r3) (.cond (.t (K.ofNat 12)) .skip (.exit 0))) (.seq (.block 1 (.seq (.reg f29_r4) (.reg f29_r5))) (.reg f29_r6)))
noncomputable def f29_r7 : List EOper := [⟨(some (K.ofNat 28)), none, .mv (.t (K.ofNat 5))⟩, ⟨(some (K.ofNat 4)), none, .as (.t (K.ofNat 28))⟩]
noncomputable def f29_c : EC := (.seq (.reg f29_r0) (.seq (.reg f29_r1) (.seq (.seq (.reg f29_r2) (.block 0 (.loop f29_l0))) (.seq (.reg f29_r7) .ret))))
noncomputable def f29 : EF := ⟨29, [.tmp (K.ofNat 4)], f29_c, none⟩
noncomputable def f28_r0 : List EOper := [⟨(some (K.ofNat 4)), none, .as (.c (.b false))⟩]
noncomputable def f28_r1 : List EOper := [⟨(some (K.ofNat 6)), none, .mv (.t (K.ofNat 0))⟩, ⟨(some (K.ofNat 7)), none, .len (.t (K.ofNat 6))⟩, ⟨(some (K.ofNat 8)), none, .mv (.t (K.ofNat 1))⟩, ⟨(some (K.ofNat 9)), none, .len (.t (K.ofNat 8))⟩, ⟨(some (K.ofNat 10)), none, .bin .neq (.t (K.ofNat 7)) (.t (K.ofNat 9))⟩]
noncomputable def f28_r2 : List EOper := [⟨(some (K.ofNat 4)), none, .as (.c (.b false))⟩]
noncomputable def f28_r3 : List EOper := [⟨(some (K.ofNat 5)), none, .as (.c (.i .i64 (.ofNat 0)))⟩]
noncomputable def f28_r4 : List EOper := [⟨(some (K.ofNat 11)), none, .mv (.t (K.ofNat 5))⟩, ⟨(some (K.ofNat 12)), none, .mv (.t (K.ofNat 0))⟩, ⟨(some (K.ofNat 13)), none, .len (.t (K.ofNat 12))⟩, ⟨(some (K.ofNat 14)), none, .bin .lss (.t (K.ofNat 11)) (.t (K.ofNat 13))⟩]
noncomputable def f28_r5 : List Stage := [⟨[⟨(some (K.ofNat 17)), none, .mv (.t (K.ofNat 0))⟩, ⟨(some (K.ofNat 18)), none, .mv (.t (K.ofNat 5))⟩, ⟨(some (K.ofNat 19)), none, .iads 1 (.t (K.ofNat 17)) (.t (K.ofNat 18))⟩, ⟨(some (K.ofNat 20)), none, .ld (.t (K.ofNat 19))⟩, ⟨(some (K.ofNat 21)), none, .mv (.t (K.ofNat 1))⟩, ⟨(some (K.ofNat 22)), none, .mv (.t (K.ofNat 5))⟩, ⟨(some (K.ofNat 23)), none, .iads 1 (.t (K.ofNat 21)) (.t (K.ofNat 22))⟩, ⟨(some (K.ofNat 24)), none, .ld (.t (K.ofNat 23))⟩, ⟨(some (K.ofNat 25)), none, .bin .neq (.t (K.ofNat 20)) (.t (K.ofNat 24))⟩], [], none, []⟩]
noncomputable def f28_r6 : List EOper := [⟨(some (K.ofNat 4)), none, .as (.c (.b false))⟩]
noncomputable def f28_r7 : List EOper := [⟨(some (K.ofNat 15)), none, .mv (.t (K.ofNat 5))⟩, ⟨(some (K.ofNat 16)), none, .bin .add (.t (K.ofNat 15)) (.c (.i .i64 (.ofNat 1)))⟩, ⟨(some (K.ofNat 5)), none, .as (.t (K.ofNat 16))⟩]
noncomputable def f28_l0 : EC := (.seq (.seq (.reg f28_r4) (.cond (.t (K.ofNat 14)) .skip (.exit 0))) (.seq (.block 1 (.seq (.draw f28_r5) (.cond (.t (K.ofNat 25)) (.seq (.reg f28_r6) .ret) .skip))) (.reg f28_r7)))
noncomputable def f28_r8 : List EOper := [⟨(some (K.ofNat 4)), none, .as (.c (.b true))⟩]
noncomputable def f28_c : EC := (.seq (.reg f28_r0) (.seq (.seq (.reg f28_r1) (.cond (.t (K.ofNat 10)) (.seq (.reg f28_r2) .ret) .skip)) (.seq (.seq (.reg f28_r3) (.block 0 (.loop f28_l0))) (.seq (.reg f28_r8) .ret))))
noncomputable def f28 : EF := ⟨26, [.tmp (K.ofNat 4)], f28_c, none⟩
theorem nodup_le {α : Type} [DecidableEq α] : ∀ {l m : List α}, l.Nodup → (∀ x ∈ l, x ∈ m) → l.length ≤ m.length
  | [], _, _, _ => Nat.zero_le _
  | x :: l, m, hn, hs => by
    rw [List.nodup_cons] at hn
    have hx : x ∈ m := hs x (by simp)
    have := nodup_le (l := l) (m := m.erase x) hn.2 fun y hy => (List.mem_erase_of_ne (fun e : y = x => hn.1 (e ▸ hy))).2 (hs y (by simp [hy]))
    rw [List.length_erase_of_mem hx] at this
    have : 0 < m.length := List.length_pos_of_mem hx
    rw [List.length_cons]; omega
/-- Each team plays in a round. -/
theorem rnd_all {n : Nat} {l : List (Int × Int)} (h : rndB n l = true) {t : Int} (ht : 0 ≤ t ∧ t < (n : Int)) : t ∈ plL l := by
  unfold rndB aaB at h
  simp only [Bool.and_eq_true, decide_eq_true_iff] at h
  obtain ⟨_, h1, h2, h3⟩ := h
  apply Classical.byContradiction
  intro hno
  have := nodup_le (l := t :: plL l) (m := (List.range n).map fun x : Nat => (x : Int)) (List.nodup_cons.2 ⟨hno, h3⟩) fun x hx => by
    have hx' : 0 ≤ x ∧ x < (n : Int) := by
      rcases List.mem_cons.1 hx with rfl | hx
      · exact ht
      · exact h2 x hx
    exact List.mem_map.2 ⟨x.toNat, by simp; omega, by omega⟩
  rw [List.length_cons, List.length_map, List.length_range] at this
  omega
structure CallsO (fs : T EF) : Prop extends CallsH fs where
  c21 : fs.get (K.ofNat 21) = some f21
  c28 : fs.get (K.ofNat 28) = some f28
  c29 : fs.get (K.ofNat 29) = some f29
  c58 : fs.get (K.ofNat 58) = some f58
section
variable {fs : T EF} {h : H} {v w : V} {us : List V} {Ls : List (List (Int × Int))} {L : List Int}
end
end Go.Ev
namespace Go.Ev
open Go Go.RowKit
noncomputable def f92_r0 : List EOper := [⟨(some (K.ofNat 2)), none, .as (.c (.i .i64 (.ofNat 0)))⟩]
noncomputable def f92_r1 : List Stage := [⟨[⟨(some (K.ofNat 3)), none, .mv (.t (K.ofNat 0))⟩, ⟨(some (K.ofNat 4)), none, .bin .shr (.t (K.ofNat 3)) (.c (.i .u64 (.ofNat 8)))⟩, ⟨(some (K.ofNat 5)), none, .pr .sidx (.c (.s ⟨#[0, 1, 1, 2, 1, 2, 2, 3, 1, 2, 2, 3, 2, 3, 3, 4, 1, 2, 2, 3, 2, 3, 3, 4, 2, 3, 3, 4, 3, 4, 4, 5, 1, 2, 2, 3, 2, 3, 3, 4, 2, 3, 3, 4, 3, 4, 4, 5, 2, 3, 3, 4, 3, 4, 4, 5, 3, 4, 4, 5, 4, 5, 5, 6, 1, 2, 2, 3, 2, 3, 3, 4, 2, 3, 3, 4, 3, 4, 4, 5, 2, 3, 3, 4, 3, 4, 4, 5, 3, 4, 4, 5, 4, 5, 5, 6, 2, 3, 3, 4, 3, 4, 4, 5, 3, 4, 4, 5, 4, 5, 5, 6, 3, 4, 4, 5, 4, 5, 5, 6, 4, 5, 5, 6, 5, 6, 6, 7, 1, 2, 2, 3, 2, 3, 3, 4, 2, 3, 3, 4, 3, 4, 4, 5, 2, 3, 3, 4, 3, 4, 4, 5, 3, 4, 4, 5, 4, 5, 5, 6, 2, 3, 3, 4, 3, 4, 4, 5, 3, 4, 4, 5, 4, 5, 5, 6, 3, 4, 4, 5, 4, 5, 5, 6, 4, 5, 5, 6, 5, 6, 6, 7, 2, 3, 3, 4, 3, 4, 4, 5, 3, 4, 4, 5, 4, 5, 5, 6, 3, 4, 4, 5, 4, 5, 5, 6, 4, 5, 5, 6, 5, 6, 6, 7, 3, 4, 4, 5, 4, 5, 5, 6, 4, 5, 5, 6, 5, 6, 6, 7, 4, 5, 5, 6, 5, 6, 6, 7, 5, 6, 6, 7, 6, 7, 7, 8]⟩)) (.t (K.ofNat 4))⟩, ⟨(some (K.ofNat 6)), none, .mv (.t (K.ofNat 0))⟩, ⟨(some (K.ofNat 7)), none, .bin .and (.t (K.ofNat 6)) (.c (.i .u16 (.ofNat 255)))⟩, ⟨(some (K.ofNat 8)), none, .pr .sidx (.c (.s ⟨#[0, 1, 1, 2, 1, 2, 2, 3, 1, 2, 2, 3, 2, 3, 3, 4, 1, 2, 2, 3, 2, 3, 3, 4, 2, 3, 3, 4, 3, 4, 4, 5, 1, 2, 2, 3, 2, 3, 3, 4, 2, 3, 3, 4, 3, 4, 4, 5, 2, 3, 3, 4, 3, 4, 4, 5, 3, 4, 4, 5, 4, 5, 5, 6, 1, 2, 2, 3, 2, 3, 3, 4, 2, 3, 3, 4, 3, 4, 4, 5, 2, 3, 3, 4, 3, 4, 4, 5, 3, 4, 4, 5, 4, 5, 5, 6, 2, 3, 3, 4, 3, 4, 4, 5, 3, 4, 4, 5, 4, 5, 5, 6, 3, 4, 4, 5, 4, 5, 5, 6, 4, 5, 5, 6, 5, 6, 6, 7, 1, 2, 2, 3, 2, 3, 3, 4, 2, 3, 3, 4, 3, 4, 4, 5, 2, 3, 3, 4, 3, 4, 4, 5, 3, 4, 4, 5, 4, 5, 5, 6, 2, 3, 3, 4, 3, 4, 4, 5, 3, 4, 4, 5, 4, 5, 5, 6, 3, 4, 4, 5, 4, 5, 5, 6, 4, 5, 5, 6, 5, 6, 6, 7, 2, 3, 3, 4, 3, 4, 4, 5, 3, 4, 4, 5, 4, 5, 5, 6, 3, 4, 4, 5, 4, 5, 5, 6, 4, 5, 5, 6, 5, 6, 6, 7, 3, 4, 4, 5, 4, 5, 5, 6, 4, 5, 5, 6, 5, 6, 6, 7, 4, 5, 5, 6, 5, 6, 6, 7, 5, 6, 6, 7, 6, 7, 7, 8]⟩)) (.t (K.ofNat 7))⟩, ⟨(some (K.ofNat 9)), none, .bin .add (.t (K.ofNat 5)) (.t (K.ofNat 8))⟩, ⟨(some (K.ofNat 10)), none, .conv .i64 (.t (K.ofNat 9))⟩], [], (some ⟨(some (K.ofNat 2)), none, .as (.t (K.ofNat 10))⟩), []⟩, ⟨[], [], none, []⟩]
noncomputable def f92_c : EC := (.seq (.reg f92_r0) (.seq (.draw f92_r1) .ret))
noncomputable def f92 : EF := ⟨11, [.tmp (K.ofNat 2)], f92_c, none⟩
theorem f92_rs : f92.rs = [.tmp (K.ofNat 2)] := of_eq_true (eq_self _)
noncomputable def f74_r0 : List EOper := [⟨(some (K.ofNat 2)), none, .as (.c (.i .i64 (.ofNat 0)))⟩]
noncomputable def f74_r1 : List EOper := [⟨(some (K.ofNat 3)), none, .mv (.t (K.ofNat 0))⟩, ⟨(some (K.ofNat 4)), none, .call (.c (.fn (K.ofNat 92) [])) [(.t (K.ofNat 3))]⟩, ⟨(some (K.ofNat 2)), none, .as (.t (K.ofNat 4))⟩]
noncomputable def f74_c : EC := (.seq (.reg f74_r0) (.seq (.reg f74_r1) .ret))
noncomputable def f74 : EF := ⟨5, [.tmp (K.ofNat 2)], f74_c, none⟩
theorem f74_rs : f74.rs = [.tmp (K.ofNat 2)] := of_eq_true (eq_self _)
noncomputable def f75_r0 : List EOper := [⟨(some (K.ofNat 2)), none, .as (.c (.i .i64 (.ofNat 0)))⟩]
noncomputable def f75_r1 : List EOper := [⟨(some (K.ofNat 3)), none, .as (.c (.i .i64 (.ofNat 0)))⟩]
noncomputable def f75_r2 : List EOper := [⟨(some (K.ofNat 6)), none, .mv (.t (K.ofNat 0))⟩, ⟨(some (K.ofNat 7)), none, .len (.t (K.ofNat 6))⟩, ⟨(some (K.ofNat 8)), none, .mv (.c (.i .i64 (.ofNat 0)))⟩]
noncomputable def f75_r3 : List EOper := [⟨(some (K.ofNat 9)), none, .bin .lss (.t (K.ofNat 8)) (.t (K.ofNat 7))⟩]
noncomputable def f75_r4 : List EOper := [⟨(some (K.ofNat 10)), none, .iads 1 (.t (K.ofNat 6)) (.t (K.ofNat 8))⟩, ⟨(some (K.ofNat 11)), none, .ld (.t (K.ofNat 10))⟩, ⟨(some (K.ofNat 5)), none, .as (.t (K.ofNat 11))⟩]
noncomputable def f75_r5 : List EOper := [⟨(some (K.ofNat 12)), none, .mv (.t (K.ofNat 3))⟩, ⟨(some (K.ofNat 13)), none, .mv (.t (K.ofNat 5))⟩, ⟨(some (K.ofNat 14)), none, .bin .add (.t (K.ofNat 12)) (.t (K.ofNat 13))⟩, ⟨(some (K.ofNat 3)), none, .as (.t (K.ofNat 14))⟩]
noncomputable def f75_r6 : List EOper := [⟨(some (K.ofNat 15)), none, .bin .add (.t (K.ofNat 8)) (.c (.i .i64 (.ofNat 1)))⟩, ⟨(some (K.ofNat 8)), none, .mv (.t (K.ofNat 15))⟩]
noncomputable def f75_l0 : EC := (.seq (.reg f75_r3) (.seq (.cond (.t (K.ofNat 9)) .skip (.exit 0)) (.seq (.block 1 (.seq (.reg f75_r4) (.reg f75_r5))) (.reg f75_r6))))
noncomputable def f75_r7 : List EOper := [⟨(some (K.ofNat 16)), none, .mv (.t (K.ofNat 3))⟩, ⟨(some (K.ofNat 2)), none, .as (.t (K.ofNat 16))⟩]
noncomputable def f75_c : EC := (.seq (.reg f75_r0) (.seq (.reg f75_r1) (.seq (.seq (.reg f75_r2) (.block 0 (.loop f75_l0))) (.seq (.reg f75_r7) .ret))))
noncomputable def f75 : EF := ⟨17, [.tmp (K.ofNat 2)], f75_c, none⟩
theorem f75_rs : f75.rs = [.tmp (K.ofNat 2)] := of_eq_true (eq_self _)
def T8 : List UInt8 := [0, 1, 1, 2, 1, 2, 2, 3, 1, 2, 2, 3, 2, 3, 3, 4, 1, 2, 2, 3, 2, 3, 3, 4, 2, 3, 3, 4, 3, 4, 4, 5, 1, 2, 2, 3, 2, 3, 3, 4, 2, 3, 3, 4, 3, 4, 4, 5, 2, 3, 3, 4, 3, 4, 4, 5, 3, 4, 4, 5, 4, 5, 5, 6, 1, 2, 2, 3, 2, 3, 3, 4, 2, 3, 3, 4, 3, 4, 4, 5, 2, 3, 3, 4, 3, 4, 4, 5, 3, 4, 4, 5, 4, 5, 5, 6, 2, 3, 3, 4, 3, 4, 4, 5, 3, 4, 4, 5, 4, 5, 5, 6, 3, 4, 4, 5, 4, 5, 5, 6, 4, 5, 5, 6, 5, 6, 6, 7, 1, 2, 2, 3, 2, 3, 3, 4, 2, 3, 3, 4, 3, 4, 4, 5, 2, 3, 3, 4, 3, 4, 4, 5, 3, 4, 4, 5, 4, 5, 5, 6, 2, 3, 3, 4, 3, 4, 4, 5, 3, 4, 4, 5, 4, 5, 5, 6, 3, 4, 4, 5, 4, 5, 5, 6, 4, 5, 5, 6, 5, 6, 6, 7, 2, 3, 3, 4, 3, 4, 4, 5, 3, 4, 4, 5, 4, 5, 5, 6, 3, 4, 4, 5, 4, 5, 5, 6, 4, 5, 5, 6, 5, 6, 6, 7, 3, 4, 4, 5, 4, 5, 5, 6, 4, 5, 5, 6, 5, 6, 6, 7, 4, 5, 5, 6, 5, 6, 6, 7, 5, 6, 6, 7, 6, 7, 7, 8]
def pc8 (k : Nat) : Nat := ((List.range 8).filter fun i => k.testBit i).length
theorem t8_all : ((List.range 256).all fun k => decide (T8[k]? = some (UInt8.ofNat (pc8 k)) ∧ pc8 k ≤ 8)) = true := by decide +kernel
theorem t8_at {k : Nat} (hk : k < 256) : T8[k]? = some (UInt8.ofNat (pc8 k)) ∧ pc8 k ≤ 8 := by
  have := List.all_eq_true.1 t8_all k (by simpa using hk)
  simpa using this
theorem sidx_t8 {kk : IntKind} {k : Nat} (hk : k < 256) : prV .sidx (V.s ⟨#[0, 1, 1, 2, 1, 2, 2, 3, 1, 2, 2, 3, 2, 3, 3, 4, 1, 2, 2, 3, 2, 3, 3, 4, 2, 3, 3, 4, 3, 4, 4, 5, 1, 2, 2, 3, 2, 3, 3, 4, 2, 3, 3, 4, 3, 4, 4, 5, 2, 3, 3, 4, 3, 4, 4, 5, 3, 4, 4, 5, 4, 5, 5, 6, 1, 2, 2, 3, 2, 3, 3, 4, 2, 3, 3, 4, 3, 4, 4, 5, 2, 3, 3, 4, 3, 4, 4, 5, 3, 4, 4, 5, 4, 5, 5, 6, 2, 3, 3, 4, 3, 4, 4, 5, 3, 4, 4, 5, 4, 5, 5, 6, 3, 4, 4, 5, 4, 5, 5, 6, 4, 5, 5, 6, 5, 6, 6, 7, 1, 2, 2, 3, 2, 3, 3, 4, 2, 3, 3, 4, 3, 4, 4, 5, 2, 3, 3, 4, 3, 4, 4, 5, 3, 4, 4, 5, 4, 5, 5, 6, 2, 3, 3, 4, 3, 4, 4, 5, 3, 4, 4, 5, 4, 5, 5, 6, 3, 4, 4, 5, 4, 5, 5, 6, 4, 5, 5, 6, 5, 6, 6, 7, 2, 3, 3, 4, 3, 4, 4, 5, 3, 4, 4, 5, 4, 5, 5, 6, 3, 4, 4, 5, 4, 5, 5, 6, 4, 5, 5, 6, 5, 6, 6, 7, 3, 4, 4, 5, 4, 5, 5, 6, 4, 5, 5, 6, 5, 6, 6, 7, 4, 5, 5, 6, 5, 6, 6, 7, 5, 6, 6, 7, 6, 7, 7, 8]⟩) (.i kk (k : Int)) = some (.i .u8 (pc8 k : Int)) := by
  obtain ⟨h1, h2⟩ := t8_at hk
  have e : bytes ⟨#[0, 1, 1, 2, 1, 2, 2, 3, 1, 2, 2, 3, 2, 3, 3, 4, 1, 2, 2, 3, 2, 3, 3, 4, 2, 3, 3, 4, 3, 4, 4, 5, 1, 2, 2, 3, 2, 3, 3, 4, 2, 3, 3, 4, 3, 4, 4, 5, 2, 3, 3, 4, 3, 4, 4, 5, 3, 4, 4, 5, 4, 5, 5, 6, 1, 2, 2, 3, 2, 3, 3, 4, 2, 3, 3, 4, 3, 4, 4, 5, 2, 3, 3, 4, 3, 4, 4, 5, 3, 4, 4, 5, 4, 5, 5, 6, 2, 3, 3, 4, 3, 4, 4, 5, 3, 4, 4, 5, 4, 5, 5, 6, 3, 4, 4, 5, 4, 5, 5, 6, 4, 5, 5, 6, 5, 6, 6, 7, 1, 2, 2, 3, 2, 3, 3, 4, 2, 3, 3, 4, 3, 4, 4, 5, 2, 3, 3, 4, 3, 4, 4, 5, 3, 4, 4, 5, 4, 5, 5, 6, 2, 3, 3, 4, 3, 4, 4, 5, 3, 4, 4, 5, 4, 5, 5, 6, 3, 4, 4, 5, 4, 5, 5, 6, 4, 5, 5, 6, 5, 6, 6, 7, 2, 3, 3, 4, 3, 4, 4, 5, 3, 4, 4, 5, 4, 5, 5, 6, 3, 4, 4, 5, 4, 5, 5, 6, 4, 5, 5, 6, 5, 6, 6, 7, 3, 4, 4, 5, 4, 5, 5, 6, 4, 5, 5, 6, 5, 6, 6, 7, 4, 5, 5, 6, 5, 6, 6, 7, 5, 6, 6, 7, 6, 7, 7, 8]⟩ = T8 := rfl
  show (oGet (nonneg (k : Int)) none fun n => oGet (nth (bytes ⟨#[0, 1, 1, 2, 1, 2, 2, 3, 1, 2, 2, 3, 2, 3, 3, 4, 1, 2, 2, 3, 2, 3, 3, 4, 2, 3, 3, 4, 3, 4, 4, 5, 1, 2, 2, 3, 2, 3, 3, 4, 2, 3, 3, 4, 3, 4, 4, 5, 2, 3, 3, 4, 3, 4, 4, 5, 3, 4, 4, 5, 4, 5, 5, 6, 1, 2, 2, 3, 2, 3, 3, 4, 2, 3, 3, 4, 3, 4, 4, 5, 2, 3, 3, 4, 3, 4, 4, 5, 3, 4, 4, 5, 4, 5, 5, 6, 2, 3, 3, 4, 3, 4, 4, 5, 3, 4, 4, 5, 4, 5, 5, 6, 3, 4, 4, 5, 4, 5, 5, 6, 4, 5, 5, 6, 5, 6, 6, 7, 1, 2, 2, 3, 2, 3, 3, 4, 2, 3, 3, 4, 3, 4, 4, 5, 2, 3, 3, 4, 3, 4, 4, 5, 3, 4, 4, 5, 4, 5, 5, 6, 2, 3, 3, 4, 3, 4, 4, 5, 3, 4, 4, 5, 4, 5, 5, 6, 3, 4, 4, 5, 4, 5, 5, 6, 4, 5, 5, 6, 5, 6, 6, 7, 2, 3, 3, 4, 3, 4, 4, 5, 3, 4, 4, 5, 4, 5, 5, 6, 3, 4, 4, 5, 4, 5, 5, 6, 4, 5, 5, 6, 5, 6, 6, 7, 3, 4, 4, 5, 4, 5, 5, 6, 4, 5, 5, 6, 5, 6, 6, 7, 4, 5, 5, 6, 5, 6, 6, 7, 5, 6, 6, 7, 6, 7, 7, 8]⟩) n) none fun b => some (V.i .u8 (.ofNat b.toNat))) = _
  rw [e]
  show (oGet (nth T8 k) none fun b => some (V.i .u8 (.ofNat b.toNat))) = _
  rw [nth_eq, h1]
  show some (V.i .u8 (.ofNat (UInt8.ofNat (pc8 k)).toNat)) = _
  have : (UInt8.ofNat (pc8 k)).toNat = pc8 k := by rw [UInt8.toNat_ofNat']; omega
  rw [this]; rfl
def pcN (m : Nat) : Nat := pc8 (m / 256) + pc8 (m % 256)
noncomputable def f92_q (T : V) : List Stage := [⟨[⟨(some (K.ofNat 3)), none, .mv (.t (K.ofNat 0))⟩, ⟨(some (K.ofNat 4)), none, .bin .shr (.t (K.ofNat 3)) (.c (.i .u64 (.ofNat 8)))⟩, ⟨(some (K.ofNat 5)), none, .pr .sidx (.c T) (.t (K.ofNat 4))⟩, ⟨(some (K.ofNat 6)), none, .mv (.t (K.ofNat 0))⟩, ⟨(some (K.ofNat 7)), none, .bin .and (.t (K.ofNat 6)) (.c (.i .u16 (.ofNat 255)))⟩, ⟨(some (K.ofNat 8)), none, .pr .sidx (.c T) (.t (K.ofNat 7))⟩, ⟨(some (K.ofNat 9)), none, .bin .add (.t (K.ofNat 5)) (.t (K.ofNat 8))⟩, ⟨(some (K.ofNat 10)), none, .conv .i64 (.t (K.ofNat 9))⟩], [], (some ⟨(some (K.ofNat 2)), none, .as (.t (K.ofNat 10))⟩), []⟩, ⟨[], [], none, []⟩]
theorem f92_e : f92_r1 = f92_q (V.s ⟨#[0, 1, 1, 2, 1, 2, 2, 3, 1, 2, 2, 3, 2, 3, 3, 4, 1, 2, 2, 3, 2, 3, 3, 4, 2, 3, 3, 4, 3, 4, 4, 5, 1, 2, 2, 3, 2, 3, 3, 4, 2, 3, 3, 4, 3, 4, 4, 5, 2, 3, 3, 4, 3, 4, 4, 5, 3, 4, 4, 5, 4, 5, 5, 6, 1, 2, 2, 3, 2, 3, 3, 4, 2, 3, 3, 4, 3, 4, 4, 5, 2, 3, 3, 4, 3, 4, 4, 5, 3, 4, 4, 5, 4, 5, 5, 6, 2, 3, 3, 4, 3, 4, 4, 5, 3, 4, 4, 5, 4, 5, 5, 6, 3, 4, 4, 5, 4, 5, 5, 6, 4, 5, 5, 6, 5, 6, 6, 7, 1, 2, 2, 3, 2, 3, 3, 4, 2, 3, 3, 4, 3, 4, 4, 5, 2, 3, 3, 4, 3, 4, 4, 5, 3, 4, 4, 5, 4, 5, 5, 6, 2, 3, 3, 4, 3, 4, 4, 5, 3, 4, 4, 5, 4, 5, 5, 6, 3, 4, 4, 5, 4, 5, 5, 6, 4, 5, 5, 6, 5, 6, 6, 7, 2, 3, 3, 4, 3, 4, 4, 5, 3, 4, 4, 5, 4, 5, 5, 6, 3, 4, 4, 5, 4, 5, 5, 6, 4, 5, 5, 6, 5, 6, 6, 7, 3, 4, 4, 5, 4, 5, 5, 6, 4, 5, 5, 6, 5, 6, 6, 7, 4, 5, 5, 6, 5, 6, 6, 7, 5, 6, 6, 7, 6, 7, 7, 8]⟩) := rfl
theorem of255 : Int.ofNat 255 = 255 := of_eq_true (eq_self _)
section
variable {fs : T EF} {h : H} {v : V}
theorem f92_ret {m : Nat} (hm : m ≤ 65535) : Ret fs f92 [.i .u16 (m : Int)] h fun r h' => r = .i .i64 (pcN m : Int) ∧ h' = h := by
  have h1 : binV .shr (.i .u16 (m : Int)) (.i .u64 8) = some (.i .u16 ((m / 256 : Nat) : Int)) := by
    have := bin_shr (k := .u16) (k' := .u64) (m := m) (n := 8)
    rw [show min 8 (IntKind.bits .u16) = 8 from rfl] at this
    exact this
  have h2 : binV .and (.i .u16 (m : Int)) (.i .u16 255) = some (.i .u16 ((m % 256 : Nat) : Int)) := by
    have := bin_and (k := .u16) (m := m) (n := 255) (show m ≤ 65535 by omega) (show 255 ≤ 65535 by omega)
    rw [show m &&& 255 = m % 256 from Nat.and_two_pow_sub_one_eq_mod m 8] at this
    exact this
  have a1 := t8_at (k := m / 256) (by omega)
  have a2 := t8_at (k := m % 256) (by omega)
  have h3 := sidx_t8 (kk := .u16) (k := m / 256) (by omega)
  have h4 := sidx_t8 (kk := .u16) (k := m % 256) (by omega)
  have e1 : (pc8 (m / 256) : Int) + (pc8 (m % 256) : Int) = (pcN m : Int) := by unfold pcN; omega
  have hp : pcN m ≤ 16 := by unfold pcN; omega
  have f8 : fw .u8 (pcN m : Int) = (pcN m : Int) := fw_in (by have : (0 : Int) ≤ (pcN m : Int) := Int.natCast_nonneg _; omega) (by show (pcN m : Int) ≤ 255; omega)
  apply ret_of rfl
  show W fs none f92_c _ _ _
  unfold f92_c
  rw [f92_e]
  generalize V.s ⟨#[0, 1, 1, 2, 1, 2, 2, 3, 1, 2, 2, 3, 2, 3, 3, 4, 1, 2, 2, 3, 2, 3, 3, 4, 2, 3, 3, 4, 3, 4, 4, 5, 1, 2, 2, 3, 2, 3, 3, 4, 2, 3, 3, 4, 3, 4, 4, 5, 2, 3, 3, 4, 3, 4, 4, 5, 3, 4, 4, 5, 4, 5, 5, 6, 1, 2, 2, 3, 2, 3, 3, 4, 2, 3, 3, 4, 3, 4, 4, 5, 2, 3, 3, 4, 3, 4, 4, 5, 3, 4, 4, 5, 4, 5, 5, 6, 2, 3, 3, 4, 3, 4, 4, 5, 3, 4, 4, 5, 4, 5, 5, 6, 3, 4, 4, 5, 4, 5, 5, 6, 4, 5, 5, 6, 5, 6, 6, 7, 1, 2, 2, 3, 2, 3, 3, 4, 2, 3, 3, 4, 3, 4, 4, 5, 2, 3, 3, 4, 3, 4, 4, 5, 3, 4, 4, 5, 4, 5, 5, 6, 2, 3, 3, 4, 3, 4, 4, 5, 3, 4, 4, 5, 4, 5, 5, 6, 3, 4, 4, 5, 4, 5, 5, 6, 4, 5, 5, 6, 5, 6, 6, 7, 2, 3, 3, 4, 3, 4, 4, 5, 3, 4, 4, 5, 4, 5, 5, 6, 3, 4, 4, 5, 4, 5, 5, 6, 4, 5, 5, 6, 5, 6, 6, 7, 3, 4, 4, 5, 4, 5, 5, 6, 4, 5, 5, 6, 5, 6, 6, 7, 4, 5, 5, 6, 5, 6, 6, 7, 5, 6, 6, 7, 6, 7, 7, 8]⟩ = T at *
  simp (disch := omega) only [f92_r0, f92_q, f92_rs, w_reg, w_draw, w_seq, w_ret, seqK_n, retK_r, x_nil, x_as, kg, xg_nil, xg_mv, xg_bin, xg_conv, xd_cons, fresh_nil, stK_n, stK_s, stay_nil, rvP_ok, okv_some, ev_t, ev_c, getV_some, putD_some, bin_add, onI_i, oGet_s, readRs_nil, readRs_t, retV_1, frame_1, of0, of8, Option.some.injEq, exists_eq_left', getK_set, Nat.reduceEqDiff, ↓reduceIte, xg_pr, of8, of255, h1, h2, h3, h4, e1, f8, fw64, and_self]
theorem f74_ret {m : Nat} (h92 : fs.get (K.ofNat 92) = some f92) (hm : m ≤ 65535) : Ret fs f74 [.i .u16 (m : Int)] h fun r h' => r = .i .i64 (pcN m : Int) ∧ h' = h := by
  apply ret_of rfl
  show W fs none f74_c _ _ _
  unfold f74_c
  simp (disch := omega) only [f74_r0, f74_r1, w_reg, w_seq, seqK_n, x_nil, x_mv, x_as, x_call, ev_t, ev_c, evs_nil, evs_cons, getV_some, putD_some, frame_1, of0, getK_set, Nat.reduceEqDiff, ↓reduceIte]
  refine (callP_0 (ef := f92) h92 rfl (f92_ret hm)).mono ?_
  rintro r h1 ⟨rfl, e⟩
  rw [e]
  simp (disch := omega) only [f74_rs, w_ret, seqK_n, retK_r, x_nil, x_as, kx, ev_t, getV_some, putD_some, oGet_s, readRs_nil, readRs_t, retV_1, Option.some.injEq, exists_eq_left', getK_set, ↓reduceIte, and_self]
def smI (L : List Int) : Int := L.foldl (· + ·) 0
theorem smI_snoc {L : List Int} {x : Int} : smI (L ++ [x]) = smI L + x := by unfold smI; rw [List.foldl_append]; rfl
def f75_I (h : H) (v : V) (L : List Int) (i : Nat) (fr : Fr) (h1 : H) : Prop := i ≤ L.length ∧ h1 = h ∧ fr.get (K.ofNat 3) = some (.i .i64 (smI (L.take i))) ∧ fr.get (K.ofNat 6) = some (v) ∧ fr.get (K.ofNat 7) = some (.i .i64 (L.length : Int)) ∧ fr.get (K.ofNat 8) = some (.i .i64 (i : Int))
theorem smI_bd {b : Nat} : ∀ {L : List Int}, (∀ x ∈ L, -(b : Int) ≤ x ∧ x ≤ (b : Int)) → -(((L.length * b : Nat)) : Int) ≤ smI L ∧ smI L ≤ ((L.length * b : Nat) : Int) := by
  intro L
  have key : ∀ (L : List Int) (a : Int), (∀ x ∈ L, -(b : Int) ≤ x ∧ x ≤ (b : Int)) → a - (((L.length * b : Nat)) : Int) ≤ L.foldl (· + ·) a ∧ L.foldl (· + ·) a ≤ a + ((L.length * b : Nat) : Int) := by
    intro L
    induction L with
    | nil => intro a _; simp
    | cons x L ih =>
      intro a hb
      have h1 := hb x (by simp)
      have h2 := ih (a + x) fun y hy => hb y (by simp [hy])
      rw [List.foldl_cons, List.length_cons, Nat.add_mul, Nat.one_mul]
      omega
  intro hb
  have := key L 0 hb
  unfold smI
  omega
theorem f75_ret {L : List Int} (hv : Sr iE h v L) (hL : L.length ≤ 1000) (hb : ∀ x ∈ L, -(1000 : Int) ≤ x ∧ x ≤ 1000) : Ret fs f75 [v] h fun r h' => r = .i .i64 (smI L) ∧ h' = h := by
  apply ret_of rfl
  show W fs none f75_c _ _ _
  unfold f75_c
  have hlen := hv.len
  simp (disch := omega) only [f75_r0, f75_r1, f75_r2, w_reg, w_seq, w_block, seqK_n, x_nil, x_mv, x_as, x_len, kx, rvP_ok, ev_t, ev_c, getV_some, putD_some, frame_1, of0, getK_set, Nat.reduceEqDiff, ↓reduceIte, hlen]
  refine W_loop (f75_I h v L) (fun i => L.length - i) ?_ 0 ⟨by omega, rfl, by simp (disch := omega) only [getK_set, Nat.reduceEqDiff, ↓reduceIte, and_self, Int.natCast_zero, List.take_zero, smI, List.foldl_nil]⟩
  rintro i fr h1 ⟨hi, rfl, g3, g6, g7, g8⟩
  unfold f75_l0
  by_cases hlt : i < L.length
  · have d0 : decide ((i : Int) < (L.length : Int)) = true := by simpa using hlt
    obtain ⟨p, hp1, hp2⟩ := hv.at i hlt
    have hb1 := hb _ (List.getElem_mem hlt)
    have htk := List.take_succ_eq_append_getElem hlt
    have hs : smI (L.take i) + L[i] = smI (L.take (i + 1)) := by rw [htk, smI_snoc]
    have hbd := smI_bd (b := 1000) (L := L.take (i + 1)) fun x hx => hb x (List.mem_of_mem_take hx)
    rw [List.length_take] at hbd
    have hmul : min (i + 1) L.length * 1000 ≤ 1000 * 1000 := Nat.mul_le_mul_right _ (by omega)
    simp (disch := omega) only [f75_r3, f75_r4, f75_r5, f75_r6, w_skip, w_reg, w_seq, w_cond, w_block, seqK_n, atK_n, loopK_n, ckB_b, cbB_b, true_and, x_nil, x_mv, x_as, x_ld, x_bin, x_iads, kx, rvP_ok, okv_some, ev_t, ev_c, getV_some, putD_some, bin_add, bin_lss, of1, getK_set, Nat.reduceEqDiff, ↓reduceIte, g3, g6, g7, g8, d0, hp1, hp2, iE, hs, fw64]
    exact ⟨i + 1, by omega, by omega, rfl, by simp (disch := omega) only [getK_set, Nat.reduceEqDiff, ↓reduceIte, g6, g7, and_self, Int.natCast_add, Int.natCast_one]⟩
  · have d0 : decide ((i : Int) < (L.length : Int)) = false := by simpa using hlt
    have ei : i = L.length := by omega
    rw [ei, List.take_length] at g3
    simp (disch := omega) only [f75_r3, f75_r7, f75_rs, w_reg, w_seq, w_cond, w_exit, w_ret, seqK_n, seqK_e, atK_e, loopK_e, ckB_b, cbB_b, retK_r, x_nil, x_mv, x_as, x_bin, kx, rvP_ok, okv_some, ev_t, getV_some, putD_some, bin_lss, oGet_s, readRs_nil, readRs_t, retV_1, Option.some.injEq, exists_eq_left', getK_set, Nat.reduceEqDiff, ↓reduceIte, Bool.false_eq_true, g3, g7, g8, d0, and_self]
end
end Go.Ev
namespace Go.Ev
open Go Go.RowKit
noncomputable def f52_r0 : List EOper := [⟨(some (K.ofNat 4)), none, .as (.c (.i .i64 (.ofNat 0)))⟩]
noncomputable def f52_r1 : List EOper := [⟨(some (K.ofNat 5)), none, .as (.c .sn)⟩]
noncomputable def f52_r2 : List EOper := [⟨(some (K.ofNat 9)), none, .mv (.t (K.ofNat 0))⟩, ⟨(some (K.ofNat 10)), none, .slice 1 (.t (K.ofNat 9)) (some (.c (.i .i64 (.ofNat 1)))) none none⟩, ⟨(some (K.ofNat 11)), none, .len (.t (K.ofNat 10))⟩, ⟨(some (K.ofNat 12)), none, .mv (.c (.i .i64 (.ofNat 0)))⟩]
noncomputable def f52_r3 : List EOper := [⟨(some (K.ofNat 13)), none, .bin .lss (.t (K.ofNat 12)) (.t (K.ofNat 11))⟩]
noncomputable def f52_r4 : List EOper := [⟨(some (K.ofNat 14)), none, .mv (.t (K.ofNat 12))⟩, ⟨(some (K.ofNat 15)), none, .iads 1 (.t (K.ofNat 10)) (.t (K.ofNat 12))⟩, ⟨(some (K.ofNat 16)), none, .ld (.t (K.ofNat 15))⟩, ⟨(some (K.ofNat 6)), none, .as (.t (K.ofNat 14))⟩, ⟨(some (K.ofNat 7)), none, .as (.t (K.ofNat 16))⟩]
noncomputable def f52_r5 : List EOper := [⟨(some (K.ofNat 17)), none, .mv (.t (K.ofNat 0))⟩, ⟨(some (K.ofNat 18)), none, .mv (.t (K.ofNat 6))⟩, ⟨(some (K.ofNat 19)), none, .iads 1 (.t (K.ofNat 17)) (.t (K.ofNat 18))⟩, ⟨(some (K.ofNat 20)), none, .ld (.t (K.ofNat 19))⟩, ⟨(some (K.ofNat 21)), none, .call (.c (.fn (K.ofNat 73) [])) [(.t (K.ofNat 20))]⟩, ⟨(some (K.ofNat 22)), none, .mv (.t (K.ofNat 7))⟩, ⟨(some (K.ofNat 23)), none, .call (.c (.fn (K.ofNat 73) [])) [(.t (K.ofNat 22))]⟩, ⟨(some (K.ofNat 24)), none, .bin .xor (.t (K.ofNat 21)) (.t (K.ofNat 23))⟩, ⟨(some (K.ofNat 8)), none, .as (.t (K.ofNat 24))⟩]
noncomputable def f52_r6 : List EOper := [⟨(some (K.ofNat 25)), none, .mv (.t (K.ofNat 5))⟩, ⟨(some (K.ofNat 26)), none, .mv (.t (K.ofNat 1))⟩, ⟨(some (K.ofNat 27)), none, .mv (.t (K.ofNat 8))⟩, ⟨(some (K.ofNat 28)), none, .call (.c (.fn (K.ofNat 74) [])) [(.t (K.ofNat 27))]⟩, ⟨(some (K.ofNat 29)), none, .bin .sub (.t (K.ofNat 26)) (.t (K.ofNat 28))⟩, ⟨(some (K.ofNat 30)), none, .bslice 1 1 [(.i .i64 (.ofNat 0))] [(0, 1, (.t (K.ofNat 29)))]⟩, ⟨(some (K.ofNat 31)), none, .app 1 (.t (K.ofNat 25)) (.t (K.ofNat 30))⟩, ⟨(some (K.ofNat 5)), none, .as (.t (K.ofNat 31))⟩]
noncomputable def f52_r7 : List EOper := [⟨(some (K.ofNat 32)), none, .bin .add (.t (K.ofNat 12)) (.c (.i .i64 (.ofNat 1)))⟩, ⟨(some (K.ofNat 12)), none, .mv (.t (K.ofNat 32))⟩]
noncomputable def f52_l0 : EC := (.seq (.reg f52_r3) (.seq (.cond (.t (K.ofNat 13)) .skip (.exit 0)) (.seq (.block 1 (.seq (.reg f52_r4) (.seq (.reg f52_r5) (.reg f52_r6)))) (.reg f52_r7))))
noncomputable def f52_r8 : List EOper := [⟨(some (K.ofNat 33)), none, .mv (.t (K.ofNat 5))⟩, ⟨(some (K.ofNat 34)), none, .call (.c (.fn (K.ofNat 75) [])) [(.t (K.ofNat 33))]⟩, ⟨(some (K.ofNat 4)), none, .as (.t (K.ofNat 34))⟩]
noncomputable def f52_c : EC := (.seq (.reg f52_r0) (.seq (.reg f52_r1) (.seq (.seq (.reg f52_r2) (.block 0 (.loop f52_l0))) (.seq (.reg f52_r8) .ret))))
noncomputable def f52 : EF := ⟨35, [.tmp (K.ofNat 4)], f52_c, none⟩
theorem f52_rs : f52.rs = [.tmp (K.ofNat 4)] := of_eq_true (eq_self _)
noncomputable def f16_r0 : List EOper := [⟨(some (K.ofNat 4)), none, .as (.c (.i .i64 (.ofNat 0)))⟩, ⟨(some (K.ofNat 5)), none, .as (.c (.i .i64 (.ofNat 0)))⟩]
noncomputable def f16_r1 : List EOper := [⟨(some (K.ofNat 9)), none, .mv (.t (K.ofNat 0))⟩, ⟨(some (K.ofNat 10)), none, .mv (.t (K.ofNat 1))⟩, ⟨(some (K.ofNat 11)), none, .call (.c (.fn (K.ofNat 51) [])) [(.t (K.ofNat 9)), (.t (K.ofNat 10))]⟩, ⟨(some (K.ofNat 8)), none, .mv (.t (K.ofNat 11))⟩, ⟨(some (K.ofNat 12)), none, .ext (.t (K.ofNat 8)) 0⟩, ⟨(some (K.ofNat 13)), none, .ext (.t (K.ofNat 8)) 1⟩, ⟨(some (K.ofNat 6)), none, .as (.t (K.ofNat 12))⟩, ⟨(some (K.ofNat 7)), none, .as (.t (K.ofNat 13))⟩]
noncomputable def f16_r2 : List EOper := [⟨(some (K.ofNat 14)), none, .mv (.t (K.ofNat 7))⟩, ⟨(some (K.ofNat 15)), none, .bin .neq (.t (K.ofNat 14)) (.c (.i .i64 (.ofNat 0)))⟩]
noncomputable def f16_r3 : List EOper := [⟨(some (K.ofNat 16)), none, .mv (.t (K.ofNat 7))⟩, ⟨(some (K.ofNat 4)), none, .as (.c (.i .i64 (.ofNat 0)))⟩, ⟨(some (K.ofNat 5)), none, .as (.t (K.ofNat 16))⟩]
noncomputable def f16_r4 : List EOper := [⟨(some (K.ofNat 17)), none, .mv (.t (K.ofNat 6))⟩, ⟨(some (K.ofNat 18)), none, .mv (.t (K.ofNat 0))⟩, ⟨(some (K.ofNat 19)), none, .call (.c (.fn (K.ofNat 52) [])) [(.t (K.ofNat 17)), (.t (K.ofNat 18))]⟩, ⟨(some (K.ofNat 4)), none, .as (.t (K.ofNat 19))⟩, ⟨(some (K.ofNat 5)), none, .as (.c (.i .i64 (.ofNat 0)))⟩]
noncomputable def f16_c : EC := (.seq (.reg f16_r0) (.seq (.reg f16_r1) (.seq (.seq (.reg f16_r2) (.cond (.t (K.ofNat 15)) (.seq (.reg f16_r3) .ret) .skip)) (.seq (.reg f16_r4) .ret))))
noncomputable def f16 : EF := ⟨20, [.tmp (K.ofNat 4), .tmp (K.ofNat 5)], f16_c, none⟩
/-- For how many teams one is at home and the other isn't. -/
def dfC (l l' : List (Int × Int)) : Nat := ((List.range 16).filter fun t => hoB l t != hoB l' t).length
theorem pcN_bits {m : Nat} : pcN m = ((List.range 16).filter fun t => m.testBit t).length := by
  have h1 : List.range 16 = List.range 8 ++ (List.range 8).map (· + 8) := by decide
  rw [h1, List.filter_append, List.length_append, List.filter_map, List.length_map]
  unfold pcN pc8
  rw [Nat.add_comm]
  congr 1
  · congr 1
    refine List.filter_congr fun t ht => ?_
    have ht : t < 8 := by simpa using ht
    have := Nat.testBit_mod_two_pow m 8 t
    rw [show (2 : Nat) ^ 8 = 256 from rfl] at this
    rw [this, decide_eq_true ht, Bool.true_and]
  · congr 1
    refine List.filter_congr fun t _ => ?_
    have := Nat.testBit_div_two_pow (n := 8) m t
    rw [show (2 : Nat) ^ 8 = 256 from rfl] at this
    rw [this]; rfl
theorem msk_df {m m' : Nat} {l l' : List (Int × Int)} (h : Msk m (hmL l)) (h' : Msk m' (hmL l')) : pcN (m ^^^ m') = dfC l l' := by
  rw [pcN_bits]
  unfold dfC
  congr 1
  refine List.filter_congr fun t ht => ?_
  have ht : t < 16 := by simpa using ht
  rw [Nat.testBit_xor, h.2 t (by omega), h'.2 t (by omega)]; rfl
theorem dfC_le {l l' : List (Int × Int)} : dfC l l' ≤ 16 := by
  unfold dfC
  exact Nat.le_trans (List.length_filter_le _ _) (by simp)
/-- Breaks between each two rounds. -/
def bkL (n : Nat) (Ls : List (List (Int × Int))) (i : Nat) : List Int := (List.range i).map fun i => (n : Int) - (dfC (Ls.getD i []) (Ls.getD (i + 1) []) : Int)
theorem bkL_succ {n : Nat} {Ls : List (List (Int × Int))} {i : Nat} : bkL n Ls (i + 1) = bkL n Ls i ++ [(n : Int) - (dfC (Ls.getD i []) (Ls.getD (i + 1) []) : Int)] := by
  unfold bkL; rw [List.range_succ, List.map_append]; rfl
structure CallsBk (fs : T EF) : Prop extends CallsO fs where
  c16 : fs.get (K.ofNat 16) = some f16
  c52 : fs.get (K.ofNat 52) = some f52
  c74 : fs.get (K.ofNat 74) = some f74
  c75 : fs.get (K.ofNat 75) = some f75
  c92 : fs.get (K.ofNat 92) = some f92
section
variable {fs : T EF} {h : H} {v : V} {us : List V} {Ls : List (List (Int × Int))}
def f52_I (h : H) (n : Nat) (v x : V) (Ls : List (List (Int × Int))) (i : Nat) (fr : Fr) (h1 : H) : Prop := i + 1 ≤ Ls.length ∧ Grow h.nx.nat h h1 ∧ ∃ w, Sl iE h1 w (bkL n Ls i) ∧ Own h.nx.nat w ∧ fr.get (K.ofNat 0) = some (v) ∧ fr.get (K.ofNat 1) = some (.i .i64 (n : Int)) ∧ fr.get (K.ofNat 5) = some (w) ∧ fr.get (K.ofNat 10) = some (x) ∧ fr.get (K.ofNat 11) = some (.i .i64 ((Ls.length - 1 : Nat) : Int)) ∧ fr.get (K.ofNat 12) = some (.i .i64 (i : Int))
theorem f52_ret {n : Nat} (k : CallsBk fs) (hn : n ≤ 16) (hv : Nrp h v us Ls) (hF : Few Ls) (hne : 1 ≤ Ls.length) (hc : HC h) : Ret fs f52 [v, .i .i64 (n : Int)] h fun r h' => r = .i .i64 (smI (bkL n Ls (Ls.length - 1))) ∧ Grow h.nx.nat h h' := by
  have hL := hF.1
  apply ret_of rfl
  show W fs none f52_c _ _ _
  unfold f52_c
  have hul := hv.len
  obtain ⟨x, cx, sx, _⟩ := hv.out.cut (lo := some (.i .i64 1)) (hi := none) (l := 1) (u := us.length) rfl bnd_none (by omega) (Nat.le_refl _)
  have hxl : ((us.take us.length).drop 1).length = Ls.length - 1 := by rw [List.take_length, List.length_drop]; omega
  have hlx : ∀ h1, lenV x h1 = .ok (.i .i64 ((Ls.length - 1 : Nat) : Int)) h1 := fun h1 => by rw [sx.len, hxl]
  simp (disch := omega) only [f52_r0, f52_r1, f52_r2, w_reg, w_seq, w_block, seqK_n, x_nil, x_mv, x_as, x_slice, sliceV_eq, Option.map_none, Option.map_some, x_len, kx, rvP_ok, ev_t, ev_c, getV_some, putD_some, frame_2, of0, of1, getK_set, Nat.reduceEqDiff, ↓reduceIte, cx, hlx]
  refine W_loop (f52_I h n v x Ls) (fun i => Ls.length - i) ?_ 0 ⟨by omega, Grow.refl _ _, .sn, Sl.nil, Own.sn, by simp (disch := omega) only [getK_set, Nat.reduceEqDiff, ↓reduceIte, and_self, Int.natCast_zero]⟩
  rintro i fr h1 ⟨hi, hG, w, hw, how, g0, g1, g5, g10, g11, g12⟩
  have hc1 := hG.hc hc
  have hv1 := hv.grow hc hG
  have sx1 := sx.grow hc hG
  have hbl : (bkL n Ls i).length = i := by simp [bkL]
  unfold f52_l0
  by_cases hlt : i < Ls.length - 1
  · have d0 : decide ((i : Int) < ((Ls.length - 1 : Nat) : Int)) = true := by simp; omega
    obtain ⟨p, hp1, hp2'⟩ := sx1.at i (by omega)
    have hxi : ((us.take us.length).drop 1)[i]'(by omega) = us[i + 1]'(by omega) := by
      simp only [List.take_length, List.getElem_drop, Nat.add_comm 1 i]
    rw [hxi] at hp2'
    have hp2 : loadV h1 p one? = .ok us[i + 1] h1 := hp2'
    clear hp2'
    obtain ⟨q, hq1, hq2'⟩ := hv1.out.at i (by omega)
    have hq2 : loadV h1 q one? = .ok us[i] h1 := hq2'
    clear hq2'
    have hu1 := hv1.inn i (by omega) (by omega)
    have hu2 := hv1.inn (i + 1) (by omega) (by omega)
    obtain ⟨f1, f2⟩ := hF.2 Ls[i] (List.getElem_mem (by omega))
    obtain ⟨f3, f4⟩ := hF.2 Ls[i + 1] (List.getElem_mem (by omega))
    have hbs := bkL_succ (n := n) (Ls := Ls) (i := i)
    rw [List.getD_eq_getElem?_getD, List.getD_eq_getElem?_getD, List.getElem?_eq_getElem (show i < Ls.length by omega), List.getElem?_eq_getElem (show i + 1 < Ls.length by omega)] at hbs
    simp only [Option.getD_some] at hbs
    generalize us[i]'(by omega) = u1 at *
    generalize us[i + 1]'(by omega) = u2 at *
    generalize Ls[i]'(by omega) = l1 at *
    generalize Ls[i + 1]'(by omega) = l2 at *
    simp (disch := omega) only [f52_r3, f52_r4, f52_r5, w_skip, w_reg, w_seq, w_cond, w_block, seqK_n, ckB_b, cbB_b, true_and, x_nil, x_mv, x_as, x_ld, x_bin, x_iads, x_call, kx, rvP_ok, okv_some, ev_t, ev_c, evs_nil, evs_cons, getV_some, putD_some, bin_lss, getK_set, Nat.reduceEqDiff, ↓reduceIte, g0, g10, g11, g12, d0, hp1, hp2, hq1, hq2]
    refine (callP_0 (ef := f73) k.c73 rfl (f73_ret k.toCallsAa hu1 f2 (by omega) hc1)).mono ?_
    rintro r h2 ⟨m1, rfl, hm1, hG2⟩
    have hc2 := hG2.hc hc1
    simp (disch := omega) only [x_mv, x_call, kx, ev_t, ev_c, evs_nil, evs_cons, getV_some, putD_some, getK_set, Nat.reduceEqDiff, ↓reduceIte]
    refine (callP_0 (ef := f73) k.c73 rfl (f73_ret k.toCallsAa (hu2.grow hc1 hG2) f4 (by omega) hc2)).mono ?_
    rintro r h3 ⟨m2, rfl, hm2, hG3⟩
    have hc3 := hG3.hc hc2
    have hG13 := hG2.trans (hG3.low hG2.nx)
    have hxor : binV .xor (.i .u16 (m1 : Int)) (.i .u16 (m2 : Int)) = some (.i .u16 ((m1 ^^^ m2 : Nat) : Int)) := bin_xor hm1.1 hm2.1
    have hx16 : m1 ^^^ m2 ≤ 65535 := by
      have := Nat.xor_lt_two_pow (x := m1) (y := m2) (n := 16) (by have := hm1.1; show m1 < 65536; omega) (by have := hm2.1; show m2 < 65536; omega)
      have e : 2 ^ 16 = 65536 := by decide
      omega
    have hdf := msk_df hm1 hm2
    have hdl := dfC_le (l := l1) (l' := l2)
    simp (disch := omega) only [f52_r6, w_reg, seqK_n, x_nil, x_mv, x_as, x_bin, x_call, kx, rvP_ok, okv_some, ev_t, ev_c, evs_nil, evs_cons, getV_some, putD_some, of0, getK_set, Nat.reduceEqDiff, ↓reduceIte, g1, g5, hxor]
    refine (callP_0 (ef := f74) k.c74 rfl (f74_ret k.c92 hx16)).mono ?_
    rintro r h4 ⟨rfl, e4⟩
    rw [e4, hdf]
    clear e4 h4
    have hw3 := hw.grow hc1 hG13
    have hGb := hG.trans (hG13.low hG.nx)
    obtain ⟨w', h5, a1, s1, o1, gr1, _⟩ := Sl.push (e := iE) (x := (n : Int) - (dfC l1 l2 : Int)) (c := .i .i64 ((n : Int) - (dfC l1 l2 : Int))) rfl hw3 how hGb.nx hc3 (by omega)
    rw [← hbs] at s1
    simp (disch := omega) only [f52_r7, w_reg, seqK_n, atK_n, loopK_n, x_nil, x_mv, x_as, x_bslice, x_bin, x_app, kx, rvP_ok, okv_some, ev_t, ev_c, getV_some, putD_some, bin_add, bin_sub, oGet_s, cells1_i, fill_1, set_1, of1, getK_set, Nat.reduceEqDiff, ↓reduceIte, g12, fill_1, set_1, a1, fw64]
    exact ⟨i + 1, by omega, by omega, hGb.trans gr1, w', s1, o1, by simp (disch := omega) only [getK_set, Nat.reduceEqDiff, ↓reduceIte, g0, g1, g10, g11, and_self, Int.natCast_add, Int.natCast_one]⟩
  · have d0 : decide ((i : Int) < ((Ls.length - 1 : Nat) : Int)) = false := by simp; omega
    have ei : i = Ls.length - 1 := by omega
    rw [ei] at hw
    simp (disch := omega) only [f52_r3, f52_r8, w_reg, w_seq, w_cond, w_exit, seqK_n, seqK_e, atK_e, loopK_e, ckB_b, cbB_b, true_and, x_nil, x_mv, x_bin, x_call, kx, rvP_ok, okv_some, ev_t, ev_c, evs_nil, evs_cons, getV_some, putD_some, bin_lss, getK_set, Nat.reduceEqDiff, ↓reduceIte, Bool.false_eq_true, g5, g11, g12, d0]
    refine (callP_0 (ef := f75) k.c75 rfl (f75_ret hw.sr (by unfold bkL; simp; omega) fun y hy => ?_)).mono ?_
    · unfold bkL at hy
      obtain ⟨z, _, rfl⟩ := List.mem_map.1 hy
      have := dfC_le (l := Ls.getD z []) (l' := Ls.getD (z + 1) [])
      omega
    rintro r h2 ⟨rfl, e2⟩
    rw [e2]
    simp (disch := omega) only [f52_rs, w_ret, seqK_n, true_and, retK_r, x_nil, x_as, kx, ev_t, getV_some, putD_some, oGet_s, readRs_nil, readRs_t, retV_1, Option.some.injEq, exists_eq_left', getK_set, ↓reduceIte, true_and]
    exact hG
end
end Go.Ev
namespace Go.Ev
open Go Go.RowKit
noncomputable def f27_r0 : List EOper := [⟨(some (K.ofNat 4)), none, .as (.c (.i .i64 (.ofNat 0)))⟩]
noncomputable def f27_r1 : List EOper := [⟨(some (K.ofNat 9)), none, .mv (.t (K.ofNat 0))⟩, ⟨(some (K.ofNat 10)), none, .mv (.t (K.ofNat 1))⟩, ⟨(some (K.ofNat 11)), none, .call (.c (.fn (K.ofNat 26) [])) [(.t (K.ofNat 9)), (.t (K.ofNat 10))]⟩, ⟨(some (K.ofNat 5)), none, .as (.t (K.ofNat 11))⟩]
noncomputable def f27_r2 : List EOper := [⟨(some (K.ofNat 6)), none, .as (.c (.i .i64 (.ofNat 0)))⟩]
noncomputable def f27_r3 : List EOper := [⟨(some (K.ofNat 7)), none, .as (.c (.i .i64 (.ofNat 0)))⟩]
noncomputable def f27_r4 : List EOper := [⟨(some (K.ofNat 12)), none, .mv (.t (K.ofNat 7))⟩, ⟨(some (K.ofNat 13)), none, .mv (.t (K.ofNat 0))⟩, ⟨(some (K.ofNat 14)), none, .bin .lss (.t (K.ofNat 12)) (.t (K.ofNat 13))⟩]
noncomputable def f27_r5 : List EOper := [⟨(some (K.ofNat 8)), none, .as (.c (.i .i64 (.ofNat 1)))⟩]
noncomputable def f27_r6 : List EOper := [⟨(some (K.ofNat 17)), none, .mv (.t (K.ofNat 8))⟩, ⟨(some (K.ofNat 18)), none, .mv (.t (K.ofNat 5))⟩, ⟨(some (K.ofNat 19)), none, .mv (.t (K.ofNat 7))⟩, ⟨(some (K.ofNat 20)), none, .iads 1 (.t (K.ofNat 18)) (.t (K.ofNat 19))⟩, ⟨(some (K.ofNat 21)), none, .ld (.t (K.ofNat 20))⟩, ⟨(some (K.ofNat 22)), none, .pr .slen (.t (K.ofNat 21)) (.t (K.ofNat 21))⟩, ⟨(some (K.ofNat 23)), none, .bin .lss (.t (K.ofNat 17)) (.t (K.ofNat 22))⟩]
noncomputable def f27_r7 : List Stage := [⟨[⟨(some (K.ofNat 26)), none, .mv (.t (K.ofNat 5))⟩, ⟨(some (K.ofNat 27)), none, .mv (.t (K.ofNat 7))⟩, ⟨(some (K.ofNat 28)), none, .iads 1 (.t (K.ofNat 26)) (.t (K.ofNat 27))⟩, ⟨(some (K.ofNat 29)), none, .ld (.t (K.ofNat 28))⟩, ⟨(some (K.ofNat 30)), none, .mv (.t (K.ofNat 8))⟩, ⟨(some (K.ofNat 31)), none, .pr .sidx (.t (K.ofNat 29)) (.t (K.ofNat 30))⟩, ⟨(some (K.ofNat 32)), none, .mv (.t (K.ofNat 5))⟩, ⟨(some (K.ofNat 33)), none, .mv (.t (K.ofNat 7))⟩, ⟨(some (K.ofNat 34)), none, .iads 1 (.t (K.ofNat 32)) (.t (K.ofNat 33))⟩, ⟨(some (K.ofNat 35)), none, .ld (.t (K.ofNat 34))⟩, ⟨(some (K.ofNat 36)), none, .mv (.t (K.ofNat 8))⟩, ⟨(some (K.ofNat 37)), none, .bin .sub (.t (K.ofNat 36)) (.c (.i .i64 (.ofNat 1)))⟩, ⟨(some (K.ofNat 38)), none, .pr .sidx (.t (K.ofNat 35)) (.t (K.ofNat 37))⟩, ⟨(some (K.ofNat 39)), none, .bin .eql (.t (K.ofNat 31)) (.t (K.ofNat 38))⟩], [], none, []⟩]
noncomputable def f27_r8 : List EOper := [⟨(some (K.ofNat 40)), none, .mv (.t (K.ofNat 6))⟩, ⟨(some (K.ofNat 41)), none, .bin .add (.t (K.ofNat 40)) (.c (.i .i64 (.ofNat 1)))⟩, ⟨(some (K.ofNat 6)), none, .as (.t (K.ofNat 41))⟩]
noncomputable def f27_r9 : List EOper := [⟨(some (K.ofNat 24)), none, .mv (.t (K.ofNat 8))⟩, ⟨(some (K.ofNat 25)), none, .bin .add (.t (K.ofNat 24)) (.c (.i .i64 (.ofNat 1)))⟩, ⟨(some (K.ofNat 8)), none, .as (.t (K.ofNat 25))⟩]
noncomputable def f27_l0 : EC := (.seq (.seq (.reg f27_r6) (.cond (.t (K.ofNat 23)) .skip (.exit 2))) (.seq (.block 3 (.seq (.draw f27_r7) (.cond (.t (K.ofNat 39)) (.reg f27_r8) .skip))) (.reg f27_r9)))
noncomputable def f27_r10 : List EOper := [⟨(some (K.ofNat 15)), none, .mv (.t (K.ofNat 7))⟩, ⟨(some (K.ofNat 16)), none, .bin .add (.t (K.ofNat 15)) (.c (.i .i64 (.ofNat 1)))⟩, ⟨(some (K.ofNat 7)), none, .as (.t (K.ofNat 16))⟩]
noncomputable def f27_l1 : EC := (.seq (.seq (.reg f27_r4) (.cond (.t (K.ofNat 14)) .skip (.exit 0))) (.seq (.block 1 (.seq (.reg f27_r5) (.block 2 (.loop f27_l0)))) (.reg f27_r10)))
noncomputable def f27_r11 : List EOper := [⟨(some (K.ofNat 42)), none, .mv (.t (K.ofNat 6))⟩, ⟨(some (K.ofNat 4)), none, .as (.t (K.ofNat 42))⟩]
noncomputable def f27_c : EC := (.seq (.reg f27_r0) (.seq (.reg f27_r1) (.seq (.reg f27_r2) (.seq (.seq (.reg f27_r3) (.block 0 (.loop f27_l1))) (.seq (.reg f27_r11) .ret)))))
noncomputable def f27 : EF := ⟨43, [.tmp (K.ofNat 4)], f27_c, none⟩
theorem f27_rs : f27.rs = [.tmp (K.ofNat 4)] := of_eq_true (eq_self _)
def sm (f : Nat → Int) : Nat → Int
  | 0 => 0
  | k + 1 => sm f k + f k
theorem sm_filter {p : Nat → Bool} : ∀ k, (((List.range k).filter p).length : Int) = sm (fun t => if p t = true then 1 else 0) k
  | 0 => rfl
  | k + 1 => by
    have ih := sm_filter (p := p) k
    rw [List.range_succ, List.filter_append, List.length_append, Int.natCast_add, ih]
    show _ = sm _ k + (if p k = true then 1 else 0)
    congr 1
    cases h : p k <;> simp [h]
theorem sm_add {f g : Nat → Int} : ∀ k, sm (fun t => f t + g t) k = sm f k + sm g k
  | 0 => rfl
  | k + 1 => by show sm _ k + (f k + g k) = sm f k + f k + (sm g k + g k); rw [sm_add k]; omega
theorem sm_cong {f g : Nat → Int} : ∀ k, (∀ t, t < k → f t = g t) → sm f k = sm g k
  | 0, _ => rfl
  | k + 1, h => by show sm f k + f k = sm g k + g k; rw [sm_cong k fun t ht => h t (by omega), h k (by omega)]
theorem sm_one : ∀ k : Nat, sm (fun _ => 1) k = (k : Int)
  | 0 => rfl
  | k + 1 => by show sm _ k + 1 = _; rw [sm_one k]; omega
theorem sm_zero : ∀ k : Nat, sm (fun _ => 0) k = 0
  | 0 => rfl
  | k + 1 => by show sm _ k + 0 = _; rw [sm_zero k]; rfl
theorem sm_ext {f : Nat → Int} {n : Nat} : ∀ k, (∀ t, n ≤ t → f t = 0) → sm f (n + k) = sm f n
  | 0, _ => rfl
  | k + 1, h => by show sm f (n + k) + f (n + k) = _; rw [sm_ext k h, h _ (by omega)]; omega
theorem sm_swap {e : Nat → Nat → Int} {n : Nat} : ∀ N, sm (fun t => sm (fun j => e j t) N) n = sm (fun j => sm (fun t => e j t) n) N
  | 0 => sm_zero n
  | N + 1 => by
    show sm (fun t => sm (fun j => e j t) N + e N t) n = sm (fun j => sm (fun t => e j t) n) N + sm (fun t => e N t) n
    rw [sm_add, sm_swap N]
/-- The team has a break there. -/
def eqE (Ls : List (List (Int × Int))) (j t : Nat) : Int := if hoB (Ls.getD j []) t = hoB (Ls.getD (j + 1) []) t then 1 else 0
theorem ho_no {n t : Nat} {l : List (Int × Int)} (h : ∀ e ∈ l, e.1 < (n : Int)) (ht : n ≤ t) : hoB l t = false := by
  unfold hoB
  refine decide_eq_false fun hm => ?_
  obtain ⟨e, he, h1⟩ := List.mem_map.1 hm
  have := h e he
  omega
theorem eq_df {n : Nat} {l l' : List (Int × Int)} (hn : n ≤ 16) (h : ∀ e ∈ l, e.1 < (n : Int)) (h' : ∀ e ∈ l', e.1 < (n : Int)) : sm (fun t => if hoB l t = hoB l' t then 1 else 0) n = (n : Int) - (dfC l l' : Int) := by
  have h1 : (dfC l l' : Int) = sm (fun t => if (hoB l t != hoB l' t) = true then 1 else 0) 16 := sm_filter 16
  obtain ⟨k, hk⟩ : ∃ k, 16 = n + k := ⟨16 - n, by omega⟩
  rw [hk, sm_ext k (fun t ht => by rw [ho_no h ht, ho_no h' ht]; rfl)] at h1
  have h2 : sm (fun t => (if hoB l t = hoB l' t then (1 : Int) else 0) + (if (hoB l t != hoB l' t) = true then 1 else 0)) n = sm (fun _ => 1) n := sm_cong n fun t _ => by
    cases hoB l t <;> cases hoB l' t <;> rfl
  rw [sm_add, sm_one] at h2
  omega
theorem bk_sm {n : Nat} {Ls : List (List (Int × Int))} : ∀ N, smI (bkL n Ls N) = sm (fun j => (n : Int) - (dfC (Ls.getD j []) (Ls.getD (j + 1) []) : Int)) N
  | 0 => rfl
  | N + 1 => by rw [bkL_succ, smI_snoc, bk_sm N]; rfl
/-- Breaks, counted team by team or round by round. -/
theorem bk_eq {n : Nat} {Ls : List (List (Int × Int))} (hn : n ≤ 16) (h : ∀ l ∈ Ls, ∀ e ∈ l, e.1 < (n : Int)) {N : Nat} : sm (fun t => sm (fun j => eqE Ls j t) N) n = smI (bkL n Ls N) := by
  have hg : ∀ j, ∀ e ∈ Ls.getD j [], e.1 < (n : Int) := fun j e he => by
    rw [List.getD_eq_getElem?_getD] at he
    cases hq : Ls[j]? with
    | none => rw [hq] at he; simp at he
    | some l => rw [hq] at he; exact h l (List.mem_of_getElem? hq) e he
  rw [sm_swap, bk_sm]
  exact sm_cong N fun j _ => eq_df hn (hg j) (hg (j + 1))
theorem hoS_at {t : Nat} : ∀ {Ls : List (List (Int × Int))} {i : Nat}, i < Ls.length → (hoS Ls t)[i]? = some (if hoB (Ls.getD i []) t = true then 72 else 65)
  | [], i, h => by simp at h
  | l :: Ls, 0, _ => by
    show (ltr (hoB l t) ++ hoS Ls t)[0]? = some (if hoB l t = true then 72 else 65)
    cases hoB l t <;> rfl
  | l :: Ls, i + 1, h => by
    show (ltr (hoB l t) ++ hoS Ls t)[i + 1]? = some (if hoB (Ls.getD i []) t = true then 72 else 65)
    rw [List.getElem?_append_right (by rw [ltr_len]; omega), ltr_len, Nat.add_sub_cancel]
    exact hoS_at (by simpa using h)
theorem sidx_s {L : List UInt8} {k : IntKind} {i : Nat} {b : UInt8} (h : L[i]? = some b) : prV .sidx (sE L) (.i k (i : Int)) = some (.i .u8 (b.toNat : Int)) := by
  show (oGet (nonneg (i : Int)) none fun n => oGet (nth L n) none fun b => some (V.i .u8 (.ofNat b.toNat))) = _
  show (oGet (nth L i) none fun b => some (V.i .u8 (.ofNat b.toNat))) = _
  rw [nth_eq, h]; rfl
theorem slen_s {L : List UInt8} {y : V} : prV .slen (sE L) y = some (.i .i64 (L.length : Int)) := by
  show some (V.i .i64 (.ofNat (lenL L))) = _
  rw [lenL_eq]; rfl
def chI (b : Bool) : Int := if b = true then 72 else 65
theorem chI_of {b : Bool} : (((if b = true then 72 else 65 : UInt8).toNat : Nat) : Int) = chI b := by cases b <;> rfl
theorem chI_eq {a b : Bool} : decide (chI a = chI b) = decide (a = b) := by cases a <;> cases b <;> rfl
section
variable {fs : T EF} {h : H} {v : V} {us : List V} {Ls : List (List (Int × Int))}
def f27_I (h : H) (n : Nat) (w : V) (Ls : List (List (Int × Int))) (t : Nat) (fr : Fr) (h1 : H) : Prop := t ≤ n ∧ h1 = h ∧ fr.get (K.ofNat 0) = some (.i .i64 (n : Int)) ∧ fr.get (K.ofNat 5) = some (w) ∧ fr.get (K.ofNat 6) = some (.i .i64 (sm (fun t => sm (fun j => eqE Ls j t) (Ls.length - 1)) t)) ∧ fr.get (K.ofNat 7) = some (.i .i64 (t : Int))
def f27_J (h : H) (n : Nat) (w : V) (Ls : List (List (Int × Int))) (t : Nat) (i : Nat) (fr : Fr) (h1 : H) : Prop := i ≤ Ls.length - 1 ∧ h1 = h ∧ fr.get (K.ofNat 0) = some (.i .i64 (n : Int)) ∧ fr.get (K.ofNat 5) = some (w) ∧ fr.get (K.ofNat 6) = some (.i .i64 (sm (fun t => sm (fun j => eqE Ls j t) (Ls.length - 1)) t + sm (fun j => eqE Ls j t) i)) ∧ fr.get (K.ofNat 7) = some (.i .i64 (t : Int)) ∧ fr.get (K.ofNat 8) = some (.i .i64 ((i + 1 : Nat) : Int))
theorem sm_bd {f : Nat → Int} {b : Nat} (hf : ∀ t, 0 ≤ f t ∧ f t ≤ (b : Int)) : ∀ k, 0 ≤ sm f k ∧ sm f k ≤ ((k * b : Nat) : Int)
  | 0 => by show 0 ≤ (0 : Int) ∧ (0 : Int) ≤ _; simp
  | k + 1 => by
    have h1 := sm_bd hf k
    have h2 := hf k
    show 0 ≤ sm f k + f k ∧ sm f k + f k ≤ _
    rw [Nat.add_mul, Nat.one_mul]
    omega
theorem f27_ret {n : Nat} (h26 : fs.get (K.ofNat 26) = some f26) (h64 : fs.get (K.ofNat 64) = some f64) (hn : n ≤ 16) (hv : Nrp h v us Ls) (hvd : Vld n Ls) (hl : 1 ≤ Ls.length ∧ Ls.length ≤ 100) (hc : HC h) : Ret fs f27 [.i .i64 (n : Int), v] h fun r h' => r = .i .i64 (smI (bkL n Ls (Ls.length - 1))) ∧ Grow h.nx.nat h h' := by
  have hin : ∀ l ∈ Ls, ∀ e ∈ l, e.1 < (n : Int) := fun l hl e he => (rnd_e (hvd.rnd l hl) e he).1.2
  have hbk := bk_eq (N := Ls.length - 1) hn hin
  have he1 : ∀ j t, 0 ≤ eqE Ls j t ∧ eqE Ls j t ≤ ((1 : Nat) : Int) := fun j t => by unfold eqE; split <;> simp
  have he2 : ∀ t k, k ≤ 100 → 0 ≤ sm (fun j => eqE Ls j t) k ∧ sm (fun j => eqE Ls j t) k ≤ ((100 : Nat) : Int) := fun t k hk => by
    have := sm_bd (f := fun j => eqE Ls j t) (b := 1) (fun j => he1 j t) k
    omega
  have he3 : ∀ t, t ≤ 16 → 0 ≤ sm (fun t => sm (fun j => eqE Ls j t) (Ls.length - 1)) t ∧ sm (fun t => sm (fun j => eqE Ls j t) (Ls.length - 1)) t ≤ 1600 := fun t ht => by
    have := sm_bd (f := fun t => sm (fun j => eqE Ls j t) (Ls.length - 1)) (b := 100) (fun t => he2 t _ (by omega)) t
    have := Nat.mul_le_mul_right 100 ht
    omega
  apply ret_of rfl
  show W fs none f27_c _ _ _
  unfold f27_c
  simp (disch := omega) only [f27_r0, f27_r1, w_reg, w_seq, seqK_n, x_nil, x_mv, x_as, x_call, ev_t, ev_c, evs_nil, evs_cons, getV_some, putD_some, frame_2, of0, getK_set, Nat.reduceEqDiff, ↓reduceIte]
  refine (callP_0 (ef := f26) h26 rfl (f26_ret (n := n) h64 hn hv hvd hl.2 hc)).mono ?_
  rintro w h2 ⟨hw, hG⟩
  simp (disch := omega) only [f27_r2, f27_r3, w_reg, w_seq, w_block, seqK_n, x_nil, x_as, kx, ev_t, ev_c, getV_some, putD_some, of0, getK_set, ↓reduceIte]
  refine W_loop (f27_I h2 n w Ls) (fun t => n - t) ?_ 0 ⟨by omega, rfl, by simp (disch := omega) only [getK_set, Nat.reduceEqDiff, ↓reduceIte, and_self, Int.natCast_zero, sm]⟩
  rintro t fr h3 ⟨ht, rfl, g0, g5, g6, g7⟩
  unfold f27_l1
  by_cases hlt : t < n
  · have d0 : decide ((t : Int) < (n : Int)) = true := by simpa using hlt
    simp (disch := omega) only [f27_r4, f27_r5, w_skip, w_reg, w_seq, w_cond, w_block, seqK_n, ckB_b, cbB_b, true_and, x_nil, x_mv, x_as, x_bin, kx, rvP_ok, okv_some, ev_t, ev_c, getV_some, putD_some, bin_lss, of1, getK_set, Nat.reduceEqDiff, ↓reduceIte, g0, g7, d0]
    have z0 : sm (fun t => sm (fun j => eqE Ls j t) (Ls.length - 1)) t + sm (fun j => eqE Ls j t) 0 = sm (fun t => sm (fun j => eqE Ls j t) (Ls.length - 1)) t := by show _ + 0 = _; omega
    refine W_loop (f27_J h3 n w Ls t) (fun i => Ls.length - 1 - i) ?_ 0 ⟨by omega, rfl, by rw [z0]; simp (disch := omega) only [getK_set, Nat.reduceEqDiff, ↓reduceIte, g0, g5, g6, g7, and_self, Nat.zero_add, Int.natCast_one]⟩
    clear g0 g5 g6 g7 fr
    obtain ⟨p, hp1, hp2'⟩ := hw.sr.at t (by simp; exact hlt)
    have hp2 : loadV h3 p one? = .ok (sE (hoS Ls t)) h3 := by simpa using hp2'
    clear hp2'
    have hls := hoS_len (t := t) (Ls := Ls)
    have hbq := hw.sr.beq
    rintro i fr h4 ⟨hi, rfl, g0, g5, g6, g7, g8⟩
    have ei1 : ((i + 1 : Nat) : Int) - 1 = (i : Int) := by omega
    have ei2 : ((i + 1 : Nat) : Int) + 1 = ((i + 1 + 1 : Nat) : Int) := by omega
    have b2 := he2 t i (by omega)
    have b3 := he3 t (by omega)
    have hst : sm (fun j => eqE Ls j t) (i + 1) = sm (fun j => eqE Ls j t) i + eqE Ls i t := rfl
    unfold f27_l0
    by_cases hlt2 : i < Ls.length - 1
    · have d1 : decide (((i + 1 : Nat) : Int) < (Ls.length : Int)) = true := by simp; omega
      have a1 := sidx_s (k := .i64) (hoS_at (t := t) (Ls := Ls) (i := i + 1) (by omega))
      have a2 := sidx_s (k := .i64) (hoS_at (t := t) (Ls := Ls) (i := i) (by omega))
      rw [chI_of] at a1 a2
      have hsl := slen_s (L := hoS Ls t) (y := sE (hoS Ls t))
      rw [hls] at hsl
      have hdec := chI_eq (a := hoB (Ls.getD (i + 1) []) t) (b := hoB (Ls.getD i []) t)
      by_cases he : hoB (Ls.getD i []) t = hoB (Ls.getD (i + 1) []) t
      · have d2 : decide (hoB (Ls.getD (i + 1) []) t = hoB (Ls.getD i []) t) = true := decide_eq_true he.symm
        rw [d2] at hdec
        have hE : eqE Ls i t = 1 := if_pos he
        rw [hE] at hst
        have hs : sm (fun t => sm (fun j => eqE Ls j t) (Ls.length - 1)) t + sm (fun j => eqE Ls j t) i + 1 = sm (fun t => sm (fun j => eqE Ls j t) (Ls.length - 1)) t + sm (fun j => eqE Ls j t) (i + 1) := by omega
        simp (disch := omega) only [f27_r6, f27_r7, f27_r8, f27_r9, w_skip, w_reg, w_draw, w_seq, w_cond, w_block, seqK_n, atK_n, loopK_n, ckB_b, cbB_b, true_and, x_nil, x_mv, x_as, x_ld, x_bin, x_iads, kx, kg, xg_nil, xg_mv, xg_ld, xg_bin, xg_iads, xd_cons, fresh_nil, stK_n, stay_nil, rvP_ok, okv_some, ev_t, ev_c, getV_some, putD_some, bin_add, bin_sub, bin_eql, bin_lss, of1, getK_set, Nat.reduceEqDiff, ↓reduceIte, x_pr, xg_pr, g5, g6, g7, g8, hp1, hp2, hsl, d1, ei1, fw64, a1, a2, hdec, hs, ei2]
        exact ⟨i + 1, by omega, by omega, rfl, by simp (disch := omega) only [getK_set, Nat.reduceEqDiff, ↓reduceIte, g0, g5, g7, and_self]⟩
      · have d2 : decide (hoB (Ls.getD (i + 1) []) t = hoB (Ls.getD i []) t) = false := decide_eq_false fun e => he e.symm
        rw [d2] at hdec
        have hE : eqE Ls i t = 0 := if_neg he
        rw [hE] at hst
        have hs : sm (fun t => sm (fun j => eqE Ls j t) (Ls.length - 1)) t + sm (fun j => eqE Ls j t) i = sm (fun t => sm (fun j => eqE Ls j t) (Ls.length - 1)) t + sm (fun j => eqE Ls j t) (i + 1) := by omega
        simp (disch := omega) only [f27_r6, f27_r7, f27_r9, w_skip, w_reg, w_draw, w_seq, w_cond, w_block, seqK_n, atK_n, loopK_n, ckB_b, cbB_b, true_and, x_nil, x_mv, x_as, x_ld, x_bin, x_iads, kx, kg, xg_nil, xg_mv, xg_ld, xg_bin, xg_iads, xd_cons, fresh_nil, stK_n, stay_nil, rvP_ok, okv_some, ev_t, ev_c, getV_some, putD_some, bin_add, bin_sub, bin_eql, bin_lss, of1, getK_set, Nat.reduceEqDiff, ↓reduceIte, Bool.false_eq_true, x_pr, xg_pr, g5, g7, g8, hp1, hp2, hsl, d1, ei1, fw64, a1, a2, hdec, ei2]
        exact ⟨i + 1, by omega, by omega, rfl, by rw [← hs]; simp (disch := omega) only [getK_set, Nat.reduceEqDiff, ↓reduceIte, g0, g5, g6, g7, and_self]⟩
    · have d1 : decide (((i + 1 : Nat) : Int) < (Ls.length : Int)) = false := by simp; omega
      have hsl := slen_s (L := hoS Ls t) (y := sE (hoS Ls t))
      rw [hls] at hsl
      have ei : i = Ls.length - 1 := by omega
      have hs : sm (fun t => sm (fun j => eqE Ls j t) (Ls.length - 1)) t + sm (fun j => eqE Ls j t) i = sm (fun t => sm (fun j => eqE Ls j t) (Ls.length - 1)) (t + 1) := by rw [ei]; rfl
      rw [hs] at g6
      simp (disch := omega) only [f27_r6, f27_r10, w_reg, w_seq, w_cond, w_exit, seqK_n, seqK_e, atK_n, atK_e, loopK_n, loopK_e, ckB_b, cbB_b, true_and, x_nil, x_mv, x_as, x_ld, x_bin, x_iads, kx, rvP_ok, okv_some, ev_t, ev_c, getV_some, putD_some, bin_add, bin_lss, of1, getK_set, Nat.reduceEqDiff, ↓reduceIte, Bool.false_eq_true, x_pr, g5, g7, g8, hp1, hp2, hsl, d1, fw64]
      exact ⟨t + 1, by omega, by omega, rfl, by simp (disch := omega) only [getK_set, Nat.reduceEqDiff, ↓reduceIte, g0, g5, g6, and_self, Int.natCast_add, Int.natCast_one]⟩
  · have d0 : decide ((t : Int) < (n : Int)) = false := by simpa using hlt
    have et : t = n := by omega
    rw [et, hbk] at g6
    simp (disch := omega) only [f27_r4, f27_r11, f27_rs, w_reg, w_seq, w_cond, w_exit, w_ret, seqK_n, seqK_e, atK_e, loopK_e, ckB_b, cbB_b, true_and, retK_r, x_nil, x_mv, x_as, x_bin, kx, rvP_ok, okv_some, ev_t, getV_some, putD_some, bin_lss, oGet_s, readRs_nil, readRs_t, retV_1, Option.some.injEq, exists_eq_left', getK_set, Nat.reduceEqDiff, ↓reduceIte, Bool.false_eq_true, g0, g6, g7, d0, true_and]
    exact hG
end
end Go.Ev
namespace Go.Ev
open Go Go.RowKit
section
variable {fs : T EF} {h : H} {v w : V} {us ws : List V} {Ls : List (List (Int × Int))} {L : List Int}
end
end Go.Ev
namespace Go.Ev
open Go Go.RowKit
section
variable {h : H} {w : V} {xs : List V} {Q : List (List (Int × Int))} {b : Nat}
theorem mks_sn {k : IntKind} {n : Nat} (hn : n ≤ 1000000) : mksV 1 [.sn] h (.i k (n : Int)) = .ok (.sl h.nx 0 n 1) (h.new (.cells (n * 1) (rep [.sn] n))) := by
  show (bif Nat.ble n 1000000 then RV.ok (.sl h.nx 0 n 1) (h.new (.cells (n * 1) (rep [.sn] n))) else .no) = _
  rw [Nat.ble_eq_true_of_le hn]; rfl
theorem mkssn_sl {n : Nat} : Sl vE (h.new (.cells (n * 1) (rep [.sn] n))) (.sl h.nx 0 n 1) (List.replicate n .sn) :=
  .inr ⟨h.nx, 0, n * 1, rep [.sn] n, by rw [List.length_replicate], get_new_same, by rw [rep_cell, List.length_replicate, Nat.mul_one], by rw [List.length_replicate]; omega, fun i hi => by
    have hi : i < n := by simpa using hi
    rw [rep_cell, Nat.zero_add, List.getElem?_replicate, if_pos hi, List.getElem_replicate]; rfl⟩
theorem Sld.empty {n : Nat} : Sld (h.new (.cells (n * 1) (rep [.sn] n))) (.sl h.nx 0 n 1) (List.replicate n .sn) (List.replicate n []) := by
  have sk : ∀ i (h1 : i < (List.replicate n V.sn).length) (h2 : i < (List.replicate n ([] : List (Int × Int))).length), Sk 2 qE (h.new (.cells (n * 1) (rep [.sn] n))) (List.replicate n V.sn)[i] (List.replicate n ([] : List (Int × Int)))[i] := fun i h1 h2 => by
    rw [List.getElem_replicate, List.getElem_replicate]; exact Sk.nil
  exact ⟨⟨by simp, mkssn_sl, fun i h1 h2 => (sk i h1 h2).srp, fun u hu id off n' sz e => by rw [(List.mem_replicate.1 hu).2] at e; cases e⟩, sk, fun i j hi hj _ id off n' sz e => by rw [List.getElem_replicate] at e; cases e⟩
/-- One game more in a row. -/
theorem Sld.row (s : Sld h w xs Q) (how : Own b w) (hox : ∀ x ∈ xs, Own b x) (hb : b ≤ h.nx.nat) (hc : HC h) {i : Nat} (hi : i < xs.length) (hi2 : i < Q.length) {x : Int × Int} (hn : Q[i].length < 16777216) :
    ∃ u' h' p id m cs', appV 2 (h.new (.cells (1 * 2) [.i .i64 x.1, .i .i64 x.2])) xs[i] (.sl h.nx 0 1 2) = .ok u' h' ∧ (∀ k h1, iadsV 1 w (.i k (i : Int)) h1 = .ok p h1) ∧ loadV h p one? = .ok xs[i] h ∧ storeV h' 1 p u' = .ok undefV (h'.put id (.cells m cs')) ∧ Sld (h'.put id (.cells m cs')) w (xs.set i u') (Q.set i (Q[i] ++ [x])) ∧ (∀ y ∈ xs.set i u', Own b y) ∧ Grow b h (h'.put id (.cells m cs')) ∧ (∀ k : K, k.nat < h.nx.nat → (∀ off n sz, w ≠ .sl k off n sz) → (∀ y ∈ xs, NotIn k y) → (h'.put id (.cells m cs')).get k = h.get k) := by
  have hbw : ∀ id off n sz, w = .sl id off n sz → id.nat < h.nx.nat := s.out.lt hc
  have hbx : ∀ j (hj : j < xs.length), ∀ id off n sz, xs[j] = .sl id off n sz → id.nat < h.nx.nat := fun j hj => (s.sk j hj (by rw [← s.len]; exact hj)).lt hc
  obtain ⟨u', h', a1, s1, o1, gr1, k1⟩ := Sk.push qE_len (by omega) (x := x) (s.sk i hi hi2) (hox _ (List.getElem_mem hi)) hb hc hn
  have hc' := gr1.hc hc
  have nw : ∀ id off n sz, w = .sl id off n sz → NotIn id xs[i] := fun id off n sz e off' n' sz' e' => s.sep _ (List.getElem_mem hi) _ _ _ _ e' _ _ _ e
  have hout : Sl vE h' w xs := s.out.same fun id off n sz e => (k1 id (hbw _ _ _ _ e) (nw _ _ _ _ e)).1
  obtain ⟨p0, q1, q2⟩ := s.out.at i hi
  obtain ⟨p, id, m, cs', b1, b2, b3, ⟨off, n, sz, b4⟩, b5⟩ := hout.st hi (x := u') (c := u') rfl s1.one hc'
  obtain rfl : p0 = p := by have := (q1 .i64 h').symm.trans (b1 .i64 h'); injection this
  have hidb := how _ _ _ _ b4
  have nwu : NotIn id u' := (k1 id (hbw _ _ _ _ b4) (nw _ _ _ _ b4)).2
  have sk : ∀ j (h1 : j < (xs.set i u').length) (h2 : j < (Q.set i (Q[i] ++ [x])).length), Sk 2 qE (h'.put id (.cells m cs')) (xs.set i u')[j] (Q.set i (Q[i] ++ [x]))[j] := fun j h1 h2 => by
    have hj : j < xs.length := by simpa using h1
    have hj2 : j < Q.length := by simpa using h2
    rw [List.getElem_set, List.getElem_set]
    by_cases e : i = j
    · rw [if_pos e, if_pos e]; exact s1.put nwu _
    · rw [if_neg e, if_neg e]
      refine ((s.sk j hj hj2).same fun id' off' n' sz' e' => (k1 id' (hbx j hj _ _ _ _ e') (s.dis j i hj hi (Ne.symm e) _ _ _ _ e')).1).put (fun off' n' sz' e' => s.sep _ (List.getElem_mem hj) _ _ _ _ e' _ _ _ b4) _
  refine ⟨u', h', p0, id, m, cs', a1, b1, q2, b2, ⟨⟨by simp [s.len], b3, fun j h1 h2 => (sk j h1 h2).srp, fun y hy id' off' n' sz' e' => ?_⟩, sk, fun j j' hj hj' hjj id' off' n' sz' e' => ?_⟩, fun y hy => ?_, gr1.trans (Grow.put hidb b5 _), fun k2 hk hw hx => ?_⟩
  · rcases List.mem_or_eq_of_mem_set hy with hy | hy
    · exact s.sep y hy _ _ _ _ e'
    · rw [hy] at e'
      intro off2 n2 sz2 e2
      exact (k1 id' (hbw _ _ _ _ e2) (nw _ _ _ _ e2)).2 _ _ _ e'
  · have hj1 : j < xs.length := by simpa using hj
    have hj2 : j' < xs.length := by simpa using hj'
    rw [List.getElem_set] at e' ⊢
    by_cases e : i = j
    · rw [if_pos e] at e'
      have e3 : ¬ i = j' := fun e3 => hjj (e.symm.trans e3)
      rw [if_neg e3]
      intro off2 n2 sz2 e2
      exact (k1 id' (hbx j' hj2 _ _ _ _ e2) (s.dis j' i hj2 hi (fun q => e3 q.symm) _ _ _ _ e2)).2 _ _ _ e'
    · rw [if_neg e] at e'
      by_cases e3 : i = j'
      · rw [if_pos e3]
        exact (k1 id' (hbx j hj1 _ _ _ _ e') (s.dis j i hj1 hi (fun q => e q.symm) _ _ _ _ e')).2
      · rw [if_neg e3]
        exact s.dis j j' hj1 hj2 hjj _ _ _ _ e'
  · rcases List.mem_or_eq_of_mem_set hy with hy | hy
    · exact hox y hy
    · rw [hy]; exact o1
  · rw [get_put_other (fun e => hw off n sz (by rw [e]; exact b4))]
    exact (k1 k2 hk (hx _ (List.getElem_mem hi))).1
end
end Go.Ev
namespace Go.Ev
open Go Go.RowKit
noncomputable def f60_r0 : List EOper := [⟨(some (K.ofNat 2)), none, .as (.c .sn)⟩]
noncomputable def f60_r1 : List EOper := [⟨(some (K.ofNat 8)), none, .mv (.t (K.ofNat 0))⟩, ⟨(some (K.ofNat 9)), none, .len (.t (K.ofNat 8))⟩, ⟨(some (K.ofNat 10)), none, .mkslice 1 [.sn] (.t (K.ofNat 9))⟩, ⟨(some (K.ofNat 3)), none, .as (.t (K.ofNat 10))⟩]
noncomputable def f60_r2 : List EOper := [⟨(some (K.ofNat 11)), none, .mv (.t (K.ofNat 0))⟩, ⟨(some (K.ofNat 12)), none, .len (.t (K.ofNat 11))⟩, ⟨(some (K.ofNat 13)), none, .mv (.c (.i .i64 (.ofNat 0)))⟩]
noncomputable def f60_r3 : List EOper := [⟨(some (K.ofNat 14)), none, .bin .lss (.t (K.ofNat 13)) (.t (K.ofNat 12))⟩]
noncomputable def f60_r4 : List EOper := [⟨(some (K.ofNat 15)), none, .mv (.t (K.ofNat 13))⟩, ⟨(some (K.ofNat 16)), none, .iads 1 (.t (K.ofNat 11)) (.t (K.ofNat 13))⟩, ⟨(some (K.ofNat 17)), none, .ld (.t (K.ofNat 16))⟩, ⟨(some (K.ofNat 4)), none, .as (.t (K.ofNat 15))⟩, ⟨(some (K.ofNat 5)), none, .as (.t (K.ofNat 17))⟩]
noncomputable def f60_r5 : List EOper := [⟨(some (K.ofNat 18)), none, .mv (.t (K.ofNat 5))⟩, ⟨(some (K.ofNat 19)), none, .len (.t (K.ofNat 18))⟩, ⟨(some (K.ofNat 20)), none, .mv (.c (.i .i64 (.ofNat 0)))⟩]
noncomputable def f60_r6 : List EOper := [⟨(some (K.ofNat 21)), none, .bin .lss (.t (K.ofNat 20)) (.t (K.ofNat 19))⟩]
noncomputable def f60_r7 : List EOper := [⟨(some (K.ofNat 22)), none, .iads 2 (.t (K.ofNat 18)) (.t (K.ofNat 20))⟩, ⟨(some (K.ofNat 23)), none, .ldn 2 (.t (K.ofNat 22))⟩, ⟨(some (K.ofNat 7)), none, .alloc 2 [(.i .i64 (.ofNat 0)), (.i .i64 (.ofNat 0))]⟩, ⟨none, none, .st 2 (.t (K.ofNat 7)) (.t (K.ofNat 23))⟩]
noncomputable def f60_r8 : List Stage := [⟨[⟨(some (K.ofNat 24)), none, .mv (.t (K.ofNat 3))⟩, ⟨(some (K.ofNat 25)), none, .mv (.t (K.ofNat 4))⟩, ⟨(some (K.ofNat 26)), none, .mv (.t (K.ofNat 3))⟩, ⟨(some (K.ofNat 27)), none, .mv (.t (K.ofNat 4))⟩, ⟨(some (K.ofNat 28)), none, .iads 1 (.t (K.ofNat 26)) (.t (K.ofNat 27))⟩, ⟨(some (K.ofNat 29)), none, .ld (.t (K.ofNat 28))⟩, ⟨(some (K.ofNat 30)), none, .fadr 0 (.t (K.ofNat 7))⟩, ⟨(some (K.ofNat 31)), none, .ld (.t (K.ofNat 30))⟩, ⟨(some (K.ofNat 32)), none, .fadr 1 (.t (K.ofNat 7))⟩, ⟨(some (K.ofNat 33)), none, .ld (.t (K.ofNat 32))⟩, ⟨(some (K.ofNat 34)), none, .build [(.i .i64 (.ofNat 0)), (.i .i64 (.ofNat 0))] [(0, 1, (.t (K.ofNat 31))), (1, 1, (.t (K.ofNat 33)))]⟩, ⟨(some (K.ofNat 35)), none, .bslice 1 2 [(.i .i64 (.ofNat 0)), (.i .i64 (.ofNat 0))] [(0, 2, (.t (K.ofNat 34)))]⟩], [], (some ⟨(some (K.ofNat 36)), none, .app 2 (.t (K.ofNat 29)) (.t (K.ofNat 35))⟩), [(K.ofNat 35)]⟩, ⟨[⟨(some (K.ofNat 37)), none, .iads 1 (.t (K.ofNat 24)) (.t (K.ofNat 25))⟩], [⟨(some (K.ofNat 24)), none, .mv (.t (K.ofNat 3))⟩, ⟨(some (K.ofNat 25)), none, .mv (.t (K.ofNat 4))⟩], (some ⟨none, none, .st 1 (.t (K.ofNat 37)) (.t (K.ofNat 36))⟩), []⟩, ⟨[], [], none, []⟩]
noncomputable def f60_r9 : List EOper := [⟨(some (K.ofNat 38)), none, .bin .add (.t (K.ofNat 20)) (.c (.i .i64 (.ofNat 1)))⟩, ⟨(some (K.ofNat 20)), none, .mv (.t (K.ofNat 38))⟩]
noncomputable def f60_l0 : EC := (.seq (.reg f60_r6) (.seq (.cond (.t (K.ofNat 21)) .skip (.exit 2)) (.seq (.block 3 (.seq (.reg f60_r7) (.draw f60_r8))) (.reg f60_r9))))
noncomputable def f60_r10 : List EOper := [⟨(some (K.ofNat 39)), none, .bin .add (.t (K.ofNat 13)) (.c (.i .i64 (.ofNat 1)))⟩, ⟨(some (K.ofNat 13)), none, .mv (.t (K.ofNat 39))⟩]
noncomputable def f60_l1 : EC := (.seq (.reg f60_r3) (.seq (.cond (.t (K.ofNat 14)) .skip (.exit 0)) (.seq (.block 1 (.seq (.reg f60_r4) (.seq (.reg f60_r5) (.block 2 (.loop f60_l0))))) (.reg f60_r10))))
noncomputable def f60_r11 : List EOper := [⟨(some (K.ofNat 40)), none, .mv (.t (K.ofNat 3))⟩, ⟨(some (K.ofNat 2)), none, .as (.t (K.ofNat 40))⟩]
noncomputable def f60_c : EC := (.seq (.reg f60_r0) (.seq (.reg f60_r1) (.seq (.seq (.reg f60_r2) (.block 0 (.loop f60_l1))) (.seq (.reg f60_r11) .ret))))
noncomputable def f60 : EF := ⟨41, [.tmp (K.ofNat 2)], f60_c, none⟩
theorem f60_rs : f60.rs = [.tmp (K.ofNat 2)] := of_eq_true (eq_self _)
section
variable {fs : T EF} {h : H} {v w : V} {us : List V} {Ls : List (List (Int × Int))} {M : List Int}
theorem tb_len {α : Type} {f : Nat → α} {d : α} {n i : Nat} : (tbL f d n i).length = n := by simp [tbL]
theorem tb_first {α : Type} {f : Nat → α} {d : α} {n i : Nat} (hi : i < n) : (tbL f d n i).set i d = tbL f d n i := by
  have : (tbL f d n i)[i]'(by rw [tb_len]; exact hi) = d := by rw [tb_at, if_neg (by omega)]
  apply List.ext_getElem
  · simp
  · intro x h1 h2
    rw [List.getElem_set]
    split
    · rename_i e; subst e; exact this.symm
    · rfl
structure Rows (h : H) (h1 : H) (w : V) (xs : List V) (Q : List (List (Int × Int))) : Prop where
  sd : Sld h1 w xs Q
  ow : Own h.nx.nat w
  ox : ∀ x ∈ xs, Own h.nx.nat x
  gr : Grow h.nx.nat h h1
def rwF (Ls : List (List (Int × Int))) (x : Nat) : List (Int × Int) := Ls.getD x []
def f60_I (h : H) (v : V) (Ls : List (List (Int × Int))) (i : Nat) (fr : Fr) (h1 : H) : Prop := i ≤ Ls.length ∧ ∃ w xs, Rows h h1 w xs (tbL (rwF Ls) [] Ls.length i) ∧ fr.get (K.ofNat 3) = some (w) ∧ fr.get (K.ofNat 11) = some (v) ∧ fr.get (K.ofNat 12) = some (.i .i64 (Ls.length : Int)) ∧ fr.get (K.ofNat 13) = some (.i .i64 (i : Int))
def f60_J (h : H) (v u : V) (Ls : List (List (Int × Int))) (l : List (Int × Int)) (i j : Nat) (fr : Fr) (h1 : H) : Prop := j ≤ l.length ∧ ∃ w xs, Rows h h1 w xs ((tbL (rwF Ls) [] Ls.length i).set i (l.take j)) ∧ fr.get (K.ofNat 3) = some (w) ∧ fr.get (K.ofNat 4) = some (.i .i64 (i : Int)) ∧ fr.get (K.ofNat 11) = some (v) ∧ fr.get (K.ofNat 12) = some (.i .i64 (Ls.length : Int)) ∧ fr.get (K.ofNat 13) = some (.i .i64 (i : Int)) ∧ fr.get (K.ofNat 18) = some (u) ∧ fr.get (K.ofNat 19) = some (.i .i64 (l.length : Int)) ∧ fr.get (K.ofNat 20) = some (.i .i64 (j : Int))
theorem f60_ret (hv : Nrp h v us Ls) (hF : Ls.length ≤ 1000 ∧ ∀ l ∈ Ls, l.length ≤ 1000) (hc : HC h) : Ret fs f60 [v] h fun r h' => ∃ xs, Nrp h' r xs Ls ∧ Grow h.nx.nat h h' := by
  have hlen : ∀ h1, lenV v h1 = .ok (.i .i64 (Ls.length : Int)) h1 := fun h1 => by rw [hv.out.len, hv.len]
  have hL := hF.1
  apply ret_of rfl
  show W fs none f60_c _ _ _
  unfold f60_c
  have hmk := mks_sn (h := h) (k := .i64) (n := Ls.length) (by omega)
  have hs0 := Sld.empty (h := h) (n := Ls.length)
  have gD := Grow.new (Nat.le_refl h.nx.nat) (.cells (Ls.length * 1) (rep [.sn] Ls.length))
  rw [← tb_nil (f := rwF Ls)] at hs0
  simp (disch := omega) only [f60_r0, f60_r1, f60_r2, w_reg, w_seq, w_block, seqK_n, x_nil, x_mv, x_as, x_mks, x_len, kx, rvP_ok, ev_t, ev_c, getV_some, putD_some, frame_1, of0, getK_set, Nat.reduceEqDiff, ↓reduceIte, hlen, hmk]
  refine W_loop (f60_I h v Ls) (fun i => Ls.length - i) ?_ 0 ⟨by omega, .sl h.nx 0 Ls.length 1, _, ⟨hs0, (fun _ _ _ _ e => (by cases e; exact Nat.le_refl _)), (fun x hx id off n sz e => (by rw [(List.mem_replicate.1 hx).2] at e; cases e)), gD⟩, by simp (disch := omega) only [getK_set, Nat.reduceEqDiff, ↓reduceIte, and_self, Int.natCast_zero]⟩
  clear hmk hs0 gD
  rintro i fr h1 ⟨hi, w, xs, hR, g3, g11, g12, g13⟩
  have hv1 := hv.grow hc hR.gr
  unfold f60_l1
  by_cases hlt : i < Ls.length
  · have d0 : decide ((i : Int) < (Ls.length : Int)) = true := by simpa using hlt
    have hiu : i < us.length := by rw [hv.len]; exact hlt
    obtain ⟨p, hp1, hp2'⟩ := hv1.out.at i hiu
    have hp2 : loadV h1 p one? = .ok us[i] h1 := hp2'
    clear hp2'
    have hui := hv.inn i hiu hlt
    have hl := hF.2 Ls[i] (List.getElem_mem hlt)
    have hFi : rwF Ls i = Ls[i] := by unfold rwF; rw [List.getD_eq_getElem?_getD, List.getElem?_eq_getElem hlt]; rfl
    generalize us[i] = u at *
    generalize Ls[i] = l at *
    have hlu := hui.len
    simp (disch := omega) only [f60_r3, f60_r4, f60_r5, w_skip, w_reg, w_seq, w_cond, w_block, seqK_n, ckB_b, cbB_b, true_and, x_nil, x_mv, x_as, x_ld, x_bin, x_iads, x_len, kx, rvP_ok, okv_some, ev_t, ev_c, getV_some, putD_some, bin_lss, of0, getK_set, Nat.reduceEqDiff, ↓reduceIte, g11, g12, g13, d0, hp1, hp2, hlu]
    refine W_loop (f60_J h v u Ls l i) (fun j => l.length - j) ?_ 0 ⟨by omega, w, xs, by rw [List.take_zero, tb_first hlt]; exact hR, by simp (disch := omega) only [getK_set, Nat.reduceEqDiff, ↓reduceIte, g3, g11, g12, g13, and_self, Int.natCast_zero]⟩
    clear hR g3 g11 g12 g13 fr hp1 hp2 hv1
    clear w xs
    rintro j fr h2 ⟨hj, w, xs, hR, g3, g4, g11, g12, g13, g18, g19, g20⟩
    have hc2 := hR.gr.hc hc
    unfold f60_l0
    by_cases hlt2 : j < l.length
    · have d1 : decide ((j : Int) < (l.length : Int)) = true := by simpa using hlt2
      have hu2 := hui.grow hc hR.gr
      obtain ⟨ida, a, ha1, ha2, _, _⟩ := hu2.at2 hlt2
      have htk := List.take_succ_eq_append_getElem hlt2
      generalize l[j] = e at *
      have hst2 : storeV (h2.new (.cells 2 zz)) 2 (.p h2.nx 0) (.agg [.i .i64 e.1, .i .i64 e.2]) = .ok undefV ((h2.new (.cells 2 zz)).put h2.nx (.cells 2 [.i .i64 e.1, .i .i64 e.2])) := st2 (a := .i .i64 (.ofNat 0)) (b := .i .i64 (.ofNat 0)) get_new_same
      have nx1 := nx_new h2 (.cells 2 zz)
      have gB : Grow h2.nx.nat h2 ((h2.new (.cells 2 zz)).put h2.nx (.cells 2 [.i .i64 e.1, .i .i64 e.2])) := (Grow.new (Nat.le_refl _) _).trans (Grow.put (Nat.le_refl _) (by omega) _)
      have c7 : ((h2.new (.cells 2 zz)).put h2.nx (.cells 2 [.i .i64 e.1, .i .i64 e.2])).get h2.nx = .cells 2 [.i .i64 e.1, .i .i64 e.2] := get_put_same
      have hzz : ([.i .i64 0, .i .i64 0] : List V) = zz := rfl
      generalize (h2.new (.cells 2 zz)).put h2.nx (.cells 2 [.i .i64 e.1, .i .i64 e.2]) = h3 at *
      have hc3 := gB.hc hc2
      have l0 : loadV h3 (.p h2.nx (0 + 0)) one? = .ok (.i .i64 e.1) h3 := load_p c7 rfl
      have l1 : loadV h3 (.p h2.nx (0 + 1)) one? = .ok (.i .i64 e.2) h3 := load_p c7 rfl
      have hs3 := hR.sd.grow hc2 gB
      have hgr3 := hR.gr.trans (gB.low hR.gr.nx)
      have hQl : ((tbL (rwF Ls) [] Ls.length i).set i (l.take j)).length = Ls.length := by rw [List.length_set, tb_len]
      have hQi : ((tbL (rwF Ls) [] Ls.length i).set i (l.take j))[i]'(by rw [hQl]; exact hlt) = l.take j := List.getElem_set_self _
      obtain ⟨u', h4, p, id, m, cs', a1, b1, b2, b3, b4, b5, b6, _⟩ := hs3.row hR.ow hR.ox hgr3.nx hc3 (i := i) (by rw [hs3.len, hQl]; exact hlt) (by rw [hQl]; exact hlt) (x := e) (by rw [hQi]; simp; omega)
      rw [hQi, List.set_set, ← htk] at b4
      have hwb := hs3.out.sr.beq
      have ha2 : loadV h2 (.p ida a) (many? 2) = .ok (.agg [.i .i64 e.1, .i .i64 e.2]) h2 := ha2
      simp (disch := omega) only [f60_r6, f60_r7, f60_r8, w_skip, w_reg, w_draw, w_seq, w_cond, w_block, seqK_n, ckB_b, cbB_b, true_and, x_nil, x_alloc, x_ldn, x_st, x_bin, x_iads, kx, kg, xg_mv, xg_build, xg_ld, xg_fadr, xg_iads, xd_cons, rvP_ok, okv_some, ev_t, getV_some, putD_some, putD_none, bin_lss, onP_p, of0, getK_set, Nat.reduceEqDiff, ↓reduceIte, g3, g4, g18, g19, g20, d1, ha1, ha2, hzz, hst2, b1, b2, l0, l1]
      rw [← hzz]
      simp (disch := omega) only [true_and, x_app, kg, xg_nil, xg_bslice, stK_s, stay_nil, rvP_ok, ev_t, getV_some, putD_some, oGet_s, cells1_i, Option.some.injEq, exists_eq_left', getK_set, Nat.reduceEqDiff, ↓reduceIte, fill_2, set_2, cells2, fill_2, set_2, cells2, fill_p2, set_p2, hc3.dead]
      refine ⟨fresh_one (n := 1) (sz := 2) (by simp (disch := omega) only [getK_set, ↓reduceIte]), ?_⟩
      simp (disch := omega) only [f60_r9, w_reg, seqK_n, atK_n, loopK_n, true_and, x_nil, x_mv, x_st, x_bin, kx, kg, xg_nil, xg_iads, xd_cons, fresh_nil, stK_n, stK_s, stay_nil, stay_cons, stay_mv, beq_i, rvP_ok, okv_some, ev_t, ev_c, getV_some, putD_some, putD_none, bin_add, of1, getK_set, Nat.reduceEqDiff, ↓reduceIte, g3, g4, g20, a1, b1, b3, hwb, beq_i, fw64]
      exact ⟨j + 1, by omega, by omega, w, _, ⟨b4, hR.ow, b5, hgr3.trans b6⟩, by simp (disch := omega) only [getK_set, Nat.reduceEqDiff, ↓reduceIte, g3, g4, g11, g12, g13, g18, g19, and_self, Int.natCast_add, Int.natCast_one]⟩
    · have d1 : decide ((j : Int) < (l.length : Int)) = false := by simpa using hlt2
      have ej : j = l.length := by omega
      rw [ej, List.take_length, ← hFi, tb_set] at hR
      simp (disch := omega) only [f60_r6, f60_r10, w_reg, w_seq, w_cond, w_exit, seqK_n, seqK_e, atK_n, atK_e, loopK_n, loopK_e, ckB_b, cbB_b, true_and, x_nil, x_mv, x_bin, kx, rvP_ok, okv_some, ev_t, ev_c, getV_some, putD_some, bin_add, bin_lss, of1, getK_set, Nat.reduceEqDiff, ↓reduceIte, Bool.false_eq_true, g13, g19, g20, d1, fw64]
      exact ⟨i + 1, by omega, by omega, w, xs, hR, by simp (disch := omega) only [getK_set, Nat.reduceEqDiff, ↓reduceIte, g3, g11, g12, and_self, Int.natCast_add, Int.natCast_one]⟩
  · have d0 : decide ((i : Int) < (Ls.length : Int)) = false := by simpa using hlt
    have ei : i = Ls.length := by omega
    have hall : tbL (rwF Ls) [] Ls.length Ls.length = Ls := by
      rw [tb_all]
      apply List.ext_getElem
      · simp
      · intro x h1 h2
        simp only [List.getElem_map, List.getElem_range, rwF, List.getD_eq_getElem?_getD, List.getElem?_eq_getElem h2, Option.getD_some]
    rw [ei, hall] at hR
    simp (disch := omega) only [f60_r3, f60_r11, f60_rs, w_reg, w_seq, w_cond, w_exit, w_ret, seqK_n, seqK_e, atK_e, loopK_e, ckB_b, cbB_b, true_and, retK_r, x_nil, x_mv, x_as, x_bin, kx, rvP_ok, okv_some, ev_t, getV_some, putD_some, bin_lss, oGet_s, readRs_nil, readRs_t, retV_1, Option.some.injEq, exists_eq_left', getK_set, Nat.reduceEqDiff, ↓reduceIte, Bool.false_eq_true, g3, g12, g13, d0]
    exact ⟨xs, hR.sd.nrp, hR.gr⟩
end
end Go.Ev
namespace Go.Ev
open Go Go.RowKit
section
variable {fs : T EF} {h : H} {v w : V} {us : List V} {Ls : List (List (Int × Int))} {M : List Int}
end
end Go.Ev
namespace Go.Ev
open Go Go.RowKit
section
variable {fs : T EF} {h : H} {v wm : V} {us : List V} {Ls : List (List (Int × Int))} {M : List Int}
end
end Go.Ev
namespace Go.Ev
open Go Go.RowKit
noncomputable def f4_r0 : List EOper := [⟨(some (K.ofNat 6)), none, .as (.c (.b false))⟩]
noncomputable def f4_r1 : List EOper := [⟨(some (K.ofNat 26)), none, .mv (.t (K.ofNat 0))⟩, ⟨(some (K.ofNat 27)), none, .mv (.t (K.ofNat 1))⟩, ⟨(some (K.ofNat 28)), none, .call (.c (.fn (K.ofNat 25) [])) [(.t (K.ofNat 26)), (.t (K.ofNat 27))]⟩, ⟨(some (K.ofNat 25)), none, .mv (.t (K.ofNat 28))⟩, ⟨(some (K.ofNat 29)), none, .ext (.t (K.ofNat 25)) 0⟩, ⟨(some (K.ofNat 30)), none, .ext (.t (K.ofNat 25)) 1⟩, ⟨(some (K.ofNat 7)), none, .as (.t (K.ofNat 29))⟩, ⟨(some (K.ofNat 8)), none, .as (.t (K.ofNat 30))⟩]
noncomputable def f4_r2 : List EOper := [⟨(some (K.ofNat 32)), none, .mv (.t (K.ofNat 7))⟩, ⟨(some (K.ofNat 33)), none, .mv (.t (K.ofNat 8))⟩, ⟨(some (K.ofNat 34)), none, .call (.c (.fn (K.ofNat 17) [])) [(.t (K.ofNat 32)), (.t (K.ofNat 33))]⟩, ⟨(some (K.ofNat 31)), none, .mv (.t (K.ofNat 34))⟩, ⟨(some (K.ofNat 35)), none, .ext (.t (K.ofNat 31)) 0⟩, ⟨(some (K.ofNat 36)), none, .ext (.t (K.ofNat 31)) 1⟩, ⟨(some (K.ofNat 9)), none, .as (.t (K.ofNat 35))⟩, ⟨(some (K.ofNat 10)), none, .as (.t (K.ofNat 36))⟩]
noncomputable def f4_r3 : List EOper := [⟨(some (K.ofNat 38)), none, .mv (.t (K.ofNat 7))⟩, ⟨(some (K.ofNat 39)), none, .mv (.t (K.ofNat 8))⟩, ⟨(some (K.ofNat 40)), none, .call (.c (.fn (K.ofNat 16) [])) [(.t (K.ofNat 38)), (.t (K.ofNat 39))]⟩, ⟨(some (K.ofNat 37)), none, .mv (.t (K.ofNat 40))⟩, ⟨(some (K.ofNat 41)), none, .ext (.t (K.ofNat 37)) 0⟩, ⟨(some (K.ofNat 42)), none, .ext (.t (K.ofNat 37)) 1⟩, ⟨(some (K.ofNat 11)), none, .as (.t (K.ofNat 41))⟩, ⟨(some (K.ofNat 12)), none, .as (.t (K.ofNat 42))⟩]
noncomputable def f4_r4 : List EOper := [⟨(some (K.ofNat 43)), none, .mv (.t (K.ofNat 7))⟩, ⟨(some (K.ofNat 44)), none, .mv (.t (K.ofNat 8))⟩, ⟨(some (K.ofNat 45)), none, .call (.c (.fn (K.ofNat 26) [])) [(.t (K.ofNat 43)), (.t (K.ofNat 44))]⟩, ⟨(some (K.ofNat 13)), none, .as (.t (K.ofNat 45))⟩]
noncomputable def f4_r5 : List EOper := [⟨(some (K.ofNat 46)), none, .mv (.t (K.ofNat 10))⟩, ⟨(some (K.ofNat 47)), none, .bin .neq (.t (K.ofNat 46)) (.c (.i .i64 (.ofNat 0)))⟩, ⟨(some (K.ofNat 48)), none, .mv (.t (K.ofNat 47))⟩, ⟨(some (K.ofNat 49)), (some ((K.ofNat 48), false)), .mv (.t (K.ofNat 9))⟩, ⟨(some (K.ofNat 50)), (some ((K.ofNat 48), false)), .len (.t (K.ofNat 49))⟩, ⟨(some (K.ofNat 51)), (some ((K.ofNat 48), false)), .mv (.t (K.ofNat 13))⟩, ⟨(some (K.ofNat 52)), (some ((K.ofNat 48), false)), .len (.t (K.ofNat 51))⟩, ⟨(some (K.ofNat 53)), (some ((K.ofNat 48), false)), .bin .neq (.t (K.ofNat 50)) (.t (K.ofNat 52))⟩, ⟨(some (K.ofNat 54)), none, .pick (.t (K.ofNat 48)) (.c (.b true)) (.t (K.ofNat 53))⟩, ⟨(some (K.ofNat 55)), none, .mv (.t (K.ofNat 54))⟩, ⟨(some (K.ofNat 56)), (some ((K.ofNat 55), false)), .mv (.t (K.ofNat 12))⟩, ⟨(some (K.ofNat 57)), (some ((K.ofNat 55), false)), .bin .neq (.t (K.ofNat 56)) (.c (.i .i64 (.ofNat 0)))⟩, ⟨(some (K.ofNat 58)), none, .pick (.t (K.ofNat 55)) (.c (.b true)) (.t (K.ofNat 57))⟩, ⟨(some (K.ofNat 59)), none, .mv (.t (K.ofNat 58))⟩, ⟨(some (K.ofNat 60)), (some ((K.ofNat 59), false)), .mv (.t (K.ofNat 11))⟩, ⟨(some (K.ofNat 61)), (some ((K.ofNat 59), false)), .mv (.t (K.ofNat 7))⟩, ⟨(some (K.ofNat 62)), (some ((K.ofNat 59), false)), .mv (.t (K.ofNat 8))⟩, ⟨(some (K.ofNat 63)), (some ((K.ofNat 59), false)), .call (.c (.fn (K.ofNat 27) [])) [(.t (K.ofNat 61)), (.t (K.ofNat 62))]⟩, ⟨(some (K.ofNat 64)), (some ((K.ofNat 59), false)), .bin .neq (.t (K.ofNat 60)) (.t (K.ofNat 63))⟩, ⟨(some (K.ofNat 65)), none, .pick (.t (K.ofNat 59)) (.c (.b true)) (.t (K.ofNat 64))⟩]
noncomputable def f4_r6 : List EOper := [⟨(some (K.ofNat 6)), none, .as (.c (.b false))⟩]
noncomputable def f4_r7 : List EOper := [⟨(some (K.ofNat 14)), none, .as (.c (.i .i64 (.ofNat 0)))⟩]
noncomputable def f4_r8 : List EOper := [⟨(some (K.ofNat 66)), none, .mv (.t (K.ofNat 14))⟩, ⟨(some (K.ofNat 67)), none, .mv (.t (K.ofNat 7))⟩, ⟨(some (K.ofNat 68)), none, .bin .lss (.t (K.ofNat 66)) (.t (K.ofNat 67))⟩]
noncomputable def f4_r9 : List EOper := [⟨(some (K.ofNat 72)), none, .mv (.t (K.ofNat 7))⟩, ⟨(some (K.ofNat 73)), none, .mv (.t (K.ofNat 8))⟩, ⟨(some (K.ofNat 74)), none, .mv (.t (K.ofNat 14))⟩, ⟨(some (K.ofNat 75)), none, .call (.c (.fn (K.ofNat 21) [])) [(.t (K.ofNat 72)), (.t (K.ofNat 73)), (.t (K.ofNat 74))]⟩, ⟨(some (K.ofNat 71)), none, .mv (.t (K.ofNat 75))⟩, ⟨(some (K.ofNat 76)), none, .ext (.t (K.ofNat 71)) 0⟩, ⟨(some (K.ofNat 77)), none, .ext (.t (K.ofNat 71)) 1⟩, ⟨(some (K.ofNat 15)), none, .as (.t (K.ofNat 76))⟩, ⟨(some (K.ofNat 16)), none, .as (.t (K.ofNat 77))⟩]
noncomputable def f4_r10 : List Stage := [⟨[⟨(some (K.ofNat 78)), none, .mv (.t (K.ofNat 9))⟩, ⟨(some (K.ofNat 79)), none, .mv (.t (K.ofNat 14))⟩, ⟨(some (K.ofNat 80)), none, .iads 1 (.t (K.ofNat 78)) (.t (K.ofNat 79))⟩, ⟨(some (K.ofNat 81)), none, .ld (.t (K.ofNat 80))⟩, ⟨(some (K.ofNat 82)), none, .mv (.t (K.ofNat 13))⟩, ⟨(some (K.ofNat 83)), none, .mv (.t (K.ofNat 14))⟩, ⟨(some (K.ofNat 84)), none, .iads 1 (.t (K.ofNat 82)) (.t (K.ofNat 83))⟩, ⟨(some (K.ofNat 85)), none, .ld (.t (K.ofNat 84))⟩, ⟨(some (K.ofNat 86)), none, .pr (.seql true) (.t (K.ofNat 81)) (.t (K.ofNat 85))⟩, ⟨(some (K.ofNat 87)), none, .mv (.t (K.ofNat 86))⟩, ⟨(some (K.ofNat 88)), (some ((K.ofNat 87), false)), .mv (.t (K.ofNat 16))⟩, ⟨(some (K.ofNat 89)), (some ((K.ofNat 87), false)), .bin .neq (.t (K.ofNat 88)) (.c (.i .i64 (.ofNat 0)))⟩, ⟨(some (K.ofNat 90)), none, .pick (.t (K.ofNat 87)) (.c (.b true)) (.t (K.ofNat 89))⟩, ⟨(some (K.ofNat 91)), none, .mv (.t (K.ofNat 90))⟩, ⟨(some (K.ofNat 92)), (some ((K.ofNat 91), false)), .mv (.t (K.ofNat 15))⟩, ⟨(some (K.ofNat 93)), (some ((K.ofNat 91), false)), .mv (.t (K.ofNat 8))⟩, ⟨(some (K.ofNat 94)), (some ((K.ofNat 91), false)), .mv (.t (K.ofNat 14))⟩], [], (some ⟨(some (K.ofNat 95)), (some ((K.ofNat 91), false)), .call (.c (.fn (K.ofNat 29) [])) [(.t (K.ofNat 93)), (.t (K.ofNat 94))]⟩), []⟩, ⟨[], [⟨(some (K.ofNat 92)), (some ((K.ofNat 91), false)), .mv (.t (K.ofNat 15))⟩], (some ⟨(some (K.ofNat 96)), (some ((K.ofNat 91), false)), .call (.c (.fn (K.ofNat 28) [])) [(.t (K.ofNat 92)), (.t (K.ofNat 95))]⟩), []⟩, ⟨[⟨(some (K.ofNat 97)), (some ((K.ofNat 91), false)), .not (.t (K.ofNat 96))⟩, ⟨(some (K.ofNat 98)), none, .pick (.t (K.ofNat 91)) (.c (.b true)) (.t (K.ofNat 97))⟩], [], none, []⟩]
noncomputable def f4_r11 : List EOper := [⟨(some (K.ofNat 6)), none, .as (.c (.b false))⟩]
noncomputable def f4_r12 : List EOper := [⟨(some (K.ofNat 69)), none, .mv (.t (K.ofNat 14))⟩, ⟨(some (K.ofNat 70)), none, .bin .add (.t (K.ofNat 69)) (.c (.i .i64 (.ofNat 1)))⟩, ⟨(some (K.ofNat 14)), none, .as (.t (K.ofNat 70))⟩]
noncomputable def f4_l0 : EC := (.seq (.seq (.reg f4_r8) (.cond (.t (K.ofNat 68)) .skip (.exit 0))) (.seq (.block 1 (.seq (.reg f4_r9) (.seq (.draw f4_r10) (.cond (.t (K.ofNat 98)) (.seq (.reg f4_r11) .ret) .skip)))) (.reg f4_r12)))
noncomputable def f4_r13 : List EOper := [⟨(some (K.ofNat 100)), none, .mv (.t (K.ofNat 7))⟩, ⟨(some (K.ofNat 101)), none, .mv (.t (K.ofNat 8))⟩, ⟨(some (K.ofNat 102)), none, .mv (.t (K.ofNat 7))⟩, ⟨(some (K.ofNat 103)), none, .call (.c (.fn (K.ofNat 21) [])) [(.t (K.ofNat 100)), (.t (K.ofNat 101)), (.t (K.ofNat 102))]⟩, ⟨(some (K.ofNat 99)), none, .mv (.t (K.ofNat 103))⟩, ⟨(some (K.ofNat 104)), none, .ext (.t (K.ofNat 99)) 0⟩, ⟨(some (K.ofNat 105)), none, .ext (.t (K.ofNat 99)) 1⟩, ⟨(some (K.ofNat 17)), none, .as (.t (K.ofNat 104))⟩, ⟨(some (K.ofNat 18)), none, .as (.t (K.ofNat 105))⟩]
noncomputable def f4_r14 : List EOper := [⟨(some (K.ofNat 107)), none, .mv (.t (K.ofNat 7))⟩, ⟨(some (K.ofNat 108)), none, .mv (.t (K.ofNat 8))⟩, ⟨(some (K.ofNat 109)), none, .call (.c (.fn (K.ofNat 21) [])) [(.t (K.ofNat 107)), (.t (K.ofNat 108)), (.c (.i .i64 (.negSucc 0)))]⟩, ⟨(some (K.ofNat 106)), none, .mv (.t (K.ofNat 109))⟩, ⟨(some (K.ofNat 110)), none, .ext (.t (K.ofNat 106)) 0⟩, ⟨(some (K.ofNat 111)), none, .ext (.t (K.ofNat 106)) 1⟩, ⟨(some (K.ofNat 19)), none, .as (.t (K.ofNat 110))⟩, ⟨(some (K.ofNat 20)), none, .as (.t (K.ofNat 111))⟩]
noncomputable def f4_r15 : List EOper := [⟨(some (K.ofNat 112)), none, .mv (.t (K.ofNat 18))⟩, ⟨(some (K.ofNat 113)), none, .bin .neq (.t (K.ofNat 112)) (.c (.i .i64 (.ofNat 1)))⟩, ⟨(some (K.ofNat 114)), none, .mv (.t (K.ofNat 113))⟩, ⟨(some (K.ofNat 115)), (some ((K.ofNat 114), false)), .mv (.t (K.ofNat 20))⟩, ⟨(some (K.ofNat 116)), (some ((K.ofNat 114), false)), .bin .neq (.t (K.ofNat 115)) (.c (.i .i64 (.ofNat 1)))⟩, ⟨(some (K.ofNat 117)), none, .pick (.t (K.ofNat 114)) (.c (.b true)) (.t (K.ofNat 116))⟩]
noncomputable def f4_r16 : List EOper := [⟨(some (K.ofNat 6)), none, .as (.c (.b false))⟩]
noncomputable def f4_r17 : List EOper := [⟨(some (K.ofNat 118)), none, .mv (.t (K.ofNat 2))⟩, ⟨(some (K.ofNat 119)), none, .mv (.t (K.ofNat 2))⟩, ⟨(some (K.ofNat 120)), none, .len (.t (K.ofNat 119))⟩, ⟨(some (K.ofNat 121)), none, .min (.t (K.ofNat 120)) (.c (.i .i64 (.ofNat 12)))⟩, ⟨(some (K.ofNat 122)), none, .mv (.t (K.ofNat 2))⟩, ⟨(some (K.ofNat 123)), none, .len (.t (K.ofNat 122))⟩, ⟨(some (K.ofNat 124)), none, .min (.t (K.ofNat 123)) (.c (.i .i64 (.ofNat 12)))⟩, ⟨(some (K.ofNat 125)), none, .slice 1 (.t (K.ofNat 118)) none (some (.t (K.ofNat 121))) (some (.t (K.ofNat 124)))⟩, ⟨(some (K.ofNat 21)), none, .as (.t (K.ofNat 125))⟩]
noncomputable def f4_r18 : List EOper := [⟨(some (K.ofNat 22)), none, .as (.c (.i .i64 (.ofNat 0)))⟩]
noncomputable def f4_r19 : List EOper := [⟨(some (K.ofNat 126)), none, .mv (.t (K.ofNat 22))⟩, ⟨(some (K.ofNat 127)), none, .bin .lss (.t (K.ofNat 126)) (.c (.i .i64 (.ofNat 2)))⟩]
noncomputable def f4_r20 : List EOper := [⟨(some (K.ofNat 131)), none, .mv (.t (K.ofNat 7))⟩, ⟨(some (K.ofNat 132)), none, .mv (.t (K.ofNat 8))⟩, ⟨(some (K.ofNat 133)), none, .mv (.t (K.ofNat 21))⟩, ⟨(some (K.ofNat 134)), none, .call (.c (.fn (K.ofNat 24) [])) [(.t (K.ofNat 131)), (.t (K.ofNat 132)), (.t (K.ofNat 133))]⟩, ⟨(some (K.ofNat 130)), none, .mv (.t (K.ofNat 134))⟩, ⟨(some (K.ofNat 135)), none, .ext (.t (K.ofNat 130)) 0⟩, ⟨(some (K.ofNat 136)), none, .ext (.t (K.ofNat 130)) 1⟩, ⟨(some (K.ofNat 23)), none, .as (.t (K.ofNat 135))⟩, ⟨(some (K.ofNat 24)), none, .as (.t (K.ofNat 136))⟩]
noncomputable def f4_r21 : List EOper := [⟨(some (K.ofNat 137)), none, .mv (.t (K.ofNat 7))⟩, ⟨(some (K.ofNat 138)), none, .mv (.t (K.ofNat 21))⟩, ⟨(some (K.ofNat 139)), none, .call (.c (.fn (K.ofNat 30) [])) [(.t (K.ofNat 137)), (.t (K.ofNat 138))]⟩, ⟨(some (K.ofNat 140)), none, .not (.t (K.ofNat 139))⟩]
noncomputable def f4_r22 : List EOper := [⟨(some (K.ofNat 141)), none, .mv (.t (K.ofNat 24))⟩, ⟨(some (K.ofNat 142)), none, .bin .neq (.t (K.ofNat 141)) (.c (.i .i64 (.ofNat 1)))⟩, ⟨(some (K.ofNat 143)), none, .mv (.t (K.ofNat 142))⟩, ⟨(some (K.ofNat 144)), (some ((K.ofNat 143), false)), .mv (.t (K.ofNat 23))⟩, ⟨(some (K.ofNat 145)), (some ((K.ofNat 143), false)), .len (.t (K.ofNat 144))⟩, ⟨(some (K.ofNat 146)), (some ((K.ofNat 143), false)), .bin .neq (.t (K.ofNat 145)) (.c (.i .i64 (.ofNat 0)))⟩, ⟨(some (K.ofNat 147)), none, .pick (.t (K.ofNat 143)) (.c (.b true)) (.t (K.ofNat 146))⟩]
noncomputable def f4_r23 : List EOper := [⟨(some (K.ofNat 6)), none, .as (.c (.b false))⟩]
noncomputable def f4_r24 : List EOper := [⟨(some (K.ofNat 148)), none, .mv (.t (K.ofNat 24))⟩, ⟨(some (K.ofNat 149)), none, .bin .neq (.t (K.ofNat 148)) (.c (.i .i64 (.ofNat 0)))⟩, ⟨(some (K.ofNat 150)), none, .mv (.t (K.ofNat 149))⟩, ⟨(some (K.ofNat 151)), (some ((K.ofNat 150), false)), .mv (.t (K.ofNat 23))⟩, ⟨(some (K.ofNat 152)), (some ((K.ofNat 150), false)), .mv (.t (K.ofNat 8))⟩, ⟨(some (K.ofNat 153)), (some ((K.ofNat 150), false)), .mv (.t (K.ofNat 21))⟩, ⟨(some (K.ofNat 154)), (some ((K.ofNat 150), false)), .call (.c (.fn (K.ofNat 32) [])) [(.t (K.ofNat 152)), (.t (K.ofNat 153))]⟩, ⟨(some (K.ofNat 155)), (some ((K.ofNat 150), false)), .call (.c (.fn (K.ofNat 31) [])) [(.t (K.ofNat 151)), (.t (K.ofNat 154))]⟩, ⟨(some (K.ofNat 156)), (some ((K.ofNat 150), false)), .not (.t (K.ofNat 155))⟩, ⟨(some (K.ofNat 157)), none, .pick (.t (K.ofNat 150)) (.c (.b true)) (.t (K.ofNat 156))⟩]
noncomputable def f4_r25 : List EOper := [⟨(some (K.ofNat 6)), none, .as (.c (.b false))⟩]
noncomputable def f4_r26 : List EOper := [⟨(some (K.ofNat 158)), none, .mv (.t (K.ofNat 7))⟩, ⟨(some (K.ofNat 159)), none, .mv (.t (K.ofNat 2))⟩, ⟨(some (K.ofNat 160)), none, .call (.c (.fn (K.ofNat 33) [])) [(.t (K.ofNat 158)), (.t (K.ofNat 159))]⟩, ⟨(some (K.ofNat 21)), none, .as (.t (K.ofNat 160))⟩]
noncomputable def f4_r27 : List EOper := [⟨(some (K.ofNat 128)), none, .mv (.t (K.ofNat 22))⟩, ⟨(some (K.ofNat 129)), none, .bin .add (.t (K.ofNat 128)) (.c (.i .i64 (.ofNat 1)))⟩, ⟨(some (K.ofNat 22)), none, .as (.t (K.ofNat 129))⟩]
noncomputable def f4_l1 : EC := (.seq (.seq (.reg f4_r19) (.cond (.t (K.ofNat 127)) .skip (.exit 2))) (.seq (.block 3 (.seq (.reg f4_r20) (.seq (.seq (.reg f4_r21) (.cond (.t (K.ofNat 140)) (.seq (.reg f4_r22) (.cond (.t (K.ofNat 147)) (.seq (.reg f4_r23) .ret) .skip)) (.seq (.reg f4_r24) (.cond (.t (K.ofNat 157)) (.seq (.reg f4_r25) .ret) .skip)))) (.reg f4_r26)))) (.reg f4_r27)))
noncomputable def f4_r28 : List EOper := [⟨(some (K.ofNat 161)), none, .call (.c (.fn (K.ofNat 22) [])) []⟩, ⟨(some (K.ofNat 6)), none, .as (.t (K.ofNat 161))⟩]
noncomputable def f4_c : EC := (.seq (.reg f4_r0) (.seq (.reg f4_r1) (.seq (.reg f4_r2) (.seq (.reg f4_r3) (.seq (.reg f4_r4) (.seq (.seq (.reg f4_r5) (.cond (.t (K.ofNat 65)) (.seq (.reg f4_r6) .ret) .skip)) (.seq (.seq (.reg f4_r7) (.block 0 (.loop f4_l0))) (.seq (.reg f4_r13) (.seq (.reg f4_r14) (.seq (.seq (.reg f4_r15) (.cond (.t (K.ofNat 117)) (.seq (.reg f4_r16) .ret) .skip)) (.seq (.reg f4_r17) (.seq (.seq (.reg f4_r18) (.block 2 (.loop f4_l1))) (.seq (.reg f4_r28) .ret)))))))))))))
noncomputable def f4 : EF := ⟨162, [.tmp (K.ofNat 6)], f4_c, none⟩
theorem teams_nat {n : Int} {m : Nat} (hm : (m : Int) = teamsN n) : ok5 (m : Int) := by rw [hm]; exact teamsN_ok n
section
variable {fs : T EF}
end
end Go.Ev
namespace Go.Ev
open Go Go.RowKit
section
variable {α : Type} {e : α → V} {h h' : H} {w v u : V} {xs us : List V} {Q Ls : List (List α)} {L : List α} {b : Nat}
end
end Go.Ev
namespace Go.Ev
open Go Go.RowKit
def pZ (x : Int × Int) : V := .agg [.i .i64 x.1, .i .i64 x.2]
end Go.Ev
namespace Go.Ev
open Go Go.RowKit
end Go.Ev
namespace Go.Ev
open Go Go.RowKit
noncomputable def f84_r0 : List EOper := [⟨(some (K.ofNat 1)), none, .box 2 (.t (K.ofNat 0))⟩, ⟨(some (K.ofNat 2)), none, .alloc 2 [(.i .i64 (.ofNat 0)), (.i .i64 (.ofNat 0))]⟩]
noncomputable def f84_r1 : List EOper := [⟨(some (K.ofNat 3)), none, .fadr 1 (.t (K.ofNat 1))⟩, ⟨(some (K.ofNat 4)), none, .ld (.t (K.ofNat 3))⟩, ⟨(some (K.ofNat 5)), none, .fadr 0 (.t (K.ofNat 1))⟩, ⟨(some (K.ofNat 6)), none, .ld (.t (K.ofNat 5))⟩, ⟨(some (K.ofNat 7)), none, .build [(.i .i64 (.ofNat 0)), (.i .i64 (.ofNat 0))] [(0, 1, (.t (K.ofNat 4))), (1, 1, (.t (K.ofNat 6)))]⟩, ⟨none, none, .st 2 (.t (K.ofNat 2)) (.t (K.ofNat 7))⟩]
noncomputable def f84_c : EC := (.seq (.reg f84_r0) (.seq (.reg f84_r1) .ret))
noncomputable def f84 : EF := ⟨8, [.celln (K.ofNat 2) 2], f84_c, none⟩
theorem f84_rs : f84.rs = [.celln (K.ofNat 2) 2] := of_eq_true (eq_self _)
noncomputable def f78_r0 : List EOper := [⟨(some (K.ofNat 2)), none, .as (.c .mn)⟩]
noncomputable def f78_r1 : List EOper := [⟨(some (K.ofNat 8)), none, .mkmap 108⟩, ⟨(some (K.ofNat 3)), none, .as (.t (K.ofNat 8))⟩]
noncomputable def f78_r2 : List EOper := [⟨(some (K.ofNat 9)), none, .mv (.t (K.ofNat 0))⟩, ⟨(some (K.ofNat 10)), none, .len (.t (K.ofNat 9))⟩, ⟨(some (K.ofNat 11)), none, .mv (.c (.i .i64 (.ofNat 0)))⟩]
noncomputable def f78_r3 : List EOper := [⟨(some (K.ofNat 12)), none, .bin .lss (.t (K.ofNat 11)) (.t (K.ofNat 10))⟩]
noncomputable def f78_r4 : List EOper := [⟨(some (K.ofNat 13)), none, .mv (.t (K.ofNat 11))⟩, ⟨(some (K.ofNat 14)), none, .iads 1 (.t (K.ofNat 9)) (.t (K.ofNat 11))⟩, ⟨(some (K.ofNat 15)), none, .ld (.t (K.ofNat 14))⟩, ⟨(some (K.ofNat 4)), none, .as (.t (K.ofNat 13))⟩, ⟨(some (K.ofNat 5)), none, .as (.t (K.ofNat 15))⟩]
noncomputable def f78_r5 : List EOper := [⟨(some (K.ofNat 16)), none, .mv (.t (K.ofNat 5))⟩, ⟨(some (K.ofNat 17)), none, .len (.t (K.ofNat 16))⟩, ⟨(some (K.ofNat 18)), none, .mv (.c (.i .i64 (.ofNat 0)))⟩]
noncomputable def f78_r6 : List EOper := [⟨(some (K.ofNat 19)), none, .bin .lss (.t (K.ofNat 18)) (.t (K.ofNat 17))⟩]
noncomputable def f78_r7 : List EOper := [⟨(some (K.ofNat 20)), none, .iads 2 (.t (K.ofNat 16)) (.t (K.ofNat 18))⟩, ⟨(some (K.ofNat 21)), none, .ldn 2 (.t (K.ofNat 20))⟩, ⟨(some (K.ofNat 7)), none, .alloc 2 [(.i .i64 (.ofNat 0)), (.i .i64 (.ofNat 0))]⟩, ⟨none, none, .st 2 (.t (K.ofNat 7)) (.t (K.ofNat 21))⟩]
noncomputable def f78_r8 : List Stage := [⟨[⟨(some (K.ofNat 22)), none, .mv (.t (K.ofNat 3))⟩, ⟨(some (K.ofNat 23)), none, .ldn 2 (.t (K.ofNat 7))⟩, ⟨(some (K.ofNat 24)), none, .mv (.t (K.ofNat 3))⟩, ⟨(some (K.ofNat 25)), none, .ldn 2 (.t (K.ofNat 7))⟩, ⟨(some (K.ofNat 27)), none, .mv (.t (K.ofNat 4))⟩, ⟨(some (K.ofNat 28)), none, .mv (.t (K.ofNat 4))⟩], [], (some ⟨(some (K.ofNat 26)), none, .call (.c (.fn (K.ofNat 84) [])) [(.t (K.ofNat 25))]⟩), []⟩, ⟨[], [⟨(some (K.ofNat 22)), none, .mv (.t (K.ofNat 3))⟩, ⟨(some (K.ofNat 23)), none, .ldn 2 (.t (K.ofNat 7))⟩, ⟨(some (K.ofNat 24)), none, .mv (.t (K.ofNat 3))⟩, ⟨(some (K.ofNat 27)), none, .mv (.t (K.ofNat 4))⟩, ⟨(some (K.ofNat 28)), none, .mv (.t (K.ofNat 4))⟩], (some ⟨none, none, .mupd 108 (.many [(some .i64), (some .i64)]) (.t (K.ofNat 22)) (.t (K.ofNat 23)) (.t (K.ofNat 27))⟩), []⟩, ⟨[], [⟨(some (K.ofNat 24)), none, .mv (.t (K.ofNat 3))⟩, ⟨(some (K.ofNat 28)), none, .mv (.t (K.ofNat 4))⟩], (some ⟨none, none, .mupd 108 (.many [(some .i64), (some .i64)]) (.t (K.ofNat 24)) (.t (K.ofNat 26)) (.t (K.ofNat 28))⟩), []⟩, ⟨[], [], none, []⟩]
noncomputable def f78_r9 : List EOper := [⟨(some (K.ofNat 29)), none, .bin .add (.t (K.ofNat 18)) (.c (.i .i64 (.ofNat 1)))⟩, ⟨(some (K.ofNat 18)), none, .mv (.t (K.ofNat 29))⟩]
noncomputable def f78_l0 : EC := (.seq (.reg f78_r6) (.seq (.cond (.t (K.ofNat 19)) .skip (.exit 2)) (.seq (.block 3 (.seq (.reg f78_r7) (.draw f78_r8))) (.reg f78_r9))))
noncomputable def f78_r10 : List EOper := [⟨(some (K.ofNat 30)), none, .bin .add (.t (K.ofNat 11)) (.c (.i .i64 (.ofNat 1)))⟩, ⟨(some (K.ofNat 11)), none, .mv (.t (K.ofNat 30))⟩]
noncomputable def f78_l1 : EC := (.seq (.reg f78_r3) (.seq (.cond (.t (K.ofNat 12)) .skip (.exit 0)) (.seq (.block 1 (.seq (.reg f78_r4) (.seq (.reg f78_r5) (.block 2 (.loop f78_l0))))) (.reg f78_r10))))
noncomputable def f78_r11 : List EOper := [⟨(some (K.ofNat 31)), none, .mv (.t (K.ofNat 3))⟩, ⟨(some (K.ofNat 2)), none, .as (.t (K.ofNat 31))⟩]
noncomputable def f78_c : EC := (.seq (.reg f78_r0) (.seq (.reg f78_r1) (.seq (.seq (.reg f78_r2) (.block 0 (.loop f78_l1))) (.seq (.reg f78_r11) .ret))))
noncomputable def f78 : EF := ⟨32, [.tmp (K.ofNat 2)], f78_c, none⟩
section
variable {fs : T EF} {h : H} {v : V} {us : List V} {Ls : List (List (Int × Int))}
theorem ldn2_r {id : K} {a b : V} {h : H} (hb : h.get id = .cells 2 [a, b]) : readP h (.p id 0) (many? 2) = some (.agg [a, b]) := by
  show (h.get id).onC none (fun n cs => many? 2 cs n 0) = _
  rw [hb]; rfl
theorem f84_ret {x : Int × Int} (_hc : HC h) : Ret fs f84 [pZ x] h fun r h' => r = pZ (x.2, x.1) ∧ Grow h.nx.nat h h' := by
  apply ret_of rfl
  show W fs none f84_c _ _ _
  unfold f84_c pZ
  simp (disch := omega) only [f84_r0, w_reg, w_seq, seqK_n, x_nil, x_alloc, x_box, kx, rvP_ok, ev_t, getV_some, putD_some, oGet_s, frame_1, of0, getK_set, ↓reduceIte, cells2, cells2]
  have n1 := nx_new h (.cells 2 [.i .i64 x.1, .i .i64 x.2])
  have c1 : (h.new (.cells 2 [.i .i64 x.1, .i .i64 x.2])).get h.nx = .cells 2 [.i .i64 x.1, .i .i64 x.2] := get_new_same
  have g1 : Grow h.nx.nat h (h.new (.cells 2 [.i .i64 x.1, .i .i64 x.2])) := Grow.new (Nat.le_refl _) _
  generalize h.new (.cells 2 [.i .i64 x.1, .i .i64 x.2]) = h1 at *
  have n2 := nx_new h1 (.cells 2 [.i .i64 0, .i .i64 0])
  have c2 : (h1.new (.cells 2 [.i .i64 0, .i .i64 0])).get h.nx = .cells 2 [.i .i64 x.1, .i .i64 x.2] := (get_new_old (by omega)).trans c1
  have hst : ∀ c d, storeV (h1.new (.cells 2 [.i .i64 0, .i .i64 0])) 2 (.p h1.nx 0) (.agg [c, d]) = .ok undefV ((h1.new (.cells 2 [.i .i64 0, .i .i64 0])).put h1.nx (.cells 2 [c, d])) := fun c d => st2 (a := .i .i64 0) (b := .i .i64 0) get_new_same
  have l0 : loadV (h1.new (.cells 2 [.i .i64 0, .i .i64 0])) (.p h.nx (0 + 0)) one? = .ok (.i .i64 x.1) (h1.new (.cells 2 [.i .i64 0, .i .i64 0])) := load_p c2 rfl
  have l1 : loadV (h1.new (.cells 2 [.i .i64 0, .i .i64 0])) (.p h.nx (0 + 1)) one? = .ok (.i .i64 x.2) (h1.new (.cells 2 [.i .i64 0, .i .i64 0])) := load_p c2 rfl
  have c3 : ((h1.new (.cells 2 [.i .i64 0, .i .i64 0])).put h1.nx (.cells 2 [.i .i64 x.2, .i .i64 x.1])).get h1.nx = .cells 2 [.i .i64 x.2, .i .i64 x.1] := get_put_same
  have l3 : readP ((h1.new (.cells 2 [.i .i64 0, .i .i64 0])).put h1.nx (.cells 2 [.i .i64 x.2, .i .i64 x.1])) (.p h1.nx 0) (many? 2) = some (.agg [.i .i64 x.2, .i .i64 x.1]) := ldn2_r c3
  have g2 : Grow h1.nx.nat h1 ((h1.new (.cells 2 [.i .i64 0, .i .i64 0])).put h1.nx (.cells 2 [.i .i64 x.2, .i .i64 x.1])) := (Grow.new (Nat.le_refl _) _).trans (Grow.put (Nat.le_refl _) (by omega) _)
  simp (disch := omega) only [f84_r1, f84_rs, w_ret, seqK_n, true_and, retK_r, x_nil, x_build, x_ld, x_st, x_fadr, kx, rvP_ok, ev_t, getV_some, putD_some, putD_none, onP_p, oGet_s, readRs_nil, readRs_n, retV_1, cells1_i, of0, Option.some.injEq, exists_eq_left', getK_set, Nat.reduceEqDiff, ↓reduceIte, fill_2, set_2, fill_2, set_2, l0, l1, hst, l3, true_and]
  exact g1.trans (g2.low g1.nx)
end
end Go.Ev
namespace Go.Ev
open Go Go.RowKit
noncomputable def f79_r0 : List EOper := [⟨(some (K.ofNat 7)), none, .as (.c (.i .i64 (.ofNat 0)))⟩]
noncomputable def f79_r1 : List EOper := [⟨(some (K.ofNat 8)), none, .as (.c (.i .i64 (.ofNat 0)))⟩]
noncomputable def f79_r2 : List EOper := [⟨(some (K.ofNat 14)), none, .ld (.t (K.ofNat 2))⟩, ⟨(some (K.ofNat 15)), none, .mv (.c (.i .i64 (.ofNat 0)))⟩]
noncomputable def f79_r3 : List EOper := [⟨(some (K.ofNat 16)), none, .bin .lss (.t (K.ofNat 15)) (.t (K.ofNat 14))⟩]
noncomputable def f79_r4 : List EOper := [⟨(some (K.ofNat 17)), none, .mv (.t (K.ofNat 15))⟩, ⟨(some (K.ofNat 9)), none, .as (.t (K.ofNat 17))⟩]
noncomputable def f79_r5 : List EOper := [⟨(some (K.ofNat 19)), none, .ld (.t (K.ofNat 3))⟩, ⟨(some (K.ofNat 20)), none, .mv (.t (K.ofNat 0))⟩, ⟨(some (K.ofNat 21)), none, .mv (.t (K.ofNat 9))⟩, ⟨(some (K.ofNat 22)), none, .build [(.i .i64 (.ofNat 0)), (.i .i64 (.ofNat 0))] [(0, 1, (.t (K.ofNat 20))), (1, 1, (.t (K.ofNat 21)))]⟩, ⟨(some (K.ofNat 23)), none, .look 108 (.many [(some .i64), (some .i64)]) (.i .i64 (.ofNat 0)) (.t (K.ofNat 19)) (.t (K.ofNat 22)) true⟩, ⟨(some (K.ofNat 18)), none, .mv (.t (K.ofNat 23))⟩, ⟨(some (K.ofNat 24)), none, .ext (.t (K.ofNat 18)) 0⟩, ⟨(some (K.ofNat 25)), none, .ext (.t (K.ofNat 18)) 1⟩, ⟨(some (K.ofNat 10)), none, .as (.t (K.ofNat 24))⟩, ⟨(some (K.ofNat 11)), none, .as (.t (K.ofNat 25))⟩]
noncomputable def f79_r6 : List EOper := [⟨(some (K.ofNat 27)), none, .ld (.t (K.ofNat 3))⟩, ⟨(some (K.ofNat 28)), none, .mv (.t (K.ofNat 9))⟩, ⟨(some (K.ofNat 29)), none, .mv (.t (K.ofNat 1))⟩, ⟨(some (K.ofNat 30)), none, .build [(.i .i64 (.ofNat 0)), (.i .i64 (.ofNat 0))] [(0, 1, (.t (K.ofNat 28))), (1, 1, (.t (K.ofNat 29)))]⟩, ⟨(some (K.ofNat 31)), none, .look 108 (.many [(some .i64), (some .i64)]) (.i .i64 (.ofNat 0)) (.t (K.ofNat 27)) (.t (K.ofNat 30)) true⟩, ⟨(some (K.ofNat 26)), none, .mv (.t (K.ofNat 31))⟩, ⟨(some (K.ofNat 32)), none, .ext (.t (K.ofNat 26)) 0⟩, ⟨(some (K.ofNat 33)), none, .ext (.t (K.ofNat 26)) 1⟩, ⟨(some (K.ofNat 12)), none, .as (.t (K.ofNat 32))⟩, ⟨(some (K.ofNat 13)), none, .as (.t (K.ofNat 33))⟩]
noncomputable def f79_r7 : List EOper := [⟨(some (K.ofNat 34)), none, .mv (.t (K.ofNat 11))⟩, ⟨(some (K.ofNat 35)), none, .mv (.t (K.ofNat 34))⟩, ⟨(some (K.ofNat 36)), (some ((K.ofNat 35), true)), .mv (.t (K.ofNat 13))⟩, ⟨(some (K.ofNat 37)), none, .pick (.t (K.ofNat 35)) (.t (K.ofNat 36)) (.c (.b false))⟩, ⟨(some (K.ofNat 38)), none, .mv (.t (K.ofNat 37))⟩, ⟨(some (K.ofNat 39)), (some ((K.ofNat 38), true)), .mv (.t (K.ofNat 12))⟩, ⟨(some (K.ofNat 40)), (some ((K.ofNat 38), true)), .mv (.t (K.ofNat 10))⟩, ⟨(some (K.ofNat 41)), (some ((K.ofNat 38), true)), .bin .add (.t (K.ofNat 40)) (.c (.i .i64 (.ofNat 1)))⟩, ⟨(some (K.ofNat 42)), (some ((K.ofNat 38), true)), .ld (.t (K.ofNat 4))⟩, ⟨(some (K.ofNat 43)), (some ((K.ofNat 38), true)), .len (.t (K.ofNat 42))⟩, ⟨(some (K.ofNat 44)), (some ((K.ofNat 38), true)), .bin .rem (.t (K.ofNat 41)) (.t (K.ofNat 43))⟩, ⟨(some (K.ofNat 45)), (some ((K.ofNat 38), true)), .bin .eql (.t (K.ofNat 39)) (.t (K.ofNat 44))⟩, ⟨(some (K.ofNat 46)), none, .pick (.t (K.ofNat 38)) (.t (K.ofNat 45)) (.c (.b false))⟩]
noncomputable def f79_r8 : List EOper := [⟨(some (K.ofNat 47)), none, .mv (.t (K.ofNat 8))⟩, ⟨(some (K.ofNat 48)), none, .bin .add (.t (K.ofNat 47)) (.c (.i .i64 (.ofNat 1)))⟩, ⟨(some (K.ofNat 8)), none, .as (.t (K.ofNat 48))⟩]
noncomputable def f79_r9 : List EOper := [⟨(some (K.ofNat 49)), none, .bin .add (.t (K.ofNat 15)) (.c (.i .i64 (.ofNat 1)))⟩, ⟨(some (K.ofNat 15)), none, .mv (.t (K.ofNat 49))⟩]
noncomputable def f79_l0 : EC := (.seq (.reg f79_r3) (.seq (.cond (.t (K.ofNat 16)) .skip (.exit 0)) (.seq (.block 1 (.seq (.reg f79_r4) (.seq (.reg f79_r5) (.seq (.reg f79_r6) (.seq (.reg f79_r7) (.cond (.t (K.ofNat 46)) (.reg f79_r8) .skip)))))) (.reg f79_r9))))
noncomputable def f79_r10 : List EOper := [⟨(some (K.ofNat 50)), none, .mv (.t (K.ofNat 8))⟩, ⟨(some (K.ofNat 7)), none, .as (.t (K.ofNat 50))⟩]
noncomputable def f79_c : EC := (.seq (.reg f79_r0) (.seq (.reg f79_r1) (.seq (.seq (.reg f79_r2) (.block 0 (.loop f79_l0))) (.seq (.reg f79_r10) .ret))))
noncomputable def f79 : EF := ⟨51, [.tmp (K.ofNat 7)], f79_c, none⟩
noncomputable def f54_r0 : List EOper := [⟨(some (K.ofNat 2)), none, .box 1 (.t (K.ofNat 0))⟩, ⟨(some (K.ofNat 3)), none, .box 1 (.t (K.ofNat 1))⟩, ⟨(some (K.ofNat 4)), none, .as (.c .sn)⟩]
noncomputable def f54_r1 : List EOper := [⟨(some (K.ofNat 10)), none, .ld (.t (K.ofNat 2))⟩, ⟨(some (K.ofNat 11)), none, .call (.c (.fn (K.ofNat 78) [])) [(.t (K.ofNat 10))]⟩, ⟨(some (K.ofNat 5)), none, .alloc 1 [.mn]⟩, ⟨none, none, .st 1 (.t (K.ofNat 5)) (.t (K.ofNat 11))⟩]
noncomputable def f54_r2 : List EOper := [⟨(some (K.ofNat 12)), none, .mkfn (K.ofNat 79) [(.t (K.ofNat 3)), (.t (K.ofNat 5)), (.t (K.ofNat 2))]⟩, ⟨(some (K.ofNat 6)), none, .as (.t (K.ofNat 12))⟩]
noncomputable def f54_r3 : List EOper := [⟨(some (K.ofNat 13)), none, .ld (.t (K.ofNat 3))⟩, ⟨(some (K.ofNat 14)), none, .mkslice 1 [.sn] (.t (K.ofNat 13))⟩, ⟨(some (K.ofNat 7)), none, .as (.t (K.ofNat 14))⟩]
noncomputable def f54_r4 : List EOper := [⟨(some (K.ofNat 15)), none, .ld (.t (K.ofNat 3))⟩, ⟨(some (K.ofNat 16)), none, .mv (.c (.i .i64 (.ofNat 0)))⟩]
noncomputable def f54_r5 : List EOper := [⟨(some (K.ofNat 17)), none, .bin .lss (.t (K.ofNat 16)) (.t (K.ofNat 15))⟩]
noncomputable def f54_r6 : List EOper := [⟨(some (K.ofNat 18)), none, .mv (.t (K.ofNat 16))⟩, ⟨(some (K.ofNat 8)), none, .as (.t (K.ofNat 18))⟩]
noncomputable def f54_r7 : List EOper := [⟨(some (K.ofNat 19)), none, .ld (.t (K.ofNat 3))⟩, ⟨(some (K.ofNat 20)), none, .mv (.c (.i .i64 (.ofNat 0)))⟩]
noncomputable def f54_r8 : List EOper := [⟨(some (K.ofNat 21)), none, .bin .lss (.t (K.ofNat 20)) (.t (K.ofNat 19))⟩]
noncomputable def f54_r9 : List EOper := [⟨(some (K.ofNat 22)), none, .mv (.t (K.ofNat 20))⟩, ⟨(some (K.ofNat 9)), none, .as (.t (K.ofNat 22))⟩]
noncomputable def f54_r10 : List Stage := [⟨[⟨(some (K.ofNat 23)), none, .mv (.t (K.ofNat 7))⟩, ⟨(some (K.ofNat 24)), none, .mv (.t (K.ofNat 8))⟩, ⟨(some (K.ofNat 25)), none, .mv (.t (K.ofNat 7))⟩, ⟨(some (K.ofNat 26)), none, .mv (.t (K.ofNat 8))⟩, ⟨(some (K.ofNat 27)), none, .iads 1 (.t (K.ofNat 25)) (.t (K.ofNat 26))⟩, ⟨(some (K.ofNat 28)), none, .ld (.t (K.ofNat 27))⟩, ⟨(some (K.ofNat 29)), none, .mv (.t (K.ofNat 6))⟩, ⟨(some (K.ofNat 30)), none, .mv (.t (K.ofNat 8))⟩, ⟨(some (K.ofNat 31)), none, .mv (.t (K.ofNat 9))⟩], [], (some ⟨(some (K.ofNat 32)), none, .call (.t (K.ofNat 29)) [(.t (K.ofNat 30)), (.t (K.ofNat 31))]⟩), []⟩, ⟨[⟨(some (K.ofNat 33)), none, .bslice 1 1 [(.i .i64 (.ofNat 0))] [(0, 1, (.t (K.ofNat 32)))]⟩], [⟨(some (K.ofNat 23)), none, .mv (.t (K.ofNat 7))⟩, ⟨(some (K.ofNat 24)), none, .mv (.t (K.ofNat 8))⟩, ⟨(some (K.ofNat 25)), none, .mv (.t (K.ofNat 7))⟩, ⟨(some (K.ofNat 26)), none, .mv (.t (K.ofNat 8))⟩, ⟨(some (K.ofNat 27)), none, .iads 1 (.t (K.ofNat 25)) (.t (K.ofNat 26))⟩, ⟨(some (K.ofNat 28)), none, .ld (.t (K.ofNat 27))⟩], (some ⟨(some (K.ofNat 34)), none, .app 1 (.t (K.ofNat 28)) (.t (K.ofNat 33))⟩), [(K.ofNat 33)]⟩, ⟨[⟨(some (K.ofNat 35)), none, .iads 1 (.t (K.ofNat 23)) (.t (K.ofNat 24))⟩], [⟨(some (K.ofNat 23)), none, .mv (.t (K.ofNat 7))⟩, ⟨(some (K.ofNat 24)), none, .mv (.t (K.ofNat 8))⟩], (some ⟨none, none, .st 1 (.t (K.ofNat 35)) (.t (K.ofNat 34))⟩), []⟩, ⟨[], [], none, []⟩]
noncomputable def f54_r11 : List EOper := [⟨(some (K.ofNat 36)), none, .bin .add (.t (K.ofNat 20)) (.c (.i .i64 (.ofNat 1)))⟩, ⟨(some (K.ofNat 20)), none, .mv (.t (K.ofNat 36))⟩]
noncomputable def f54_l0 : EC := (.seq (.reg f54_r8) (.seq (.cond (.t (K.ofNat 21)) .skip (.exit 2)) (.seq (.block 3 (.seq (.reg f54_r9) (.draw f54_r10))) (.reg f54_r11))))
noncomputable def f54_r12 : List EOper := [⟨(some (K.ofNat 37)), none, .bin .add (.t (K.ofNat 16)) (.c (.i .i64 (.ofNat 1)))⟩, ⟨(some (K.ofNat 16)), none, .mv (.t (K.ofNat 37))⟩]
noncomputable def f54_l1 : EC := (.seq (.reg f54_r5) (.seq (.cond (.t (K.ofNat 17)) .skip (.exit 0)) (.seq (.block 1 (.seq (.reg f54_r6) (.seq (.reg f54_r7) (.block 2 (.loop f54_l0))))) (.reg f54_r12))))
noncomputable def f54_r13 : List EOper := [⟨(some (K.ofNat 38)), none, .mv (.t (K.ofNat 7))⟩, ⟨(some (K.ofNat 4)), none, .as (.t (K.ofNat 38))⟩]
noncomputable def f54_c : EC := (.seq (.reg f54_r0) (.seq (.reg f54_r1) (.seq (.reg f54_r2) (.seq (.reg f54_r3) (.seq (.seq (.reg f54_r4) (.block 0 (.loop f54_l1))) (.seq (.reg f54_r13) .ret))))))
noncomputable def f54 : EF := ⟨39, [.tmp (K.ofNat 4)], f54_c, none⟩
section
variable {fs : T EF} {h : H} {f : Int × Int → Option Int} {L n : Nat} {idn idw ids : K}
structure CallsF5 (fs : T EF) : Prop where
  c78 : fs.get (K.ofNat 78) = some f78
  c79 : fs.get (K.ofNat 79) = some f79
  c84 : fs.get (K.ofNat 84) = some f84
end
end Go.Ev
namespace Go.Ev
open Go Go.RowKit
theorem op_mem {t : Int} : ∀ {l : List (Int × Int)}, t ∈ plL l → (t, opF l t) ∈ l ∨ (opF l t, t) ∈ l
  | [], h => by simp [plL] at h
  | e :: l, h => by
    unfold opF
    by_cases h1 : t = e.1
    · rw [if_pos h1]; left; rw [h1]; simp
    · rw [if_neg h1]
      by_cases h2 : t = e.2
      · rw [if_pos h2]; right; rw [h2]; simp
      · rw [if_neg h2]
        have : t ∈ plL l := by
          have h : t ∈ e.1 :: e.2 :: plL l := h
          rcases List.mem_cons.1 h with h | h
          · exact absurd h h1
          · rcases List.mem_cons.1 h with h | h
            · exact absurd h h2
            · exact h
        rcases op_mem this with h | h
        · exact .inl (List.mem_cons_of_mem _ h)
        · exact .inr (List.mem_cons_of_mem _ h)
theorem pl_mem {l : List (Int × Int)} {e : Int × Int} (h : e ∈ l) : e.1 ∈ plL l ∧ e.2 ∈ plL l :=
  ⟨List.mem_flatMap.2 ⟨e, h, by simp⟩, List.mem_flatMap.2 ⟨e, h, by simp⟩⟩
theorem op_of {a b : Int} : ∀ {l : List (Int × Int)}, (plL l).Nodup → (a, b) ∈ l ∨ (b, a) ∈ l → opF l a = b
  | [], _, h => by simp at h
  | e :: l, hn, h => by
    have hn : (e.1 :: e.2 :: plL l).Nodup := hn
    obtain ⟨n1, n2⟩ := List.nodup_cons.1 hn
    obtain ⟨n3, n4⟩ := List.nodup_cons.1 n2
    have ne : e.1 ≠ e.2 := fun q => n1 (by rw [q]; simp)
    unfold opF
    have tail : (a, b) ∈ l ∨ (b, a) ∈ l → (if a = e.1 then e.2 else if a = e.2 then e.1 else opF l a) = b := fun h => by
      have ha : a ∈ plL l := by rcases h with h | h; exact (pl_mem h).1; exact (pl_mem h).2
      rw [if_neg (fun q => n1 (by rw [← q]; exact List.mem_cons_of_mem _ ha)), if_neg (fun q => n3 (by rw [← q]; exact ha))]
      exact op_of n4 h
    rcases h with h | h
    · rcases List.mem_cons.1 h with h | h
      · rw [← h, if_pos rfl]
      · exact tail (.inl h)
    · rcases List.mem_cons.1 h with h | h
      · rw [← h] at ne ⊢
        rw [if_neg (fun q => ne q.symm), if_pos rfl]
      · exact tail (.inr h)
section
variable {Q : List (List (Int × Int))} {n : Nat}
theorem getD_at {α : Type} {l : List α} {i : Nat} {d : α} (h : i < l.length) : l.getD i d = l[i] := by
  rw [List.getD_eq_getElem?_getD, List.getElem?_eq_getElem h]; rfl
end
end Go.Ev
