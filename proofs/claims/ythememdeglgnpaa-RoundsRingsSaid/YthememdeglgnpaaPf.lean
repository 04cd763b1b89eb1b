/-
  Rounds: Home of the reference.
  Rounds: Homes, of the program and of the reference.
  Rounds: opponents, of the program and of the reference.
  Rounds: how many teams a set has; sums.
  Rounds: breaks, of the program.
  Rounds: breaks, of the reference.
  Rounds: names, and the same schedules, for the reference.
  Rounds: a slice of slices, filled row by row.
  Rounds: lists; schedules with other names, of the program.
  Rounds: schedules with other names, of the program.
  Rounds: Renamed, of the program.
  Rounds: the law RoundsHomes.
  Slices of slices whose elements take one cell each: read, filled row by row, gathered.
  Maps whose keys are pairs and whose values are numbers.
  Rounds: when each game is, of the program.
  Rounds: the follow numbers, of the program.
  Rounds: the follow numbers, counted by rounds.
  Rounds: whether a schedule is balanced; follow numbers of the reference.
  Rounds: the follow numbers of the reference.
  Rounds: rings.
  slices.Sort of few numbers.
  Rounds: rings, of the program.
-/
import Derived.Test.YthememdeglgnpaaPd
import Derived.Test.YthememdeglgnpaaPe
namespace Go.Ev
open Go Go.RowKit
noncomputable def f64_r0 : List EOper := [⟨(some (K.ofNat 4)), none, .as (.c (.b false))⟩, ⟨(some (K.ofNat 5)), none, .as (.c (.i .i64 (.ofNat 0)))⟩]
noncomputable def f64_r1 : List EOper := [⟨(some (K.ofNat 6)), none, .as (.c (.i .i64 (.ofNat 0)))⟩]
noncomputable def f64_r2 : List EOper := [⟨(some (K.ofNat 7)), none, .mv (.t (K.ofNat 6))⟩, ⟨(some (K.ofNat 8)), none, .mv (.t (K.ofNat 0))⟩, ⟨(some (K.ofNat 9)), none, .len (.t (K.ofNat 8))⟩, ⟨(some (K.ofNat 10)), none, .bin .lss (.t (K.ofNat 7)) (.t (K.ofNat 9))⟩]
noncomputable def f64_r3 : List EOper := [⟨(some (K.ofNat 13)), none, .mv (.t (K.ofNat 0))⟩, ⟨(some (K.ofNat 14)), none, .mv (.t (K.ofNat 6))⟩, ⟨(some (K.ofNat 15)), none, .iads 2 (.t (K.ofNat 13)) (.t (K.ofNat 14))⟩, ⟨(some (K.ofNat 16)), none, .iadr 2 1 (.t (K.ofNat 15)) (.c (.i .i64 (.ofNat 0)))⟩, ⟨(some (K.ofNat 17)), none, .ld (.t (K.ofNat 16))⟩, ⟨(some (K.ofNat 18)), none, .mv (.t (K.ofNat 1))⟩, ⟨(some (K.ofNat 19)), none, .bin .eql (.t (K.ofNat 17)) (.t (K.ofNat 18))⟩]
noncomputable def f64_r4 : List Stage := [⟨[⟨(some (K.ofNat 20)), none, .mv (.t (K.ofNat 0))⟩, ⟨(some (K.ofNat 21)), none, .mv (.t (K.ofNat 6))⟩, ⟨(some (K.ofNat 22)), none, .iads 2 (.t (K.ofNat 20)) (.t (K.ofNat 21))⟩, ⟨(some (K.ofNat 23)), none, .iadr 2 1 (.t (K.ofNat 22)) (.c (.i .i64 (.ofNat 1)))⟩, ⟨(some (K.ofNat 24)), none, .ld (.t (K.ofNat 23))⟩], [], (some ⟨(some (K.ofNat 4)), none, .as (.c (.b true))⟩), []⟩, ⟨[], [⟨(some (K.ofNat 20)), none, .mv (.t (K.ofNat 0))⟩, ⟨(some (K.ofNat 21)), none, .mv (.t (K.ofNat 6))⟩, ⟨(some (K.ofNat 22)), none, .iads 2 (.t (K.ofNat 20)) (.t (K.ofNat 21))⟩, ⟨(some (K.ofNat 23)), none, .iadr 2 1 (.t (K.ofNat 22)) (.c (.i .i64 (.ofNat 1)))⟩, ⟨(some (K.ofNat 24)), none, .ld (.t (K.ofNat 23))⟩], (some ⟨(some (K.ofNat 5)), none, .as (.t (K.ofNat 24))⟩), []⟩, ⟨[], [], none, []⟩]
noncomputable def f64_r5 : List EOper := [⟨(some (K.ofNat 25)), none, .mv (.t (K.ofNat 0))⟩, ⟨(some (K.ofNat 26)), none, .mv (.t (K.ofNat 6))⟩, ⟨(some (K.ofNat 27)), none, .iads 2 (.t (K.ofNat 25)) (.t (K.ofNat 26))⟩, ⟨(some (K.ofNat 28)), none, .iadr 2 1 (.t (K.ofNat 27)) (.c (.i .i64 (.ofNat 1)))⟩, ⟨(some (K.ofNat 29)), none, .ld (.t (K.ofNat 28))⟩, ⟨(some (K.ofNat 30)), none, .mv (.t (K.ofNat 1))⟩, ⟨(some (K.ofNat 31)), none, .bin .eql (.t (K.ofNat 29)) (.t (K.ofNat 30))⟩]
noncomputable def f64_r6 : List Stage := [⟨[⟨(some (K.ofNat 32)), none, .mv (.t (K.ofNat 0))⟩, ⟨(some (K.ofNat 33)), none, .mv (.t (K.ofNat 6))⟩, ⟨(some (K.ofNat 34)), none, .iads 2 (.t (K.ofNat 32)) (.t (K.ofNat 33))⟩, ⟨(some (K.ofNat 35)), none, .iadr 2 1 (.t (K.ofNat 34)) (.c (.i .i64 (.ofNat 0)))⟩, ⟨(some (K.ofNat 36)), none, .ld (.t (K.ofNat 35))⟩], [], (some ⟨(some (K.ofNat 4)), none, .as (.c (.b false))⟩), []⟩, ⟨[], [⟨(some (K.ofNat 32)), none, .mv (.t (K.ofNat 0))⟩, ⟨(some (K.ofNat 33)), none, .mv (.t (K.ofNat 6))⟩, ⟨(some (K.ofNat 34)), none, .iads 2 (.t (K.ofNat 32)) (.t (K.ofNat 33))⟩, ⟨(some (K.ofNat 35)), none, .iadr 2 1 (.t (K.ofNat 34)) (.c (.i .i64 (.ofNat 0)))⟩, ⟨(some (K.ofNat 36)), none, .ld (.t (K.ofNat 35))⟩], (some ⟨(some (K.ofNat 5)), none, .as (.t (K.ofNat 36))⟩), []⟩, ⟨[], [], none, []⟩]
noncomputable def f64_r7 : List EOper := [⟨(some (K.ofNat 11)), none, .mv (.t (K.ofNat 6))⟩, ⟨(some (K.ofNat 12)), none, .bin .add (.t (K.ofNat 11)) (.c (.i .i64 (.ofNat 1)))⟩, ⟨(some (K.ofNat 6)), none, .as (.t (K.ofNat 12))⟩]
noncomputable def f64_l0 : EC := (.seq (.seq (.reg f64_r2) (.cond (.t (K.ofNat 10)) .skip (.exit 0))) (.seq (.block 1 (.seq (.seq (.reg f64_r3) (.cond (.t (K.ofNat 19)) (.seq (.draw f64_r4) .ret) .skip)) (.seq (.reg f64_r5) (.cond (.t (K.ofNat 31)) (.seq (.draw f64_r6) .ret) .skip)))) (.reg f64_r7)))
noncomputable def f64_r8 : List EOper := [⟨(some (K.ofNat 4)), none, .as (.c (.b false))⟩, ⟨(some (K.ofNat 5)), none, .as (.c (.i .i64 (.negSucc 0)))⟩]
noncomputable def f64_c : EC := (.seq (.reg f64_r0) (.seq (.seq (.reg f64_r1) (.block 0 (.loop f64_l0))) (.seq (.reg f64_r8) .ret)))
noncomputable def f64 : EF := ⟨37, [.tmp (K.ofNat 4), .tmp (K.ofNat 5)], f64_c, none⟩
theorem f64_rs : f64.rs = [.tmp (K.ofNat 4), .tmp (K.ofNat 5)] := of_eq_true (eq_self _)
/-- Whether a team is at home, and with whom it plays. -/
def homeP : List (Int × Int) → Int → Bool × Int
  | [], _ => (false, -1)
  | x :: L, t => if x.1 = t then (true, x.2) else if x.2 = t then (false, x.1) else homeP L t
theorem homeP_drop {L : List (Int × Int)} {t : Int} {i : Nat} (hi : i < L.length) : homeP (L.drop i) t = if L[i].1 = t then (true, L[i].2) else if L[i].2 = t then (false, L[i].1) else homeP (L.drop (i + 1)) t := by
  rw [List.drop_eq_getElem_cons hi]; rfl
section
variable {fs : T EF} {ro : Option K}
def f64_I (h : H) (v : V) (L : List (Int × Int)) (t : Int) (i : Nat) (fr : Fr) (h1 : H) : Prop := h1 = h ∧ i ≤ L.length ∧ homeP (L.drop i) t = homeP L t ∧ fr.get (K.ofNat 0) = some (v) ∧ fr.get (K.ofNat 1) = some (.i .i64 t) ∧ fr.get (K.ofNat 6) = some (.i .i64 (i : Int))
theorem f64_ret {h : H} {v : V} {L : List (Int × Int)} {t : Int} (hv : Srp h v L) (hL : L.length ≤ 1000000) : Ret fs f64 [v, .i .i64 t] h fun r h' => r = .tup [.b (homeP L t).1, .i .i64 (homeP L t).2] ∧ h' = h := by
  apply ret_of rfl
  show W fs none f64_c _ _ _
  unfold f64_c
  simp (disch := omega) only [f64_r0, f64_r1, w_reg, w_seq, w_block, seqK_n, x_nil, x_as, ev_c, putD_some, frame_2, of0]
  refine W_loop (f64_I h v L t) (fun i => L.length - i) ?_ 0 ⟨rfl, by omega, rfl, by simp (disch := omega) only [getK_set, Nat.reduceEqDiff, ↓reduceIte, and_self, Int.natCast_zero]⟩
  rintro i fr h1 ⟨rfl, hi, hh, g0, g1, g6⟩
  unfold f64_l0
  by_cases hlt : i < L.length
  · have d0 : decide ((i : Int) < (L.length : Int)) = true := by simpa using hlt
    obtain ⟨id, q, hp1, hp2, hp3, hp4⟩ := hv.at2 hlt
    rw [homeP_drop hlt] at hh
    by_cases e1 : L[i].1 = t
    · rw [if_pos e1] at hh
      have d1 : decide (L[i].1 = t) = true := by simpa using e1
      simp (disch := omega) only [f64_r2, f64_r3, f64_r4, f64_rs, w_skip, w_reg, w_draw, w_seq, w_cond, w_block, w_ret, seqK_n, seqK_r, atK_r, loopK_r, ckB_b, cbB_b, retK_r, x_nil, x_mv, x_as, x_ld, x_bin, x_iadr, x_iads, x_len, kx, kg, xg_nil, xg_mv, xg_ld, xg_iadr, xg_iads, xd_cons, fresh_nil, stK_n, stK_s, stay_nil, stay_cons, again_ok, stay_mv, beq_i, stay_iads, stay_ld, beq_p, rvP_ok, okv_some, ev_t, ev_c, getV_some, putD_some, bin_eql, bin_lss, onP_p, oGet_s, readRs_nil, readRs_t, retV_2, of0, of1, Option.some.injEq, exists_eq_left', getK_set, Nat.reduceEqDiff, ↓reduceIte, stay_iadr, ix2_0, ix2_1, g0, g1, g6, hv.len, d0, hp1, hp3, hp4, d1, ← hh, and_self, hv.beq]
    · rw [if_neg e1] at hh
      have d1 : decide (L[i].1 = t) = false := by simpa using e1
      by_cases e2 : L[i].2 = t
      · rw [if_pos e2] at hh
        have d2 : decide (L[i].2 = t) = true := by simpa using e2
        simp (disch := omega) only [f64_r2, f64_r3, f64_r5, f64_r6, f64_rs, w_skip, w_reg, w_draw, w_seq, w_cond, w_block, w_ret, seqK_n, seqK_r, atK_r, loopK_r, ckB_b, cbB_b, retK_r, x_nil, x_mv, x_as, x_ld, x_bin, x_iadr, x_iads, x_len, kx, kg, xg_nil, xg_mv, xg_ld, xg_iadr, xg_iads, xd_cons, fresh_nil, stK_n, stK_s, stay_nil, stay_cons, again_ok, stay_mv, beq_i, stay_iads, stay_ld, beq_p, rvP_ok, okv_some, ev_t, ev_c, getV_some, putD_some, bin_eql, bin_lss, onP_p, oGet_s, readRs_nil, readRs_t, retV_2, of0, of1, Option.some.injEq, exists_eq_left', getK_set, Nat.reduceEqDiff, ↓reduceIte, Bool.false_eq_true, stay_iadr, ix2_0, ix2_1, g0, g1, g6, hv.len, d0, hp1, hp3, hp4, d1, d2, ← hh, and_self, hv.beq]
      · rw [if_neg e2] at hh
        have d2 : decide (L[i].2 = t) = false := by simpa using e2
        simp (disch := omega) only [f64_r2, f64_r3, f64_r5, f64_r7, w_skip, w_reg, w_seq, w_cond, w_block, seqK_n, atK_n, loopK_n, ckB_b, cbB_b, true_and, x_nil, x_mv, x_as, x_ld, x_bin, x_iadr, x_iads, x_len, kx, rvP_ok, okv_some, ev_t, ev_c, getV_some, putD_some, bin_add, bin_eql, bin_lss, onP_p, of0, of1, getK_set, Nat.reduceEqDiff, ↓reduceIte, Bool.false_eq_true, ix2_0, ix2_1, g0, g1, g6, hv.len, d0, hp1, hp3, hp4, d1, d2, fw64]
        exact ⟨i + 1, by omega, rfl, by omega, hh, by simp (disch := omega) only [getK_set, Nat.reduceEqDiff, ↓reduceIte, g0, g1, and_self, Int.natCast_add, Int.natCast_one]⟩
  · have d0 : decide ((i : Int) < (L.length : Int)) = false := by simpa using hlt
    have : homeP L t = (false, -1) := by rw [← hh, List.drop_of_length_le (by omega)]; rfl
    simp (disch := omega) only [f64_r2, f64_r8, f64_rs, w_reg, w_seq, w_cond, w_exit, w_ret, seqK_n, seqK_e, atK_e, loopK_e, ckB_b, cbB_b, true_and, retK_r, x_nil, x_mv, x_as, x_bin, x_len, kx, rvP_ok, okv_some, ev_t, ev_c, getV_some, putD_some, bin_lss, oGet_s, readRs_nil, readRs_t, retV_2, Option.some.injEq, exists_eq_left', getK_set, Nat.reduceEqDiff, ↓reduceIte, Bool.false_eq_true, g0, g6, hv.len, d0, this]
    exact ⟨rfl, trivial⟩
end
/-! ### As what the evaluator takes in place of its code -/
noncomputable def pairsI (n : Nat) : List V → Option (List (Int × Int)) := Nat.rec (fun _ => some []) (fun _ ih l => List.rec none (fun x l _ => List.rec none (fun y l _ => x.onI none fun k a => y.onI none fun k' b => bif k == .i64 && k' == .i64 then oGet (ih l) none fun L => some ((a, b) :: L) else none) l) l) n
theorem pairsI_spec : ∀ {n : Nat} {l : List V} {L : List (Int × Int)}, pairsI n l = some L → l.take (n * 2) = L.flatMap qE ∧ L.length = n ∧ n * 2 ≤ l.length
  | 0, l, L, h => by cases h; simp
  | n + 1, l, L, h => by
    match l, h with
    | x :: y :: l, h =>
      have h : (x.onI none fun k a => y.onI none fun k' b => bif k == .i64 && k' == .i64 then oGet (pairsI n l) none fun L => some ((a, b) :: L) else none) = some L := h
      obtain ⟨k, a, e1, h⟩ := V.onIo_ok (x := x) h
      obtain ⟨k', b, e2, h⟩ := V.onIo_ok (x := y) h
      subst e1 e2
      obtain ⟨hk, h⟩ := cond_ok (by simp) h
      obtain ⟨M, hM, h⟩ := oGet_some (by simp) h
      cases h
      simp only [Bool.and_eq_true, beq_iff_eq] at hk
      obtain ⟨rfl, rfl⟩ := hk
      obtain ⟨h1, h2, h3⟩ := pairsI_spec hM
      refine ⟨?_, by simp [h2], by simp; omega⟩
      rw [show (n + 1) * 2 = n * 2 + 1 + 1 by omega, List.take_succ_cons, List.take_succ_cons, h1]; rfl
/-- The pairs of a slice. -/
noncomputable def listP (h : H) (v : V) : Option (List (Int × Int)) := v.onSl0 none (some []) fun id off n sz => bif Nat.beq sz 2 && Nat.ble n 1000000 then ((h.get id).onC none fun m cs => bif Nat.beq (lenL cs) m && Nat.ble (off + n * 2) m then pairsI n (dropN off cs) else none) else none
theorem listP_spec {h : H} {v : V} {L : List (Int × Int)} (hl : listP h v = some L) : Srp h v L ∧ L.length ≤ 1000000 := by
  unfold listP at hl
  rcases V.onSl0_ok (by simp) hl with ⟨hv, hl⟩ | ⟨id, off, n, sz, hv, hl⟩
  · cases hl; exact ⟨.inl ⟨hv, rfl, rfl⟩, by simp⟩
  · obtain ⟨hc, hl1⟩ := cond_ok (by simp) hl
    rw [Bool.and_eq_true] at hc
    have hsz := Nat.eq_of_beq_eq_true hc.1
    subst hsz
    obtain ⟨m, cs, hb, hl2⟩ := Blk.onC_ok (by simp) hl1
    obtain ⟨hm, hl3⟩ := cond_ok (by simp) hl2
    rw [Bool.and_eq_true] at hm
    have hle := Nat.le_of_ble_eq_true hm.2
    have hm1 : cs.length = m := by rw [← lenL_eq]; exact Nat.eq_of_beq_eq_true hm.1
    clear hm
    obtain ⟨p1, p2, p3⟩ := pairsI_spec hl3
    rw [dropN_eq] at p1 p3
    subst p2
    refine ⟨.inr ⟨id, off, m, cs, hv, hb, hm1, hle, p1⟩, Nat.le_of_ble_eq_true hc.2⟩
noncomputable def homeK (L : List (Int × Int)) (t : Int) : V := List.rec (.tup [.b false, .i .i64 (-1)]) (fun x _ ih => bif ieq x.1 t then .tup [.b true, .i .i64 x.2] else bif ieq x.2 t then .tup [.b false, .i .i64 x.1] else ih) L
theorem homeK_eq : ∀ (L : List (Int × Int)) (t : Int), homeK L t = .tup [.b (homeP L t).1, .i .i64 (homeP L t).2]
  | [], t => rfl
  | x :: L, t => by
    show (bif ieq x.1 t then V.tup [.b true, .i .i64 x.2] else bif ieq x.2 t then .tup [.b false, .i .i64 x.1] else homeK L t) = _
    have e : homeP (x :: L) t = if x.1 = t then (true, x.2) else if x.2 = t then (false, x.1) else homeP L t := rfl
    rw [homeK_eq L t, ieq_eq, ieq_eq, e]
    by_cases h1 : x.1 = t
    · rw [if_pos h1, show (x.1 == t) = true by simpa using h1]; rfl
    · rw [if_neg h1, show (x.1 == t) = false by simpa using h1]
      by_cases h2 : x.2 = t
      · rw [if_pos h2, show (x.2 == t) = true by simpa using h2]; rfl
      · rw [if_neg h2, show (x.2 == t) = false by simpa using h2]; rfl
noncomputable def homeG (args : List V) (h : H) : Option (V × H) := match args with
  | [x, .i .i64 t] => oGet (listP h x) none fun L => some (homeK L t, h)
  | _ => none
theorem homeG_does {Y : Rig} {fs : T EF} (hfs : Fns Y fs) {k : K} (hf : f64.nv = none ∧ ∃ fn c, FnOk Y k f64 fn c) : ∀ args h v h', homeG args h = some (v, h') → Does Y k args h v h' := by
  intro args h v h' he
  unfold homeG at he
  split at he
  · obtain ⟨L, h1, he⟩ := oGet_some (by simp) he
    cases he
    obtain ⟨s1, s2⟩ := listP_spec h1
    obtain ⟨n, r, h2, hr, rfl, rfl⟩ := f64_ret (fs := fs) (t := ‹Int›) s1 s2
    rw [homeK_eq]
    exact does_of_run hfs hf hr
  · cases he
end Go.Ev
namespace Go.Ev
open Go Go.RowKit
theorem hm_pl {l : List (Int × Int)} {t : Int} (h : t ∈ hmL l) : t ∈ plL l := by
  obtain ⟨e, he, rfl⟩ := List.mem_map.1 h
  exact (pl_sub he).subset (by simp)
/-- Home tells what the program's methods tell. -/
theorem homeP_nd {t : Int} : ∀ {l : List (Int × Int)}, (plL l).Nodup → (homeP l t).1 = decide (t ∈ hmL l) ∧ (t ∈ plL l → (homeP l t).2 = opF l t)
  | [], _ => ⟨rfl, fun h => absurd h (by simp [plL])⟩
  | x :: l, hn => by
    have hn : (x.1 :: x.2 :: plL l).Nodup := hn
    rw [List.nodup_cons, List.nodup_cons] at hn
    obtain ⟨n1, n2, n3⟩ := hn
    have ih := homeP_nd (t := t) n3
    have eh : homeP (x :: l) t = if x.1 = t then (true, x.2) else if x.2 = t then (false, x.1) else homeP l t := rfl
    have eo : opF (x :: l) t = if t = x.1 then x.2 else if t = x.2 then x.1 else opF l t := rfl
    have em : (t ∈ hmL (x :: l)) ↔ t = x.1 ∨ t ∈ hmL l := by show t ∈ x.1 :: hmL l ↔ _; rw [List.mem_cons]
    have ep : (t ∈ plL (x :: l)) ↔ t = x.1 ∨ t = x.2 ∨ t ∈ plL l := by show t ∈ x.1 :: x.2 :: plL l ↔ _; rw [List.mem_cons, List.mem_cons]
    rw [eh, eo]
    by_cases h1 : x.1 = t
    · rw [if_pos h1, if_pos h1.symm]
      exact ⟨(decide_eq_true (em.2 (.inl h1.symm))).symm, fun _ => rfl⟩
    · rw [if_neg h1, if_neg (Ne.symm h1)]
      by_cases h2 : x.2 = t
      · rw [if_pos h2, if_pos h2.symm]
        refine ⟨(decide_eq_false fun h => ?_).symm, fun _ => rfl⟩
        rcases em.1 h with h | h
        · exact h1 h.symm
        · exact n2 (h2 ▸ hm_pl h)
      · rw [if_neg h2, if_neg (Ne.symm h2)]
        refine ⟨?_, fun h => ?_⟩
        · rw [ih.1]
          congr 1
          apply propext
          rw [em]
          exact ⟨.inr, fun h => h.resolve_left (Ne.symm h1)⟩
        · rcases ep.1 h with h | h | h
          · exact absurd h.symm h1
          · exact absurd h.symm h2
          · exact ih.2 h
theorem rnd_nd {n : Nat} {l : List (Int × Int)} (h : rndB n l = true) : (plL l).Nodup := by
  unfold rndB aaB at h
  simp only [Bool.and_eq_true, decide_eq_true_iff] at h
  exact h.2.2.2
section
variable {fs : T EF} {h : H} {v : V} {us : List V} {Ls : List (List (Int × Int))}
theorem Vld.few {n : Nat} (hv : Vld n Ls) (hn : n ≤ 16) (hl : Ls.length ≤ 100) : Few Ls := ⟨hl, fun l hll => by
  have h1 := hv.rnd l hll
  have h2 := rnd_e h1
  unfold rndB at h1
  rw [Bool.and_eq_true, decide_eq_true_iff] at h1
  exact ⟨by omega, fun e he => by have := h2 e he; omega⟩⟩
theorem sh_vld {n : Nat} (h : shB n Ls = true) : Vld n Ls ∧ Ls.length = n - 1 := by
  unfold shB bgB at h
  simp only [Bool.and_eq_true, decide_eq_true_iff] at h
  exact ⟨⟨fun l hl => List.all_eq_true.1 h.1.2.1 l hl, h.1.2.2⟩, h.2⟩
end
end Go.Ev
namespace Go.Ev
open Go Go.RowKit
noncomputable def f28_r0 : List EOper := [⟨(some (K.ofNat 4)), none, .as (.c (.b false))⟩]
noncomputable def f28_r1 : List EOper := [⟨(some (K.ofNat 6)), none, .mv (.t (K.ofNat 0))⟩, ⟨(some (K.ofNat 7)), none, .len (.t (K.ofNat 6))⟩, ⟨(some (K.ofNat 8)), none, .mv (.t (K.ofNat 1))⟩, ⟨(some (K.ofNat 9)), none, .len (.t (K.ofNat 8))⟩, ⟨(some (K.ofNat 10)), none, .bin .neq (.t (K.ofNat 7)) (.t (K.ofNat 9))⟩]
noncomputable def f28_r2 : List EOper := [⟨(some (K.ofNat 4)), none, .as (.c (.b false))⟩]
noncomputable def f28_r3 : List EOper := [⟨(some (K.ofNat 5)), none, .as (.c (.i .i64 (.ofNat 0)))⟩]
noncomputable def f28_r4 : List EOper := [⟨(some (K.ofNat 11)), none, .mv (.t (K.ofNat 5))⟩, ⟨(some (K.ofNat 12)), none, .mv (.t (K.ofNat 0))⟩, ⟨(some (K.ofNat 13)), none, .len (.t (K.ofNat 12))⟩, ⟨(some (K.ofNat 14)), none, .bin .lss (.t (K.ofNat 11)) (.t (K.ofNat 13))⟩]
noncomputable def f28_r5 : List Stage := [⟨[⟨(some (K.ofNat 17)), none, .mv (.t (K.ofNat 0))⟩, ⟨(some (K.ofNat 18)), none, .mv (.t (K.ofNat 5))⟩, ⟨(some (K.ofNat 19)), none, .iads 1 (.t (K.ofNat 17)) (.t (K.ofNat 18))⟩, ⟨(some (K.ofNat 20)), none, .ld (.t (K.ofNat 19))⟩, ⟨(some (K.ofNat 21)), none, .mv (.t (K.ofNat 1))⟩, ⟨(some (K.ofNat 22)), none, .mv (.t (K.ofNat 5))⟩, ⟨(some (K.ofNat 23)), none, .iads 1 (.t (K.ofNat 21)) (.t (K.ofNat 22))⟩, ⟨(some (K.ofNat 24)), none, .ld (.t (K.ofNat 23))⟩, ⟨(some (K.ofNat 25)), none, .bin .neq (.t (K.ofNat 20)) (.t (K.ofNat 24))⟩], [], none, []⟩]
noncomputable def f28_r6 : List EOper := [⟨(some (K.ofNat 4)), none, .as (.c (.b false))⟩]
noncomputable def f28_r7 : List EOper := [⟨(some (K.ofNat 15)), none, .mv (.t (K.ofNat 5))⟩, ⟨(some (K.ofNat 16)), none, .bin .add (.t (K.ofNat 15)) (.c (.i .i64 (.ofNat 1)))⟩, ⟨(some (K.ofNat 5)), none, .as (.t (K.ofNat 16))⟩]
noncomputable def f28_l0 : EC := (.seq (.seq (.reg f28_r4) (.cond (.t (K.ofNat 14)) .skip (.exit 0))) (.seq (.block 1 (.seq (.draw f28_r5) (.cond (.t (K.ofNat 25)) (.seq (.reg f28_r6) .ret) .skip))) (.reg f28_r7)))
noncomputable def f28_r8 : List EOper := [⟨(some (K.ofNat 4)), none, .as (.c (.b true))⟩]
noncomputable def f28_c : EC := (.seq (.reg f28_r0) (.seq (.seq (.reg f28_r1) (.cond (.t (K.ofNat 10)) (.seq (.reg f28_r2) .ret) .skip)) (.seq (.seq (.reg f28_r3) (.block 0 (.loop f28_l0))) (.seq (.reg f28_r8) .ret))))
noncomputable def f28 : EF := ⟨26, [.tmp (K.ofNat 4)], f28_c, none⟩
theorem f28_rs : f28.rs = [.tmp (K.ofNat 4)] := of_eq_true (eq_self _)
theorem nodup_le {α : Type} [DecidableEq α] : ∀ {l m : List α}, l.Nodup → (∀ x ∈ l, x ∈ m) → l.length ≤ m.length
  | [], _, _, _ => Nat.zero_le _
  | x :: l, m, hn, hs => by
    rw [List.nodup_cons] at hn
    have hx : x ∈ m := hs x (by simp)
    have := nodup_le (l := l) (m := m.erase x) hn.2 fun y hy => (List.mem_erase_of_ne (fun e : y = x => hn.1 (e ▸ hy))).2 (hs y (by simp [hy]))
    rw [List.length_erase_of_mem hx] at this
    have : 0 < m.length := List.length_pos_of_mem hx
    rw [List.length_cons]; omega
/-- Each team plays in a round. -/
theorem rnd_all {n : Nat} {l : List (Int × Int)} (h : rndB n l = true) {t : Int} (ht : 0 ≤ t ∧ t < (n : Int)) : t ∈ plL l := by
  unfold rndB aaB at h
  simp only [Bool.and_eq_true, decide_eq_true_iff] at h
  obtain ⟨_, h1, h2, h3⟩ := h
  apply Classical.byContradiction
  intro hno
  have := nodup_le (l := t :: plL l) (m := (List.range n).map fun x : Nat => (x : Int)) (List.nodup_cons.2 ⟨hno, h3⟩) fun x hx => by
    have hx' : 0 ≤ x ∧ x < (n : Int) := by
      rcases List.mem_cons.1 hx with rfl | hx
      · exact ht
      · exact h2 x hx
    exact List.mem_map.2 ⟨x.toNat, by simp; omega, by omega⟩
  rw [List.length_cons, List.length_map, List.length_range] at this
  omega
section
variable {fs : T EF} {h : H} {v w : V} {us : List V} {Ls : List (List (Int × Int))} {L : List Int}
def f28_I (h : H) (v w : V) (L : List Int) (i : Nat) (fr : Fr) (h1 : H) : Prop := i ≤ L.length ∧ h1 = h ∧ fr.get (K.ofNat 0) = some (v) ∧ fr.get (K.ofNat 1) = some (w) ∧ fr.get (K.ofNat 5) = some (.i .i64 (i : Int))
theorem f28_same (hv : Sr iE h v L) (hw : Sr iE h w L) (hL : L.length ≤ 1000000) : Ret fs f28 [v, w] h fun r h' => r = .b true ∧ h' = h := by
  apply ret_of rfl
  show W fs none f28_c _ _ _
  unfold f28_c
  have hl1 := hv.len
  have hl2 := hw.len
  have d : decide ((L.length : Int) ≠ (L.length : Int)) = false := by simp
  simp (disch := omega) only [f28_r0, f28_r1, f28_r3, w_skip, w_reg, w_seq, w_cond, w_block, seqK_n, ckB_b, cbB_b, true_and, x_nil, x_mv, x_as, x_bin, x_len, kx, rvP_ok, okv_some, ev_t, ev_c, getV_some, putD_some, bin_neq, frame_2, of0, getK_set, Nat.reduceEqDiff, ↓reduceIte, Bool.false_eq_true, hl1, hl2, d]
  refine W_loop (f28_I h v w L) (fun i => L.length - i) ?_ 0 ⟨by omega, rfl, by simp (disch := omega) only [getK_set, Nat.reduceEqDiff, ↓reduceIte, and_self, Int.natCast_zero]⟩
  rintro i fr h1 ⟨hi, rfl, g0, g1, g5⟩
  unfold f28_l0
  by_cases hlt : i < L.length
  · have d0 : decide ((i : Int) < (L.length : Int)) = true := by simpa using hlt
    obtain ⟨p, hp1, hp2⟩ := hv.at i hlt
    obtain ⟨q, hq1, hq2⟩ := hw.at i hlt
    have d1 : decide (L[i] ≠ L[i]) = false := by simp
    simp (disch := omega) only [f28_r4, f28_r5, f28_r7, w_skip, w_reg, w_draw, w_seq, w_cond, w_block, seqK_n, atK_n, loopK_n, ckB_b, cbB_b, true_and, x_nil, x_mv, x_as, x_bin, x_len, kx, kg, xg_nil, xg_mv, xg_ld, xg_bin, xg_iads, xd_cons, fresh_nil, stK_n, stay_nil, rvP_ok, okv_some, ev_t, ev_c, getV_some, putD_some, bin_add, bin_neq, bin_lss, of1, getK_set, Nat.reduceEqDiff, ↓reduceIte, Bool.false_eq_true, g0, g1, g5, hl1, d0, hp1, hp2, hq1, hq2, iE, d1, fw64]
    exact ⟨i + 1, by omega, by omega, rfl, by simp (disch := omega) only [getK_set, Nat.reduceEqDiff, ↓reduceIte, g0, g1, and_self, Int.natCast_add, Int.natCast_one]⟩
  · have d0 : decide ((i : Int) < (L.length : Int)) = false := by simpa using hlt
    simp (disch := omega) only [f28_r4, f28_r8, f28_rs, w_reg, w_seq, w_cond, w_exit, w_ret, seqK_n, seqK_e, atK_e, loopK_e, ckB_b, cbB_b, retK_r, x_nil, x_mv, x_as, x_bin, x_len, kx, rvP_ok, okv_some, ev_t, ev_c, getV_some, putD_some, bin_lss, oGet_s, readRs_nil, readRs_t, retV_1, Option.some.injEq, exists_eq_left', getK_set, Nat.reduceEqDiff, ↓reduceIte, Bool.false_eq_true, g0, g5, hl1, d0, and_self]
end
end Go.Ev
namespace Go.Ev
open Go Go.RowKit
noncomputable def f92_r0 : List EOper := [⟨(some (K.ofNat 2)), none, .as (.c (.i .i64 (.ofNat 0)))⟩]
noncomputable def f92_r1 : List Stage := [⟨[⟨(some (K.ofNat 3)), none, .mv (.t (K.ofNat 0))⟩, ⟨(some (K.ofNat 4)), none, .bin .shr (.t (K.ofNat 3)) (.c (.i .u64 (.ofNat 8)))⟩, ⟨(some (K.ofNat 5)), none, .pr .sidx (.c (.s ⟨#[0, 1, 1, 2, 1, 2, 2, 3, 1, 2, 2, 3, 2, 3, 3, 4, 1, 2, 2, 3, 2, 3, 3, 4, 2, 3, 3, 4, 3, 4, 4, 5, 1, 2, 2, 3, 2, 3, 3, 4, 2, 3, 3, 4, 3, 4, 4, 5, 2, 3, 3, 4, 3, 4, 4, 5, 3, 4, 4, 5, 4, 5, 5, 6, 1, 2, 2, 3, 2, 3, 3, 4, 2, 3, 3, 4, 3, 4, 4, 5, 2, 3, 3, 4, 3, 4, 4, 5, 3, 4, 4, 5, 4, 5, 5, 6, 2, 3, 3, 4, 3, 4, 4, 5, 3, 4, 4, 5, 4, 5, 5, 6, 3, 4, 4, 5, 4, 5, 5, 6, 4, 5, 5, 6, 5, 6, 6, 7, 1, 2, 2, 3, 2, 3, 3, 4, 2, 3, 3, 4, 3, 4, 4, 5, 2, 3, 3, 4, 3, 4, 4, 5, 3, 4, 4, 5, 4, 5, 5, 6, 2, 3, 3, 4, 3, 4, 4, 5, 3, 4, 4, 5, 4, 5, 5, 6, 3, 4, 4, 5, 4, 5, 5, 6, 4, 5, 5, 6, 5, 6, 6, 7, 2, 3, 3, 4, 3, 4, 4, 5, 3, 4, 4, 5, 4, 5, 5, 6, 3, 4, 4, 5, 4, 5, 5, 6, 4, 5, 5, 6, 5, 6, 6, 7, 3, 4, 4, 5, 4, 5, 5, 6, 4, 5, 5, 6, 5, 6, 6, 7, 4, 5, 5, 6, 5, 6, 6, 7, 5, 6, 6, 7, 6, 7, 7, 8]⟩)) (.t (K.ofNat 4))⟩, ⟨(some (K.ofNat 6)), none, .mv (.t (K.ofNat 0))⟩, ⟨(some (K.ofNat 7)), none, .bin .and (.t (K.ofNat 6)) (.c (.i .u16 (.ofNat 255)))⟩, ⟨(some (K.ofNat 8)), none, .pr .sidx (.c (.s ⟨#[0, 1, 1, 2, 1, 2, 2, 3, 1, 2, 2, 3, 2, 3, 3, 4, 1, 2, 2, 3, 2, 3, 3, 4, 2, 3, 3, 4, 3, 4, 4, 5, 1, 2, 2, 3, 2, 3, 3, 4, 2, 3, 3, 4, 3, 4, 4, 5, 2, 3, 3, 4, 3, 4, 4, 5, 3, 4, 4, 5, 4, 5, 5, 6, 1, 2, 2, 3, 2, 3, 3, 4, 2, 3, 3, 4, 3, 4, 4, 5, 2, 3, 3, 4, 3, 4, 4, 5, 3, 4, 4, 5, 4, 5, 5, 6, 2, 3, 3, 4, 3, 4, 4, 5, 3, 4, 4, 5, 4, 5, 5, 6, 3, 4, 4, 5, 4, 5, 5, 6, 4, 5, 5, 6, 5, 6, 6, 7, 1, 2, 2, 3, 2, 3, 3, 4, 2, 3, 3, 4, 3, 4, 4, 5, 2, 3, 3, 4, 3, 4, 4, 5, 3, 4, 4, 5, 4, 5, 5, 6, 2, 3, 3, 4, 3, 4, 4, 5, 3, 4, 4, 5, 4, 5, 5, 6, 3, 4, 4, 5, 4, 5, 5, 6, 4, 5, 5, 6, 5, 6, 6, 7, 2, 3, 3, 4, 3, 4, 4, 5, 3, 4, 4, 5, 4, 5, 5, 6, 3, 4, 4, 5, 4, 5, 5, 6, 4, 5, 5, 6, 5, 6, 6, 7, 3, 4, 4, 5, 4, 5, 5, 6, 4, 5, 5, 6, 5, 6, 6, 7, 4, 5, 5, 6, 5, 6, 6, 7, 5, 6, 6, 7, 6, 7, 7, 8]⟩)) (.t (K.ofNat 7))⟩, ⟨(some (K.ofNat 9)), none, .bin .add (.t (K.ofNat 5)) (.t (K.ofNat 8))⟩, ⟨(some (K.ofNat 10)), none, .conv .i64 (.t (K.ofNat 9))⟩], [], (some ⟨(some (K.ofNat 2)), none, .as (.t (K.ofNat 10))⟩), []⟩, ⟨[], [], none, []⟩]
noncomputable def f92_c : EC := (.seq (.reg f92_r0) (.seq (.draw f92_r1) .ret))
noncomputable def f92 : EF := ⟨11, [.tmp (K.ofNat 2)], f92_c, none⟩
theorem f92_rs : f92.rs = [.tmp (K.ofNat 2)] := of_eq_true (eq_self _)
noncomputable def f74_r0 : List EOper := [⟨(some (K.ofNat 2)), none, .as (.c (.i .i64 (.ofNat 0)))⟩]
noncomputable def f74_r1 : List EOper := [⟨(some (K.ofNat 3)), none, .mv (.t (K.ofNat 0))⟩, ⟨(some (K.ofNat 4)), none, .call (.c (.fn (K.ofNat 92) [])) [(.t (K.ofNat 3))]⟩, ⟨(some (K.ofNat 2)), none, .as (.t (K.ofNat 4))⟩]
noncomputable def f74_c : EC := (.seq (.reg f74_r0) (.seq (.reg f74_r1) .ret))
noncomputable def f74 : EF := ⟨5, [.tmp (K.ofNat 2)], f74_c, none⟩
theorem f74_rs : f74.rs = [.tmp (K.ofNat 2)] := of_eq_true (eq_self _)
def T8 : List UInt8 := [0, 1, 1, 2, 1, 2, 2, 3, 1, 2, 2, 3, 2, 3, 3, 4, 1, 2, 2, 3, 2, 3, 3, 4, 2, 3, 3, 4, 3, 4, 4, 5, 1, 2, 2, 3, 2, 3, 3, 4, 2, 3, 3, 4, 3, 4, 4, 5, 2, 3, 3, 4, 3, 4, 4, 5, 3, 4, 4, 5, 4, 5, 5, 6, 1, 2, 2, 3, 2, 3, 3, 4, 2, 3, 3, 4, 3, 4, 4, 5, 2, 3, 3, 4, 3, 4, 4, 5, 3, 4, 4, 5, 4, 5, 5, 6, 2, 3, 3, 4, 3, 4, 4, 5, 3, 4, 4, 5, 4, 5, 5, 6, 3, 4, 4, 5, 4, 5, 5, 6, 4, 5, 5, 6, 5, 6, 6, 7, 1, 2, 2, 3, 2, 3, 3, 4, 2, 3, 3, 4, 3, 4, 4, 5, 2, 3, 3, 4, 3, 4, 4, 5, 3, 4, 4, 5, 4, 5, 5, 6, 2, 3, 3, 4, 3, 4, 4, 5, 3, 4, 4, 5, 4, 5, 5, 6, 3, 4, 4, 5, 4, 5, 5, 6, 4, 5, 5, 6, 5, 6, 6, 7, 2, 3, 3, 4, 3, 4, 4, 5, 3, 4, 4, 5, 4, 5, 5, 6, 3, 4, 4, 5, 4, 5, 5, 6, 4, 5, 5, 6, 5, 6, 6, 7, 3, 4, 4, 5, 4, 5, 5, 6, 4, 5, 5, 6, 5, 6, 6, 7, 4, 5, 5, 6, 5, 6, 6, 7, 5, 6, 6, 7, 6, 7, 7, 8]
def pc8 (k : Nat) : Nat := ((List.range 8).filter fun i => k.testBit i).length
theorem t8_all : ((List.range 256).all fun k => decide (T8[k]? = some (UInt8.ofNat (pc8 k)) ∧ pc8 k ≤ 8)) = true := by decide +kernel
theorem t8_at {k : Nat} (hk : k < 256) : T8[k]? = some (UInt8.ofNat (pc8 k)) ∧ pc8 k ≤ 8 := by
  have := List.all_eq_true.1 t8_all k (by simpa using hk)
  simpa using this
theorem sidx_t8 {kk : IntKind} {k : Nat} (hk : k < 256) : prV .sidx (V.s ⟨#[0, 1, 1, 2, 1, 2, 2, 3, 1, 2, 2, 3, 2, 3, 3, 4, 1, 2, 2, 3, 2, 3, 3, 4, 2, 3, 3, 4, 3, 4, 4, 5, 1, 2, 2, 3, 2, 3, 3, 4, 2, 3, 3, 4, 3, 4, 4, 5, 2, 3, 3, 4, 3, 4, 4, 5, 3, 4, 4, 5, 4, 5, 5, 6, 1, 2, 2, 3, 2, 3, 3, 4, 2, 3, 3, 4, 3, 4, 4, 5, 2, 3, 3, 4, 3, 4, 4, 5, 3, 4, 4, 5, 4, 5, 5, 6, 2, 3, 3, 4, 3, 4, 4, 5, 3, 4, 4, 5, 4, 5, 5, 6, 3, 4, 4, 5, 4, 5, 5, 6, 4, 5, 5, 6, 5, 6, 6, 7, 1, 2, 2, 3, 2, 3, 3, 4, 2, 3, 3, 4, 3, 4, 4, 5, 2, 3, 3, 4, 3, 4, 4, 5, 3, 4, 4, 5, 4, 5, 5, 6, 2, 3, 3, 4, 3, 4, 4, 5, 3, 4, 4, 5, 4, 5, 5, 6, 3, 4, 4, 5, 4, 5, 5, 6, 4, 5, 5, 6, 5, 6, 6, 7, 2, 3, 3, 4, 3, 4, 4, 5, 3, 4, 4, 5, 4, 5, 5, 6, 3, 4, 4, 5, 4, 5, 5, 6, 4, 5, 5, 6, 5, 6, 6, 7, 3, 4, 4, 5, 4, 5, 5, 6, 4, 5, 5, 6, 5, 6, 6, 7, 4, 5, 5, 6, 5, 6, 6, 7, 5, 6, 6, 7, 6, 7, 7, 8]⟩) (.i kk (k : Int)) = some (.i .u8 (pc8 k : Int)) := by
  obtain ⟨h1, h2⟩ := t8_at hk
  have e : bytes ⟨#[0, 1, 1, 2, 1, 2, 2, 3, 1, 2, 2, 3, 2, 3, 3, 4, 1, 2, 2, 3, 2, 3, 3, 4, 2, 3, 3, 4, 3, 4, 4, 5, 1, 2, 2, 3, 2, 3, 3, 4, 2, 3, 3, 4, 3, 4, 4, 5, 2, 3, 3, 4, 3, 4, 4, 5, 3, 4, 4, 5, 4, 5, 5, 6, 1, 2, 2, 3, 2, 3, 3, 4, 2, 3, 3, 4, 3, 4, 4, 5, 2, 3, 3, 4, 3, 4, 4, 5, 3, 4, 4, 5, 4, 5, 5, 6, 2, 3, 3, 4, 3, 4, 4, 5, 3, 4, 4, 5, 4, 5, 5, 6, 3, 4, 4, 5, 4, 5, 5, 6, 4, 5, 5, 6, 5, 6, 6, 7, 1, 2, 2, 3, 2, 3, 3, 4, 2, 3, 3, 4, 3, 4, 4, 5, 2, 3, 3, 4, 3, 4, 4, 5, 3, 4, 4, 5, 4, 5, 5, 6, 2, 3, 3, 4, 3, 4, 4, 5, 3, 4, 4, 5, 4, 5, 5, 6, 3, 4, 4, 5, 4, 5, 5, 6, 4, 5, 5, 6, 5, 6, 6, 7, 2, 3, 3, 4, 3, 4, 4, 5, 3, 4, 4, 5, 4, 5, 5, 6, 3, 4, 4, 5, 4, 5, 5, 6, 4, 5, 5, 6, 5, 6, 6, 7, 3, 4, 4, 5, 4, 5, 5, 6, 4, 5, 5, 6, 5, 6, 6, 7, 4, 5, 5, 6, 5, 6, 6, 7, 5, 6, 6, 7, 6, 7, 7, 8]⟩ = T8 := rfl
  show (oGet (nonneg (k : Int)) none fun n => oGet (nth (bytes ⟨#[0, 1, 1, 2, 1, 2, 2, 3, 1, 2, 2, 3, 2, 3, 3, 4, 1, 2, 2, 3, 2, 3, 3, 4, 2, 3, 3, 4, 3, 4, 4, 5, 1, 2, 2, 3, 2, 3, 3, 4, 2, 3, 3, 4, 3, 4, 4, 5, 2, 3, 3, 4, 3, 4, 4, 5, 3, 4, 4, 5, 4, 5, 5, 6, 1, 2, 2, 3, 2, 3, 3, 4, 2, 3, 3, 4, 3, 4, 4, 5, 2, 3, 3, 4, 3, 4, 4, 5, 3, 4, 4, 5, 4, 5, 5, 6, 2, 3, 3, 4, 3, 4, 4, 5, 3, 4, 4, 5, 4, 5, 5, 6, 3, 4, 4, 5, 4, 5, 5, 6, 4, 5, 5, 6, 5, 6, 6, 7, 1, 2, 2, 3, 2, 3, 3, 4, 2, 3, 3, 4, 3, 4, 4, 5, 2, 3, 3, 4, 3, 4, 4, 5, 3, 4, 4, 5, 4, 5, 5, 6, 2, 3, 3, 4, 3, 4, 4, 5, 3, 4, 4, 5, 4, 5, 5, 6, 3, 4, 4, 5, 4, 5, 5, 6, 4, 5, 5, 6, 5, 6, 6, 7, 2, 3, 3, 4, 3, 4, 4, 5, 3, 4, 4, 5, 4, 5, 5, 6, 3, 4, 4, 5, 4, 5, 5, 6, 4, 5, 5, 6, 5, 6, 6, 7, 3, 4, 4, 5, 4, 5, 5, 6, 4, 5, 5, 6, 5, 6, 6, 7, 4, 5, 5, 6, 5, 6, 6, 7, 5, 6, 6, 7, 6, 7, 7, 8]⟩) n) none fun b => some (V.i .u8 (.ofNat b.toNat))) = _
  rw [e]
  show (oGet (nth T8 k) none fun b => some (V.i .u8 (.ofNat b.toNat))) = _
  rw [nth_eq, h1]
  show some (V.i .u8 (.ofNat (UInt8.ofNat (pc8 k)).toNat)) = _
  have : (UInt8.ofNat (pc8 k)).toNat = pc8 k := by rw [UInt8.toNat_ofNat']; omega
  rw [this]; rfl
def pcN (m : Nat) : Nat := pc8 (m / 256) + pc8 (m % 256)
noncomputable def f92_q (T : V) : List Stage := [⟨[⟨(some (K.ofNat 3)), none, .mv (.t (K.ofNat 0))⟩, ⟨(some (K.ofNat 4)), none, .bin .shr (.t (K.ofNat 3)) (.c (.i .u64 (.ofNat 8)))⟩, ⟨(some (K.ofNat 5)), none, .pr .sidx (.c T) (.t (K.ofNat 4))⟩, ⟨(some (K.ofNat 6)), none, .mv (.t (K.ofNat 0))⟩, ⟨(some (K.ofNat 7)), none, .bin .and (.t (K.ofNat 6)) (.c (.i .u16 (.ofNat 255)))⟩, ⟨(some (K.ofNat 8)), none, .pr .sidx (.c T) (.t (K.ofNat 7))⟩, ⟨(some (K.ofNat 9)), none, .bin .add (.t (K.ofNat 5)) (.t (K.ofNat 8))⟩, ⟨(some (K.ofNat 10)), none, .conv .i64 (.t (K.ofNat 9))⟩], [], (some ⟨(some (K.ofNat 2)), none, .as (.t (K.ofNat 10))⟩), []⟩, ⟨[], [], none, []⟩]
theorem f92_e : f92_r1 = f92_q (V.s ⟨#[0, 1, 1, 2, 1, 2, 2, 3, 1, 2, 2, 3, 2, 3, 3, 4, 1, 2, 2, 3, 2, 3, 3, 4, 2, 3, 3, 4, 3, 4, 4, 5, 1, 2, 2, 3, 2, 3, 3, 4, 2, 3, 3, 4, 3, 4, 4, 5, 2, 3, 3, 4, 3, 4, 4, 5, 3, 4, 4, 5, 4, 5, 5, 6, 1, 2, 2, 3, 2, 3, 3, 4, 2, 3, 3, 4, 3, 4, 4, 5, 2, 3, 3, 4, 3, 4, 4, 5, 3, 4, 4, 5, 4, 5, 5, 6, 2, 3, 3, 4, 3, 4, 4, 5, 3, 4, 4, 5, 4, 5, 5, 6, 3, 4, 4, 5, 4, 5, 5, 6, 4, 5, 5, 6, 5, 6, 6, 7, 1, 2, 2, 3, 2, 3, 3, 4, 2, 3, 3, 4, 3, 4, 4, 5, 2, 3, 3, 4, 3, 4, 4, 5, 3, 4, 4, 5, 4, 5, 5, 6, 2, 3, 3, 4, 3, 4, 4, 5, 3, 4, 4, 5, 4, 5, 5, 6, 3, 4, 4, 5, 4, 5, 5, 6, 4, 5, 5, 6, 5, 6, 6, 7, 2, 3, 3, 4, 3, 4, 4, 5, 3, 4, 4, 5, 4, 5, 5, 6, 3, 4, 4, 5, 4, 5, 5, 6, 4, 5, 5, 6, 5, 6, 6, 7, 3, 4, 4, 5, 4, 5, 5, 6, 4, 5, 5, 6, 5, 6, 6, 7, 4, 5, 5, 6, 5, 6, 6, 7, 5, 6, 6, 7, 6, 7, 7, 8]⟩) := rfl
theorem of255 : Int.ofNat 255 = 255 := of_eq_true (eq_self _)
section
variable {fs : T EF} {h : H} {v : V}
theorem f92_ret {m : Nat} (hm : m ≤ 65535) : Ret fs f92 [.i .u16 (m : Int)] h fun r h' => r = .i .i64 (pcN m : Int) ∧ h' = h := by
  have h1 : binV .shr (.i .u16 (m : Int)) (.i .u64 8) = some (.i .u16 ((m / 256 : Nat) : Int)) := by
    have := bin_shr (k := .u16) (k' := .u64) (m := m) (n := 8)
    rw [show min 8 (IntKind.bits .u16) = 8 from rfl] at this
    exact this
  have h2 : binV .and (.i .u16 (m : Int)) (.i .u16 255) = some (.i .u16 ((m % 256 : Nat) : Int)) := by
    have := bin_and (k := .u16) (m := m) (n := 255) (show m ≤ 65535 by omega) (show 255 ≤ 65535 by omega)
    rw [show m &&& 255 = m % 256 from Nat.and_two_pow_sub_one_eq_mod m 8] at this
    exact this
  have a1 := t8_at (k := m / 256) (by omega)
  have a2 := t8_at (k := m % 256) (by omega)
  have h3 := sidx_t8 (kk := .u16) (k := m / 256) (by omega)
  have h4 := sidx_t8 (kk := .u16) (k := m % 256) (by omega)
  have e1 : (pc8 (m / 256) : Int) + (pc8 (m % 256) : Int) = (pcN m : Int) := by unfold pcN; omega
  have hp : pcN m ≤ 16 := by unfold pcN; omega
  have f8 : fw .u8 (pcN m : Int) = (pcN m : Int) := fw_in (by have : (0 : Int) ≤ (pcN m : Int) := Int.natCast_nonneg _; omega) (by show (pcN m : Int) ≤ 255; omega)
  apply ret_of rfl
  show W fs none f92_c _ _ _
  unfold f92_c
  rw [f92_e]
  generalize V.s ⟨#[0, 1, 1, 2, 1, 2, 2, 3, 1, 2, 2, 3, 2, 3, 3, 4, 1, 2, 2, 3, 2, 3, 3, 4, 2, 3, 3, 4, 3, 4, 4, 5, 1, 2, 2, 3, 2, 3, 3, 4, 2, 3, 3, 4, 3, 4, 4, 5, 2, 3, 3, 4, 3, 4, 4, 5, 3, 4, 4, 5, 4, 5, 5, 6, 1, 2, 2, 3, 2, 3, 3, 4, 2, 3, 3, 4, 3, 4, 4, 5, 2, 3, 3, 4, 3, 4, 4, 5, 3, 4, 4, 5, 4, 5, 5, 6, 2, 3, 3, 4, 3, 4, 4, 5, 3, 4, 4, 5, 4, 5, 5, 6, 3, 4, 4, 5, 4, 5, 5, 6, 4, 5, 5, 6, 5, 6, 6, 7, 1, 2, 2, 3, 2, 3, 3, 4, 2, 3, 3, 4, 3, 4, 4, 5, 2, 3, 3, 4, 3, 4, 4, 5, 3, 4, 4, 5, 4, 5, 5, 6, 2, 3, 3, 4, 3, 4, 4, 5, 3, 4, 4, 5, 4, 5, 5, 6, 3, 4, 4, 5, 4, 5, 5, 6, 4, 5, 5, 6, 5, 6, 6, 7, 2, 3, 3, 4, 3, 4, 4, 5, 3, 4, 4, 5, 4, 5, 5, 6, 3, 4, 4, 5, 4, 5, 5, 6, 4, 5, 5, 6, 5, 6, 6, 7, 3, 4, 4, 5, 4, 5, 5, 6, 4, 5, 5, 6, 5, 6, 6, 7, 4, 5, 5, 6, 5, 6, 6, 7, 5, 6, 6, 7, 6, 7, 7, 8]⟩ = T at *
  simp (disch := omega) only [f92_r0, f92_q, f92_rs, w_reg, w_draw, w_seq, w_ret, seqK_n, retK_r, x_nil, x_as, kg, xg_nil, xg_mv, xg_bin, xg_conv, xd_cons, fresh_nil, stK_n, stK_s, stay_nil, rvP_ok, okv_some, ev_t, ev_c, getV_some, putD_some, bin_add, onI_i, oGet_s, readRs_nil, readRs_t, retV_1, frame_1, of0, of8, Option.some.injEq, exists_eq_left', getK_set, Nat.reduceEqDiff, ↓reduceIte, xg_pr, of8, of255, h1, h2, h3, h4, e1, f8, fw64, and_self]
theorem f74_ret {m : Nat} (h92 : fs.get (K.ofNat 92) = some f92) (hm : m ≤ 65535) : Ret fs f74 [.i .u16 (m : Int)] h fun r h' => r = .i .i64 (pcN m : Int) ∧ h' = h := by
  apply ret_of rfl
  show W fs none f74_c _ _ _
  unfold f74_c
  simp (disch := omega) only [f74_r0, f74_r1, w_reg, w_seq, seqK_n, x_nil, x_mv, x_as, x_call, ev_t, ev_c, evs_nil, evs_cons, getV_some, putD_some, frame_1, of0, getK_set, Nat.reduceEqDiff, ↓reduceIte]
  refine (callP_0 (ef := f92) h92 rfl (f92_ret hm)).mono ?_
  rintro r h1 ⟨rfl, e⟩
  rw [e]
  simp (disch := omega) only [f74_rs, w_ret, seqK_n, retK_r, x_nil, x_as, kx, ev_t, getV_some, putD_some, oGet_s, readRs_nil, readRs_t, retV_1, Option.some.injEq, exists_eq_left', getK_set, ↓reduceIte, and_self]
def smI (L : List Int) : Int := L.foldl (· + ·) 0
theorem smI_snoc {L : List Int} {x : Int} : smI (L ++ [x]) = smI L + x := by unfold smI; rw [List.foldl_append]; rfl
end
end Go.Ev
namespace Go.Ev
open Go Go.RowKit
theorem pcN_bits {m : Nat} : pcN m = ((List.range 16).filter fun t => m.testBit t).length := by
  have h1 : List.range 16 = List.range 8 ++ (List.range 8).map (· + 8) := by decide
  rw [h1, List.filter_append, List.length_append, List.filter_map, List.length_map]
  unfold pcN pc8
  rw [Nat.add_comm]
  congr 1
  · congr 1
    refine List.filter_congr fun t ht => ?_
    have ht : t < 8 := by simpa using ht
    have := Nat.testBit_mod_two_pow m 8 t
    rw [show (2 : Nat) ^ 8 = 256 from rfl] at this
    rw [this, decide_eq_true ht, Bool.true_and]
  · congr 1
    refine List.filter_congr fun t _ => ?_
    have := Nat.testBit_div_two_pow (n := 8) m t
    rw [show (2 : Nat) ^ 8 = 256 from rfl] at this
    rw [this]; rfl
section
variable {fs : T EF} {h : H} {v : V} {us : List V} {Ls : List (List (Int × Int))}
end
end Go.Ev
namespace Go.Ev
open Go Go.RowKit
section
variable {fs : T EF} {h : H} {v : V} {us : List V} {Ls : List (List (Int × Int))}
end
end Go.Ev
namespace Go.Ev
open Go Go.RowKit
section
variable {fs : T EF} {h : H} {v w : V} {us ws : List V} {Ls : List (List (Int × Int))} {L : List Int}
end
end Go.Ev
namespace Go.Ev
open Go Go.RowKit
section
variable {h : H} {w : V} {xs : List V} {Q : List (List (Int × Int))} {b : Nat}
end
end Go.Ev
namespace Go.Ev
open Go Go.RowKit
section
variable {fs : T EF} {h : H} {v w : V} {us : List V} {Ls : List (List (Int × Int))} {M : List Int}
structure Rows (h : H) (h1 : H) (w : V) (xs : List V) (Q : List (List (Int × Int))) : Prop where
  sd : Sld h1 w xs Q
  ow : Own h.nx.nat w
  ox : ∀ x ∈ xs, Own h.nx.nat x
  gr : Grow h.nx.nat h h1
end
end Go.Ev
namespace Go.Ev
open Go Go.RowKit
section
variable {fs : T EF} {h : H} {v w : V} {us : List V} {Ls : List (List (Int × Int))} {M : List Int}
end
end Go.Ev
namespace Go.Ev
open Go Go.RowKit
section
variable {fs : T EF} {h : H} {v wm : V} {us : List V} {Ls : List (List (Int × Int))} {M : List Int}
end
end Go.Ev
namespace Go.Ev
open Go Go.RowKit
theorem teams_nat {n : Int} {m : Nat} (hm : (m : Int) = teamsN n) : ok5 (m : Int) := by rw [hm]; exact teamsN_ok n
section
variable {fs : T EF}
end
end Go.Ev
namespace Go.Ev
open Go Go.RowKit
section
variable {α : Type} {e : α → V} {h h' : H} {w v u : V} {xs us : List V} {Q Ls : List (List α)} {L : List α} {b : Nat}
/-- A slice of slices that is only read. -/
structure Nr (e : α → V) (h : H) (v : V) (us : List V) (Ls : List (List α)) : Prop where
  len : us.length = Ls.length
  out : Sr vE h v us
  inn : ∀ i (h1 : i < us.length) (h2 : i < Ls.length), Sr e h us[i] Ls[i]
theorem Nr.grow (s : Nr e h v us Ls) (hc : HC h) (hg : Grow h.nx.nat h h') : Nr e h' v us Ls := ⟨s.len, s.out.grow hc hg, fun i h1 h2 => (s.inn i h1 h2).grow hc hg⟩
/-- A slice of slices, none of which shares its block. -/
structure Nw (e : α → V) (h : H) (v : V) (us : List V) (Ls : List (List α)) : Prop where
  len : us.length = Ls.length
  out : Sl vE h v us
  inn : ∀ i (h1 : i < us.length) (h2 : i < Ls.length), Sl e h us[i] Ls[i]
  sep : ∀ u ∈ us, ∀ id off n sz, u = .sl id off n sz → NotIn id v
  dis : ∀ i j (hi : i < us.length) (hj : j < us.length), i ≠ j → ∀ id off n sz, us[i] = .sl id off n sz → NotIn id us[j]
theorem Nw.grow (s : Nw e h v us Ls) (hc : HC h) (hg : Grow h.nx.nat h h') : Nw e h' v us Ls := ⟨s.len, s.out.grow hc hg, fun i h1 h2 => (s.inn i h1 h2).grow hc hg, s.sep, s.dis⟩
end
end Go.Ev
namespace Go.Ev
open Go Go.RowKit
def pZ (x : Int × Int) : V := .agg [.i .i64 x.1, .i .i64 x.2]
def in2 (x : Int × Int) : Prop := inR .i64 x.1 = true ∧ inR .i64 x.2 = true
def entZ (M : List ((Int × Int) × Int)) : List (V × V) := M.map fun e => (pZ e.1, .i .i64 e.2)
def lookZ : List ((Int × Int) × Int) → Int × Int → Option Int
  | [], _ => none
  | e :: M, x => if x = e.1 then some e.2 else lookZ M x
def putZ : List ((Int × Int) × Int) → Int × Int → Int → List ((Int × Int) × Int)
  | [], x, v => [(x, v)]
  | e :: M, x, v => if x = e.1 then (x, v) :: M else e :: putZ M x v
theorem keyEq_z {x y : Int × Int} (hx : in2 x) (hy : in2 y) : keyEq (.many [some .i64, some .i64]) (pZ x) (pZ y) = some (decide (x = y)) := by
  have := keyEq_2 hx.1 hx.2 hy.1 hy.2
  have e : (decide (x.1 = y.1) && decide (x.2 = y.2)) = decide (x = y) := by
    rw [Bool.eq_iff_iff, Bool.and_eq_true, decide_eq_true_eq, decide_eq_true_eq, decide_eq_true_eq]
    exact ⟨fun h => Prod.ext h.1 h.2, fun h => by rw [h]; exact ⟨rfl, rfl⟩⟩
  rw [e] at this
  exact this
theorem upd_z {x : Int × Int} {v : Int} (hx : in2 x) : ∀ (M : List ((Int × Int) × Int)), (∀ e ∈ M, in2 e.1) → updE (.many [some .i64, some .i64]) (pZ x) (.i .i64 v) (entZ M) = some (entZ (putZ M x v))
  | [], _ => by
    show (oGet (keyEq (.many [some .i64, some .i64]) (pZ x) (pZ x)) none fun _ => some [(pZ x, V.i .i64 v)]) = _
    rw [keyEq_z hx hx]; rfl
  | y :: M, hM => by
    have ih := upd_z (v := v) hx M fun z hz => hM z (List.mem_cons_of_mem _ hz)
    show (oGet (keyEq (.many [some .i64, some .i64]) (pZ x) (pZ y.1)) none fun r => bif r then some ((pZ x, .i .i64 v) :: entZ M) else oGet (updE (.many [some .i64, some .i64]) (pZ x) (.i .i64 v) (entZ M)) none fun l => some ((pZ y.1, .i .i64 y.2) :: l)) = _
    rw [keyEq_z hx (hM y (by simp)), ih]
    show (bif decide (x = y.1) then _ else _) = some (entZ (if x = y.1 then (x, v) :: M else y :: putZ M x v))
    by_cases e : x = y.1
    · rw [decide_eq_true e, if_pos e]; rfl
    · rw [decide_eq_false e, if_neg e]; rfl
theorem look_put {x y : Int × Int} {v : Int} : ∀ (M : List ((Int × Int) × Int)), lookZ (putZ M x v) y = if y = x then some v else lookZ M y
  | [] => rfl
  | e :: M => by
    have ih := look_put (x := x) (y := y) (v := v) M
    show lookZ (if x = e.1 then (x, v) :: M else e :: putZ M x v) y = _
    by_cases h : x = e.1
    · rw [if_pos h]
      show (if y = x then some v else lookZ M y) = if y = x then some v else if y = e.1 then some e.2 else lookZ M y
      by_cases h2 : y = x
      · rw [if_pos h2, if_pos h2]
      · rw [if_neg h2, if_neg h2, if_neg (by rw [← h]; exact h2)]
    · rw [if_neg h]
      show (if y = e.1 then some e.2 else lookZ (putZ M x v) y) = if y = x then some v else if y = e.1 then some e.2 else lookZ M y
      rw [ih]
      by_cases h2 : y = e.1
      · rw [if_pos h2, if_pos h2, if_neg (fun h3 => h (h3.symm.trans h2))]
      · rw [if_neg h2, if_neg h2]
theorem in_put {x : Int × Int} {v : Int} (hx : in2 x) : ∀ (M : List ((Int × Int) × Int)), (∀ e ∈ M, in2 e.1) → ∀ e ∈ putZ M x v, in2 e.1
  | [], _, e, he => by rw [List.mem_singleton.1 he]; exact hx
  | y :: M, hM, e, he => by
    unfold putZ at he
    split at he
    · rcases List.mem_cons.1 he with rfl | he
      · exact hx
      · exact hM e (List.mem_cons_of_mem _ he)
    · rcases List.mem_cons.1 he with rfl | he
      · exact hM _ (by simp)
      · exact in_put hx M (fun z hz => hM z (List.mem_cons_of_mem _ hz)) e he
/-- A map from pairs to numbers. -/
def MapF (h : H) (id : K) (kt : Nat) (f : Int × Int → Option Int) : Prop := ∃ M, h.get id = .map kt (entZ M) ∧ (∀ e ∈ M, in2 e.1) ∧ ∀ x, lookZ M x = f x
theorem MapF.put {h : H} {id : K} {kt : Nat} {f : Int × Int → Option Int} {x : Int × Int} {v : Int} (hm : MapF h id kt f) (hx : in2 x) : ∃ es, mupdV kt (.many [some .i64, some .i64]) h (.m id) (pZ x) (.i .i64 v) = .ok undefV (h.put id (.map kt es)) ∧ MapF (h.put id (.map kt es)) id kt fun y => if y = x then some v else f y := by
  obtain ⟨M, e1, e2, e3⟩ := hm
  refine ⟨entZ (putZ M x v), ?_, putZ M x v, get_put_same, in_put hx M e2, fun y => by rw [look_put, e3]⟩
  show ((h.get id).onM kt fun es => oGet (updE (.many [some .i64, some .i64]) (pZ x) (.i .i64 v) es) RV.no fun es => RV.ok undefV (h.put id (.map kt es))) = _
  rw [e1]
  show (bif Nat.beq kt kt then (oGet (updE (.many [some .i64, some .i64]) (pZ x) (.i .i64 v) (entZ M)) RV.no fun es => RV.ok undefV (h.put id (.map kt es))) else _) = _
  rw [Nat.beq_same, upd_z hx M e2]; rfl
theorem MapF.same {h h' : H} {id : K} {kt : Nat} {f : Int × Int → Option Int} (hm : MapF h id kt f) (e : h'.get id = h.get id) : MapF h' id kt f := by
  obtain ⟨M, e1, e2, e3⟩ := hm
  exact ⟨M, e.trans e1, e2, e3⟩
end Go.Ev
namespace Go.Ev
open Go Go.RowKit
/-- A call of a method value. -/
theorem callP_m {fs : T EF} {h : H} {k : K} {ef : EF} {args fst : List V} {P : V → H → Prop} (hf : fs.get k = some ef) (hn : ef.nv = none) (hr : Ret fs ef (fst ++ args) h P) : CallP fs (.bf k fst []) args h P := by
  obtain ⟨n, v, h', e, hp⟩ := hr
  refine ⟨n, v, h', ?_, hp⟩
  show (oGet (fs.get k) RV.no fun ef => callE (eval fs n) ef (cat fst (cat args [])) h) = _
  rw [hf, cat_eq, cat_eq, List.append_nil]
  show oGet ef.nv (callF (eval fs n) ef (fst ++ args) h) _ = _
  rw [hn]; exact e
end Go.Ev
namespace Go.Ev
open Go Go.RowKit
section
variable {fs : T EF} {h : H} {v : V} {us : List V} {Ls : List (List (Int × Int))}
end
end Go.Ev
namespace Go.Ev
open Go Go.RowKit
/-- What the closure has. -/
structure Cap (f : Int × Int → Option Int) (L n : Nat) (idn idw ids : K) (h : H) : Prop where
  n : h.get idn = .cells 1 [.i .i64 (n : Int)]
  w : ∃ idm, h.get idw = .cells 1 [.m idm] ∧ MapF h idm 108 f
  s : ∃ v, h.get ids = .cells 1 [v] ∧ ∀ h1, lenV v h1 = .ok (.i .i64 (L : Int)) h1
section
variable {fs : T EF} {h : H} {f : Int × Int → Option Int} {L n : Nat} {idn idw ids : K}
theorem Cap.grow {h' : H} (c : Cap f L n idn idw ids h) (hc : HC h) (hG : Grow h.nx.nat h h') : Cap f L n idn idw ids h' := by
  obtain ⟨cn, ⟨idm, cw, M, m1, m2⟩, v, cs, hv⟩ := c
  exact ⟨(hG.old _ (hc.cells cn)).trans cn, ⟨idm, (hG.old _ (hc.cells cw)).trans cw, M, (hG.old _ (hc.lt (by rw [m1]; simp))).trans m1, m2⟩, v, (hG.old _ (hc.cells cs)).trans cs, hv⟩
end
end Go.Ev
namespace Go.Ev
open Go Go.RowKit
theorem op_mem {t : Int} : ∀ {l : List (Int × Int)}, t ∈ plL l → (t, opF l t) ∈ l ∨ (opF l t, t) ∈ l
  | [], h => by simp [plL] at h
  | e :: l, h => by
    unfold opF
    by_cases h1 : t = e.1
    · rw [if_pos h1]; left; rw [h1]; simp
    · rw [if_neg h1]
      by_cases h2 : t = e.2
      · rw [if_pos h2]; right; rw [h2]; simp
      · rw [if_neg h2]
        have : t ∈ plL l := by
          have h : t ∈ e.1 :: e.2 :: plL l := h
          rcases List.mem_cons.1 h with h | h
          · exact absurd h h1
          · rcases List.mem_cons.1 h with h | h
            · exact absurd h h2
            · exact h
        rcases op_mem this with h | h
        · exact .inl (List.mem_cons_of_mem _ h)
        · exact .inr (List.mem_cons_of_mem _ h)
theorem pl_mem {l : List (Int × Int)} {e : Int × Int} (h : e ∈ l) : e.1 ∈ plL l ∧ e.2 ∈ plL l :=
  ⟨List.mem_flatMap.2 ⟨e, h, by simp⟩, List.mem_flatMap.2 ⟨e, h, by simp⟩⟩
theorem op_of {a b : Int} : ∀ {l : List (Int × Int)}, (plL l).Nodup → (a, b) ∈ l ∨ (b, a) ∈ l → opF l a = b
  | [], _, h => by simp at h
  | e :: l, hn, h => by
    have hn : (e.1 :: e.2 :: plL l).Nodup := hn
    obtain ⟨n1, n2⟩ := List.nodup_cons.1 hn
    obtain ⟨n3, n4⟩ := List.nodup_cons.1 n2
    have ne : e.1 ≠ e.2 := fun q => n1 (by rw [q]; simp)
    unfold opF
    have tail : (a, b) ∈ l ∨ (b, a) ∈ l → (if a = e.1 then e.2 else if a = e.2 then e.1 else opF l a) = b := fun h => by
      have ha : a ∈ plL l := by rcases h with h | h; exact (pl_mem h).1; exact (pl_mem h).2
      rw [if_neg (fun q => n1 (by rw [← q]; exact List.mem_cons_of_mem _ ha)), if_neg (fun q => n3 (by rw [← q]; exact ha))]
      exact op_of n4 h
    rcases h with h | h
    · rcases List.mem_cons.1 h with h | h
      · rw [← h, if_pos rfl]
      · exact tail (.inl h)
    · rcases List.mem_cons.1 h with h | h
      · rw [← h] at ne ⊢
        rw [if_neg (fun q => ne q.symm), if_pos rfl]
      · exact tail (.inr h)
section
variable {Q : List (List (Int × Int))} {n : Nat}
theorem getD_at {α : Type} {l : List α} {i : Nat} {d : α} (h : i < l.length) : l.getD i d = l[i] := by
  rw [List.getD_eq_getElem?_getD, List.getElem?_eq_getElem h]; rfl
end
end Go.Ev
namespace Go.Ev
open Go Go.RowKit
section
variable {fs : T EF} {h : H} {w : V} {xs : List V} {T : List (List Int)}
end
section
variable {fs : T EF} {h : H} {v : V} {us : List V} {Ls : List (List (Int × Int))} {n : Nat}
end
end Go.Ev
namespace Go.Ev
open Go Go.RowKit
section
variable {fs : T EF} {h : H} {v : V} {us : List V} {Ls : List (List (Int × Int))} {n : Nat}
end
end Go.Ev
namespace Go.Ev
open Go Go.RowKit
/-- The ring, from x on; L is what has been met. -/
def ringR (A B : Int → Int) : Nat → Int → List Int → List Int
  | 0, _, L => L
  | k + 1, x, L => if x ∈ L then L else ringR A B k (B (A x)) (L ++ [x, A x])
/-- Each team has another opponent. -/
structure Inv (A : Int → Int) (n : Nat) : Prop where
  rng : ∀ x, 0 ≤ x ∧ x < (n : Int) → 0 ≤ A x ∧ A x < (n : Int)
  inv : ∀ x, 0 ≤ x ∧ x < (n : Int) → A (A x) = x
  ne : ∀ x, 0 ≤ x ∧ x < (n : Int) → A x ≠ x
structure RingI (A B : Int → Int) (n : Nat) (t x : Int) (L : List Int) : Prop where
  nd : L.Nodup
  rng : ∀ z ∈ L, 0 ≤ z ∧ z < (n : Int)
  xr : 0 ≤ x ∧ x < (n : Int)
  clA : ∀ z ∈ L, A z ∈ L
  clB : ∀ z ∈ L, z = t ∨ B z ∈ L ∨ B z = x
  at' : (L = [] ∧ x = t) ∨ (t ∈ L ∧ B x ∈ L)
  ev : x ∈ L → x = t
  two : ∃ q, L.length = 2 * q
section
variable {A B : Int → Int} {n : Nat} {t x : Int} {L : List Int}
theorem RingI.init (ht : 0 ≤ t ∧ t < (n : Int)) : RingI A B n t t [] := ⟨by simp, by simp, ht, by simp, by simp, .inl ⟨rfl, rfl⟩, fun h => absurd h (by simp), ⟨0, rfl⟩⟩
theorem RingI.new (s : RingI A B n t x L) (iA : Inv A n) (hx : x ∉ L) : A x ∉ L ∧ A x ≠ x := by
  refine ⟨fun h => hx ?_, iA.ne x s.xr⟩
  have := s.clA _ h
  rw [iA.inv x s.xr] at this; exact this
theorem RingI.step (s : RingI A B n t x L) (iA : Inv A n) (iB : Inv B n) (hx : x ∉ L) : RingI A B n t (B (A x)) (L ++ [x, A x]) := by
  obtain ⟨hy, hyx⟩ := s.new iA hx
  have hyr := iA.rng x s.xr
  have hzr := iB.rng _ hyr
  have hBB := iB.inv _ hyr
  refine ⟨?_, ?_, hzr, ?_, ?_, .inr ⟨?_, by rw [hBB]; simp⟩, ?_, ?_⟩
  · rw [List.nodup_append]
    refine ⟨s.nd, by simp; exact fun h => hyx h.symm, fun a ha b hb e => ?_⟩
    rcases List.mem_cons.1 hb with rfl | hb
    · exact hx (e ▸ ha)
    · rw [List.mem_singleton.1 hb] at e; exact hy (e ▸ ha)
  · intro z hz
    rcases List.mem_append.1 hz with hz | hz
    · exact s.rng z hz
    · rcases List.mem_cons.1 hz with rfl | hz
      · exact s.xr
      · rw [List.mem_singleton.1 hz]; exact hyr
  · intro z hz
    rcases List.mem_append.1 hz with hz | hz
    · exact List.mem_append_left _ (s.clA z hz)
    · rcases List.mem_cons.1 hz with rfl | hz
      · simp
      · rw [List.mem_singleton.1 hz, iA.inv x s.xr]; simp
  · intro z hz
    rcases List.mem_append.1 hz with hz | hz
    · rcases s.clB z hz with h | h | h
      · exact .inl h
      · exact .inr (.inl (List.mem_append_left _ h))
      · exact .inr (.inl (by rw [h]; simp))
    · rcases List.mem_cons.1 hz with rfl | hz
      · rcases s.at' with ⟨_, h⟩ | ⟨_, h⟩
        · exact .inl h
        · exact .inr (.inl (List.mem_append_left _ h))
      · rw [List.mem_singleton.1 hz]; exact .inr (.inr rfl)
  · rcases s.at' with ⟨_, h⟩ | ⟨h, _⟩
    · rw [h]; simp
    · exact List.mem_append_left _ h
  · intro hm
    rcases Classical.em (B (A x) = t) with h | h
    · exact h
    exfalso
    rcases List.mem_append.1 hm with hm | hm
    · rcases s.clB _ hm with h1 | h1 | h1
      · exact h h1
      · rw [hBB] at h1; exact hy h1
      · rw [hBB] at h1; exact hyx h1
    · rcases List.mem_cons.1 hm with h1 | h1
      · rcases s.at' with ⟨_, h2⟩ | ⟨_, h2⟩
        · exact h (h1.trans h2)
        · rw [← h1, hBB] at h2; exact hy h2
      · rw [List.mem_singleton.1 h1] at hBB
        exact iB.ne _ hyr (List.mem_singleton.1 h1)
  · obtain ⟨q, hq⟩ := s.two
    exact ⟨q + 1, by simp; omega⟩
theorem RingI.le (s : RingI A B n t x L) : L.length ≤ n := by
  have := nodup_le (m := (List.range n).map fun (k : Nat) => (k : Int)) s.nd fun z hz => by
    obtain ⟨h1, h2⟩ := s.rng z hz
    exact List.mem_map.2 ⟨z.toNat, by simp; omega, by omega⟩
  simpa using this
theorem RingI.lt (s : RingI A B n t x L) (iA : Inv A n) (iB : Inv B n) (hx : x ∉ L) : L.length + 2 ≤ n := by
  have := (s.step iA iB hx).le
  simpa using this
/-- A whole ring. -/
structure RingE (A B : Int → Int) (n : Nat) (t : Int) (L : List Int) : Prop where
  nd : L.Nodup
  rng : ∀ z ∈ L, 0 ≤ z ∧ z < (n : Int)
  mem : t ∈ L
  clA : ∀ z ∈ L, A z ∈ L
  clB : ∀ z ∈ L, B z ∈ L
  two : ∃ q, L.length = 2 * q
theorem RingI.fin (s : RingI A B n t x L) (hx : x ∈ L) : RingE A B n t L := by
  have ext := s.ev hx
  have hB : B x ∈ L := by
    rcases s.at' with ⟨h, _⟩ | ⟨_, h⟩
    · rw [h] at hx; simp at hx
    · exact h
  refine ⟨s.nd, s.rng, ext ▸ hx, s.clA, fun z hz => ?_, s.two⟩
  rcases s.clB z hz with h | h | h
  · rw [h, ← ext]; exact hB
  · exact h
  · rw [h]; exact hx
theorem ring_E (iA : Inv A n) (iB : Inv B n) : ∀ {k : Nat} {x : Int} {L : List Int}, RingI A B n t x L → n < 2 * k + L.length → RingE A B n t (ringR A B k x L)
  | 0, x, L, s, h => absurd s.le (by omega)
  | k + 1, x, L, s, h => by
    unfold ringR
    split
    · rename_i hx; exact s.fin hx
    · rename_i hx
      exact ring_E iA iB (s.step iA iB hx) (by simp; omega)
/-- What is closed is left alone. -/
theorem ring_out {M : List Int} (iA : Inv A n) (iB : Inv B n) (cA : ∀ z ∈ M, A z ∈ M) (cB : ∀ z ∈ M, B z ∈ M) {x : Int} (hx : 0 ≤ x ∧ x < (n : Int)) (hn : x ∉ M) : B (A x) ∉ M := fun h => by
  have hy := iA.rng x hx
  have h1 := cB _ h
  rw [iB.inv _ hy] at h1
  have h2 := cA _ h1
  rw [iA.inv _ hx] at h2
  exact hn h2
/-- What has been met by the teams before t, and the numbers of teams of the rings. -/
def rgs (A B : Int → Int) (n : Nat) : Nat → List Int × List Int
  | 0 => ([], [])
  | t + 1 => if (t : Int) ∈ (rgs A B n t).1 then rgs A B n t else ((rgs A B n t).1 ++ ringR A B n (t : Int) [], (rgs A B n t).2 ++ [((ringR A B n (t : Int) []).length : Int)])
structure RgsI (A B : Int → Int) (n t : Nat) (M S : List Int) : Prop where
  nd : M.Nodup
  rng : ∀ z ∈ M, 0 ≤ z ∧ z < (n : Int)
  clA : ∀ z ∈ M, A z ∈ M
  clB : ∀ z ∈ M, B z ∈ M
  all : ∀ u : Nat, u < t → (u : Int) ∈ M
  sum : smI S = (M.length : Int)
  evn : ∀ s ∈ S, ∃ q : Nat, s = 2 * (q : Int) ∧ 1 ≤ q
  few : S.length ≤ t
theorem rgs_I (iA : Inv A n) (iB : Inv B n) (hn : 1 ≤ n) : ∀ {t : Nat}, t ≤ n → RgsI A B n t (rgs A B n t).1 (rgs A B n t).2
  | 0, _ => ⟨by simp [rgs], by simp [rgs], by simp [rgs], by simp [rgs], fun u h => by omega, by simp [rgs, smI], by simp [rgs], by simp [rgs]⟩
  | t + 1, ht => by
    have s := rgs_I iA iB hn (t := t) (by omega)
    unfold rgs
    split
    · rename_i hm
      exact ⟨s.nd, s.rng, s.clA, s.clB, fun u hu => by
        by_cases e : u = t
        · rw [e]; exact hm
        · exact s.all u (by omega), s.sum, s.evn, by have := s.few; omega⟩
    · rename_i hm
      have e := ring_E iA iB (RingI.init (A := A) (B := B) (n := n) (t := (t : Int)) (by omega)) (k := n) (by simp; omega)
      have hd : ∀ z ∈ ringR A B n (t : Int) [], z ∉ (rgs A B n t).1 := by
        have key : ∀ {k : Nat} {x : Int} {L : List Int}, (0 ≤ x ∧ x < (n : Int)) → x ∉ (rgs A B n t).1 → (∀ z ∈ L, z ∉ (rgs A B n t).1) → ∀ z ∈ ringR A B k x L, z ∉ (rgs A B n t).1 := by
          intro k
          induction k with
          | zero => exact fun _ _ hL => hL
          | succ k ih =>
            intro x L hx hxM hL
            unfold ringR
            split
            · exact hL
            · refine ih (iB.rng _ (iA.rng _ hx)) (ring_out iA iB s.clA s.clB hx hxM) fun z hz => ?_
              rcases List.mem_append.1 hz with hz | hz
              · exact hL z hz
              · rcases List.mem_cons.1 hz with rfl | hz
                · exact hxM
                · rw [List.mem_singleton.1 hz]
                  intro h
                  have := s.clA _ h
                  rw [iA.inv _ hx] at this
                  exact hxM this
        exact key (by omega) hm (by simp)
      refine ⟨?_, ?_, ?_, ?_, ?_, ?_, ?_, by have := s.few; simp; omega⟩
      · rw [List.nodup_append]; exact ⟨s.nd, e.nd, fun a ha b hb q => hd b hb (q ▸ ha)⟩
      · intro z hz; rcases List.mem_append.1 hz with hz | hz; exact s.rng z hz; exact e.rng z hz
      · intro z hz; rcases List.mem_append.1 hz with hz | hz; exact List.mem_append_left _ (s.clA z hz); exact List.mem_append_right _ (e.clA z hz)
      · intro z hz; rcases List.mem_append.1 hz with hz | hz; exact List.mem_append_left _ (s.clB z hz); exact List.mem_append_right _ (e.clB z hz)
      · intro u hu
        by_cases q : u = t
        · rw [q]; exact List.mem_append_right _ e.mem
        · exact List.mem_append_left _ (s.all u (by omega))
      · rw [smI_snoc, s.sum]; simp
      · intro z hz
        rcases List.mem_append.1 hz with hz | hz
        · exact s.evn z hz
        · obtain ⟨q, hq⟩ := e.two
          have : 1 ≤ (ringR A B n (t : Int) []).length := List.length_pos_of_mem e.mem
          rw [List.mem_singleton.1 hz]
          exact ⟨q, by omega, by omega⟩
theorem all_len {M : List Int} {n : Nat} (hd : M.Nodup) (hr : ∀ z ∈ M, 0 ≤ z ∧ z < (n : Int)) (ha : ∀ u : Nat, u < n → (u : Int) ∈ M) : M.length = n := by
  have h1 := nodup_le (m := (List.range n).map fun (k : Nat) => (k : Int)) hd fun z hz => by
    obtain ⟨h1, h2⟩ := hr z hz
    exact List.mem_map.2 ⟨z.toNat, by simp; omega, by omega⟩
  have h2 := nodup_le (l := (List.range n).map fun (k : Nat) => (k : Int)) (m := M) (by
    rw [List.nodup_iff_pairwise_ne, List.pairwise_map]
    exact (List.nodup_iff_pairwise_ne.1 List.nodup_range).imp fun h => by omega) fun z hz => by
    obtain ⟨k, hk, rfl⟩ := List.mem_map.1 hz
    exact ha k (by simpa using hk)
  simp at h1 h2
  omega
end
end Go.Ev
namespace Go.Ev
open Go Go.RowKit
noncomputable def f103_r0 : List EOper := [⟨(some (K.ofNat 2)), none, .as (.c (.b false))⟩]
noncomputable def f103_r1 : List EOper := [⟨(some (K.ofNat 3)), none, .mv (.t (K.ofNat 0))⟩, ⟨(some (K.ofNat 4)), none, .mv (.t (K.ofNat 0))⟩, ⟨(some (K.ofNat 5)), none, .bin .neq (.t (K.ofNat 3)) (.t (K.ofNat 4))⟩, ⟨(some (K.ofNat 2)), none, .as (.t (K.ofNat 5))⟩]
noncomputable def f103_c : EC := (.seq (.reg f103_r0) (.seq (.reg f103_r1) .ret))
noncomputable def f103 : EF := ⟨6, [.tmp (K.ofNat 2)], f103_c, none⟩
theorem f103_rs : f103.rs = [.tmp (K.ofNat 2)] := of_eq_true (eq_self _)
noncomputable def f110_r0 : List EOper := [⟨(some (K.ofNat 4)), none, .as (.c (.b false))⟩]
noncomputable def f110_r1 : List EOper := [⟨(some (K.ofNat 5)), none, .mv (.t (K.ofNat 0))⟩, ⟨(some (K.ofNat 6)), none, .call (.c (.fn (K.ofNat 103) [])) [(.t (K.ofNat 5))]⟩, ⟨(some (K.ofNat 7)), none, .mv (.t (K.ofNat 6))⟩, ⟨(some (K.ofNat 8)), (some ((K.ofNat 7), true)), .mv (.t (K.ofNat 1))⟩, ⟨(some (K.ofNat 9)), (some ((K.ofNat 7), true)), .call (.c (.fn (K.ofNat 103) [])) [(.t (K.ofNat 8))]⟩, ⟨(some (K.ofNat 10)), (some ((K.ofNat 7), true)), .not (.t (K.ofNat 9))⟩, ⟨(some (K.ofNat 11)), none, .pick (.t (K.ofNat 7)) (.t (K.ofNat 10)) (.c (.b false))⟩, ⟨(some (K.ofNat 12)), none, .mv (.t (K.ofNat 11))⟩, ⟨(some (K.ofNat 13)), (some ((K.ofNat 12), false)), .mv (.t (K.ofNat 0))⟩, ⟨(some (K.ofNat 14)), (some ((K.ofNat 12), false)), .mv (.t (K.ofNat 1))⟩, ⟨(some (K.ofNat 15)), (some ((K.ofNat 12), false)), .bin .lss (.t (K.ofNat 13)) (.t (K.ofNat 14))⟩, ⟨(some (K.ofNat 16)), none, .pick (.t (K.ofNat 12)) (.c (.b true)) (.t (K.ofNat 15))⟩, ⟨(some (K.ofNat 4)), none, .as (.t (K.ofNat 16))⟩]
noncomputable def f110_c : EC := (.seq (.reg f110_r0) (.seq (.reg f110_r1) .ret))
noncomputable def f110 : EF := ⟨17, [.tmp (K.ofNat 4)], f110_c, none⟩
theorem f110_rs : f110.rs = [.tmp (K.ofNat 4)] := of_eq_true (eq_self _)
noncomputable def f104_r0 : List EOper := [⟨(some (K.ofNat 8)), none, .mv (.t (K.ofNat 1))⟩, ⟨(some (K.ofNat 9)), none, .bin .add (.t (K.ofNat 8)) (.c (.i .i64 (.ofNat 1)))⟩, ⟨(some (K.ofNat 6)), none, .as (.t (K.ofNat 9))⟩]
noncomputable def f104_r1 : List EOper := [⟨(some (K.ofNat 10)), none, .mv (.t (K.ofNat 6))⟩, ⟨(some (K.ofNat 11)), none, .mv (.t (K.ofNat 2))⟩, ⟨(some (K.ofNat 12)), none, .bin .lss (.t (K.ofNat 10)) (.t (K.ofNat 11))⟩]
noncomputable def f104_r2 : List EOper := [⟨(some (K.ofNat 15)), none, .mv (.t (K.ofNat 6))⟩, ⟨(some (K.ofNat 7)), none, .as (.t (K.ofNat 15))⟩]
noncomputable def f104_r3 : List Stage := [⟨[⟨(some (K.ofNat 16)), none, .mv (.t (K.ofNat 7))⟩, ⟨(some (K.ofNat 17)), none, .mv (.t (K.ofNat 1))⟩, ⟨(some (K.ofNat 18)), none, .bin .gtr (.t (K.ofNat 16)) (.t (K.ofNat 17))⟩, ⟨(some (K.ofNat 19)), none, .mv (.t (K.ofNat 18))⟩, ⟨(some (K.ofNat 20)), (some ((K.ofNat 19), true)), .mv (.t (K.ofNat 0))⟩, ⟨(some (K.ofNat 21)), (some ((K.ofNat 19), true)), .mv (.t (K.ofNat 7))⟩, ⟨(some (K.ofNat 22)), (some ((K.ofNat 19), true)), .iads 1 (.t (K.ofNat 20)) (.t (K.ofNat 21))⟩, ⟨(some (K.ofNat 23)), (some ((K.ofNat 19), true)), .ld (.t (K.ofNat 22))⟩, ⟨(some (K.ofNat 24)), (some ((K.ofNat 19), true)), .mv (.t (K.ofNat 0))⟩, ⟨(some (K.ofNat 25)), (some ((K.ofNat 19), true)), .mv (.t (K.ofNat 7))⟩, ⟨(some (K.ofNat 26)), (some ((K.ofNat 19), true)), .bin .sub (.t (K.ofNat 25)) (.c (.i .i64 (.ofNat 1)))⟩, ⟨(some (K.ofNat 27)), (some ((K.ofNat 19), true)), .iads 1 (.t (K.ofNat 24)) (.t (K.ofNat 26))⟩, ⟨(some (K.ofNat 28)), (some ((K.ofNat 19), true)), .ld (.t (K.ofNat 27))⟩], [], (some ⟨(some (K.ofNat 29)), (some ((K.ofNat 19), true)), .call (.c (.fn (K.ofNat 110) [])) [(.t (K.ofNat 23)), (.t (K.ofNat 28))]⟩), []⟩, ⟨[⟨(some (K.ofNat 30)), none, .pick (.t (K.ofNat 19)) (.t (K.ofNat 29)) (.c (.b false))⟩], [], none, []⟩]
noncomputable def f104_r4 : List Stage := [⟨[⟨(some (K.ofNat 33)), none, .mv (.t (K.ofNat 0))⟩, ⟨(some (K.ofNat 34)), none, .mv (.t (K.ofNat 7))⟩, ⟨(some (K.ofNat 35)), none, .mv (.t (K.ofNat 0))⟩, ⟨(some (K.ofNat 36)), none, .mv (.t (K.ofNat 7))⟩, ⟨(some (K.ofNat 37)), none, .bin .sub (.t (K.ofNat 36)) (.c (.i .i64 (.ofNat 1)))⟩, ⟨(some (K.ofNat 38)), none, .mv (.t (K.ofNat 0))⟩, ⟨(some (K.ofNat 39)), none, .mv (.t (K.ofNat 7))⟩, ⟨(some (K.ofNat 40)), none, .bin .sub (.t (K.ofNat 39)) (.c (.i .i64 (.ofNat 1)))⟩, ⟨(some (K.ofNat 41)), none, .iads 1 (.t (K.ofNat 38)) (.t (K.ofNat 40))⟩, ⟨(some (K.ofNat 42)), none, .ld (.t (K.ofNat 41))⟩, ⟨(some (K.ofNat 43)), none, .mv (.t (K.ofNat 0))⟩, ⟨(some (K.ofNat 44)), none, .mv (.t (K.ofNat 7))⟩, ⟨(some (K.ofNat 45)), none, .iads 1 (.t (K.ofNat 43)) (.t (K.ofNat 44))⟩, ⟨(some (K.ofNat 46)), none, .ld (.t (K.ofNat 45))⟩, ⟨(some (K.ofNat 47)), none, .iads 1 (.t (K.ofNat 33)) (.t (K.ofNat 34))⟩], [], (some ⟨none, none, .st 1 (.t (K.ofNat 47)) (.t (K.ofNat 42))⟩), []⟩, ⟨[⟨(some (K.ofNat 48)), none, .iads 1 (.t (K.ofNat 35)) (.t (K.ofNat 37))⟩], [⟨(some (K.ofNat 35)), none, .mv (.t (K.ofNat 0))⟩, ⟨(some (K.ofNat 36)), none, .mv (.t (K.ofNat 7))⟩, ⟨(some (K.ofNat 37)), none, .bin .sub (.t (K.ofNat 36)) (.c (.i .i64 (.ofNat 1)))⟩], (some ⟨none, none, .st 1 (.t (K.ofNat 48)) (.t (K.ofNat 46))⟩), []⟩, ⟨[], [], none, []⟩]
noncomputable def f104_r5 : List EOper := [⟨(some (K.ofNat 31)), none, .mv (.t (K.ofNat 7))⟩, ⟨(some (K.ofNat 32)), none, .bin .sub (.t (K.ofNat 31)) (.c (.i .i64 (.ofNat 1)))⟩, ⟨(some (K.ofNat 7)), none, .as (.t (K.ofNat 32))⟩]
noncomputable def f104_l0 : EC := (.seq (.seq (.draw f104_r3) (.cond (.t (K.ofNat 30)) .skip (.exit 2))) (.seq (.block 3 (.draw f104_r4)) (.reg f104_r5)))
noncomputable def f104_r6 : List EOper := [⟨(some (K.ofNat 13)), none, .mv (.t (K.ofNat 6))⟩, ⟨(some (K.ofNat 14)), none, .bin .add (.t (K.ofNat 13)) (.c (.i .i64 (.ofNat 1)))⟩, ⟨(some (K.ofNat 6)), none, .as (.t (K.ofNat 14))⟩]
noncomputable def f104_l1 : EC := (.seq (.seq (.reg f104_r1) (.cond (.t (K.ofNat 12)) .skip (.exit 0))) (.seq (.block 1 (.seq (.reg f104_r2) (.block 2 (.loop f104_l0)))) (.reg f104_r6)))
noncomputable def f104_c : EC := (.seq (.reg f104_r0) (.block 0 (.loop f104_l1)))
noncomputable def f104 : EF := ⟨49, [], f104_c, none⟩
theorem f104_rs : f104.rs = [] := of_eq_true (eq_self _)
noncomputable def f114_r0 : List EOper := [⟨(some (K.ofNat 2)), none, .as (.c (.i .i64 (.ofNat 0)))⟩]
noncomputable def f114_r1 : List EOper := [⟨(some (K.ofNat 3)), none, .mv (.t (K.ofNat 0))⟩, ⟨(some (K.ofNat 4)), none, .bin .geq (.t (K.ofNat 3)) (.c (.i .u64 (.ofNat 4294967296)))⟩]
noncomputable def f114_r2 : List EOper := [⟨(some (K.ofNat 5)), none, .mv (.t (K.ofNat 0))⟩, ⟨(some (K.ofNat 6)), none, .bin .shr (.t (K.ofNat 5)) (.c (.i .u64 (.ofNat 32)))⟩, ⟨(some (K.ofNat 0)), none, .as (.t (K.ofNat 6))⟩]
noncomputable def f114_r3 : List EOper := [⟨(some (K.ofNat 2)), none, .as (.c (.i .i64 (.ofNat 32)))⟩]
noncomputable def f114_r4 : List EOper := [⟨(some (K.ofNat 7)), none, .mv (.t (K.ofNat 0))⟩, ⟨(some (K.ofNat 8)), none, .bin .geq (.t (K.ofNat 7)) (.c (.i .u64 (.ofNat 65536)))⟩]
noncomputable def f114_r5 : List EOper := [⟨(some (K.ofNat 9)), none, .mv (.t (K.ofNat 0))⟩, ⟨(some (K.ofNat 10)), none, .bin .shr (.t (K.ofNat 9)) (.c (.i .u64 (.ofNat 16)))⟩, ⟨(some (K.ofNat 0)), none, .as (.t (K.ofNat 10))⟩]
noncomputable def f114_r6 : List EOper := [⟨(some (K.ofNat 11)), none, .mv (.t (K.ofNat 2))⟩, ⟨(some (K.ofNat 12)), none, .bin .add (.t (K.ofNat 11)) (.c (.i .i64 (.ofNat 16)))⟩, ⟨(some (K.ofNat 2)), none, .as (.t (K.ofNat 12))⟩]
noncomputable def f114_r7 : List EOper := [⟨(some (K.ofNat 13)), none, .mv (.t (K.ofNat 0))⟩, ⟨(some (K.ofNat 14)), none, .bin .geq (.t (K.ofNat 13)) (.c (.i .u64 (.ofNat 256)))⟩]
noncomputable def f114_r8 : List EOper := [⟨(some (K.ofNat 15)), none, .mv (.t (K.ofNat 0))⟩, ⟨(some (K.ofNat 16)), none, .bin .shr (.t (K.ofNat 15)) (.c (.i .u64 (.ofNat 8)))⟩, ⟨(some (K.ofNat 0)), none, .as (.t (K.ofNat 16))⟩]
noncomputable def f114_r9 : List EOper := [⟨(some (K.ofNat 17)), none, .mv (.t (K.ofNat 2))⟩, ⟨(some (K.ofNat 18)), none, .bin .add (.t (K.ofNat 17)) (.c (.i .i64 (.ofNat 8)))⟩, ⟨(some (K.ofNat 2)), none, .as (.t (K.ofNat 18))⟩]
noncomputable def f114_r10 : List EOper := [⟨(some (K.ofNat 19)), none, .mv (.t (K.ofNat 2))⟩, ⟨(some (K.ofNat 20)), none, .mv (.t (K.ofNat 0))⟩, ⟨(some (K.ofNat 21)), none, .conv .u8 (.t (K.ofNat 20))⟩, ⟨(some (K.ofNat 22)), none, .pr .sidx (.c (.s ⟨#[0, 1, 2, 2, 3, 3, 3, 3, 4, 4, 4, 4, 4, 4, 4, 4, 5, 5, 5, 5, 5, 5, 5, 5, 5, 5, 5, 5, 5, 5, 5, 5, 6, 6, 6, 6, 6, 6, 6, 6, 6, 6, 6, 6, 6, 6, 6, 6, 6, 6, 6, 6, 6, 6, 6, 6, 6, 6, 6, 6, 6, 6, 6, 6, 7, 7, 7, 7, 7, 7, 7, 7, 7, 7, 7, 7, 7, 7, 7, 7, 7, 7, 7, 7, 7, 7, 7, 7, 7, 7, 7, 7, 7, 7, 7, 7, 7, 7, 7, 7, 7, 7, 7, 7, 7, 7, 7, 7, 7, 7, 7, 7, 7, 7, 7, 7, 7, 7, 7, 7, 7, 7, 7, 7, 7, 7, 7, 7, 8, 8, 8, 8, 8, 8, 8, 8, 8, 8, 8, 8, 8, 8, 8, 8, 8, 8, 8, 8, 8, 8, 8, 8, 8, 8, 8, 8, 8, 8, 8, 8, 8, 8, 8, 8, 8, 8, 8, 8, 8, 8, 8, 8, 8, 8, 8, 8, 8, 8, 8, 8, 8, 8, 8, 8, 8, 8, 8, 8, 8, 8, 8, 8, 8, 8, 8, 8, 8, 8, 8, 8, 8, 8, 8, 8, 8, 8, 8, 8, 8, 8, 8, 8, 8, 8, 8, 8, 8, 8, 8, 8, 8, 8, 8, 8, 8, 8, 8, 8, 8, 8, 8, 8, 8, 8, 8, 8, 8, 8, 8, 8, 8, 8, 8, 8, 8, 8, 8, 8, 8, 8, 8, 8, 8, 8, 8, 8]⟩)) (.t (K.ofNat 21))⟩, ⟨(some (K.ofNat 23)), none, .conv .i64 (.t (K.ofNat 22))⟩, ⟨(some (K.ofNat 24)), none, .bin .add (.t (K.ofNat 19)) (.t (K.ofNat 23))⟩, ⟨(some (K.ofNat 2)), none, .as (.t (K.ofNat 24))⟩]
noncomputable def f114_c : EC := (.seq (.reg f114_r0) (.seq (.seq (.reg f114_r1) (.cond (.t (K.ofNat 4)) (.seq (.reg f114_r2) (.reg f114_r3)) .skip)) (.seq (.seq (.reg f114_r4) (.cond (.t (K.ofNat 8)) (.seq (.reg f114_r5) (.reg f114_r6)) .skip)) (.seq (.seq (.reg f114_r7) (.cond (.t (K.ofNat 14)) (.seq (.reg f114_r8) (.reg f114_r9)) .skip)) (.seq (.reg f114_r10) .ret)))))
noncomputable def f114 : EF := ⟨25, [.tmp (K.ofNat 2)], f114_c, none⟩
noncomputable def f99_r0 : List EOper := [⟨(some (K.ofNat 2)), none, .as (.c (.i .i64 (.ofNat 0)))⟩]
noncomputable def f99_r1 : List EOper := [⟨(some (K.ofNat 3)), none, .mv (.t (K.ofNat 0))⟩, ⟨(some (K.ofNat 4)), none, .conv .u32 (.t (K.ofNat 3))⟩, ⟨(some (K.ofNat 5)), none, .call (.c (.fn (K.ofNat 113) [])) [(.t (K.ofNat 4))]⟩, ⟨(some (K.ofNat 2)), none, .as (.t (K.ofNat 5))⟩]
noncomputable def f99_r2 : List EOper := [⟨(some (K.ofNat 6)), none, .mv (.t (K.ofNat 0))⟩, ⟨(some (K.ofNat 7)), none, .call (.c (.fn (K.ofNat 114) [])) [(.t (K.ofNat 6))]⟩, ⟨(some (K.ofNat 2)), none, .as (.t (K.ofNat 7))⟩]
noncomputable def f99_c : EC := (.seq (.reg f99_r0) (.seq (.cond (.c (.b false)) (.seq (.reg f99_r1) .ret) .skip) (.seq (.reg f99_r2) .ret)))
noncomputable def f99 : EF := ⟨8, [.tmp (K.ofNat 2)], f99_c, none⟩
theorem f99_rs : f99.rs = [.tmp (K.ofNat 2)] := of_eq_true (eq_self _)
noncomputable def f98_r0 : List EOper := [⟨(some (K.ofNat 8)), none, .as (.c (.b true))⟩]
noncomputable def f98_r1 : List EOper := [⟨(some (K.ofNat 9)), none, .as (.c (.b true))⟩]
noncomputable def f98_r2 : List EOper := [⟨(some (K.ofNat 19)), none, .mv (.t (K.ofNat 2))⟩, ⟨(some (K.ofNat 20)), none, .mv (.t (K.ofNat 1))⟩, ⟨(some (K.ofNat 21)), none, .bin .sub (.t (K.ofNat 19)) (.t (K.ofNat 20))⟩, ⟨(some (K.ofNat 10)), none, .as (.t (K.ofNat 21))⟩]
noncomputable def f98_r3 : List EOper := [⟨(some (K.ofNat 22)), none, .mv (.t (K.ofNat 10))⟩, ⟨(some (K.ofNat 23)), none, .bin .leq (.t (K.ofNat 22)) (.c (.i .i64 (.ofNat 12)))⟩]
noncomputable def f98_r4 : List EOper := [⟨(some (K.ofNat 24)), none, .mv (.t (K.ofNat 0))⟩, ⟨(some (K.ofNat 25)), none, .mv (.t (K.ofNat 1))⟩, ⟨(some (K.ofNat 26)), none, .mv (.t (K.ofNat 2))⟩, ⟨(some (K.ofNat 27)), none, .call (.c (.fn (K.ofNat 104) [])) [(.t (K.ofNat 24)), (.t (K.ofNat 25)), (.t (K.ofNat 26))]⟩]
noncomputable def f98_r5 : List EOper := [⟨(some (K.ofNat 28)), none, .mv (.t (K.ofNat 3))⟩, ⟨(some (K.ofNat 29)), none, .bin .eql (.t (K.ofNat 28)) (.c (.i .i64 (.ofNat 0)))⟩]
noncomputable def f98_r6 : List EOper := [⟨(some (K.ofNat 30)), none, .mv (.t (K.ofNat 0))⟩, ⟨(some (K.ofNat 31)), none, .mv (.t (K.ofNat 1))⟩, ⟨(some (K.ofNat 32)), none, .mv (.t (K.ofNat 2))⟩, ⟨(some (K.ofNat 33)), none, .call (.c (.fn (K.ofNat 105) [])) [(.t (K.ofNat 30)), (.t (K.ofNat 31)), (.t (K.ofNat 32))]⟩]
noncomputable def f98_r7 : List EOper := [⟨(some (K.ofNat 34)), none, .mv (.t (K.ofNat 8))⟩, ⟨(some (K.ofNat 35)), none, .not (.t (K.ofNat 34))⟩]
noncomputable def f98_r8 : List EOper := [⟨(some (K.ofNat 36)), none, .mv (.t (K.ofNat 0))⟩, ⟨(some (K.ofNat 37)), none, .mv (.t (K.ofNat 1))⟩, ⟨(some (K.ofNat 38)), none, .mv (.t (K.ofNat 2))⟩, ⟨(some (K.ofNat 39)), none, .call (.c (.fn (K.ofNat 106) [])) [(.t (K.ofNat 36)), (.t (K.ofNat 37)), (.t (K.ofNat 38))]⟩]
noncomputable def f98_r9 : List EOper := [⟨(some (K.ofNat 40)), none, .mv (.t (K.ofNat 3))⟩, ⟨(some (K.ofNat 41)), none, .bin .sub (.t (K.ofNat 40)) (.c (.i .i64 (.ofNat 1)))⟩, ⟨(some (K.ofNat 3)), none, .as (.t (K.ofNat 41))⟩]
noncomputable def f98_r10 : List EOper := [⟨(some (K.ofNat 43)), none, .mv (.t (K.ofNat 0))⟩, ⟨(some (K.ofNat 44)), none, .mv (.t (K.ofNat 1))⟩, ⟨(some (K.ofNat 45)), none, .mv (.t (K.ofNat 2))⟩, ⟨(some (K.ofNat 46)), none, .call (.c (.fn (K.ofNat 107) [])) [(.t (K.ofNat 43)), (.t (K.ofNat 44)), (.t (K.ofNat 45))]⟩, ⟨(some (K.ofNat 42)), none, .mv (.t (K.ofNat 46))⟩, ⟨(some (K.ofNat 47)), none, .ext (.t (K.ofNat 42)) 0⟩, ⟨(some (K.ofNat 48)), none, .ext (.t (K.ofNat 42)) 1⟩, ⟨(some (K.ofNat 11)), none, .as (.t (K.ofNat 47))⟩, ⟨(some (K.ofNat 12)), none, .as (.t (K.ofNat 48))⟩]
noncomputable def f98_r11 : List EOper := [⟨(some (K.ofNat 49)), none, .mv (.t (K.ofNat 12))⟩, ⟨(some (K.ofNat 50)), none, .bin .eql (.t (K.ofNat 49)) (.c (.i .i64 (.ofNat 2)))⟩]
noncomputable def f98_r12 : List EOper := [⟨(some (K.ofNat 51)), none, .mv (.t (K.ofNat 0))⟩, ⟨(some (K.ofNat 52)), none, .mv (.t (K.ofNat 1))⟩, ⟨(some (K.ofNat 53)), none, .mv (.t (K.ofNat 2))⟩, ⟨(some (K.ofNat 54)), none, .call (.c (.fn (K.ofNat 108) [])) [(.t (K.ofNat 51)), (.t (K.ofNat 52)), (.t (K.ofNat 53))]⟩]
noncomputable def f98_r13 : List EOper := [⟨(some (K.ofNat 55)), none, .mv (.t (K.ofNat 2))⟩, ⟨(some (K.ofNat 56)), none, .bin .sub (.t (K.ofNat 55)) (.c (.i .i64 (.ofNat 1)))⟩, ⟨(some (K.ofNat 57)), none, .mv (.t (K.ofNat 11))⟩, ⟨(some (K.ofNat 58)), none, .mv (.t (K.ofNat 1))⟩, ⟨(some (K.ofNat 59)), none, .bin .sub (.t (K.ofNat 57)) (.t (K.ofNat 58))⟩, ⟨(some (K.ofNat 60)), none, .bin .sub (.t (K.ofNat 56)) (.t (K.ofNat 59))⟩, ⟨(some (K.ofNat 11)), none, .as (.t (K.ofNat 60))⟩]
noncomputable def f98_r14 : List EOper := [⟨(some (K.ofNat 12)), none, .as (.c (.i .i64 (.ofNat 1)))⟩]
noncomputable def f98_r15 : List EOper := [⟨(some (K.ofNat 61)), none, .mv (.t (K.ofNat 8))⟩, ⟨(some (K.ofNat 62)), none, .mv (.t (K.ofNat 61))⟩, ⟨(some (K.ofNat 63)), (some ((K.ofNat 62), true)), .mv (.t (K.ofNat 9))⟩, ⟨(some (K.ofNat 64)), none, .pick (.t (K.ofNat 62)) (.t (K.ofNat 63)) (.c (.b false))⟩, ⟨(some (K.ofNat 65)), none, .mv (.t (K.ofNat 64))⟩, ⟨(some (K.ofNat 66)), (some ((K.ofNat 65), true)), .mv (.t (K.ofNat 12))⟩, ⟨(some (K.ofNat 67)), (some ((K.ofNat 65), true)), .bin .eql (.t (K.ofNat 66)) (.c (.i .i64 (.ofNat 1)))⟩, ⟨(some (K.ofNat 68)), none, .pick (.t (K.ofNat 65)) (.t (K.ofNat 67)) (.c (.b false))⟩]
noncomputable def f98_r16 : List EOper := [⟨(some (K.ofNat 69)), none, .mv (.t (K.ofNat 0))⟩, ⟨(some (K.ofNat 70)), none, .mv (.t (K.ofNat 1))⟩, ⟨(some (K.ofNat 71)), none, .mv (.t (K.ofNat 2))⟩, ⟨(some (K.ofNat 72)), none, .call (.c (.fn (K.ofNat 109) [])) [(.t (K.ofNat 69)), (.t (K.ofNat 70)), (.t (K.ofNat 71))]⟩]
noncomputable def f98_r17 : List Stage := [⟨[⟨(some (K.ofNat 73)), none, .mv (.t (K.ofNat 1))⟩, ⟨(some (K.ofNat 74)), none, .bin .gtr (.t (K.ofNat 73)) (.c (.i .i64 (.ofNat 0)))⟩, ⟨(some (K.ofNat 75)), none, .mv (.t (K.ofNat 74))⟩, ⟨(some (K.ofNat 76)), (some ((K.ofNat 75), true)), .mv (.t (K.ofNat 0))⟩, ⟨(some (K.ofNat 77)), (some ((K.ofNat 75), true)), .mv (.t (K.ofNat 1))⟩, ⟨(some (K.ofNat 78)), (some ((K.ofNat 75), true)), .bin .sub (.t (K.ofNat 77)) (.c (.i .i64 (.ofNat 1)))⟩, ⟨(some (K.ofNat 79)), (some ((K.ofNat 75), true)), .iads 1 (.t (K.ofNat 76)) (.t (K.ofNat 78))⟩, ⟨(some (K.ofNat 80)), (some ((K.ofNat 75), true)), .ld (.t (K.ofNat 79))⟩, ⟨(some (K.ofNat 81)), (some ((K.ofNat 75), true)), .mv (.t (K.ofNat 0))⟩, ⟨(some (K.ofNat 82)), (some ((K.ofNat 75), true)), .mv (.t (K.ofNat 11))⟩, ⟨(some (K.ofNat 83)), (some ((K.ofNat 75), true)), .iads 1 (.t (K.ofNat 81)) (.t (K.ofNat 82))⟩, ⟨(some (K.ofNat 84)), (some ((K.ofNat 75), true)), .ld (.t (K.ofNat 83))⟩], [], (some ⟨(some (K.ofNat 85)), (some ((K.ofNat 75), true)), .call (.c (.fn (K.ofNat 110) [])) [(.t (K.ofNat 80)), (.t (K.ofNat 84))]⟩), []⟩, ⟨[⟨(some (K.ofNat 86)), (some ((K.ofNat 75), true)), .not (.t (K.ofNat 85))⟩, ⟨(some (K.ofNat 87)), none, .pick (.t (K.ofNat 75)) (.t (K.ofNat 86)) (.c (.b false))⟩], [], none, []⟩]
noncomputable def f98_r18 : List EOper := [⟨(some (K.ofNat 88)), none, .mv (.t (K.ofNat 0))⟩, ⟨(some (K.ofNat 89)), none, .mv (.t (K.ofNat 1))⟩, ⟨(some (K.ofNat 90)), none, .mv (.t (K.ofNat 2))⟩, ⟨(some (K.ofNat 91)), none, .mv (.t (K.ofNat 11))⟩, ⟨(some (K.ofNat 92)), none, .call (.c (.fn (K.ofNat 111) [])) [(.t (K.ofNat 88)), (.t (K.ofNat 89)), (.t (K.ofNat 90)), (.t (K.ofNat 91))]⟩, ⟨(some (K.ofNat 13)), none, .as (.t (K.ofNat 92))⟩]
noncomputable def f98_r19 : List EOper := [⟨(some (K.ofNat 93)), none, .mv (.t (K.ofNat 13))⟩, ⟨(some (K.ofNat 1)), none, .as (.t (K.ofNat 93))⟩]
noncomputable def f98_r20 : List EOper := [⟨(some (K.ofNat 95)), none, .mv (.t (K.ofNat 0))⟩, ⟨(some (K.ofNat 96)), none, .mv (.t (K.ofNat 1))⟩, ⟨(some (K.ofNat 97)), none, .mv (.t (K.ofNat 2))⟩, ⟨(some (K.ofNat 98)), none, .mv (.t (K.ofNat 11))⟩, ⟨(some (K.ofNat 99)), none, .call (.c (.fn (K.ofNat 112) [])) [(.t (K.ofNat 95)), (.t (K.ofNat 96)), (.t (K.ofNat 97)), (.t (K.ofNat 98))]⟩, ⟨(some (K.ofNat 94)), none, .mv (.t (K.ofNat 99))⟩, ⟨(some (K.ofNat 100)), none, .ext (.t (K.ofNat 94)) 0⟩, ⟨(some (K.ofNat 101)), none, .ext (.t (K.ofNat 94)) 1⟩, ⟨(some (K.ofNat 14)), none, .as (.t (K.ofNat 100))⟩, ⟨(some (K.ofNat 15)), none, .as (.t (K.ofNat 101))⟩]
noncomputable def f98_r21 : List EOper := [⟨(some (K.ofNat 102)), none, .mv (.t (K.ofNat 15))⟩, ⟨(some (K.ofNat 9)), none, .as (.t (K.ofNat 102))⟩]
noncomputable def f98_r22 : List EOper := [⟨(some (K.ofNat 103)), none, .mv (.t (K.ofNat 14))⟩, ⟨(some (K.ofNat 104)), none, .mv (.t (K.ofNat 1))⟩, ⟨(some (K.ofNat 105)), none, .bin .sub (.t (K.ofNat 103)) (.t (K.ofNat 104))⟩, ⟨(some (K.ofNat 106)), none, .mv (.t (K.ofNat 2))⟩, ⟨(some (K.ofNat 107)), none, .mv (.t (K.ofNat 14))⟩, ⟨(some (K.ofNat 108)), none, .bin .sub (.t (K.ofNat 106)) (.t (K.ofNat 107))⟩, ⟨(some (K.ofNat 16)), none, .as (.t (K.ofNat 105))⟩, ⟨(some (K.ofNat 17)), none, .as (.t (K.ofNat 108))⟩]
noncomputable def f98_r23 : List EOper := [⟨(some (K.ofNat 109)), none, .mv (.t (K.ofNat 10))⟩, ⟨(some (K.ofNat 110)), none, .bin .quo (.t (K.ofNat 109)) (.c (.i .i64 (.ofNat 8)))⟩, ⟨(some (K.ofNat 18)), none, .as (.t (K.ofNat 110))⟩]
noncomputable def f98_r24 : List EOper := [⟨(some (K.ofNat 111)), none, .mv (.t (K.ofNat 16))⟩, ⟨(some (K.ofNat 112)), none, .mv (.t (K.ofNat 17))⟩, ⟨(some (K.ofNat 113)), none, .bin .lss (.t (K.ofNat 111)) (.t (K.ofNat 112))⟩]
noncomputable def f98_r25 : List EOper := [⟨(some (K.ofNat 114)), none, .mv (.t (K.ofNat 16))⟩, ⟨(some (K.ofNat 115)), none, .mv (.t (K.ofNat 18))⟩, ⟨(some (K.ofNat 116)), none, .bin .geq (.t (K.ofNat 114)) (.t (K.ofNat 115))⟩, ⟨(some (K.ofNat 8)), none, .as (.t (K.ofNat 116))⟩]
noncomputable def f98_r26 : List EOper := [⟨(some (K.ofNat 117)), none, .mv (.t (K.ofNat 0))⟩, ⟨(some (K.ofNat 118)), none, .mv (.t (K.ofNat 1))⟩, ⟨(some (K.ofNat 119)), none, .mv (.t (K.ofNat 14))⟩, ⟨(some (K.ofNat 120)), none, .mv (.t (K.ofNat 3))⟩, ⟨(some (K.ofNat 121)), none, .call (.c (.fn (K.ofNat 98) [])) [(.t (K.ofNat 117)), (.t (K.ofNat 118)), (.t (K.ofNat 119)), (.t (K.ofNat 120))]⟩]
noncomputable def f98_r27 : List EOper := [⟨(some (K.ofNat 122)), none, .mv (.t (K.ofNat 14))⟩, ⟨(some (K.ofNat 123)), none, .bin .add (.t (K.ofNat 122)) (.c (.i .i64 (.ofNat 1)))⟩, ⟨(some (K.ofNat 1)), none, .as (.t (K.ofNat 123))⟩]
noncomputable def f98_r28 : List EOper := [⟨(some (K.ofNat 124)), none, .mv (.t (K.ofNat 17))⟩, ⟨(some (K.ofNat 125)), none, .mv (.t (K.ofNat 18))⟩, ⟨(some (K.ofNat 126)), none, .bin .geq (.t (K.ofNat 124)) (.t (K.ofNat 125))⟩, ⟨(some (K.ofNat 8)), none, .as (.t (K.ofNat 126))⟩]
noncomputable def f98_r29 : List EOper := [⟨(some (K.ofNat 127)), none, .mv (.t (K.ofNat 0))⟩, ⟨(some (K.ofNat 128)), none, .mv (.t (K.ofNat 14))⟩, ⟨(some (K.ofNat 129)), none, .bin .add (.t (K.ofNat 128)) (.c (.i .i64 (.ofNat 1)))⟩, ⟨(some (K.ofNat 130)), none, .mv (.t (K.ofNat 2))⟩, ⟨(some (K.ofNat 131)), none, .mv (.t (K.ofNat 3))⟩, ⟨(some (K.ofNat 132)), none, .call (.c (.fn (K.ofNat 98) [])) [(.t (K.ofNat 127)), (.t (K.ofNat 129)), (.t (K.ofNat 130)), (.t (K.ofNat 131))]⟩]
noncomputable def f98_r30 : List EOper := [⟨(some (K.ofNat 133)), none, .mv (.t (K.ofNat 14))⟩, ⟨(some (K.ofNat 2)), none, .as (.t (K.ofNat 133))⟩]
noncomputable def f98_l0 : EC := (.block 1 (.seq (.reg f98_r2) (.seq (.seq (.reg f98_r3) (.cond (.t (K.ofNat 23)) (.seq (.reg f98_r4) .ret) .skip)) (.seq (.seq (.reg f98_r5) (.cond (.t (K.ofNat 29)) (.seq (.reg f98_r6) .ret) .skip)) (.seq (.seq (.reg f98_r7) (.cond (.t (K.ofNat 35)) (.seq (.reg f98_r8) (.reg f98_r9)) .skip)) (.seq (.reg f98_r10) (.seq (.seq (.reg f98_r11) (.cond (.t (K.ofNat 50)) (.seq (.reg f98_r12) (.seq (.reg f98_r13) (.reg f98_r14))) .skip)) (.seq (.seq (.reg f98_r15) (.cond (.t (K.ofNat 68)) (.seq (.reg f98_r16) (.cond (.t (K.ofNat 72)) .ret .skip)) .skip)) (.seq (.seq (.draw f98_r17) (.cond (.t (K.ofNat 87)) (.seq (.reg f98_r18) (.seq (.reg f98_r19) (.exit 1))) .skip)) (.seq (.reg f98_r20) (.seq (.reg f98_r21) (.seq (.reg f98_r22) (.seq (.reg f98_r23) (.seq (.reg f98_r24) (.cond (.t (K.ofNat 113)) (.seq (.reg f98_r25) (.seq (.reg f98_r26) (.reg f98_r27))) (.seq (.reg f98_r28) (.seq (.reg f98_r29) (.reg f98_r30))))))))))))))))))
noncomputable def f98_c : EC := (.seq (.reg f98_r0) (.seq (.reg f98_r1) (.block 0 (.loop f98_l0))))
noncomputable def f98 : EF := ⟨134, [], f98_c, none⟩
theorem f98_rs : f98.rs = [] := of_eq_true (eq_self _)
noncomputable def f86_r0 : List EOper := [⟨(some (K.ofNat 3)), none, .mv (.t (K.ofNat 0))⟩, ⟨(some (K.ofNat 4)), none, .len (.t (K.ofNat 3))⟩, ⟨(some (K.ofNat 2)), none, .as (.t (K.ofNat 4))⟩]
noncomputable def f86_r1 : List EOper := [⟨(some (K.ofNat 5)), none, .mv (.t (K.ofNat 0))⟩, ⟨(some (K.ofNat 6)), none, .mv (.t (K.ofNat 2))⟩, ⟨(some (K.ofNat 7)), none, .mv (.t (K.ofNat 2))⟩, ⟨(some (K.ofNat 8)), none, .conv .u64 (.t (K.ofNat 7))⟩, ⟨(some (K.ofNat 9)), none, .call (.c (.fn (K.ofNat 99) [])) [(.t (K.ofNat 8))]⟩, ⟨(some (K.ofNat 10)), none, .call (.c (.fn (K.ofNat 98) [])) [(.t (K.ofNat 5)), (.c (.i .i64 (.ofNat 0))), (.t (K.ofNat 6)), (.t (K.ofNat 9))]⟩]
noncomputable def f86_c : EC := (.seq (.reg f86_r0) (.reg f86_r1))
noncomputable def f86 : EF := ⟨11, [], f86_c, none⟩
theorem f86_rs : f86.rs = [] := of_eq_true (eq_self _)
def insL (x : Int) : List Int → List Int
  | [] => [x]
  | y :: P => if y ≤ x then y :: insL x P else x :: y :: P
def srtL (S : List Int) : List Int := S.foldl (fun P x => insL x P) []
theorem insL_len {x : Int} : ∀ {P : List Int}, (insL x P).length = P.length + 1
  | [] => rfl
  | y :: P => by
    unfold insL
    split
    · rw [List.length_cons, insL_len]; rfl
    · rfl
theorem insL_app {x : Int} {B : List Int} (hB : ∀ b ∈ B.head?, ¬ b ≤ x) : ∀ {A : List Int}, (∀ y ∈ A, y ≤ x) → insL x (A ++ B) = A ++ x :: B
  | [], _ => by
    cases B with
    | nil => rfl
    | cons b B => show (if b ≤ x then _ else _) = _; rw [if_neg (hB b (by simp))]; rfl
  | y :: A, h => by
    show (if y ≤ x then y :: insL x (A ++ B) else _) = _
    rw [if_pos (h y (by simp)), insL_app hB (fun z hz => h z (List.mem_cons_of_mem _ hz))]; rfl
theorem insL_mem {x z : Int} : ∀ {P : List Int}, z ∈ insL x P → z = x ∨ z ∈ P
  | [], h => .inl (List.mem_singleton.1 h)
  | y :: P, h => by
    unfold insL at h
    split at h
    · rcases List.mem_cons.1 h with rfl | h
      · exact .inr (by simp)
      · rcases insL_mem h with h | h
        · exact .inl h
        · exact .inr (List.mem_cons_of_mem _ h)
    · rcases List.mem_cons.1 h with rfl | h
      · exact .inl rfl
      · exact .inr h
theorem insL_srt {x : Int} : ∀ {P : List Int}, P.Pairwise (· ≤ ·) → (insL x P).Pairwise (· ≤ ·)
  | [], _ => by simp [insL]
  | y :: P, h => by
    obtain ⟨h1, h2⟩ := List.pairwise_cons.1 h
    unfold insL
    split
    · rename_i hy
      refine List.pairwise_cons.2 ⟨fun z hz => ?_, insL_srt h2⟩
      rcases insL_mem hz with rfl | hz
      · exact hy
      · exact h1 z hz
    · rename_i hy
      refine List.pairwise_cons.2 ⟨fun z hz => ?_, h⟩
      rcases List.mem_cons.1 hz with rfl | hz
      · omega
      · have := h1 z hz; omega
theorem srtL_snoc {S : List Int} {x : Int} : srtL (S ++ [x]) = insL x (srtL S) := by unfold srtL; rw [List.foldl_append]; rfl
theorem srt_aux : ∀ (S P : List Int), P.Pairwise (· ≤ ·) → (S.foldl (fun P x => insL x P) P).Pairwise (· ≤ ·) ∧ (S.foldl (fun P x => insL x P) P).length = P.length + S.length ∧ ∀ z ∈ S.foldl (fun P x => insL x P) P, z ∈ P ∨ z ∈ S
  | [], P, h => ⟨h, by simp, fun z hz => .inl hz⟩
  | x :: S, P, h => by
    obtain ⟨h1, h2, h3⟩ := srt_aux S (insL x P) (insL_srt h)
    refine ⟨h1, by show (S.foldl _ (insL x P)).length = _; rw [h2, insL_len]; simp; omega, fun z hz => ?_⟩
    rcases h3 z hz with h4 | h4
    · rcases insL_mem h4 with rfl | h4
      · exact .inr (by simp)
      · exact .inl h4
    · exact .inr (List.mem_cons_of_mem _ h4)
theorem srtL_srt {S : List Int} : (srtL S).Pairwise (· ≤ ·) := (srt_aux S [] List.Pairwise.nil).1
theorem srtL_len {S : List Int} : (srtL S).length = S.length := by have := (srt_aux S [] List.Pairwise.nil).2.1; unfold srtL; rw [this]; simp
theorem srtL_mem {S : List Int} {z : Int} (h : z ∈ srtL S) : z ∈ S := by
  rcases (srt_aux S [] List.Pairwise.nil).2.2 z h with h | h
  · simp at h
  · exact h
theorem swap_at {p x : Int} {B : List Int} : ∀ {A : List Int}, ((A ++ p :: x :: B).set (A.length + 1) p).set A.length x = A ++ x :: p :: B
  | [] => rfl
  | a :: A => by simp
structure CallsSr (fs : T EF) : Prop where
  c_nan : fs.get (K.ofNat 103) = some f103
  c_less : fs.get (K.ofNat 110) = some f110
  c_ins : fs.get (K.ofNat 104) = some f104
  c_l64 : fs.get (K.ofNat 114) = some f114
  c_blen : fs.get (K.ofNat 99) = some f99
  c_pdq : fs.get (K.ofNat 98) = some f98
section
variable {fs : T EF} {h : H} {v : V} {S : List Int}
theorem nan_ret {x : Int} : Ret fs f103 [.i .i64 x] h fun r h' => r = .b false ∧ h' = h := by
  apply ret_of rfl
  show W fs none f103_c _ _ _
  unfold f103_c
  have d : decide (x ≠ x) = false := by simp
  simp (disch := omega) only [f103_r0, f103_r1, f103_rs, w_reg, w_seq, w_ret, seqK_n, retK_r, x_nil, x_mv, x_as, x_bin, kx, rvP_ok, okv_some, ev_t, ev_c, getV_some, putD_some, bin_neq, oGet_s, readRs_nil, readRs_t, retV_1, frame_1, Option.some.injEq, exists_eq_left', getK_set, Nat.reduceEqDiff, ↓reduceIte, d, and_self]
theorem less_ret {x y : Int} (k : CallsSr fs) : Ret fs f110 [.i .i64 x, .i .i64 y] h fun r h' => r = .b (decide (x < y)) ∧ h' = h := by
  apply ret_of rfl
  show W fs none f110_c _ _ _
  unfold f110_c
  simp (disch := omega) only [f110_r0, f110_r1, w_reg, w_seq, seqK_n, x_nil, x_mv, x_as, x_call, ev_t, ev_c, evs_nil, evs_cons, getV_some, putD_some, frame_2, getK_set, Nat.reduceEqDiff, ↓reduceIte]
  refine (callP_0 (ef := f103) k.c_nan rfl (nan_ret)).mono ?_
  rintro r h1 ⟨rfl, rfl⟩
  simp (disch := omega) only [f110_rs, w_ret, seqK_n, okG_b, asG_t, asG_f, retK_r, x_nil, x_g, x_mv, x_as, x_pick, x_bin, kx, rvP_ok, okv_some, ev_t, ev_c, getV_some, putD_some, bin_lss, pick_b, oGet_s, readRs_nil, readRs_t, retV_1, Option.some.injEq, exists_eq_left', getK_set, Nat.reduceEqDiff, ↓reduceIte, Bool.false_eq_true, Bool.not_false, and_self]
/-- What a sort leaves alone. -/
structure Only (v : V) (h h' : H) : Prop where
  nx : h'.nx = h.nx
  old : ∀ id, NotIn id v → h'.get id = h.get id
theorem Only.refl : Only v h h := ⟨rfl, fun _ _ => rfl⟩
theorem Only.hc {h' : H} (o : Only v h h') (hc : HC h) (hv : ∀ id off n sz, v = .sl id off n sz → id.nat < h.nx.nat) : HC h' := fun id hid => by
  rw [o.nx] at hid
  rw [o.old id (fun off n sz e => by have := hv _ _ _ _ e; omega)]
  exact hc id hid
theorem Only.put {h' : H} {id : K} {x : Blk} (o : Only v h h') (hv : ∃ off n sz, v = .sl id off n sz) : Only v h (h'.put id x) := ⟨o.nx, fun id' hn => by
  obtain ⟨off, n, sz, e⟩ := hv
  rw [get_put_other (fun q => hn off n sz (by rw [q]; exact e))]
  exact o.old id' hn⟩
theorem Only.grow {h' : H} {b : Nat} (o : Only v h h') (ho : Own b v) (hv : ∀ id off n sz, v = .sl id off n sz → id.nat < h.nx.nat) : Grow b h h' := ⟨by rw [o.nx]; exact Nat.le_refl _, fun id hi => o.old id (ho.notIn hi), fun hc => o.hc hc hv⟩
def ins_I (h : H) (v : V) (S : List Int) (i : Nat) (fr : Fr) (h1 : H) : Prop := 1 ≤ i ∧ i ≤ S.length ∧ Only v h h1 ∧ Sl iE h1 v (srtL (S.take i) ++ S.drop i) ∧ fr.get (K.ofNat 0) = some (v) ∧ fr.get (K.ofNat 1) = some (.i .i64 0) ∧ fr.get (K.ofNat 2) = some (.i .i64 (S.length : Int)) ∧ fr.get (K.ofNat 6) = some (.i .i64 (i : Int))
def ins_J (h : H) (v : V) (S P R : List Int) (x : Int) (i j : Nat) (fr : Fr) (h1 : H) : Prop := j ≤ i ∧ Only v h h1 ∧ Sl iE h1 v ((P.take j ++ x :: P.drop j) ++ R) ∧ (∀ b ∈ (P.drop j).head?, ¬ b ≤ x) ∧ fr.get (K.ofNat 0) = some (v) ∧ fr.get (K.ofNat 1) = some (.i .i64 0) ∧ fr.get (K.ofNat 2) = some (.i .i64 (S.length : Int)) ∧ fr.get (K.ofNat 6) = some (.i .i64 (i : Int)) ∧ fr.get (K.ofNat 7) = some (.i .i64 (j : Int))
theorem ins_ret (k : CallsSr fs) (hv : Sl iE h v S) (hS : S.length ≤ 1000) (h1 : 1 ≤ S.length) (hc : HC h) : Ret fs f104 [v, .i .i64 0, .i .i64 (S.length : Int)] h fun r h' => r = .tup [] ∧ Sl iE h' v (srtL S) ∧ Only v h h' := by
  have hlt0 := hv.lt hc
  apply ret_of rfl
  show W fs none f104_c _ _ _
  unfold f104_c
  simp (disch := omega) only [f104_r0, w_reg, w_seq, w_block, seqK_n, x_nil, x_mv, x_as, x_bin, kx, rvP_ok, okv_some, ev_t, ev_c, getV_some, putD_some, bin_add, frame_3, of1, getK_set, Nat.reduceEqDiff, ↓reduceIte, fw64]
  refine W_loop (ins_I h v S) (fun i => S.length - i) ?_ 1 ⟨by omega, h1, Only.refl, ?_, by simp (disch := omega) only [getK_set, Nat.reduceEqDiff, ↓reduceIte, and_self, Int.natCast_one, Int.zero_add]⟩
  · rintro i fr h2 ⟨hi0, hi, hO, hs, g0, g1, g2, g6⟩
    unfold f104_l1
    by_cases hlt : i < S.length
    · have d0 : decide ((i : Int) < (S.length : Int)) = true := by simpa using hlt
      have hP : (srtL (S.take i)).length = i := by rw [srtL_len]; simp; omega
      have hsr := srtL_srt (S := S.take i)
      have hsn : srtL (S.take (i + 1)) = insL S[i] (srtL (S.take i)) := by rw [List.take_succ_eq_append_getElem hlt, srtL_snoc]
      have hdr : S.drop i = S[i] :: S.drop (i + 1) := List.drop_eq_getElem_cons hlt
      generalize S[i] = x at *
      generalize srtL (S.take i) = P at *
      generalize hRe : S.drop (i + 1) = R at *
      simp (disch := omega) only [f104_r1, f104_r2, w_skip, w_reg, w_seq, w_cond, w_block, seqK_n, ckB_b, cbB_b, true_and, x_nil, x_mv, x_as, x_bin, kx, rvP_ok, okv_some, ev_t, getV_some, putD_some, bin_lss, getK_set, Nat.reduceEqDiff, ↓reduceIte, g2, g6, d0]
      refine W_loop (ins_J h v S P R x i) (fun j => j) ?_ i ⟨Nat.le_refl _, hO, by rw [List.take_of_length_le (by omega), List.drop_eq_nil_of_le (by omega), List.append_assoc]; rw [hdr] at hs; exact hs, by rw [List.drop_eq_nil_of_le (by omega)]; exact (fun b hb => absurd hb (by simp)), by simp (disch := omega) only [getK_set, Nat.reduceEqDiff, ↓reduceIte, g0, g1, g2, g6, and_self]⟩
      clear hs hO g0 g1 g2 g6 fr
      rintro j fr h3 ⟨hj, hO, hs, hB, g0, g1, g2, g6, g7⟩
      unfold f104_l0
      rcases j with _ | j
      · have d1 : decide ((0 : Int) > 0) = false := rfl
        have e := insL_app hB (A := []) (by simp)
        simp only [List.take_zero, List.drop_zero, List.nil_append] at hs e
        rw [← e, ← hsn] at hs
        simp (disch := omega) only [f104_r3, f104_r6, w_reg, w_draw, w_seq, w_cond, w_exit, seqK_n, seqK_e, atK_n, atK_e, loopK_n, loopK_e, ckB_b, cbB_b, okG_b, asG_t, true_and, x_nil, x_g, x_mv, x_as, x_bin, kx, kg, xg_nil, xg_g, xg_mv, xg_pick, xg_bin, xd_cons, fresh_nil, stK_n, stK_s, stay_nil, rvP_ok, okv_some, ev_t, ev_c, getV_some, putD_some, bin_add, bin_gtr, pick_b, of1, getK_set, Nat.reduceEqDiff, ↓reduceIte, Bool.false_eq_true, g1, g6, g7, Int.natCast_zero, d1, fw64]
        exact ⟨i + 1, by omega, by omega, by omega, hO, by rw [hRe]; exact hs, by simp (disch := omega) only [getK_set, Nat.reduceEqDiff, ↓reduceIte, g0, g1, g2, and_self, Int.natCast_add, Int.natCast_one]⟩
      · have d1 : decide (((j + 1 : Nat) : Int) > 0) = true := decide_eq_true (by omega)
        have hj1 : ((j + 1 : Nat) : Int) - 1 = (j : Int) := by omega
        have hjP : j < P.length := by omega
        have htk : P.take (j + 1) = P.take j ++ [P[j]] := List.take_succ_eq_append_getElem hjP
        have hdj : P.drop j = P[j] :: P.drop (j + 1) := List.drop_eq_getElem_cons hjP
        have hpw : ∀ y ∈ P.take (j + 1), y ≤ P[j] := fun y hy => by
          obtain ⟨a, ha, rfl⟩ := List.getElem_of_mem hy
          have ha' : a < j + 1 := by simp at ha; omega
          rw [List.getElem_take]
          by_cases e : a = j
          · subst e; exact Int.le_refl _
          · exact List.pairwise_iff_getElem.1 hsr a j (by omega) hjP (by omega)
        have hA : (P.take j).length = j := by simp; omega
        rw [htk] at hs
        have hs' : Sl iE h3 v (P.take j ++ P[j] :: x :: (P.drop (j + 1) ++ R)) := by rw [List.append_assoc (P.take j), List.append_assoc (P.take j)] at hs; exact hs
        generalize P[j] = p at *
        generalize hAe : P.take j = A at *
        generalize P.drop (j + 1) = B at *
        have hlen : (A ++ p :: x :: (B ++ R)).length = A.length + (B ++ R).length + 2 := by simp; omega
        obtain ⟨p1, a1, a2⟩ := hs'.at (j + 1) (by omega)
        obtain ⟨p0, b1, b2⟩ := hs'.at j (by omega)
        have x1 : (A ++ p :: x :: (B ++ R))[j + 1]'(by omega) = x := by simp [← hA]
        have x0 : (A ++ p :: x :: (B ++ R))[j]'(by omega) = p := by simp [← hA]
        rw [x1] at a2
        rw [x0] at b2
        cases d2 : decide (x < p) with
        | false =>
          have hle : p ≤ x := by have := of_decide_eq_false d2; omega
          have hall : ∀ y ∈ P.take (j + 1), y ≤ x := fun y hy => Int.le_trans (hpw y hy) hle
          rw [htk] at hall
          have e := insL_app hB hall
          have hPe : P = (A ++ [p]) ++ B := by
            have := List.take_append_drop (j + 1) P
            rw [htk] at this
            have e2 : P.drop (j + 1) = B := by
              have := hdj
              rw [List.drop_eq_getElem_cons hjP] at this
              injection this
            rw [e2] at this
            exact this.symm
          rw [← hPe] at e
          have hs2 : Sl iE h3 v (srtL (S.take (i + 1)) ++ R) := by rw [hsn, e]; exact hs
          simp (disch := omega) only [f104_r3, w_draw, w_seq, okG_b, asG_t, true_and, x_g, x_call, kg, xg_nil, xg_g, xg_mv, xg_ld, xg_bin, xg_iads, xd_cons, fresh_nil, stK_s, stay_nil, rvP_ok, okv_some, ev_t, ev_c, evs_nil, evs_cons, getV_some, putD_some, bin_sub, bin_gtr, of1, getK_set, Nat.reduceEqDiff, ↓reduceIte, g0, g1, g7, d1, hj1, a1, a2, b1, b2, iE, fw64]
          refine (callP_0 (ef := f110) k.c_less rfl (less_ret k)).mono ?_
          rintro r h4 ⟨rfl, rfl⟩
          simp (disch := omega) only [f104_r6, w_reg, w_cond, w_exit, seqK_n, seqK_e, atK_n, atK_e, loopK_n, loopK_e, ckB_b, cbB_b, true_and, x_nil, x_mv, x_as, x_bin, kx, kg, xg_nil, xg_pick, xd_cons, fresh_nil, stK_n, stay_nil, rvP_ok, okv_some, ev_t, ev_c, getV_some, putD_some, bin_add, pick_b, of1, getK_set, Nat.reduceEqDiff, ↓reduceIte, Bool.false_eq_true, g6, d2, fw64]
          exact ⟨i + 1, by omega, by omega, by omega, hO, by rw [hRe]; exact hs2, by simp (disch := omega) only [getK_set, Nat.reduceEqDiff, ↓reduceIte, g0, g1, g2, and_self, Int.natCast_add, Int.natCast_one]⟩
        | true =>
          have hgt : ¬ p ≤ x := by have := of_decide_eq_true d2; omega
          have hc3 := hO.hc hc hlt0
          obtain ⟨p1', id, m, cs', z1, z2, z3, ⟨off, nn, sz, z4⟩, z5⟩ := hs'.st (i := j + 1) (by omega) (x := p) (c := .i .i64 p) rfl rfl hc3
          obtain rfl : p1 = p1' := by have := (a1 .i64 h3).symm.trans (z1 .i64 h3); injection this
          have hc4 := (hO.put (x := .cells m cs') ⟨_, _, _, z4⟩).hc hc hlt0
          obtain ⟨p0', id2, m2, cs2, y1, y2, y3, y4, y5⟩ := z3.st (i := j) (by simp; omega) (x := x) (c := .i .i64 x) rfl rfl hc4
          obtain rfl : p0 = p0' := by have := (b1 .i64 h3).symm.trans (y1 .i64 h3); injection this
          have hsw : ((A ++ p :: x :: (B ++ R)).set (j + 1) p).set j x = (A ++ x :: (p :: B)) ++ R := by
            have := swap_at (p := p) (x := x) (B := B ++ R) (A := A)
            rw [hA] at this
            rw [this]; simp
          rw [hsw] at y3
          have hvb := hs.beq
          simp (disch := omega) only [f104_r3, w_draw, w_seq, okG_b, asG_t, true_and, x_g, x_call, kg, xg_nil, xg_g, xg_mv, xg_ld, xg_bin, xg_iads, xd_cons, fresh_nil, stK_s, stay_nil, rvP_ok, okv_some, ev_t, ev_c, evs_nil, evs_cons, getV_some, putD_some, bin_sub, bin_gtr, of1, getK_set, Nat.reduceEqDiff, ↓reduceIte, g0, g1, g7, d1, hj1, a1, a2, b1, b2, iE, fw64]
          refine (callP_0 (ef := f110) k.c_less rfl (less_ret k)).mono ?_
          rintro r h4 ⟨rfl, rfl⟩
          simp (disch := omega) only [f104_r4, f104_r5, w_skip, w_reg, w_draw, w_seq, w_cond, w_block, seqK_n, atK_n, loopK_n, ckB_b, cbB_b, true_and, x_nil, x_mv, x_as, x_st, x_bin, kx, kg, xg_nil, xg_mv, xg_pick, xg_ld, xg_bin, xg_iads, xd_cons, fresh_nil, stK_n, stK_s, stay_nil, stay_cons, again_ok, stay_mv, beq_i, stay_bin, rvP_ok, okv_some, ev_t, ev_c, getV_some, putD_some, putD_none, bin_sub, pick_b, of1, getK_set, Nat.reduceEqDiff, ↓reduceIte, g0, g7, d2, hj1, a1, a2, b1, b2, z2, y2, hvb, iE, fw64]
          refine ⟨j, by omega, by omega, (hO.put ⟨_, _, _, z4⟩).put y4, ?_, ?_, by simp (disch := omega) only [getK_set, Nat.reduceEqDiff, ↓reduceIte, g0, g1, g2, g6, and_self]⟩
          · rw [hAe, hdj]; exact y3
          · rw [hdj]; intro b hb
            obtain rfl : p = b := by simpa using hb
            exact hgt
    · have d0 : decide ((i : Int) < (S.length : Int)) = false := by simpa using hlt
      have ei : i = S.length := by omega
      rw [ei, List.take_length, List.drop_length, List.append_nil] at hs
      simp (disch := omega) only [f104_r1, f104_rs, w_reg, w_seq, w_cond, w_exit, seqK_n, seqK_e, atK_e, loopK_e, ckB_b, cbB_b, true_and, retK_n, x_nil, x_mv, x_bin, kx, rvP_ok, okv_some, ev_t, getV_some, putD_some, bin_lss, readRs_nil, retV_0, Option.some.injEq, exists_eq_left', getK_set, Nat.reduceEqDiff, ↓reduceIte, Bool.false_eq_true, g2, g6, d0, true_and]
      exact ⟨hs, hO⟩
  · have : S.take 1 = [S[0]] := by rw [List.take_succ_eq_append_getElem (by omega)]; simp
    rw [this, show srtL [S[0]] = [S[0]] from rfl, ← this, List.take_append_drop]; exact hv
theorem l64_ret {n : Nat} (hn : n ≤ 12) : Ret fs f114 [.i .u64 (n : Int)] h fun r h' => (∃ b, r = .i .i64 b) ∧ h' = h := by
  rcases (show n = 0 ∨ n = 1 ∨ n = 2 ∨ n = 3 ∨ n = 4 ∨ n = 5 ∨ n = 6 ∨ n = 7 ∨ n = 8 ∨ n = 9 ∨ n = 10 ∨ n = 11 ∨ n = 12 by omega) with rfl | rfl | rfl | rfl | rfl | rfl | rfl | rfl | rfl | rfl | rfl | rfl | rfl <;> exact ⟨20, _, _, rfl, ⟨_, rfl⟩, rfl⟩
theorem blen_ret {n : Nat} (k : CallsSr fs) (hn : n ≤ 12) : Ret fs f99 [.i .u64 (n : Int)] h fun r h' => (∃ b, r = .i .i64 b) ∧ h' = h := by
  apply ret_of rfl
  show W fs none f99_c _ _ _
  unfold f99_c
  simp (disch := omega) only [f99_r0, f99_r2, w_skip, w_reg, w_seq, w_cond, seqK_n, ckB_b, cbB_b, true_and, x_nil, x_mv, x_as, x_call, ev_t, ev_c, evs_nil, evs_cons, getV_some, putD_some, frame_1, of0, getK_set, Nat.reduceEqDiff, ↓reduceIte, Bool.false_eq_true]
  refine (callP_0 (ef := f114) k.c_l64 rfl (l64_ret hn)).mono ?_
  rintro r h1 ⟨⟨b, rfl⟩, rfl⟩
  simp (disch := omega) only [f99_rs, w_ret, seqK_n, retK_r, x_nil, x_as, kx, ev_t, getV_some, putD_some, oGet_s, readRs_nil, readRs_t, retV_1, Option.some.injEq, exists_eq_left', getK_set, ↓reduceIte, and_true]
  exact ⟨b, rfl⟩
theorem pdq_ret {b : Int} (k : CallsSr fs) (hv : Sl iE h v S) (hS : S.length ≤ 12) (h1 : 1 ≤ S.length) (hc : HC h) : Ret fs f98 [v, .i .i64 0, .i .i64 (S.length : Int), .i .i64 b] h fun r h' => r = .tup [] ∧ Sl iE h' v (srtL S) ∧ Only v h h' := by
  apply ret_of rfl
  show W fs none f98_c _ _ _
  unfold f98_c
  have d0 : decide ((S.length : Int) ≤ 12) = true := decide_eq_true (by omega)
  have e0 : (S.length : Int) - 0 = (S.length : Int) := Int.sub_zero _
  simp (disch := omega) only [f98_r0, f98_r1, w_reg, w_seq, w_block, seqK_n, x_nil, x_as, ev_c, putD_some, frame_4]
  refine W_loop (fun (_ : Unit) fr h1 => h1 = h ∧ fr.get (K.ofNat 0) = some (v) ∧ fr.get (K.ofNat 1) = some (.i .i64 0) ∧ fr.get (K.ofNat 2) = some (.i .i64 (S.length : Int))) (fun _ => 0) ?_ () ⟨rfl, by simp (disch := omega) only [getK_set, Nat.reduceEqDiff, ↓reduceIte, and_self]⟩
  rintro _ fr h2 ⟨rfl, g0, g1, g2⟩
  unfold f98_l0
  simp (disch := omega) only [f98_r2, f98_r3, f98_r4, w_reg, w_seq, w_cond, w_block, seqK_n, ckB_b, cbB_b, true_and, x_nil, x_mv, x_as, x_bin, x_call, kx, rvP_ok, okv_some, ev_t, ev_c, evs_nil, evs_cons, getV_some, putD_some, bin_sub, bin_leq, of12, getK_set, Nat.reduceEqDiff, ↓reduceIte, g0, g1, g2, e0, d0, fw64]
  refine (callP_0 (ef := f104) k.c_ins rfl (ins_ret k hv (by omega) h1 hc)).mono ?_
  rintro r h3 ⟨rfl, hs, hO⟩
  simp (disch := omega) only [f98_rs, w_ret, seqK_n, seqK_r, atK_r, loopK_r, true_and, retK_r, x_nil, kx, putD_some, readRs_nil, retV_0, Option.some.injEq, exists_eq_left', true_and]
  exact ⟨hs, hO⟩
/-- slices.Sort. -/
theorem sort_ret (k : CallsSr fs) (hv : Sl iE h v S) (hS : S.length ≤ 12) (h1 : 1 ≤ S.length) (hc : HC h) : Ret fs f86 [v] h fun r h' => r = .tup [] ∧ Sl iE h' v (srtL S) ∧ Only v h h' := by
  apply ret_of rfl
  show W fs none f86_c _ _ _
  unfold f86_c
  have hl := hv.len
  have fu : fw .u64 (S.length : Int) = (S.length : Int) := by
    show (bif Nat.ble S.length (kmax .u64) then Int.ofNat S.length else _) = _
    rw [Nat.ble_eq_true_of_le (show S.length ≤ kmax .u64 from by show S.length ≤ 18446744073709551615; omega)]; rfl
  simp (disch := omega) only [f86_r0, f86_r1, w_reg, w_seq, seqK_n, x_nil, x_mv, x_as, x_conv, x_call, x_len, kx, rvP_ok, ev_t, ev_c, evs_nil, evs_cons, getV_some, putD_some, onI_i, frame_1, of0, getK_set, Nat.reduceEqDiff, ↓reduceIte, hl, fu]
  refine (callP_0 (ef := f99) k.c_blen rfl (blen_ret k hS)).mono ?_
  rintro r h2 ⟨⟨b, rfl⟩, rfl⟩
  simp (disch := omega) only [x_call, kx, ev_t, ev_c, evs_nil, evs_cons, getV_some, putD_some, getK_set, Nat.reduceEqDiff, ↓reduceIte]
  refine (callP_0 (ef := f98) k.c_pdq rfl (pdq_ret k hv hS h1 hc)).mono ?_
  rintro r h3 ⟨rfl, hs, hO⟩
  simp (disch := omega) only [f86_rs, true_and, retK_n, x_nil, kx, putD_some, readRs_nil, retV_0, Option.some.injEq, exists_eq_left', true_and]
  exact ⟨hs, hO⟩
end
end Go.Ev
namespace Go.Ev
open Go Go.RowKit
noncomputable def f85_r0 : List EOper := [⟨(some (K.ofNat 6)), none, .as (.c (.i .u16 (.ofNat 0)))⟩]
noncomputable def f85_r1 : List EOper := [⟨(some (K.ofNat 7)), none, .as (.c (.i .u16 (.ofNat 0)))⟩]
noncomputable def f85_r2 : List EOper := [⟨(some (K.ofNat 9)), none, .mv (.t (K.ofNat 0))⟩, ⟨(some (K.ofNat 8)), none, .as (.t (K.ofNat 9))⟩]
noncomputable def f85_r3 : List EOper := [⟨(some (K.ofNat 10)), none, .mv (.t (K.ofNat 7))⟩, ⟨(some (K.ofNat 11)), none, .mv (.t (K.ofNat 8))⟩, ⟨(some (K.ofNat 12)), none, .call (.c (.fn (K.ofNat 76) [])) [(.t (K.ofNat 10)), (.t (K.ofNat 11))]⟩, ⟨(some (K.ofNat 13)), none, .not (.t (K.ofNat 12))⟩]
noncomputable def f85_r4 : List EOper := [⟨(some (K.ofNat 19)), none, .mv (.t (K.ofNat 7))⟩, ⟨(some (K.ofNat 20)), none, .mv (.t (K.ofNat 8))⟩, ⟨(some (K.ofNat 21)), none, .call (.c (.fn (K.ofNat 83) [])) [(.t (K.ofNat 19)), (.t (K.ofNat 20))]⟩, ⟨(some (K.ofNat 22)), none, .mv (.t (K.ofNat 1))⟩, ⟨(some (K.ofNat 23)), none, .mv (.t (K.ofNat 8))⟩, ⟨(some (K.ofNat 24)), none, .call (.t (K.ofNat 22)) [(.t (K.ofNat 23))]⟩, ⟨(some (K.ofNat 25)), none, .call (.c (.fn (K.ofNat 83) [])) [(.t (K.ofNat 21)), (.t (K.ofNat 24))]⟩, ⟨(some (K.ofNat 7)), none, .as (.t (K.ofNat 25))⟩]
noncomputable def f85_r5 : List EOper := [⟨(some (K.ofNat 14)), none, .mv (.t (K.ofNat 2))⟩, ⟨(some (K.ofNat 15)), none, .mv (.t (K.ofNat 1))⟩, ⟨(some (K.ofNat 16)), none, .mv (.t (K.ofNat 8))⟩, ⟨(some (K.ofNat 17)), none, .call (.t (K.ofNat 15)) [(.t (K.ofNat 16))]⟩, ⟨(some (K.ofNat 18)), none, .call (.t (K.ofNat 14)) [(.t (K.ofNat 17))]⟩, ⟨(some (K.ofNat 8)), none, .as (.t (K.ofNat 18))⟩]
noncomputable def f85_l0 : EC := (.seq (.seq (.reg f85_r3) (.cond (.t (K.ofNat 13)) .skip (.exit 0))) (.seq (.block 1 (.reg f85_r4)) (.reg f85_r5)))
noncomputable def f85_r6 : List EOper := [⟨(some (K.ofNat 26)), none, .mv (.t (K.ofNat 7))⟩, ⟨(some (K.ofNat 6)), none, .as (.t (K.ofNat 26))⟩]
noncomputable def f85_c : EC := (.seq (.reg f85_r0) (.seq (.reg f85_r1) (.seq (.seq (.reg f85_r2) (.block 0 (.loop f85_l0))) (.seq (.reg f85_r6) .ret))))
noncomputable def f85 : EF := ⟨27, [.tmp (K.ofNat 6)], f85_c, none⟩
theorem f85_rs : f85.rs = [.tmp (K.ofNat 6)] := of_eq_true (eq_self _)
noncomputable def f69_r0 : List EOper := [⟨(some (K.ofNat 6)), none, .as (.c .sn)⟩]
noncomputable def f69_r1 : List EOper := [⟨(some (K.ofNat 7)), none, .as (.c .sn)⟩]
noncomputable def f69_r2 : List EOper := [⟨(some (K.ofNat 8)), none, .as (.c (.i .u16 (.ofNat 0)))⟩]
noncomputable def f69_r3 : List EOper := [⟨(some (K.ofNat 11)), none, .mv (.t (K.ofNat 0))⟩, ⟨(some (K.ofNat 12)), none, .mv (.c (.i .i64 (.ofNat 0)))⟩]
noncomputable def f69_r4 : List EOper := [⟨(some (K.ofNat 13)), none, .bin .lss (.t (K.ofNat 12)) (.t (K.ofNat 11))⟩]
noncomputable def f69_r5 : List EOper := [⟨(some (K.ofNat 14)), none, .mv (.t (K.ofNat 12))⟩, ⟨(some (K.ofNat 9)), none, .as (.t (K.ofNat 14))⟩]
noncomputable def f69_r6 : List EOper := [⟨(some (K.ofNat 15)), none, .mv (.t (K.ofNat 8))⟩, ⟨(some (K.ofNat 16)), none, .mv (.t (K.ofNat 9))⟩, ⟨(some (K.ofNat 17)), none, .call (.c (.fn (K.ofNat 76) [])) [(.t (K.ofNat 15)), (.t (K.ofNat 16))]⟩]
noncomputable def f69_r7 : List EOper := [⟨(some (K.ofNat 18)), none, .mv (.t (K.ofNat 9))⟩, ⟨(some (K.ofNat 19)), none, .mv (.t (K.ofNat 1))⟩, ⟨(some (K.ofNat 20)), none, .mkbf (K.ofNat 58) [(.t (K.ofNat 19))] []⟩, ⟨(some (K.ofNat 21)), none, .mv (.t (K.ofNat 2))⟩, ⟨(some (K.ofNat 22)), none, .mkbf (K.ofNat 58) [(.t (K.ofNat 21))] []⟩, ⟨(some (K.ofNat 23)), none, .call (.c (.fn (K.ofNat 85) [])) [(.t (K.ofNat 18)), (.t (K.ofNat 20)), (.t (K.ofNat 22))]⟩, ⟨(some (K.ofNat 10)), none, .as (.t (K.ofNat 23))⟩]
noncomputable def f69_r8 : List EOper := [⟨(some (K.ofNat 24)), none, .mv (.t (K.ofNat 8))⟩, ⟨(some (K.ofNat 25)), none, .mv (.t (K.ofNat 10))⟩, ⟨(some (K.ofNat 26)), none, .bin .or (.t (K.ofNat 24)) (.t (K.ofNat 25))⟩, ⟨(some (K.ofNat 8)), none, .as (.t (K.ofNat 26))⟩]
noncomputable def f69_r9 : List EOper := [⟨(some (K.ofNat 27)), none, .mv (.t (K.ofNat 7))⟩, ⟨(some (K.ofNat 28)), none, .mv (.t (K.ofNat 10))⟩, ⟨(some (K.ofNat 29)), none, .call (.c (.fn (K.ofNat 74) [])) [(.t (K.ofNat 28))]⟩, ⟨(some (K.ofNat 30)), none, .bslice 1 1 [(.i .i64 (.ofNat 0))] [(0, 1, (.t (K.ofNat 29)))]⟩, ⟨(some (K.ofNat 31)), none, .app 1 (.t (K.ofNat 27)) (.t (K.ofNat 30))⟩, ⟨(some (K.ofNat 7)), none, .as (.t (K.ofNat 31))⟩]
noncomputable def f69_r10 : List EOper := [⟨(some (K.ofNat 32)), none, .bin .add (.t (K.ofNat 12)) (.c (.i .i64 (.ofNat 1)))⟩, ⟨(some (K.ofNat 12)), none, .mv (.t (K.ofNat 32))⟩]
noncomputable def f69_l0 : EC := (.seq (.reg f69_r4) (.seq (.cond (.t (K.ofNat 13)) .skip (.exit 0)) (.seq (.block 1 (.seq (.reg f69_r5) (.seq (.seq (.reg f69_r6) (.cond (.t (K.ofNat 17)) (.exit 1) .skip)) (.seq (.reg f69_r7) (.seq (.reg f69_r8) (.reg f69_r9)))))) (.reg f69_r10))))
noncomputable def f69_r11 : List EOper := [⟨(some (K.ofNat 33)), none, .mv (.t (K.ofNat 7))⟩, ⟨(some (K.ofNat 34)), none, .call (.c (.fn (K.ofNat 86) [])) [(.t (K.ofNat 33))]⟩]
noncomputable def f69_r12 : List EOper := [⟨(some (K.ofNat 35)), none, .mv (.t (K.ofNat 7))⟩, ⟨(some (K.ofNat 6)), none, .as (.t (K.ofNat 35))⟩]
noncomputable def f69_c : EC := (.seq (.reg f69_r0) (.seq (.reg f69_r1) (.seq (.reg f69_r2) (.seq (.seq (.reg f69_r3) (.block 0 (.loop f69_l0))) (.seq (.reg f69_r11) (.seq (.reg f69_r12) .ret))))))
noncomputable def f69 : EF := ⟨36, [.tmp (K.ofNat 6)], f69_c, none⟩
theorem f69_rs : f69.rs = [.tmp (K.ofNat 6)] := of_eq_true (eq_self _)
theorem rnd_inv {n : Nat} {l : List (Int × Int)} (hr : rndB n l = true) : Inv (opF l) n := by
  have hm : ∀ x, 0 ≤ x ∧ x < (n : Int) → (x, opF l x) ∈ l ∨ (opF l x, x) ∈ l := fun x hx => op_mem (rnd_all hr hx)
  refine ⟨fun x hx => ?_, fun x hx => ?_, fun x hx e => ?_⟩
  · rcases hm x hx with h | h
    · exact (rnd_e hr _ h).2.1
    · exact (rnd_e hr _ h).1
  · exact op_of (rnd_nd hr) (Or.symm (hm x hx))
  · rcases hm x hx with h | h
    · exact (rnd_e hr _ h).2.2 e.symm
    · exact (rnd_e hr _ h).2.2 e
theorem msk_len {m : Nat} {L : List Int} (hm : Msk m L) (hn : L.Nodup) (hr : ∀ z ∈ L, 0 ≤ z ∧ z ≤ 15) : pcN m = L.length := by
  rw [pcN_bits]
  have h1 := nodup_le (l := ((List.range 16).filter fun t => m.testBit t).map fun (k : Nat) => (k : Int)) (m := L) (by
    rw [List.nodup_iff_pairwise_ne, List.pairwise_map]
    exact ((List.nodup_iff_pairwise_ne.1 List.nodup_range).filter _).imp fun h => by omega) fun z hz => by
    obtain ⟨k, hk, rfl⟩ := List.mem_map.1 hz
    obtain ⟨hk1, hk2⟩ := List.mem_filter.1 hk
    have hk1 : k < 16 := by simpa using hk1
    rw [hm.2 k (by omega)] at hk2
    exact of_decide_eq_true hk2
  have h2 := nodup_le (l := L) (m := ((List.range 16).filter fun t => m.testBit t).map fun (k : Nat) => (k : Int)) hn fun z hz => by
    obtain ⟨z1, z2⟩ := hr z hz
    refine List.mem_map.2 ⟨z.toNat, List.mem_filter.2 ⟨by simp; omega, ?_⟩, by omega⟩
    rw [hm.2 _ (by omega)]
    exact decide_eq_true (by rw [show ((z.toNat : Nat) : Int) = z by omega]; exact hz)
  simp at h1 h2
  omega
theorem msk_or {m m' : Nat} {L L' : List Int} (h : Msk m L) (h' : Msk m' L') : Msk (m ||| m') (L ++ L') := by
  refine ⟨?_, fun y hy => ?_⟩
  · have := Nat.or_lt_two_pow (x := m) (y := m') (n := 16) (by have := h.1; show m < 65536; omega) (by have := h'.1; show m' < 65536; omega)
    have e : 2 ^ 16 = 65536 := by decide
    omega
  · rw [Nat.testBit_or, h.2 y hy, h'.2 y hy, Bool.eq_iff_iff]
    simp
theorem bin_or16 {a b : Nat} (ha : a ≤ 65535) (hb : b ≤ 65535) : binV .or (.i .u16 (a : Int)) (.i .u16 (b : Int)) = some (.i .u16 ((a ||| b : Nat) : Int)) := by
  show some (V.i .u16 (bif Nat.ble a 65535 && Nat.ble b 65535 then Int.ofNat (a ||| b) else _)) = _
  rw [Nat.ble_eq_true_of_le ha, Nat.ble_eq_true_of_le hb]; rfl
structure CallsRg (fs : T EF) : Prop extends CallsAa fs, CallsSr fs where
  c58 : fs.get (K.ofNat 58) = some f58
  c74 : fs.get (K.ofNat 74) = some f74
  c85 : fs.get (K.ofNat 85) = some f85
  c86 : fs.get (K.ofNat 86) = some f86
  c92 : fs.get (K.ofNat 92) = some f92
section
variable {fs : T EF} {h : H} {va vb : V} {a b : List (Int × Int)} {n : Nat}
def f85_I (h : H) (va vb : V) (a b : List (Int × Int)) (n t : Nat) (k : Nat) (fr : Fr) (h1 : H) : Prop := ∃ (x : Nat) (L : List Int) (m : Nat), RingI (opF a) (opF b) n (t : Int) (x : Int) L ∧ n < 2 * k + L.length ∧ ringR (opF a) (opF b) k (x : Int) L = ringR (opF a) (opF b) n (t : Int) [] ∧ Msk m L ∧ Grow h.nx.nat h h1 ∧ fr.get (K.ofNat 1) = some (.bf (K.ofNat 58) [va] []) ∧ fr.get (K.ofNat 2) = some (.bf (K.ofNat 58) [vb] []) ∧ fr.get (K.ofNat 7) = some (.i .u16 (m : Int)) ∧ fr.get (K.ofNat 8) = some (.i .i64 (x : Int))
theorem f85_ret {t : Nat} (k : CallsRg fs) (hva : Srp h va a) (hvb : Srp h vb b) (hla : a.length ≤ 1000000) (hlb : b.length ≤ 1000000) (iA : Inv (opF a) n) (iB : Inv (opF b) n) (hn : n ≤ 16) (ht : t < n) (hc : HC h) : Ret fs f85 [.i .i64 (t : Int), .bf (K.ofNat 58) [va] [], .bf (K.ofNat 58) [vb] []] h fun r h' => (∃ m : Nat, r = .i .u16 (m : Int) ∧ Msk m (ringR (opF a) (opF b) n (t : Int) [])) ∧ Grow h.nx.nat h h' := by
  apply ret_of rfl
  show W fs none f85_c _ _ _
  unfold f85_c
  simp (disch := omega) only [f85_r0, f85_r1, f85_r2, w_reg, w_seq, w_block, seqK_n, x_nil, x_mv, x_as, ev_t, ev_c, getV_some, putD_some, frame_3, of0, getK_set, Nat.reduceEqDiff, ↓reduceIte]
  refine W_loop (f85_I h va vb a b n t) (fun k => k) ?_ n ⟨t, [], 0, RingI.init (by omega), by simp; omega, rfl, Msk.nil, Grow.refl _ _, by simp (disch := omega) only [getK_set, Nat.reduceEqDiff, ↓reduceIte, and_self, Int.natCast_zero]⟩
  rintro q fr h1 ⟨x, L, m, hI, hq, he, hm, hG, g1, g2, g7, g8⟩
  have hc1 := hG.hc hc
  have hx := hI.xr
  unfold f85_l0
  simp (disch := omega) only [f85_r3, w_reg, w_seq, x_mv, x_call, ev_t, ev_c, evs_nil, evs_cons, getV_some, putD_some, getK_set, Nat.reduceEqDiff, ↓reduceIte, g7, g8]
  refine (callP_0 (ef := f76) k.c76 rfl (f76_ret hm.1 (show x ≤ 15 by omega))).mono ?_
  rintro r h2 ⟨rfl, e2⟩
  rw [e2, hm.2 x (by omega)]
  clear e2 h2
  cases hd : decide ((x : Int) ∈ L) with
  | true =>
    have hxL : (x : Int) ∈ L := of_decide_eq_true hd
    have hL : ringR (opF a) (opF b) q (x : Int) L = L := by
      cases q with
      | zero => rfl
      | succ q => unfold ringR; rw [if_pos hxL]
    rw [hL] at he
    simp (disch := omega) only [f85_r6, f85_rs, w_reg, w_seq, w_cond, w_exit, w_ret, seqK_n, seqK_e, atK_e, loopK_e, ckB_b, cbB_b, true_and, retK_r, x_nil, x_mv, x_as, x_not, kx, rvP_ok, ev_t, getV_some, putD_some, onB_b, oGet_s, readRs_nil, readRs_t, retV_1, Option.some.injEq, exists_eq_left', getK_set, Nat.reduceEqDiff, ↓reduceIte, Bool.false_eq_true, Bool.not_true, g7, Bool.not_true]
    exact ⟨⟨m, rfl, by rw [← he]; exact hm⟩, hG⟩
  | false =>
    have hxL : (x : Int) ∉ L := of_decide_eq_false hd
    obtain ⟨q, rfl⟩ : ∃ q', q = q' + 1 := ⟨q - 1, by have := hI.lt iA iB hxL; omega⟩
    have hst := hI.step iA iB hxL
    have hxr := hI.xr
    have hyr := iA.rng _ hI.xr
    have hzr := iB.rng _ hyr
    have he : ringR (opF a) (opF b) q (opF b (opF a (x : Int))) (L ++ [(x : Int), opF a (x : Int)]) = ringR (opF a) (opF b) n (t : Int) [] := by
      rw [← he]
      show _ = if (x : Int) ∈ L then L else _
      rw [if_neg hxL]
    simp (disch := omega) only [f85_r4, w_skip, w_reg, w_seq, w_cond, w_block, seqK_n, ckB_b, cbB_b, true_and, x_nil, x_mv, x_not, x_call, kx, rvP_ok, ev_t, ev_c, evs_nil, evs_cons, getV_some, putD_some, onB_b, getK_set, Nat.reduceEqDiff, ↓reduceIte, Bool.not_false, g7, g8, Bool.not_false]
    refine (callP_0 (ef := f83) k.c83 rfl (f83_ret hm.1 (show x ≤ 15 by omega))).mono ?_
    rintro r h2 ⟨rfl, e2⟩
    rw [e2]
    clear e2 h2
    have hm1 := hm.snoc (x := x) (by omega)
    simp (disch := omega) only [x_mv, x_call, kx, ev_t, evs_nil, evs_cons, getV_some, putD_some, getK_set, Nat.reduceEqDiff, ↓reduceIte, g1, g8]
    refine (callP_m (ef := f58) k.c58 rfl (f58_ret (t := (x : Int)) (hva.grow hc hG) hla hc1)).mono ?_
    rintro r h2 ⟨rfl, hG2⟩
    have hGa := hG.trans (hG2.low hG.nx)
    have hc2 := hG2.hc hc1
    obtain ⟨y, hy⟩ : ∃ y : Nat, opF a (x : Int) = (y : Int) := ⟨(opF a (x : Int)).toNat, by omega⟩
    rw [hy] at hst hyr hzr he ⊢
    simp (disch := omega) only [x_call, kx, ev_t, ev_c, evs_nil, evs_cons, getV_some, putD_some, getK_set, Nat.reduceEqDiff, ↓reduceIte]
    refine (callP_0 (ef := f83) k.c83 rfl (f83_ret hm1.1 (show y ≤ 15 by omega))).mono ?_
    rintro r h3 ⟨rfl, e3⟩
    rw [e3]
    clear e3 h3
    have hm2 := hm1.snoc (x := y) (by omega)
    rw [List.append_assoc] at hm2
    simp (disch := omega) only [f85_r5, w_reg, seqK_n, atK_n, x_nil, x_mv, x_as, x_call, kx, ev_t, evs_nil, evs_cons, getV_some, putD_some, getK_set, Nat.reduceEqDiff, ↓reduceIte, g1, g2, g8]
    refine (callP_m (ef := f58) k.c58 rfl (f58_ret (t := (x : Int)) (hva.grow hc hGa) hla hc2)).mono ?_
    rintro r h3 ⟨rfl, hG3⟩
    have hGb := hGa.trans (hG3.low hGa.nx)
    have hc3 := hG3.hc hc2
    rw [hy]
    simp (disch := omega) only [x_call, kx, ev_t, evs_nil, evs_cons, getV_some, putD_some, getK_set, Nat.reduceEqDiff, ↓reduceIte]
    refine (callP_m (ef := f58) k.c58 rfl (f58_ret (t := (y : Int)) (hvb.grow hc hGb) hlb hc3)).mono ?_
    rintro r h4 ⟨rfl, hG4⟩
    have hGc := hGb.trans (hG4.low hGb.nx)
    obtain ⟨z, hz⟩ : ∃ z : Nat, opF b (y : Int) = (z : Int) := ⟨(opF b (y : Int)).toNat, by omega⟩
    rw [hz] at hst he ⊢
    simp (disch := omega) only [loopK_n, x_nil, x_as, kx, ev_t, getV_some, putD_some, getK_set, ↓reduceIte]
    exact ⟨q, by omega, z, _, _, hst, by simp; omega, he, hm2, hGc, by simp (disch := omega) only [getK_set, Nat.reduceEqDiff, ↓reduceIte, g1, g2, and_self]⟩
def f69_I (h : H) (va vb : V) (a b : List (Int × Int)) (n : Nat) (t : Nat) (fr : Fr) (h1 : H) : Prop := t ≤ n ∧ ∃ m w, Msk m (rgs (opF a) (opF b) n t).1 ∧ Sl iE h1 w (rgs (opF a) (opF b) n t).2 ∧ Own h.nx.nat w ∧ Grow h.nx.nat h h1 ∧ fr.get (K.ofNat 1) = some (va) ∧ fr.get (K.ofNat 2) = some (vb) ∧ fr.get (K.ofNat 7) = some (w) ∧ fr.get (K.ofNat 8) = some (.i .u16 (m : Int)) ∧ fr.get (K.ofNat 11) = some (.i .i64 (n : Int)) ∧ fr.get (K.ofNat 12) = some (.i .i64 (t : Int))
/-- The rings, rising. -/
def rgL (a b : List (Int × Int)) (n : Nat) : List Int := srtL (rgs (opF a) (opF b) n n).2
theorem f69_ret (k : CallsRg fs) (hva : Srp h va a) (hvb : Srp h vb b) (hla : a.length ≤ 1000000) (hlb : b.length ≤ 1000000) (hra : rndB n a = true) (hrb : rndB n b = true) (hn : n ≤ 12) (hn1 : 1 ≤ n) (hc : HC h) : Ret fs f69 [.i .i64 (n : Int), va, vb] h fun r h' => Sl iE h' r (rgL a b n) ∧ Own h.nx.nat r ∧ Grow h.nx.nat h h' := by
  have iA := rnd_inv hra
  have iB := rnd_inv hrb
  apply ret_of rfl
  show W fs none f69_c _ _ _
  unfold f69_c
  simp (disch := omega) only [f69_r0, f69_r1, f69_r2, f69_r3, w_reg, w_seq, w_block, seqK_n, x_nil, x_mv, x_as, ev_t, ev_c, getV_some, putD_some, frame_3, of0, getK_set, Nat.reduceEqDiff, ↓reduceIte]
  refine W_loop (f69_I h va vb a b n) (fun t => n - t) ?_ 0 ⟨by omega, 0, .sn, Msk.nil, Sl.nil, Own.sn, Grow.refl _ _, by simp (disch := omega) only [getK_set, Nat.reduceEqDiff, ↓reduceIte, and_self, Int.natCast_zero]⟩
  rintro t fr h1 ⟨ht, m, w, hm, hw, how, hG, g1, g2, g7, g8, g11, g12⟩
  have hc1 := hG.hc hc
  have hR := rgs_I iA iB hn1 ht
  unfold f69_l0
  by_cases hlt : t < n
  · have d0 : decide ((t : Int) < (n : Int)) = true := by simpa using hlt
    simp (disch := omega) only [f69_r4, f69_r5, f69_r6, w_skip, w_reg, w_seq, w_cond, w_block, seqK_n, ckB_b, cbB_b, true_and, x_nil, x_mv, x_as, x_bin, x_call, kx, rvP_ok, okv_some, ev_t, ev_c, evs_nil, evs_cons, getV_some, putD_some, bin_lss, getK_set, Nat.reduceEqDiff, ↓reduceIte, g8, g11, g12, d0]
    refine (callP_0 (ef := f76) k.c76 rfl (f76_ret hm.1 (show t ≤ 15 by omega))).mono ?_
    rintro r h2 ⟨rfl, e2⟩
    rw [e2, hm.2 t (by omega)]
    clear e2 h2
    cases hd : decide ((t : Int) ∈ (rgs (opF a) (opF b) n t).1) with
    | true =>
      have hrs : rgs (opF a) (opF b) n (t + 1) = rgs (opF a) (opF b) n t := by
        show (if _ then _ else _) = _
        rw [if_pos (of_decide_eq_true hd)]
      simp (disch := omega) only [f69_r10, w_reg, w_cond, w_exit, seqK_n, seqK_e, atK_e, loopK_n, ckB_b, cbB_b, true_and, x_nil, x_mv, x_bin, kx, rvP_ok, okv_some, ev_t, ev_c, getV_some, putD_some, bin_add, of1, getK_set, Nat.reduceEqDiff, ↓reduceIte, g12, fw64]
      exact ⟨t + 1, by omega, by omega, m, w, by rw [hrs]; exact hm, by rw [hrs]; exact hw, how, hG, by simp (disch := omega) only [getK_set, Nat.reduceEqDiff, ↓reduceIte, g1, g2, g7, g8, g11, and_self, Int.natCast_add, Int.natCast_one]⟩
    | false =>
      have hrs : rgs (opF a) (opF b) n (t + 1) = ((rgs (opF a) (opF b) n t).1 ++ ringR (opF a) (opF b) n (t : Int) [], (rgs (opF a) (opF b) n t).2 ++ [((ringR (opF a) (opF b) n (t : Int) []).length : Int)]) := by
        show (if _ then _ else _) = _
        rw [if_neg (of_decide_eq_false hd)]
      have hE := ring_E iA iB (RingI.init (A := opF a) (B := opF b) (n := n) (t := (t : Int)) (by omega)) (k := n) (by simp; omega)
      simp (disch := omega) only [f69_r7, w_skip, w_reg, w_seq, w_cond, seqK_n, ckB_b, cbB_b, true_and, x_nil, x_mv, x_call, kx, ev_t, ev_c, evs_nil, evs_cons, getV_some, putD_some, getK_set, Nat.reduceEqDiff, ↓reduceIte, Bool.false_eq_true, x_mkbf, g1, g2]
      refine (callP_0 (ef := f85) k.c85 rfl (f85_ret (t := t) k (hva.grow hc hG) (hvb.grow hc hG) hla hlb iA iB (by omega) hlt hc1)).mono ?_
      rintro r h2 ⟨⟨m2, rfl, hm2⟩, hG2⟩
      have hc2 := hG2.hc hc1
      have hGa := hG.trans (hG2.low hG.nx)
      have hor := bin_or16 hm.1 hm2.1
      have hpc := msk_len hm2 hE.nd fun z hz => by have := hE.rng z hz; omega
      obtain ⟨w', h3, a1, s1, o1, gr1, _⟩ := Sl.push (e := iE) (x := ((ringR (opF a) (opF b) n (t : Int) []).length : Int)) (c := .i .i64 ((ringR (opF a) (opF b) n (t : Int) []).length : Int)) rfl (hw.grow hc1 hG2) how hGa.nx hc2 (by have := hR.few; omega)
      simp (disch := omega) only [f69_r8, f69_r9, w_reg, w_seq, seqK_n, x_nil, x_mv, x_as, x_bin, x_call, kx, rvP_ok, okv_some, ev_t, ev_c, evs_nil, evs_cons, getV_some, putD_some, of0, getK_set, Nat.reduceEqDiff, ↓reduceIte, g7, g8, hor]
      refine (callP_0 (ef := f74) k.c74 rfl (f74_ret k.c92 hm2.1)).mono ?_
      rintro r h4 ⟨rfl, e4⟩
      rw [e4, hpc]
      clear e4 h4
      simp (disch := omega) only [f69_r10, w_reg, seqK_n, atK_n, loopK_n, x_nil, x_mv, x_as, x_bslice, x_bin, x_app, kx, rvP_ok, okv_some, ev_t, ev_c, getV_some, putD_some, bin_add, oGet_s, cells1_i, fill_1, set_1, of1, getK_set, Nat.reduceEqDiff, ↓reduceIte, g12, fill_1, set_1, a1, fw64]
      exact ⟨t + 1, by omega, by omega, _, w', by rw [hrs]; exact msk_or hm hm2, by rw [hrs]; exact s1, o1, hGa.trans gr1, by simp (disch := omega) only [getK_set, Nat.reduceEqDiff, ↓reduceIte, g1, g2, g11, and_self, Int.natCast_add, Int.natCast_one]⟩
  · have d0 : decide ((t : Int) < (n : Int)) = false := by simpa using hlt
    have et : t = n := by omega
    subst et
    have hne : 1 ≤ (rgs (opF a) (opF b) t t).2.length := by
      rcases Nat.eq_zero_or_pos (rgs (opF a) (opF b) t t).2.length with h0 | h0
      · have h1 := List.length_eq_zero_iff.1 h0
        have h2 := hR.sum
        have h3 := List.length_pos_of_mem (hR.all 0 (by omega))
        rw [h1] at h2
        have : smI [] = 0 := rfl
        omega
      · exact h0
    simp (disch := omega) only [f69_r4, f69_r11, w_reg, w_seq, w_cond, w_exit, seqK_n, seqK_e, atK_e, loopK_e, ckB_b, cbB_b, true_and, x_nil, x_mv, x_bin, x_call, kx, rvP_ok, okv_some, ev_t, ev_c, evs_nil, evs_cons, getV_some, putD_some, bin_lss, getK_set, Nat.reduceEqDiff, ↓reduceIte, Bool.false_eq_true, g7, g11, g12, d0]
    refine (callP_0 (ef := f86) k.c86 rfl (sort_ret k.toCallsSr hw (by have := hR.few; omega) hne hc1)).mono ?_
    rintro r h2 ⟨rfl, hs, hO⟩
    simp (disch := omega) only [f69_r12, f69_rs, w_reg, w_seq, w_ret, seqK_n, retK_r, x_nil, x_mv, x_as, kx, ev_t, getV_some, putD_some, oGet_s, readRs_nil, readRs_t, retV_1, Option.some.injEq, exists_eq_left', getK_set, Nat.reduceEqDiff, ↓reduceIte, g7]
    exact ⟨hs, how, hG.trans (hO.grow how (hw.lt hc1))⟩
end
end Go.Ev
