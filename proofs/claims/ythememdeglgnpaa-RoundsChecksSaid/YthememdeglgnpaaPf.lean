/-
  Rounds: opponents, of the program and of the reference.
  Rounds: how many teams a set has; sums.
  Rounds: breaks, of the program.
  Rounds: breaks, of the reference.
  Rounds: names, and the same schedules, for the reference.
  Rounds: a slice of slices, filled row by row.
  Rounds: lists; schedules with other names, of the program.
  Rounds: schedules with other names, of the program.
  Rounds: Renamed, of the program.
  Rounds: the law RoundsHomes.
  Slices of slices whose elements take one cell each: read, filled row by row, gathered.
  Maps whose keys are pairs and whose values are numbers.
  Rounds: when each game is, of the program.
  Rounds: the follow numbers, of the program.
  Rounds: the follow numbers, counted by rounds.
-/
import Derived.Test.YthememdeglgnpaaPe
import Derived.Test.YthememdeglgnpaaPd
namespace Go.Ev
open Go Go.RowKit
noncomputable def f21_r0 : List EOper := [⟨(some (K.ofNat 6)), none, .as (.c .sn)⟩, ⟨(some (K.ofNat 7)), none, .as (.c (.i .i64 (.ofNat 0)))⟩]
noncomputable def f21_r1 : List EOper := [⟨(some (K.ofNat 14)), none, .mv (.t (K.ofNat 0))⟩, ⟨(some (K.ofNat 15)), none, .mv (.t (K.ofNat 1))⟩, ⟨(some (K.ofNat 16)), none, .call (.c (.fn (K.ofNat 51) [])) [(.t (K.ofNat 14)), (.t (K.ofNat 15))]⟩, ⟨(some (K.ofNat 13)), none, .mv (.t (K.ofNat 16))⟩, ⟨(some (K.ofNat 17)), none, .ext (.t (K.ofNat 13)) 0⟩, ⟨(some (K.ofNat 18)), none, .ext (.t (K.ofNat 13)) 1⟩, ⟨(some (K.ofNat 8)), none, .as (.t (K.ofNat 17))⟩, ⟨(some (K.ofNat 9)), none, .as (.t (K.ofNat 18))⟩]
noncomputable def f21_r2 : List EOper := [⟨(some (K.ofNat 19)), none, .mv (.t (K.ofNat 9))⟩, ⟨(some (K.ofNat 20)), none, .bin .neq (.t (K.ofNat 19)) (.c (.i .i64 (.ofNat 0)))⟩]
noncomputable def f21_r3 : List EOper := [⟨(some (K.ofNat 21)), none, .mv (.t (K.ofNat 9))⟩, ⟨(some (K.ofNat 6)), none, .as (.c .sn)⟩, ⟨(some (K.ofNat 7)), none, .as (.t (K.ofNat 21))⟩]
noncomputable def f21_r4 : List EOper := [⟨(some (K.ofNat 22)), none, .mv (.t (K.ofNat 0))⟩, ⟨(some (K.ofNat 23)), none, .mv (.t (K.ofNat 2))⟩, ⟨(some (K.ofNat 24)), none, .call (.c (.fn (K.ofNat 57) [])) [(.t (K.ofNat 22)), (.t (K.ofNat 23))]⟩, ⟨(some (K.ofNat 25)), none, .not (.t (K.ofNat 24))⟩]
noncomputable def f21_r5 : List EOper := [⟨(some (K.ofNat 6)), none, .as (.c .sn)⟩, ⟨(some (K.ofNat 7)), none, .as (.c (.i .i64 (.ofNat 1)))⟩]
noncomputable def f21_r6 : List EOper := [⟨(some (K.ofNat 26)), none, .mv (.t (K.ofNat 8))⟩, ⟨(some (K.ofNat 27)), none, .len (.t (K.ofNat 26))⟩, ⟨(some (K.ofNat 28)), none, .mkslice 1 [(.i .i64 (.ofNat 0))] (.t (K.ofNat 27))⟩, ⟨(some (K.ofNat 10)), none, .as (.t (K.ofNat 28))⟩]
noncomputable def f21_r7 : List EOper := [⟨(some (K.ofNat 29)), none, .mv (.t (K.ofNat 8))⟩, ⟨(some (K.ofNat 30)), none, .len (.t (K.ofNat 29))⟩, ⟨(some (K.ofNat 31)), none, .mv (.c (.i .i64 (.ofNat 0)))⟩]
noncomputable def f21_r8 : List EOper := [⟨(some (K.ofNat 32)), none, .bin .lss (.t (K.ofNat 31)) (.t (K.ofNat 30))⟩]
noncomputable def f21_r9 : List EOper := [⟨(some (K.ofNat 33)), none, .mv (.t (K.ofNat 31))⟩, ⟨(some (K.ofNat 34)), none, .iads 1 (.t (K.ofNat 29)) (.t (K.ofNat 31))⟩, ⟨(some (K.ofNat 35)), none, .ld (.t (K.ofNat 34))⟩, ⟨(some (K.ofNat 11)), none, .as (.t (K.ofNat 33))⟩, ⟨(some (K.ofNat 12)), none, .as (.t (K.ofNat 35))⟩]
noncomputable def f21_r10 : List EOper := [⟨(some (K.ofNat 36)), none, .mv (.t (K.ofNat 10))⟩, ⟨(some (K.ofNat 37)), none, .mv (.t (K.ofNat 11))⟩, ⟨(some (K.ofNat 38)), none, .mv (.t (K.ofNat 12))⟩, ⟨(some (K.ofNat 39)), none, .mv (.t (K.ofNat 2))⟩, ⟨(some (K.ofNat 40)), none, .call (.c (.fn (K.ofNat 58) [])) [(.t (K.ofNat 38)), (.t (K.ofNat 39))]⟩, ⟨(some (K.ofNat 41)), none, .iads 1 (.t (K.ofNat 36)) (.t (K.ofNat 37))⟩, ⟨none, none, .st 1 (.t (K.ofNat 41)) (.t (K.ofNat 40))⟩]
noncomputable def f21_r11 : List EOper := [⟨(some (K.ofNat 42)), none, .bin .add (.t (K.ofNat 31)) (.c (.i .i64 (.ofNat 1)))⟩, ⟨(some (K.ofNat 31)), none, .mv (.t (K.ofNat 42))⟩]
noncomputable def f21_l0 : EC := (.seq (.reg f21_r8) (.seq (.cond (.t (K.ofNat 32)) .skip (.exit 0)) (.seq (.block 1 (.seq (.reg f21_r9) (.reg f21_r10))) (.reg f21_r11))))
noncomputable def f21_r12 : List EOper := [⟨(some (K.ofNat 43)), none, .mv (.t (K.ofNat 10))⟩, ⟨(some (K.ofNat 6)), none, .as (.t (K.ofNat 43))⟩, ⟨(some (K.ofNat 7)), none, .as (.c (.i .i64 (.ofNat 0)))⟩]
noncomputable def f21_c : EC := (.seq (.reg f21_r0) (.seq (.reg f21_r1) (.seq (.seq (.reg f21_r2) (.cond (.t (K.ofNat 20)) (.seq (.reg f21_r3) .ret) .skip)) (.seq (.seq (.reg f21_r4) (.cond (.t (K.ofNat 25)) (.seq (.reg f21_r5) .ret) .skip)) (.seq (.reg f21_r6) (.seq (.seq (.reg f21_r7) (.block 0 (.loop f21_l0))) (.seq (.reg f21_r12) .ret)))))))
noncomputable def f21 : EF := ⟨44, [.tmp (K.ofNat 6), .tmp (K.ofNat 7)], f21_c, none⟩
theorem f21_rs : f21.rs = [.tmp (K.ofNat 6), .tmp (K.ofNat 7)] := of_eq_true (eq_self _)
noncomputable def f29_r0 : List EOper := [⟨(some (K.ofNat 4)), none, .as (.c .sn)⟩]
noncomputable def f29_r1 : List EOper := [⟨(some (K.ofNat 5)), none, .as (.c .sn)⟩]
noncomputable def f29_r2 : List EOper := [⟨(some (K.ofNat 6)), none, .as (.c (.i .i64 (.ofNat 0)))⟩]
noncomputable def f29_r3 : List EOper := [⟨(some (K.ofNat 9)), none, .mv (.t (K.ofNat 6))⟩, ⟨(some (K.ofNat 10)), none, .mv (.t (K.ofNat 0))⟩, ⟨(some (K.ofNat 11)), none, .len (.t (K.ofNat 10))⟩, ⟨(some (K.ofNat 12)), none, .bin .lss (.t (K.ofNat 9)) (.t (K.ofNat 11))⟩]
noncomputable def f29_r4 : List EOper := [⟨(some (K.ofNat 16)), none, .mv (.t (K.ofNat 0))⟩, ⟨(some (K.ofNat 17)), none, .mv (.t (K.ofNat 6))⟩, ⟨(some (K.ofNat 18)), none, .iads 1 (.t (K.ofNat 16)) (.t (K.ofNat 17))⟩, ⟨(some (K.ofNat 19)), none, .ld (.t (K.ofNat 18))⟩, ⟨(some (K.ofNat 20)), none, .mv (.t (K.ofNat 1))⟩, ⟨(some (K.ofNat 21)), none, .call (.c (.fn (K.ofNat 64) [])) [(.t (K.ofNat 19)), (.t (K.ofNat 20))]⟩, ⟨(some (K.ofNat 15)), none, .mv (.t (K.ofNat 21))⟩, ⟨(some (K.ofNat 22)), none, .ext (.t (K.ofNat 15)) 0⟩, ⟨(some (K.ofNat 23)), none, .ext (.t (K.ofNat 15)) 1⟩, ⟨(some (K.ofNat 7)), none, .as (.t (K.ofNat 22))⟩, ⟨(some (K.ofNat 8)), none, .as (.t (K.ofNat 23))⟩]
noncomputable def f29_r5 : List EOper := [⟨(some (K.ofNat 24)), none, .mv (.t (K.ofNat 5))⟩, ⟨(some (K.ofNat 25)), none, .mv (.t (K.ofNat 8))⟩, ⟨(some (K.ofNat 26)), none, .bslice 1 1 [(.i .i64 (.ofNat 0))] [(0, 1, (.t (K.ofNat 25)))]⟩, ⟨(some (K.ofNat 27)), none, .app 1 (.t (K.ofNat 24)) (.t (K.ofNat 26))⟩, ⟨(some (K.ofNat 5)), none, .as (.t (K.ofNat 27))⟩]
noncomputable def f29_r6 : List EOper := [⟨(some (K.ofNat 13)), none, .mv (.t (K.ofNat 6))⟩, ⟨(some (K.ofNat 14)), none, .bin .add (.t (K.ofNat 13)) (.c (.i .i64 (.ofNat 1)))⟩, ⟨(some (K.ofNat 6)), none, .as (.t (K.ofNat 14))⟩]
noncomputable def f29_l0 : EC := (.seq (.seq (.reg f29_r3) (.cond (.t (K.ofNat 12)) .skip (.exit 0))) (.seq (.block 1 (.seq (.reg f29_r4) (.reg f29_r5))) (.reg f29_r6)))
noncomputable def f29_r7 : List EOper := [⟨(some (K.ofNat 28)), none, .mv (.t (K.ofNat 5))⟩, ⟨(some (K.ofNat 4)), none, .as (.t (K.ofNat 28))⟩]
noncomputable def f29_c : EC := (.seq (.reg f29_r0) (.seq (.reg f29_r1) (.seq (.seq (.reg f29_r2) (.block 0 (.loop f29_l0))) (.seq (.reg f29_r7) .ret))))
noncomputable def f29 : EF := ⟨29, [.tmp (K.ofNat 4)], f29_c, none⟩
noncomputable def f28_r0 : List EOper := [⟨(some (K.ofNat 4)), none, .as (.c (.b false))⟩]
noncomputable def f28_r1 : List EOper := [⟨(some (K.ofNat 6)), none, .mv (.t (K.ofNat 0))⟩, ⟨(some (K.ofNat 7)), none, .len (.t (K.ofNat 6))⟩, ⟨(some (K.ofNat 8)), none, .mv (.t (K.ofNat 1))⟩, ⟨(some (K.ofNat 9)), none, .len (.t (K.ofNat 8))⟩, ⟨(some (K.ofNat 10)), none, .bin .neq (.t (K.ofNat 7)) (.t (K.ofNat 9))⟩]
noncomputable def f28_r2 : List EOper := [⟨(some (K.ofNat 4)), none, .as (.c (.b false))⟩]
noncomputable def f28_r3 : List EOper := [⟨(some (K.ofNat 5)), none, .as (.c (.i .i64 (.ofNat 0)))⟩]
noncomputable def f28_r4 : List EOper := [⟨(some (K.ofNat 11)), none, .mv (.t (K.ofNat 5))⟩, ⟨(some (K.ofNat 12)), none, .mv (.t (K.ofNat 0))⟩, ⟨(some (K.ofNat 13)), none, .len (.t (K.ofNat 12))⟩, ⟨(some (K.ofNat 14)), none, .bin .lss (.t (K.ofNat 11)) (.t (K.ofNat 13))⟩]
noncomputable def f28_r5 : List Stage := [⟨[⟨(some (K.ofNat 17)), none, .mv (.t (K.ofNat 0))⟩, ⟨(some (K.ofNat 18)), none, .mv (.t (K.ofNat 5))⟩, ⟨(some (K.ofNat 19)), none, .iads 1 (.t (K.ofNat 17)) (.t (K.ofNat 18))⟩, ⟨(some (K.ofNat 20)), none, .ld (.t (K.ofNat 19))⟩, ⟨(some (K.ofNat 21)), none, .mv (.t (K.ofNat 1))⟩, ⟨(some (K.ofNat 22)), none, .mv (.t (K.ofNat 5))⟩, ⟨(some (K.ofNat 23)), none, .iads 1 (.t (K.ofNat 21)) (.t (K.ofNat 22))⟩, ⟨(some (K.ofNat 24)), none, .ld (.t (K.ofNat 23))⟩, ⟨(some (K.ofNat 25)), none, .bin .neq (.t (K.ofNat 20)) (.t (K.ofNat 24))⟩], [], none, []⟩]
noncomputable def f28_r6 : List EOper := [⟨(some (K.ofNat 4)), none, .as (.c (.b false))⟩]
noncomputable def f28_r7 : List EOper := [⟨(some (K.ofNat 15)), none, .mv (.t (K.ofNat 5))⟩, ⟨(some (K.ofNat 16)), none, .bin .add (.t (K.ofNat 15)) (.c (.i .i64 (.ofNat 1)))⟩, ⟨(some (K.ofNat 5)), none, .as (.t (K.ofNat 16))⟩]
noncomputable def f28_l0 : EC := (.seq (.seq (.reg f28_r4) (.cond (.t (K.ofNat 14)) .skip (.exit 0))) (.seq (.block 1 (.seq (.draw f28_r5) (.cond (.t (K.ofNat 25)) (.seq (.reg f28_r6) .ret) .skip))) (.reg f28_r7)))
noncomputable def f28_r8 : List EOper := [⟨(some (K.ofNat 4)), none, .as (.c (.b true))⟩]
noncomputable def f28_c : EC := (.seq (.reg f28_r0) (.seq (.seq (.reg f28_r1) (.cond (.t (K.ofNat 10)) (.seq (.reg f28_r2) .ret) .skip)) (.seq (.seq (.reg f28_r3) (.block 0 (.loop f28_l0))) (.seq (.reg f28_r8) .ret))))
noncomputable def f28 : EF := ⟨26, [.tmp (K.ofNat 4)], f28_c, none⟩
theorem nodup_le {α : Type} [DecidableEq α] : ∀ {l m : List α}, l.Nodup → (∀ x ∈ l, x ∈ m) → l.length ≤ m.length
  | [], _, _, _ => Nat.zero_le _
  | x :: l, m, hn, hs => by
    rw [List.nodup_cons] at hn
    have hx : x ∈ m := hs x (by simp)
    have := nodup_le (l := l) (m := m.erase x) hn.2 fun y hy => (List.mem_erase_of_ne (fun e : y = x => hn.1 (e ▸ hy))).2 (hs y (by simp [hy]))
    rw [List.length_erase_of_mem hx] at this
    have : 0 < m.length := List.length_pos_of_mem hx
    rw [List.length_cons]; omega
/-- Each team plays in a round. -/
theorem rnd_all {n : Nat} {l : List (Int × Int)} (h : rndB n l = true) {t : Int} (ht : 0 ≤ t ∧ t < (n : Int)) : t ∈ plL l := by
  unfold rndB aaB at h
  simp only [Bool.and_eq_true, decide_eq_true_iff] at h
  obtain ⟨_, h1, h2, h3⟩ := h
  apply Classical.byContradiction
  intro hno
  have := nodup_le (l := t :: plL l) (m := (List.range n).map fun x : Nat => (x : Int)) (List.nodup_cons.2 ⟨hno, h3⟩) fun x hx => by
    have hx' : 0 ≤ x ∧ x < (n : Int) := by
      rcases List.mem_cons.1 hx with rfl | hx
      · exact ht
      · exact h2 x hx
    exact List.mem_map.2 ⟨x.toNat, by simp; omega, by omega⟩
  rw [List.length_cons, List.length_map, List.length_range] at this
  omega
/-- The opponents of a team, round by round. -/
def opL (Ls : List (List (Int × Int))) (t : Int) : List Int := Ls.map fun l => opF l t
structure CallsO (fs : T EF) : Prop extends CallsH fs where
  c21 : fs.get (K.ofNat 21) = some f21
  c28 : fs.get (K.ofNat 28) = some f28
  c29 : fs.get (K.ofNat 29) = some f29
  c58 : fs.get (K.ofNat 58) = some f58
section
variable {fs : T EF} {h : H} {v w : V} {us : List V} {Ls : List (List (Int × Int))} {L : List Int}
def f21_I (h2 : H) (c : V) (Ls : List (List (Int × Int))) (t : Int) (i : Nat) (fr : Fr) (h1 : H) : Prop := i ≤ Ls.length ∧ Grow h2.nx.nat h2 h1 ∧ ∃ w, Sl iE h1 w (tbL (fun x => opF (Ls.getD x []) t) 0 Ls.length i) ∧ Own h2.nx.nat w ∧ fr.get (K.ofNat 2) = some (.i .i64 t) ∧ fr.get (K.ofNat 10) = some (w) ∧ fr.get (K.ofNat 29) = some (c) ∧ fr.get (K.ofNat 30) = some (.i .i64 (Ls.length : Int)) ∧ fr.get (K.ofNat 31) = some (.i .i64 (i : Int))
theorem f21_ret {n : Nat} {t : Int} (k : CallsO fs) (hn : ok5 (n : Int)) (hv : Nrp h v us Ls) (hL2 : ∀ l ∈ Ls, l.length ≤ 9223372036854775807) (hsh : shB n Ls = true) (ht : 0 ≤ t ∧ t < (n : Int)) (hc : HC h) : Ret fs f21 [.i .i64 (n : Int), v, .i .i64 t] h fun r h' => ∃ w, r = .tup [w, .i .i64 0] ∧ Sl iE h' w (opL Ls t) ∧ Grow h.nx.nat h h' := by
  have hn' := hn
  unfold ok5 at hn'
  apply ret_of rfl
  show W fs none f21_c _ _ _
  unfold f21_c
  simp (disch := omega) only [f21_r0, f21_r1, w_reg, w_seq, seqK_n, x_nil, x_mv, x_as, x_call, ev_t, ev_c, evs_nil, evs_cons, getV_some, putD_some, frame_3, of0, getK_set, Nat.reduceEqDiff, ↓reduceIte]
  refine (callP_0 (ef := f51) k.c51 rfl (f51_ret k.toCallsCh hn hv hL2 hc)).mono ?_
  rintro r h2 ⟨c, ws, rfl, hs, hG⟩
  rw [if_pos hsh] at hs ⊢
  obtain ⟨hs, _⟩ := hs
  have hc2 := hG.hc hc
  obtain ⟨hvd, hlen⟩ := sh_vld hsh
  have hfew := hvd.few (by omega) (by omega)
  have ne0 : decide ((0 : Int) ≠ 0) = false := rfl
  have d : decide (0 ≤ t ∧ t < (n : Int)) = true := by simpa using ht
  simp (disch := omega) only [f21_r2, f21_r4, w_skip, w_reg, w_seq, w_cond, seqK_n, ckB_b, cbB_b, true_and, x_nil, x_mv, x_as, x_bin, x_ext, x_call, kx, rvP_ok, okv_some, ev_t, ev_c, evs_nil, evs_cons, getV_some, putD_some, bin_neq, onTup_t, nth0, nth1, of0, getK_set, Nat.reduceEqDiff, ↓reduceIte, Bool.false_eq_true, ne0]
  refine (callP_0 (ef := f57) k.toCallsAa.c57 rfl f57_ret).mono ?_
  rintro r h3 ⟨rfl, e3⟩
  rw [e3, d]
  clear e3 h3
  have hlc : ∀ h1, lenV c h1 = .ok (.i .i64 (Ls.length : Int)) h1 := fun h1 => by rw [hs.out.len, hs.len]
  have hmk := mks_ints (h := h2) (k := .i64) (n := Ls.length) (by omega)
  have hsl0 := mks_sl (h := h2) (n := Ls.length)
  have gD := Grow.new (Nat.le_refl h2.nx.nat) (.cells (Ls.length * 1) (rep [.i .i64 0] Ls.length))
  rw [← tb_nil (f := fun x => opF (Ls.getD x []) t)] at hsl0
  simp (disch := omega) only [f21_r6, f21_r7, w_skip, w_reg, w_seq, w_cond, w_block, seqK_n, ckB_b, cbB_b, true_and, x_nil, x_mv, x_as, x_not, x_mks, x_len, kx, rvP_ok, ev_t, ev_c, getV_some, putD_some, onB_b, of0, getK_set, Nat.reduceEqDiff, ↓reduceIte, Bool.false_eq_true, Bool.not_true, Bool.not_true, hlc, hmk]
  refine W_loop (f21_I h2 c Ls t) (fun i => Ls.length - i) ?_ 0 ⟨by omega, gD, .sl h2.nx 0 Ls.length 1, hsl0, (fun _ _ _ _ e => (by cases e; exact Nat.le_refl _)), by simp (disch := omega) only [getK_set, Nat.reduceEqDiff, ↓reduceIte, and_self, Int.natCast_zero]⟩
  clear hmk hsl0 gD
  rintro i fr h3 ⟨hi, hG3, w, hw, how, g2, g10, g29, g30, g31⟩
  have hc3 := hG3.hc hc2
  unfold f21_l0
  by_cases hlt : i < Ls.length
  · have d0 : decide ((i : Int) < (Ls.length : Int)) = true := by simpa using hlt
    have hs3 := (hs.grow hc2 hG3).nrp
    have hiu : i < ws.length := by rw [hs.len]; exact hlt
    obtain ⟨p, hp1, hp2'⟩ := hs3.out.at i hiu
    have hp2 : loadV h3 p one? = .ok ws[i] h3 := hp2'
    clear hp2'
    have hui := hs3.inn i hiu hlt
    obtain ⟨f1, f2⟩ := hfew.2 Ls[i] (List.getElem_mem hlt)
    have hgd : Ls.getD i [] = Ls[i] := by rw [List.getD_eq_getElem?_getD, List.getElem?_eq_getElem hlt]; rfl
    simp (disch := omega) only [f21_r8, f21_r9, f21_r10, w_skip, w_reg, w_seq, w_cond, w_block, seqK_n, ckB_b, cbB_b, true_and, x_nil, x_mv, x_as, x_ld, x_bin, x_iads, x_call, kx, rvP_ok, okv_some, ev_t, ev_c, evs_nil, evs_cons, getV_some, putD_some, bin_lss, getK_set, Nat.reduceEqDiff, ↓reduceIte, g2, g10, g29, g30, g31, d0, hp1, hp2]
    refine (callP_0 (ef := f58) k.c58 rfl (f58_ret (t := t) hui (by omega) hc3)).mono ?_
    rintro r h4 ⟨rfl, hG4⟩
    have hc4 := hG4.hc hc3
    have hw4 := hw.grow hc3 hG4
    obtain ⟨p', id', m', cs', s1, s2, s3, ⟨off', n', sz', s4⟩, s5⟩ := hw4.st (i := i) (by simp [tbL]; exact hlt) (x := opF (Ls.getD i []) t) (c := .i .i64 (opF (Ls.getD i []) t)) rfl rfl hc4
    rw [tb_set] at s3
    rw [hgd] at s2
    have gP := Grow.put (how _ _ _ _ s4) s5 (.cells m' cs')
    simp (disch := omega) only [f21_r11, w_reg, seqK_n, atK_n, loopK_n, x_nil, x_mv, x_st, x_bin, x_iads, kx, rvP_ok, okv_some, ev_t, ev_c, getV_some, putD_some, putD_none, bin_add, of1, getK_set, Nat.reduceEqDiff, ↓reduceIte, g31, s1, s2, fw64]
    exact ⟨i + 1, by omega, by omega, (hG3.trans (hG4.low hG3.nx)).trans gP, w, s3, how, by simp (disch := omega) only [getK_set, Nat.reduceEqDiff, ↓reduceIte, g2, g10, g29, g30, and_self, Int.natCast_add, Int.natCast_one]⟩
  · have d0 : decide ((i : Int) < (Ls.length : Int)) = false := by simpa using hlt
    have ei : i = Ls.length := by omega
    have hop : tbL (fun x => opF (Ls.getD x []) t) 0 Ls.length Ls.length = opL Ls t := by
      rw [tb_all]
      unfold opL
      apply List.ext_getElem
      · simp
      · intro x h1 h2
        have hx : x < Ls.length := by simpa using h1
        simp only [List.getElem_map, List.getElem_range, List.getD_eq_getElem?_getD, List.getElem?_eq_getElem hx, Option.getD_some]
    rw [ei, hop] at hw
    simp (disch := omega) only [f21_r8, f21_r12, f21_rs, w_reg, w_seq, w_cond, w_exit, w_ret, seqK_n, seqK_e, atK_e, loopK_e, ckB_b, cbB_b, true_and, retK_r, x_nil, x_mv, x_as, x_bin, kx, rvP_ok, okv_some, ev_t, ev_c, getV_some, putD_some, bin_lss, oGet_s, readRs_nil, readRs_t, retV_2, of0, Option.some.injEq, exists_eq_left', getK_set, Nat.reduceEqDiff, ↓reduceIte, Bool.false_eq_true, g10, g30, g31, d0]
    exact ⟨w, rfl, hw, hG.trans (hG3.low hG.nx)⟩
end
end Go.Ev
namespace Go.Ev
open Go Go.RowKit
noncomputable def f92_r0 : List EOper := [⟨(some (K.ofNat 2)), none, .as (.c (.i .i64 (.ofNat 0)))⟩]
noncomputable def f92_r1 : List Stage := [⟨[⟨(some (K.ofNat 3)), none, .mv (.t (K.ofNat 0))⟩, ⟨(some (K.ofNat 4)), none, .bin .shr (.t (K.ofNat 3)) (.c (.i .u64 (.ofNat 8)))⟩, ⟨(some (K.ofNat 5)), none, .pr .sidx (.c (.s ⟨#[0, 1, 1, 2, 1, 2, 2, 3, 1, 2, 2, 3, 2, 3, 3, 4, 1, 2, 2, 3, 2, 3, 3, 4, 2, 3, 3, 4, 3, 4, 4, 5, 1, 2, 2, 3, 2, 3, 3, 4, 2, 3, 3, 4, 3, 4, 4, 5, 2, 3, 3, 4, 3, 4, 4, 5, 3, 4, 4, 5, 4, 5, 5, 6, 1, 2, 2, 3, 2, 3, 3, 4, 2, 3, 3, 4, 3, 4, 4, 5, 2, 3, 3, 4, 3, 4, 4, 5, 3, 4, 4, 5, 4, 5, 5, 6, 2, 3, 3, 4, 3, 4, 4, 5, 3, 4, 4, 5, 4, 5, 5, 6, 3, 4, 4, 5, 4, 5, 5, 6, 4, 5, 5, 6, 5, 6, 6, 7, 1, 2, 2, 3, 2, 3, 3, 4, 2, 3, 3, 4, 3, 4, 4, 5, 2, 3, 3, 4, 3, 4, 4, 5, 3, 4, 4, 5, 4, 5, 5, 6, 2, 3, 3, 4, 3, 4, 4, 5, 3, 4, 4, 5, 4, 5, 5, 6, 3, 4, 4, 5, 4, 5, 5, 6, 4, 5, 5, 6, 5, 6, 6, 7, 2, 3, 3, 4, 3, 4, 4, 5, 3, 4, 4, 5, 4, 5, 5, 6, 3, 4, 4, 5, 4, 5, 5, 6, 4, 5, 5, 6, 5, 6, 6, 7, 3, 4, 4, 5, 4, 5, 5, 6, 4, 5, 5, 6, 5, 6, 6, 7, 4, 5, 5, 6, 5, 6, 6, 7, 5, 6, 6, 7, 6, 7, 7, 8]⟩)) (.t (K.ofNat 4))⟩, ⟨(some (K.ofNat 6)), none, .mv (.t (K.ofNat 0))⟩, ⟨(some (K.ofNat 7)), none, .bin .and (.t (K.ofNat 6)) (.c (.i .u16 (.ofNat 255)))⟩, ⟨(some (K.ofNat 8)), none, .pr .sidx (.c (.s ⟨#[0, 1, 1, 2, 1, 2, 2, 3, 1, 2, 2, 3, 2, 3, 3, 4, 1, 2, 2, 3, 2, 3, 3, 4, 2, 3, 3, 4, 3, 4, 4, 5, 1, 2, 2, 3, 2, 3, 3, 4, 2, 3, 3, 4, 3, 4, 4, 5, 2, 3, 3, 4, 3, 4, 4, 5, 3, 4, 4, 5, 4, 5, 5, 6, 1, 2, 2, 3, 2, 3, 3, 4, 2, 3, 3, 4, 3, 4, 4, 5, 2, 3, 3, 4, 3, 4, 4, 5, 3, 4, 4, 5, 4, 5, 5, 6, 2, 3, 3, 4, 3, 4, 4, 5, 3, 4, 4, 5, 4, 5, 5, 6, 3, 4, 4, 5, 4, 5, 5, 6, 4, 5, 5, 6, 5, 6, 6, 7, 1, 2, 2, 3, 2, 3, 3, 4, 2, 3, 3, 4, 3, 4, 4, 5, 2, 3, 3, 4, 3, 4, 4, 5, 3, 4, 4, 5, 4, 5, 5, 6, 2, 3, 3, 4, 3, 4, 4, 5, 3, 4, 4, 5, 4, 5, 5, 6, 3, 4, 4, 5, 4, 5, 5, 6, 4, 5, 5, 6, 5, 6, 6, 7, 2, 3, 3, 4, 3, 4, 4, 5, 3, 4, 4, 5, 4, 5, 5, 6, 3, 4, 4, 5, 4, 5, 5, 6, 4, 5, 5, 6, 5, 6, 6, 7, 3, 4, 4, 5, 4, 5, 5, 6, 4, 5, 5, 6, 5, 6, 6, 7, 4, 5, 5, 6, 5, 6, 6, 7, 5, 6, 6, 7, 6, 7, 7, 8]⟩)) (.t (K.ofNat 7))⟩, ⟨(some (K.ofNat 9)), none, .bin .add (.t (K.ofNat 5)) (.t (K.ofNat 8))⟩, ⟨(some (K.ofNat 10)), none, .conv .i64 (.t (K.ofNat 9))⟩], [], (some ⟨(some (K.ofNat 2)), none, .as (.t (K.ofNat 10))⟩), []⟩, ⟨[], [], none, []⟩]
noncomputable def f92_c : EC := (.seq (.reg f92_r0) (.seq (.draw f92_r1) .ret))
noncomputable def f92 : EF := ⟨11, [.tmp (K.ofNat 2)], f92_c, none⟩
theorem f92_rs : f92.rs = [.tmp (K.ofNat 2)] := of_eq_true (eq_self _)
noncomputable def f74_r0 : List EOper := [⟨(some (K.ofNat 2)), none, .as (.c (.i .i64 (.ofNat 0)))⟩]
noncomputable def f74_r1 : List EOper := [⟨(some (K.ofNat 3)), none, .mv (.t (K.ofNat 0))⟩, ⟨(some (K.ofNat 4)), none, .call (.c (.fn (K.ofNat 92) [])) [(.t (K.ofNat 3))]⟩, ⟨(some (K.ofNat 2)), none, .as (.t (K.ofNat 4))⟩]
noncomputable def f74_c : EC := (.seq (.reg f74_r0) (.seq (.reg f74_r1) .ret))
noncomputable def f74 : EF := ⟨5, [.tmp (K.ofNat 2)], f74_c, none⟩
theorem f74_rs : f74.rs = [.tmp (K.ofNat 2)] := of_eq_true (eq_self _)
noncomputable def f75_r0 : List EOper := [⟨(some (K.ofNat 2)), none, .as (.c (.i .i64 (.ofNat 0)))⟩]
noncomputable def f75_r1 : List EOper := [⟨(some (K.ofNat 3)), none, .as (.c (.i .i64 (.ofNat 0)))⟩]
noncomputable def f75_r2 : List EOper := [⟨(some (K.ofNat 6)), none, .mv (.t (K.ofNat 0))⟩, ⟨(some (K.ofNat 7)), none, .len (.t (K.ofNat 6))⟩, ⟨(some (K.ofNat 8)), none, .mv (.c (.i .i64 (.ofNat 0)))⟩]
noncomputable def f75_r3 : List EOper := [⟨(some (K.ofNat 9)), none, .bin .lss (.t (K.ofNat 8)) (.t (K.ofNat 7))⟩]
noncomputable def f75_r4 : List EOper := [⟨(some (K.ofNat 10)), none, .iads 1 (.t (K.ofNat 6)) (.t (K.ofNat 8))⟩, ⟨(some (K.ofNat 11)), none, .ld (.t (K.ofNat 10))⟩, ⟨(some (K.ofNat 5)), none, .as (.t (K.ofNat 11))⟩]
noncomputable def f75_r5 : List EOper := [⟨(some (K.ofNat 12)), none, .mv (.t (K.ofNat 3))⟩, ⟨(some (K.ofNat 13)), none, .mv (.t (K.ofNat 5))⟩, ⟨(some (K.ofNat 14)), none, .bin .add (.t (K.ofNat 12)) (.t (K.ofNat 13))⟩, ⟨(some (K.ofNat 3)), none, .as (.t (K.ofNat 14))⟩]
noncomputable def f75_r6 : List EOper := [⟨(some (K.ofNat 15)), none, .bin .add (.t (K.ofNat 8)) (.c (.i .i64 (.ofNat 1)))⟩, ⟨(some (K.ofNat 8)), none, .mv (.t (K.ofNat 15))⟩]
noncomputable def f75_l0 : EC := (.seq (.reg f75_r3) (.seq (.cond (.t (K.ofNat 9)) .skip (.exit 0)) (.seq (.block 1 (.seq (.reg f75_r4) (.reg f75_r5))) (.reg f75_r6))))
noncomputable def f75_r7 : List EOper := [⟨(some (K.ofNat 16)), none, .mv (.t (K.ofNat 3))⟩, ⟨(some (K.ofNat 2)), none, .as (.t (K.ofNat 16))⟩]
noncomputable def f75_c : EC := (.seq (.reg f75_r0) (.seq (.reg f75_r1) (.seq (.seq (.reg f75_r2) (.block 0 (.loop f75_l0))) (.seq (.reg f75_r7) .ret))))
noncomputable def f75 : EF := ⟨17, [.tmp (K.ofNat 2)], f75_c, none⟩
theorem f75_rs : f75.rs = [.tmp (K.ofNat 2)] := of_eq_true (eq_self _)
def T8 : List UInt8 := [0, 1, 1, 2, 1, 2, 2, 3, 1, 2, 2, 3, 2, 3, 3, 4, 1, 2, 2, 3, 2, 3, 3, 4, 2, 3, 3, 4, 3, 4, 4, 5, 1, 2, 2, 3, 2, 3, 3, 4, 2, 3, 3, 4, 3, 4, 4, 5, 2, 3, 3, 4, 3, 4, 4, 5, 3, 4, 4, 5, 4, 5, 5, 6, 1, 2, 2, 3, 2, 3, 3, 4, 2, 3, 3, 4, 3, 4, 4, 5, 2, 3, 3, 4, 3, 4, 4, 5, 3, 4, 4, 5, 4, 5, 5, 6, 2, 3, 3, 4, 3, 4, 4, 5, 3, 4, 4, 5, 4, 5, 5, 6, 3, 4, 4, 5, 4, 5, 5, 6, 4, 5, 5, 6, 5, 6, 6, 7, 1, 2, 2, 3, 2, 3, 3, 4, 2, 3, 3, 4, 3, 4, 4, 5, 2, 3, 3, 4, 3, 4, 4, 5, 3, 4, 4, 5, 4, 5, 5, 6, 2, 3, 3, 4, 3, 4, 4, 5, 3, 4, 4, 5, 4, 5, 5, 6, 3, 4, 4, 5, 4, 5, 5, 6, 4, 5, 5, 6, 5, 6, 6, 7, 2, 3, 3, 4, 3, 4, 4, 5, 3, 4, 4, 5, 4, 5, 5, 6, 3, 4, 4, 5, 4, 5, 5, 6, 4, 5, 5, 6, 5, 6, 6, 7, 3, 4, 4, 5, 4, 5, 5, 6, 4, 5, 5, 6, 5, 6, 6, 7, 4, 5, 5, 6, 5, 6, 6, 7, 5, 6, 6, 7, 6, 7, 7, 8]
def pc8 (k : Nat) : Nat := ((List.range 8).filter fun i => k.testBit i).length
theorem t8_all : ((List.range 256).all fun k => decide (T8[k]? = some (UInt8.ofNat (pc8 k)) ∧ pc8 k ≤ 8)) = true := by decide +kernel
theorem t8_at {k : Nat} (hk : k < 256) : T8[k]? = some (UInt8.ofNat (pc8 k)) ∧ pc8 k ≤ 8 := by
  have := List.all_eq_true.1 t8_all k (by simpa using hk)
  simpa using this
theorem sidx_t8 {kk : IntKind} {k : Nat} (hk : k < 256) : prV .sidx (V.s ⟨#[0, 1, 1, 2, 1, 2, 2, 3, 1, 2, 2, 3, 2, 3, 3, 4, 1, 2, 2, 3, 2, 3, 3, 4, 2, 3, 3, 4, 3, 4, 4, 5, 1, 2, 2, 3, 2, 3, 3, 4, 2, 3, 3, 4, 3, 4, 4, 5, 2, 3, 3, 4, 3, 4, 4, 5, 3, 4, 4, 5, 4, 5, 5, 6, 1, 2, 2, 3, 2, 3, 3, 4, 2, 3, 3, 4, 3, 4, 4, 5, 2, 3, 3, 4, 3, 4, 4, 5, 3, 4, 4, 5, 4, 5, 5, 6, 2, 3, 3, 4, 3, 4, 4, 5, 3, 4, 4, 5, 4, 5, 5, 6, 3, 4, 4, 5, 4, 5, 5, 6, 4, 5, 5, 6, 5, 6, 6, 7, 1, 2, 2, 3, 2, 3, 3, 4, 2, 3, 3, 4, 3, 4, 4, 5, 2, 3, 3, 4, 3, 4, 4, 5, 3, 4, 4, 5, 4, 5, 5, 6, 2, 3, 3, 4, 3, 4, 4, 5, 3, 4, 4, 5, 4, 5, 5, 6, 3, 4, 4, 5, 4, 5, 5, 6, 4, 5, 5, 6, 5, 6, 6, 7, 2, 3, 3, 4, 3, 4, 4, 5, 3, 4, 4, 5, 4, 5, 5, 6, 3, 4, 4, 5, 4, 5, 5, 6, 4, 5, 5, 6, 5, 6, 6, 7, 3, 4, 4, 5, 4, 5, 5, 6, 4, 5, 5, 6, 5, 6, 6, 7, 4, 5, 5, 6, 5, 6, 6, 7, 5, 6, 6, 7, 6, 7, 7, 8]⟩) (.i kk (k : Int)) = some (.i .u8 (pc8 k : Int)) := by
  obtain ⟨h1, h2⟩ := t8_at hk
  have e : bytes ⟨#[0, 1, 1, 2, 1, 2, 2, 3, 1, 2, 2, 3, 2, 3, 3, 4, 1, 2, 2, 3, 2, 3, 3, 4, 2, 3, 3, 4, 3, 4, 4, 5, 1, 2, 2, 3, 2, 3, 3, 4, 2, 3, 3, 4, 3, 4, 4, 5, 2, 3, 3, 4, 3, 4, 4, 5, 3, 4, 4, 5, 4, 5, 5, 6, 1, 2, 2, 3, 2, 3, 3, 4, 2, 3, 3, 4, 3, 4, 4, 5, 2, 3, 3, 4, 3, 4, 4, 5, 3, 4, 4, 5, 4, 5, 5, 6, 2, 3, 3, 4, 3, 4, 4, 5, 3, 4, 4, 5, 4, 5, 5, 6, 3, 4, 4, 5, 4, 5, 5, 6, 4, 5, 5, 6, 5, 6, 6, 7, 1, 2, 2, 3, 2, 3, 3, 4, 2, 3, 3, 4, 3, 4, 4, 5, 2, 3, 3, 4, 3, 4, 4, 5, 3, 4, 4, 5, 4, 5, 5, 6, 2, 3, 3, 4, 3, 4, 4, 5, 3, 4, 4, 5, 4, 5, 5, 6, 3, 4, 4, 5, 4, 5, 5, 6, 4, 5, 5, 6, 5, 6, 6, 7, 2, 3, 3, 4, 3, 4, 4, 5, 3, 4, 4, 5, 4, 5, 5, 6, 3, 4, 4, 5, 4, 5, 5, 6, 4, 5, 5, 6, 5, 6, 6, 7, 3, 4, 4, 5, 4, 5, 5, 6, 4, 5, 5, 6, 5, 6, 6, 7, 4, 5, 5, 6, 5, 6, 6, 7, 5, 6, 6, 7, 6, 7, 7, 8]⟩ = T8 := rfl
  show (oGet (nonneg (k : Int)) none fun n => oGet (nth (bytes ⟨#[0, 1, 1, 2, 1, 2, 2, 3, 1, 2, 2, 3, 2, 3, 3, 4, 1, 2, 2, 3, 2, 3, 3, 4, 2, 3, 3, 4, 3, 4, 4, 5, 1, 2, 2, 3, 2, 3, 3, 4, 2, 3, 3, 4, 3, 4, 4, 5, 2, 3, 3, 4, 3, 4, 4, 5, 3, 4, 4, 5, 4, 5, 5, 6, 1, 2, 2, 3, 2, 3, 3, 4, 2, 3, 3, 4, 3, 4, 4, 5, 2, 3, 3, 4, 3, 4, 4, 5, 3, 4, 4, 5, 4, 5, 5, 6, 2, 3, 3, 4, 3, 4, 4, 5, 3, 4, 4, 5, 4, 5, 5, 6, 3, 4, 4, 5, 4, 5, 5, 6, 4, 5, 5, 6, 5, 6, 6, 7, 1, 2, 2, 3, 2, 3, 3, 4, 2, 3, 3, 4, 3, 4, 4, 5, 2, 3, 3, 4, 3, 4, 4, 5, 3, 4, 4, 5, 4, 5, 5, 6, 2, 3, 3, 4, 3, 4, 4, 5, 3, 4, 4, 5, 4, 5, 5, 6, 3, 4, 4, 5, 4, 5, 5, 6, 4, 5, 5, 6, 5, 6, 6, 7, 2, 3, 3, 4, 3, 4, 4, 5, 3, 4, 4, 5, 4, 5, 5, 6, 3, 4, 4, 5, 4, 5, 5, 6, 4, 5, 5, 6, 5, 6, 6, 7, 3, 4, 4, 5, 4, 5, 5, 6, 4, 5, 5, 6, 5, 6, 6, 7, 4, 5, 5, 6, 5, 6, 6, 7, 5, 6, 6, 7, 6, 7, 7, 8]⟩) n) none fun b => some (V.i .u8 (.ofNat b.toNat))) = _
  rw [e]
  show (oGet (nth T8 k) none fun b => some (V.i .u8 (.ofNat b.toNat))) = _
  rw [nth_eq, h1]
  show some (V.i .u8 (.ofNat (UInt8.ofNat (pc8 k)).toNat)) = _
  have : (UInt8.ofNat (pc8 k)).toNat = pc8 k := by rw [UInt8.toNat_ofNat']; omega
  rw [this]; rfl
def pcN (m : Nat) : Nat := pc8 (m / 256) + pc8 (m % 256)
noncomputable def f92_q (T : V) : List Stage := [⟨[⟨(some (K.ofNat 3)), none, .mv (.t (K.ofNat 0))⟩, ⟨(some (K.ofNat 4)), none, .bin .shr (.t (K.ofNat 3)) (.c (.i .u64 (.ofNat 8)))⟩, ⟨(some (K.ofNat 5)), none, .pr .sidx (.c T) (.t (K.ofNat 4))⟩, ⟨(some (K.ofNat 6)), none, .mv (.t (K.ofNat 0))⟩, ⟨(some (K.ofNat 7)), none, .bin .and (.t (K.ofNat 6)) (.c (.i .u16 (.ofNat 255)))⟩, ⟨(some (K.ofNat 8)), none, .pr .sidx (.c T) (.t (K.ofNat 7))⟩, ⟨(some (K.ofNat 9)), none, .bin .add (.t (K.ofNat 5)) (.t (K.ofNat 8))⟩, ⟨(some (K.ofNat 10)), none, .conv .i64 (.t (K.ofNat 9))⟩], [], (some ⟨(some (K.ofNat 2)), none, .as (.t (K.ofNat 10))⟩), []⟩, ⟨[], [], none, []⟩]
theorem f92_e : f92_r1 = f92_q (V.s ⟨#[0, 1, 1, 2, 1, 2, 2, 3, 1, 2, 2, 3, 2, 3, 3, 4, 1, 2, 2, 3, 2, 3, 3, 4, 2, 3, 3, 4, 3, 4, 4, 5, 1, 2, 2, 3, 2, 3, 3, 4, 2, 3, 3, 4, 3, 4, 4, 5, 2, 3, 3, 4, 3, 4, 4, 5, 3, 4, 4, 5, 4, 5, 5, 6, 1, 2, 2, 3, 2, 3, 3, 4, 2, 3, 3, 4, 3, 4, 4, 5, 2, 3, 3, 4, 3, 4, 4, 5, 3, 4, 4, 5, 4, 5, 5, 6, 2, 3, 3, 4, 3, 4, 4, 5, 3, 4, 4, 5, 4, 5, 5, 6, 3, 4, 4, 5, 4, 5, 5, 6, 4, 5, 5, 6, 5, 6, 6, 7, 1, 2, 2, 3, 2, 3, 3, 4, 2, 3, 3, 4, 3, 4, 4, 5, 2, 3, 3, 4, 3, 4, 4, 5, 3, 4, 4, 5, 4, 5, 5, 6, 2, 3, 3, 4, 3, 4, 4, 5, 3, 4, 4, 5, 4, 5, 5, 6, 3, 4, 4, 5, 4, 5, 5, 6, 4, 5, 5, 6, 5, 6, 6, 7, 2, 3, 3, 4, 3, 4, 4, 5, 3, 4, 4, 5, 4, 5, 5, 6, 3, 4, 4, 5, 4, 5, 5, 6, 4, 5, 5, 6, 5, 6, 6, 7, 3, 4, 4, 5, 4, 5, 5, 6, 4, 5, 5, 6, 5, 6, 6, 7, 4, 5, 5, 6, 5, 6, 6, 7, 5, 6, 6, 7, 6, 7, 7, 8]⟩) := rfl
theorem of255 : Int.ofNat 255 = 255 := of_eq_true (eq_self _)
section
variable {fs : T EF} {h : H} {v : V}
theorem f92_ret {m : Nat} (hm : m ≤ 65535) : Ret fs f92 [.i .u16 (m : Int)] h fun r h' => r = .i .i64 (pcN m : Int) ∧ h' = h := by
  have h1 : binV .shr (.i .u16 (m : Int)) (.i .u64 8) = some (.i .u16 ((m / 256 : Nat) : Int)) := by
    have := bin_shr (k := .u16) (k' := .u64) (m := m) (n := 8)
    rw [show min 8 (IntKind.bits .u16) = 8 from rfl] at this
    exact this
  have h2 : binV .and (.i .u16 (m : Int)) (.i .u16 255) = some (.i .u16 ((m % 256 : Nat) : Int)) := by
    have := bin_and (k := .u16) (m := m) (n := 255) (show m ≤ 65535 by omega) (show 255 ≤ 65535 by omega)
    rw [show m &&& 255 = m % 256 from Nat.and_two_pow_sub_one_eq_mod m 8] at this
    exact this
  have a1 := t8_at (k := m / 256) (by omega)
  have a2 := t8_at (k := m % 256) (by omega)
  have h3 := sidx_t8 (kk := .u16) (k := m / 256) (by omega)
  have h4 := sidx_t8 (kk := .u16) (k := m % 256) (by omega)
  have e1 : (pc8 (m / 256) : Int) + (pc8 (m % 256) : Int) = (pcN m : Int) := by unfold pcN; omega
  have hp : pcN m ≤ 16 := by unfold pcN; omega
  have f8 : fw .u8 (pcN m : Int) = (pcN m : Int) := fw_in (by have : (0 : Int) ≤ (pcN m : Int) := Int.natCast_nonneg _; omega) (by show (pcN m : Int) ≤ 255; omega)
  apply ret_of rfl
  show W fs none f92_c _ _ _
  unfold f92_c
  rw [f92_e]
  generalize V.s ⟨#[0, 1, 1, 2, 1, 2, 2, 3, 1, 2, 2, 3, 2, 3, 3, 4, 1, 2, 2, 3, 2, 3, 3, 4, 2, 3, 3, 4, 3, 4, 4, 5, 1, 2, 2, 3, 2, 3, 3, 4, 2, 3, 3, 4, 3, 4, 4, 5, 2, 3, 3, 4, 3, 4, 4, 5, 3, 4, 4, 5, 4, 5, 5, 6, 1, 2, 2, 3, 2, 3, 3, 4, 2, 3, 3, 4, 3, 4, 4, 5, 2, 3, 3, 4, 3, 4, 4, 5, 3, 4, 4, 5, 4, 5, 5, 6, 2, 3, 3, 4, 3, 4, 4, 5, 3, 4, 4, 5, 4, 5, 5, 6, 3, 4, 4, 5, 4, 5, 5, 6, 4, 5, 5, 6, 5, 6, 6, 7, 1, 2, 2, 3, 2, 3, 3, 4, 2, 3, 3, 4, 3, 4, 4, 5, 2, 3, 3, 4, 3, 4, 4, 5, 3, 4, 4, 5, 4, 5, 5, 6, 2, 3, 3, 4, 3, 4, 4, 5, 3, 4, 4, 5, 4, 5, 5, 6, 3, 4, 4, 5, 4, 5, 5, 6, 4, 5, 5, 6, 5, 6, 6, 7, 2, 3, 3, 4, 3, 4, 4, 5, 3, 4, 4, 5, 4, 5, 5, 6, 3, 4, 4, 5, 4, 5, 5, 6, 4, 5, 5, 6, 5, 6, 6, 7, 3, 4, 4, 5, 4, 5, 5, 6, 4, 5, 5, 6, 5, 6, 6, 7, 4, 5, 5, 6, 5, 6, 6, 7, 5, 6, 6, 7, 6, 7, 7, 8]⟩ = T at *
  simp (disch := omega) only [f92_r0, f92_q, f92_rs, w_reg, w_draw, w_seq, w_ret, seqK_n, retK_r, x_nil, x_as, kg, xg_nil, xg_mv, xg_bin, xg_conv, xd_cons, fresh_nil, stK_n, stK_s, stay_nil, rvP_ok, okv_some, ev_t, ev_c, getV_some, putD_some, bin_add, onI_i, oGet_s, readRs_nil, readRs_t, retV_1, frame_1, of0, of8, Option.some.injEq, exists_eq_left', getK_set, Nat.reduceEqDiff, ↓reduceIte, xg_pr, of8, of255, h1, h2, h3, h4, e1, f8, fw64, and_self]
theorem f74_ret {m : Nat} (h92 : fs.get (K.ofNat 92) = some f92) (hm : m ≤ 65535) : Ret fs f74 [.i .u16 (m : Int)] h fun r h' => r = .i .i64 (pcN m : Int) ∧ h' = h := by
  apply ret_of rfl
  show W fs none f74_c _ _ _
  unfold f74_c
  simp (disch := omega) only [f74_r0, f74_r1, w_reg, w_seq, seqK_n, x_nil, x_mv, x_as, x_call, ev_t, ev_c, evs_nil, evs_cons, getV_some, putD_some, frame_1, of0, getK_set, Nat.reduceEqDiff, ↓reduceIte]
  refine (callP_0 (ef := f92) h92 rfl (f92_ret hm)).mono ?_
  rintro r h1 ⟨rfl, e⟩
  rw [e]
  simp (disch := omega) only [f74_rs, w_ret, seqK_n, retK_r, x_nil, x_as, kx, ev_t, getV_some, putD_some, oGet_s, readRs_nil, readRs_t, retV_1, Option.some.injEq, exists_eq_left', getK_set, ↓reduceIte, and_self]
def smI (L : List Int) : Int := L.foldl (· + ·) 0
theorem smI_snoc {L : List Int} {x : Int} : smI (L ++ [x]) = smI L + x := by unfold smI; rw [List.foldl_append]; rfl
def f75_I (h : H) (v : V) (L : List Int) (i : Nat) (fr : Fr) (h1 : H) : Prop := i ≤ L.length ∧ h1 = h ∧ fr.get (K.ofNat 3) = some (.i .i64 (smI (L.take i))) ∧ fr.get (K.ofNat 6) = some (v) ∧ fr.get (K.ofNat 7) = some (.i .i64 (L.length : Int)) ∧ fr.get (K.ofNat 8) = some (.i .i64 (i : Int))
theorem smI_bd {b : Nat} : ∀ {L : List Int}, (∀ x ∈ L, -(b : Int) ≤ x ∧ x ≤ (b : Int)) → -(((L.length * b : Nat)) : Int) ≤ smI L ∧ smI L ≤ ((L.length * b : Nat) : Int) := by
  intro L
  have key : ∀ (L : List Int) (a : Int), (∀ x ∈ L, -(b : Int) ≤ x ∧ x ≤ (b : Int)) → a - (((L.length * b : Nat)) : Int) ≤ L.foldl (· + ·) a ∧ L.foldl (· + ·) a ≤ a + ((L.length * b : Nat) : Int) := by
    intro L
    induction L with
    | nil => intro a _; simp
    | cons x L ih =>
      intro a hb
      have h1 := hb x (by simp)
      have h2 := ih (a + x) fun y hy => hb y (by simp [hy])
      rw [List.foldl_cons, List.length_cons, Nat.add_mul, Nat.one_mul]
      omega
  intro hb
  have := key L 0 hb
  unfold smI
  omega
theorem f75_ret {L : List Int} (hv : Sr iE h v L) (hL : L.length ≤ 1000) (hb : ∀ x ∈ L, -(1000 : Int) ≤ x ∧ x ≤ 1000) : Ret fs f75 [v] h fun r h' => r = .i .i64 (smI L) ∧ h' = h := by
  apply ret_of rfl
  show W fs none f75_c _ _ _
  unfold f75_c
  have hlen := hv.len
  simp (disch := omega) only [f75_r0, f75_r1, f75_r2, w_reg, w_seq, w_block, seqK_n, x_nil, x_mv, x_as, x_len, kx, rvP_ok, ev_t, ev_c, getV_some, putD_some, frame_1, of0, getK_set, Nat.reduceEqDiff, ↓reduceIte, hlen]
  refine W_loop (f75_I h v L) (fun i => L.length - i) ?_ 0 ⟨by omega, rfl, by simp (disch := omega) only [getK_set, Nat.reduceEqDiff, ↓reduceIte, and_self, Int.natCast_zero, List.take_zero, smI, List.foldl_nil]⟩
  rintro i fr h1 ⟨hi, rfl, g3, g6, g7, g8⟩
  unfold f75_l0
  by_cases hlt : i < L.length
  · have d0 : decide ((i : Int) < (L.length : Int)) = true := by simpa using hlt
    obtain ⟨p, hp1, hp2⟩ := hv.at i hlt
    have hb1 := hb _ (List.getElem_mem hlt)
    have htk := List.take_succ_eq_append_getElem hlt
    have hs : smI (L.take i) + L[i] = smI (L.take (i + 1)) := by rw [htk, smI_snoc]
    have hbd := smI_bd (b := 1000) (L := L.take (i + 1)) fun x hx => hb x (List.mem_of_mem_take hx)
    rw [List.length_take] at hbd
    have hmul : min (i + 1) L.length * 1000 ≤ 1000 * 1000 := Nat.mul_le_mul_right _ (by omega)
    simp (disch := omega) only [f75_r3, f75_r4, f75_r5, f75_r6, w_skip, w_reg, w_seq, w_cond, w_block, seqK_n, atK_n, loopK_n, ckB_b, cbB_b, true_and, x_nil, x_mv, x_as, x_ld, x_bin, x_iads, kx, rvP_ok, okv_some, ev_t, ev_c, getV_some, putD_some, bin_add, bin_lss, of1, getK_set, Nat.reduceEqDiff, ↓reduceIte, g3, g6, g7, g8, d0, hp1, hp2, iE, hs, fw64]
    exact ⟨i + 1, by omega, by omega, rfl, by simp (disch := omega) only [getK_set, Nat.reduceEqDiff, ↓reduceIte, g6, g7, and_self, Int.natCast_add, Int.natCast_one]⟩
  · have d0 : decide ((i : Int) < (L.length : Int)) = false := by simpa using hlt
    have ei : i = L.length := by omega
    rw [ei, List.take_length] at g3
    simp (disch := omega) only [f75_r3, f75_r7, f75_rs, w_reg, w_seq, w_cond, w_exit, w_ret, seqK_n, seqK_e, atK_e, loopK_e, ckB_b, cbB_b, retK_r, x_nil, x_mv, x_as, x_bin, kx, rvP_ok, okv_some, ev_t, getV_some, putD_some, bin_lss, oGet_s, readRs_nil, readRs_t, retV_1, Option.some.injEq, exists_eq_left', getK_set, Nat.reduceEqDiff, ↓reduceIte, Bool.false_eq_true, g3, g7, g8, d0, and_self]
end
end Go.Ev
namespace Go.Ev
open Go Go.RowKit
noncomputable def f52_r0 : List EOper := [⟨(some (K.ofNat 4)), none, .as (.c (.i .i64 (.ofNat 0)))⟩]
noncomputable def f52_r1 : List EOper := [⟨(some (K.ofNat 5)), none, .as (.c .sn)⟩]
noncomputable def f52_r2 : List EOper := [⟨(some (K.ofNat 9)), none, .mv (.t (K.ofNat 0))⟩, ⟨(some (K.ofNat 10)), none, .slice 1 (.t (K.ofNat 9)) (some (.c (.i .i64 (.ofNat 1)))) none none⟩, ⟨(some (K.ofNat 11)), none, .len (.t (K.ofNat 10))⟩, ⟨(some (K.ofNat 12)), none, .mv (.c (.i .i64 (.ofNat 0)))⟩]
noncomputable def f52_r3 : List EOper := [⟨(some (K.ofNat 13)), none, .bin .lss (.t (K.ofNat 12)) (.t (K.ofNat 11))⟩]
noncomputable def f52_r4 : List EOper := [⟨(some (K.ofNat 14)), none, .mv (.t (K.ofNat 12))⟩, ⟨(some (K.ofNat 15)), none, .iads 1 (.t (K.ofNat 10)) (.t (K.ofNat 12))⟩, ⟨(some (K.ofNat 16)), none, .ld (.t (K.ofNat 15))⟩, ⟨(some (K.ofNat 6)), none, .as (.t (K.ofNat 14))⟩, ⟨(some (K.ofNat 7)), none, .as (.t (K.ofNat 16))⟩]
noncomputable def f52_r5 : List EOper := [⟨(some (K.ofNat 17)), none, .mv (.t (K.ofNat 0))⟩, ⟨(some (K.ofNat 18)), none, .mv (.t (K.ofNat 6))⟩, ⟨(some (K.ofNat 19)), none, .iads 1 (.t (K.ofNat 17)) (.t (K.ofNat 18))⟩, ⟨(some (K.ofNat 20)), none, .ld (.t (K.ofNat 19))⟩, ⟨(some (K.ofNat 21)), none, .call (.c (.fn (K.ofNat 73) [])) [(.t (K.ofNat 20))]⟩, ⟨(some (K.ofNat 22)), none, .mv (.t (K.ofNat 7))⟩, ⟨(some (K.ofNat 23)), none, .call (.c (.fn (K.ofNat 73) [])) [(.t (K.ofNat 22))]⟩, ⟨(some (K.ofNat 24)), none, .bin .xor (.t (K.ofNat 21)) (.t (K.ofNat 23))⟩, ⟨(some (K.ofNat 8)), none, .as (.t (K.ofNat 24))⟩]
noncomputable def f52_r6 : List EOper := [⟨(some (K.ofNat 25)), none, .mv (.t (K.ofNat 5))⟩, ⟨(some (K.ofNat 26)), none, .mv (.t (K.ofNat 1))⟩, ⟨(some (K.ofNat 27)), none, .mv (.t (K.ofNat 8))⟩, ⟨(some (K.ofNat 28)), none, .call (.c (.fn (K.ofNat 74) [])) [(.t (K.ofNat 27))]⟩, ⟨(some (K.ofNat 29)), none, .bin .sub (.t (K.ofNat 26)) (.t (K.ofNat 28))⟩, ⟨(some (K.ofNat 30)), none, .bslice 1 1 [(.i .i64 (.ofNat 0))] [(0, 1, (.t (K.ofNat 29)))]⟩, ⟨(some (K.ofNat 31)), none, .app 1 (.t (K.ofNat 25)) (.t (K.ofNat 30))⟩, ⟨(some (K.ofNat 5)), none, .as (.t (K.ofNat 31))⟩]
noncomputable def f52_r7 : List EOper := [⟨(some (K.ofNat 32)), none, .bin .add (.t (K.ofNat 12)) (.c (.i .i64 (.ofNat 1)))⟩, ⟨(some (K.ofNat 12)), none, .mv (.t (K.ofNat 32))⟩]
noncomputable def f52_l0 : EC := (.seq (.reg f52_r3) (.seq (.cond (.t (K.ofNat 13)) .skip (.exit 0)) (.seq (.block 1 (.seq (.reg f52_r4) (.seq (.reg f52_r5) (.reg f52_r6)))) (.reg f52_r7))))
noncomputable def f52_r8 : List EOper := [⟨(some (K.ofNat 33)), none, .mv (.t (K.ofNat 5))⟩, ⟨(some (K.ofNat 34)), none, .call (.c (.fn (K.ofNat 75) [])) [(.t (K.ofNat 33))]⟩, ⟨(some (K.ofNat 4)), none, .as (.t (K.ofNat 34))⟩]
noncomputable def f52_c : EC := (.seq (.reg f52_r0) (.seq (.reg f52_r1) (.seq (.seq (.reg f52_r2) (.block 0 (.loop f52_l0))) (.seq (.reg f52_r8) .ret))))
noncomputable def f52 : EF := ⟨35, [.tmp (K.ofNat 4)], f52_c, none⟩
theorem f52_rs : f52.rs = [.tmp (K.ofNat 4)] := of_eq_true (eq_self _)
noncomputable def f16_r0 : List EOper := [⟨(some (K.ofNat 4)), none, .as (.c (.i .i64 (.ofNat 0)))⟩, ⟨(some (K.ofNat 5)), none, .as (.c (.i .i64 (.ofNat 0)))⟩]
noncomputable def f16_r1 : List EOper := [⟨(some (K.ofNat 9)), none, .mv (.t (K.ofNat 0))⟩, ⟨(some (K.ofNat 10)), none, .mv (.t (K.ofNat 1))⟩, ⟨(some (K.ofNat 11)), none, .call (.c (.fn (K.ofNat 51) [])) [(.t (K.ofNat 9)), (.t (K.ofNat 10))]⟩, ⟨(some (K.ofNat 8)), none, .mv (.t (K.ofNat 11))⟩, ⟨(some (K.ofNat 12)), none, .ext (.t (K.ofNat 8)) 0⟩, ⟨(some (K.ofNat 13)), none, .ext (.t (K.ofNat 8)) 1⟩, ⟨(some (K.ofNat 6)), none, .as (.t (K.ofNat 12))⟩, ⟨(some (K.ofNat 7)), none, .as (.t (K.ofNat 13))⟩]
noncomputable def f16_r2 : List EOper := [⟨(some (K.ofNat 14)), none, .mv (.t (K.ofNat 7))⟩, ⟨(some (K.ofNat 15)), none, .bin .neq (.t (K.ofNat 14)) (.c (.i .i64 (.ofNat 0)))⟩]
noncomputable def f16_r3 : List EOper := [⟨(some (K.ofNat 16)), none, .mv (.t (K.ofNat 7))⟩, ⟨(some (K.ofNat 4)), none, .as (.c (.i .i64 (.ofNat 0)))⟩, ⟨(some (K.ofNat 5)), none, .as (.t (K.ofNat 16))⟩]
noncomputable def f16_r4 : List EOper := [⟨(some (K.ofNat 17)), none, .mv (.t (K.ofNat 6))⟩, ⟨(some (K.ofNat 18)), none, .mv (.t (K.ofNat 0))⟩, ⟨(some (K.ofNat 19)), none, .call (.c (.fn (K.ofNat 52) [])) [(.t (K.ofNat 17)), (.t (K.ofNat 18))]⟩, ⟨(some (K.ofNat 4)), none, .as (.t (K.ofNat 19))⟩, ⟨(some (K.ofNat 5)), none, .as (.c (.i .i64 (.ofNat 0)))⟩]
noncomputable def f16_c : EC := (.seq (.reg f16_r0) (.seq (.reg f16_r1) (.seq (.seq (.reg f16_r2) (.cond (.t (K.ofNat 15)) (.seq (.reg f16_r3) .ret) .skip)) (.seq (.reg f16_r4) .ret))))
noncomputable def f16 : EF := ⟨20, [.tmp (K.ofNat 4), .tmp (K.ofNat 5)], f16_c, none⟩
theorem f16_rs : f16.rs = [.tmp (K.ofNat 4), .tmp (K.ofNat 5)] := of_eq_true (eq_self _)
/-- For how many teams one is at home and the other isn't. -/
def dfC (l l' : List (Int × Int)) : Nat := ((List.range 16).filter fun t => hoB l t != hoB l' t).length
theorem pcN_bits {m : Nat} : pcN m = ((List.range 16).filter fun t => m.testBit t).length := by
  have h1 : List.range 16 = List.range 8 ++ (List.range 8).map (· + 8) := by decide
  rw [h1, List.filter_append, List.length_append, List.filter_map, List.length_map]
  unfold pcN pc8
  rw [Nat.add_comm]
  congr 1
  · congr 1
    refine List.filter_congr fun t ht => ?_
    have ht : t < 8 := by simpa using ht
    have := Nat.testBit_mod_two_pow m 8 t
    rw [show (2 : Nat) ^ 8 = 256 from rfl] at this
    rw [this, decide_eq_true ht, Bool.true_and]
  · congr 1
    refine List.filter_congr fun t _ => ?_
    have := Nat.testBit_div_two_pow (n := 8) m t
    rw [show (2 : Nat) ^ 8 = 256 from rfl] at this
    rw [this]; rfl
theorem msk_df {m m' : Nat} {l l' : List (Int × Int)} (h : Msk m (hmL l)) (h' : Msk m' (hmL l')) : pcN (m ^^^ m') = dfC l l' := by
  rw [pcN_bits]
  unfold dfC
  congr 1
  refine List.filter_congr fun t ht => ?_
  have ht : t < 16 := by simpa using ht
  rw [Nat.testBit_xor, h.2 t (by omega), h'.2 t (by omega)]; rfl
theorem dfC_le {l l' : List (Int × Int)} : dfC l l' ≤ 16 := by
  unfold dfC
  exact Nat.le_trans (List.length_filter_le _ _) (by simp)
/-- Breaks between each two rounds. -/
def bkL (n : Nat) (Ls : List (List (Int × Int))) (i : Nat) : List Int := (List.range i).map fun i => (n : Int) - (dfC (Ls.getD i []) (Ls.getD (i + 1) []) : Int)
theorem bkL_succ {n : Nat} {Ls : List (List (Int × Int))} {i : Nat} : bkL n Ls (i + 1) = bkL n Ls i ++ [(n : Int) - (dfC (Ls.getD i []) (Ls.getD (i + 1) []) : Int)] := by
  unfold bkL; rw [List.range_succ, List.map_append]; rfl
structure CallsBk (fs : T EF) : Prop extends CallsO fs where
  c16 : fs.get (K.ofNat 16) = some f16
  c52 : fs.get (K.ofNat 52) = some f52
  c74 : fs.get (K.ofNat 74) = some f74
  c75 : fs.get (K.ofNat 75) = some f75
  c92 : fs.get (K.ofNat 92) = some f92
section
variable {fs : T EF} {h : H} {v : V} {us : List V} {Ls : List (List (Int × Int))}
def f52_I (h : H) (n : Nat) (v x : V) (Ls : List (List (Int × Int))) (i : Nat) (fr : Fr) (h1 : H) : Prop := i + 1 ≤ Ls.length ∧ Grow h.nx.nat h h1 ∧ ∃ w, Sl iE h1 w (bkL n Ls i) ∧ Own h.nx.nat w ∧ fr.get (K.ofNat 0) = some (v) ∧ fr.get (K.ofNat 1) = some (.i .i64 (n : Int)) ∧ fr.get (K.ofNat 5) = some (w) ∧ fr.get (K.ofNat 10) = some (x) ∧ fr.get (K.ofNat 11) = some (.i .i64 ((Ls.length - 1 : Nat) : Int)) ∧ fr.get (K.ofNat 12) = some (.i .i64 (i : Int))
theorem f52_ret {n : Nat} (k : CallsBk fs) (hn : n ≤ 16) (hv : Nrp h v us Ls) (hF : Few Ls) (hne : 1 ≤ Ls.length) (hc : HC h) : Ret fs f52 [v, .i .i64 (n : Int)] h fun r h' => r = .i .i64 (smI (bkL n Ls (Ls.length - 1))) ∧ Grow h.nx.nat h h' := by
  have hL := hF.1
  apply ret_of rfl
  show W fs none f52_c _ _ _
  unfold f52_c
  have hul := hv.len
  obtain ⟨x, cx, sx, _⟩ := hv.out.cut (lo := some (.i .i64 1)) (hi := none) (l := 1) (u := us.length) rfl bnd_none (by omega) (Nat.le_refl _)
  have hxl : ((us.take us.length).drop 1).length = Ls.length - 1 := by rw [List.take_length, List.length_drop]; omega
  have hlx : ∀ h1, lenV x h1 = .ok (.i .i64 ((Ls.length - 1 : Nat) : Int)) h1 := fun h1 => by rw [sx.len, hxl]
  simp (disch := omega) only [f52_r0, f52_r1, f52_r2, w_reg, w_seq, w_block, seqK_n, x_nil, x_mv, x_as, x_slice, sliceV_eq, Option.map_none, Option.map_some, x_len, kx, rvP_ok, ev_t, ev_c, getV_some, putD_some, frame_2, of0, of1, getK_set, Nat.reduceEqDiff, ↓reduceIte, cx, hlx]
  refine W_loop (f52_I h n v x Ls) (fun i => Ls.length - i) ?_ 0 ⟨by omega, Grow.refl _ _, .sn, Sl.nil, Own.sn, by simp (disch := omega) only [getK_set, Nat.reduceEqDiff, ↓reduceIte, and_self, Int.natCast_zero]⟩
  rintro i fr h1 ⟨hi, hG, w, hw, how, g0, g1, g5, g10, g11, g12⟩
  have hc1 := hG.hc hc
  have hv1 := hv.grow hc hG
  have sx1 := sx.grow hc hG
  have hbl : (bkL n Ls i).length = i := by simp [bkL]
  unfold f52_l0
  by_cases hlt : i < Ls.length - 1
  · have d0 : decide ((i : Int) < ((Ls.length - 1 : Nat) : Int)) = true := by simp; omega
    obtain ⟨p, hp1, hp2'⟩ := sx1.at i (by omega)
    have hxi : ((us.take us.length).drop 1)[i]'(by omega) = us[i + 1]'(by omega) := by
      simp only [List.take_length, List.getElem_drop, Nat.add_comm 1 i]
    rw [hxi] at hp2'
    have hp2 : loadV h1 p one? = .ok us[i + 1] h1 := hp2'
    clear hp2'
    obtain ⟨q, hq1, hq2'⟩ := hv1.out.at i (by omega)
    have hq2 : loadV h1 q one? = .ok us[i] h1 := hq2'
    clear hq2'
    have hu1 := hv1.inn i (by omega) (by omega)
    have hu2 := hv1.inn (i + 1) (by omega) (by omega)
    obtain ⟨f1, f2⟩ := hF.2 Ls[i] (List.getElem_mem (by omega))
    obtain ⟨f3, f4⟩ := hF.2 Ls[i + 1] (List.getElem_mem (by omega))
    have hbs := bkL_succ (n := n) (Ls := Ls) (i := i)
    rw [List.getD_eq_getElem?_getD, List.getD_eq_getElem?_getD, List.getElem?_eq_getElem (show i < Ls.length by omega), List.getElem?_eq_getElem (show i + 1 < Ls.length by omega)] at hbs
    simp only [Option.getD_some] at hbs
    generalize us[i]'(by omega) = u1 at *
    generalize us[i + 1]'(by omega) = u2 at *
    generalize Ls[i]'(by omega) = l1 at *
    generalize Ls[i + 1]'(by omega) = l2 at *
    simp (disch := omega) only [f52_r3, f52_r4, f52_r5, w_skip, w_reg, w_seq, w_cond, w_block, seqK_n, ckB_b, cbB_b, true_and, x_nil, x_mv, x_as, x_ld, x_bin, x_iads, x_call, kx, rvP_ok, okv_some, ev_t, ev_c, evs_nil, evs_cons, getV_some, putD_some, bin_lss, getK_set, Nat.reduceEqDiff, ↓reduceIte, g0, g10, g11, g12, d0, hp1, hp2, hq1, hq2]
    refine (callP_0 (ef := f73) k.c73 rfl (f73_ret k.toCallsAa hu1 f2 (by omega) hc1)).mono ?_
    rintro r h2 ⟨m1, rfl, hm1, hG2⟩
    have hc2 := hG2.hc hc1
    simp (disch := omega) only [x_mv, x_call, kx, ev_t, ev_c, evs_nil, evs_cons, getV_some, putD_some, getK_set, Nat.reduceEqDiff, ↓reduceIte]
    refine (callP_0 (ef := f73) k.c73 rfl (f73_ret k.toCallsAa (hu2.grow hc1 hG2) f4 (by omega) hc2)).mono ?_
    rintro r h3 ⟨m2, rfl, hm2, hG3⟩
    have hc3 := hG3.hc hc2
    have hG13 := hG2.trans (hG3.low hG2.nx)
    have hxor : binV .xor (.i .u16 (m1 : Int)) (.i .u16 (m2 : Int)) = some (.i .u16 ((m1 ^^^ m2 : Nat) : Int)) := bin_xor hm1.1 hm2.1
    have hx16 : m1 ^^^ m2 ≤ 65535 := by
      have := Nat.xor_lt_two_pow (x := m1) (y := m2) (n := 16) (by have := hm1.1; show m1 < 65536; omega) (by have := hm2.1; show m2 < 65536; omega)
      have e : 2 ^ 16 = 65536 := by decide
      omega
    have hdf := msk_df hm1 hm2
    have hdl := dfC_le (l := l1) (l' := l2)
    simp (disch := omega) only [f52_r6, w_reg, seqK_n, x_nil, x_mv, x_as, x_bin, x_call, kx, rvP_ok, okv_some, ev_t, ev_c, evs_nil, evs_cons, getV_some, putD_some, of0, getK_set, Nat.reduceEqDiff, ↓reduceIte, g1, g5, hxor]
    refine (callP_0 (ef := f74) k.c74 rfl (f74_ret k.c92 hx16)).mono ?_
    rintro r h4 ⟨rfl, e4⟩
    rw [e4, hdf]
    clear e4 h4
    have hw3 := hw.grow hc1 hG13
    have hGb := hG.trans (hG13.low hG.nx)
    obtain ⟨w', h5, a1, s1, o1, gr1, _⟩ := Sl.push (e := iE) (x := (n : Int) - (dfC l1 l2 : Int)) (c := .i .i64 ((n : Int) - (dfC l1 l2 : Int))) rfl hw3 how hGb.nx hc3 (by omega)
    rw [← hbs] at s1
    simp (disch := omega) only [f52_r7, w_reg, seqK_n, atK_n, loopK_n, x_nil, x_mv, x_as, x_bslice, x_bin, x_app, kx, rvP_ok, okv_some, ev_t, ev_c, getV_some, putD_some, bin_add, bin_sub, oGet_s, cells1_i, fill_1, set_1, of1, getK_set, Nat.reduceEqDiff, ↓reduceIte, g12, fill_1, set_1, a1, fw64]
    exact ⟨i + 1, by omega, by omega, hGb.trans gr1, w', s1, o1, by simp (disch := omega) only [getK_set, Nat.reduceEqDiff, ↓reduceIte, g0, g1, g10, g11, and_self, Int.natCast_add, Int.natCast_one]⟩
  · have d0 : decide ((i : Int) < ((Ls.length - 1 : Nat) : Int)) = false := by simp; omega
    have ei : i = Ls.length - 1 := by omega
    rw [ei] at hw
    simp (disch := omega) only [f52_r3, f52_r8, w_reg, w_seq, w_cond, w_exit, seqK_n, seqK_e, atK_e, loopK_e, ckB_b, cbB_b, true_and, x_nil, x_mv, x_bin, x_call, kx, rvP_ok, okv_some, ev_t, ev_c, evs_nil, evs_cons, getV_some, putD_some, bin_lss, getK_set, Nat.reduceEqDiff, ↓reduceIte, Bool.false_eq_true, g5, g11, g12, d0]
    refine (callP_0 (ef := f75) k.c75 rfl (f75_ret hw.sr (by unfold bkL; simp; omega) fun y hy => ?_)).mono ?_
    · unfold bkL at hy
      obtain ⟨z, _, rfl⟩ := List.mem_map.1 hy
      have := dfC_le (l := Ls.getD z []) (l' := Ls.getD (z + 1) [])
      omega
    rintro r h2 ⟨rfl, e2⟩
    rw [e2]
    simp (disch := omega) only [f52_rs, w_ret, seqK_n, true_and, retK_r, x_nil, x_as, kx, ev_t, getV_some, putD_some, oGet_s, readRs_nil, readRs_t, retV_1, Option.some.injEq, exists_eq_left', getK_set, ↓reduceIte, true_and]
    exact hG
theorem f16_ret {n : Nat} (k : CallsBk fs) (hn : ok5 (n : Int)) (hv : Nrp h v us Ls) (hL2 : ∀ l ∈ Ls, l.length ≤ 9223372036854775807) (hsh : shB n Ls = true) (hc : HC h) : Ret fs f16 [.i .i64 (n : Int), v] h fun r h' => r = .tup [.i .i64 (smI (bkL n Ls (Ls.length - 1))), .i .i64 0] ∧ Grow h.nx.nat h h' := by
  have hn' := hn
  unfold ok5 at hn'
  apply ret_of rfl
  show W fs none f16_c _ _ _
  unfold f16_c
  simp (disch := omega) only [f16_r0, f16_r1, w_reg, w_seq, seqK_n, x_nil, x_mv, x_as, x_call, ev_t, ev_c, evs_nil, evs_cons, getV_some, putD_some, frame_2, of0, getK_set, Nat.reduceEqDiff, ↓reduceIte]
  refine (callP_0 (ef := f51) k.c51 rfl (f51_ret k.toCallsCh hn hv hL2 hc)).mono ?_
  rintro r h2 ⟨c, ws, rfl, hs, hG⟩
  rw [if_pos hsh] at hs ⊢
  obtain ⟨hs, _⟩ := hs
  obtain ⟨hvd, hlen⟩ := sh_vld hsh
  have hfew := hvd.few (by omega) (by omega)
  have ne0 : decide ((0 : Int) ≠ 0) = false := rfl
  simp (disch := omega) only [f16_r2, f16_r4, w_skip, w_reg, w_seq, w_cond, seqK_n, ckB_b, cbB_b, true_and, x_nil, x_mv, x_as, x_bin, x_ext, x_call, kx, rvP_ok, okv_some, ev_t, ev_c, evs_nil, evs_cons, getV_some, putD_some, bin_neq, onTup_t, nth0, nth1, of0, getK_set, Nat.reduceEqDiff, ↓reduceIte, Bool.false_eq_true, ne0]
  refine (callP_0 (ef := f52) k.c52 rfl (f52_ret (n := n) k (by omega) hs.nrp hfew (by omega) (hG.hc hc))).mono ?_
  rintro r h3 ⟨rfl, hG3⟩
  simp (disch := omega) only [f16_rs, w_ret, seqK_n, true_and, retK_r, x_nil, x_as, kx, ev_t, ev_c, getV_some, putD_some, oGet_s, readRs_nil, readRs_t, retV_2, Option.some.injEq, exists_eq_left', getK_set, Nat.reduceEqDiff, ↓reduceIte, true_and]
  exact hG.trans (hG3.low hG.nx)
end
end Go.Ev
namespace Go.Ev
open Go Go.RowKit
def sm (f : Nat → Int) : Nat → Int
  | 0 => 0
  | k + 1 => sm f k + f k
theorem sm_add {f g : Nat → Int} : ∀ k, sm (fun t => f t + g t) k = sm f k + sm g k
  | 0 => rfl
  | k + 1 => by show sm _ k + (f k + g k) = sm f k + f k + (sm g k + g k); rw [sm_add k]; omega
theorem sm_cong {f g : Nat → Int} : ∀ k, (∀ t, t < k → f t = g t) → sm f k = sm g k
  | 0, _ => rfl
  | k + 1, h => by show sm f k + f k = sm g k + g k; rw [sm_cong k fun t ht => h t (by omega), h k (by omega)]
theorem sm_zero : ∀ k : Nat, sm (fun _ => 0) k = 0
  | 0 => rfl
  | k + 1 => by show sm _ k + 0 = _; rw [sm_zero k]; rfl
theorem sm_swap {e : Nat → Nat → Int} {n : Nat} : ∀ N, sm (fun t => sm (fun j => e j t) N) n = sm (fun j => sm (fun t => e j t) n) N
  | 0 => sm_zero n
  | N + 1 => by
    show sm (fun t => sm (fun j => e j t) N + e N t) n = sm (fun j => sm (fun t => e j t) n) N + sm (fun t => e N t) n
    rw [sm_add, sm_swap N]
section
variable {fs : T EF} {h : H} {v : V} {us : List V} {Ls : List (List (Int × Int))}
theorem sm_bd {f : Nat → Int} {b : Nat} (hf : ∀ t, 0 ≤ f t ∧ f t ≤ (b : Int)) : ∀ k, 0 ≤ sm f k ∧ sm f k ≤ ((k * b : Nat) : Int)
  | 0 => by show 0 ≤ (0 : Int) ∧ (0 : Int) ≤ _; simp
  | k + 1 => by
    have h1 := sm_bd hf k
    have h2 := hf k
    show 0 ≤ sm f k + f k ∧ sm f k + f k ≤ _
    rw [Nat.add_mul, Nat.one_mul]
    omega
end
end Go.Ev
namespace Go.Ev
open Go Go.RowKit
section
variable {fs : T EF} {h : H} {v w : V} {us ws : List V} {Ls : List (List (Int × Int))} {L : List Int}
end
end Go.Ev
namespace Go.Ev
open Go Go.RowKit
section
variable {h : H} {w : V} {xs : List V} {Q : List (List (Int × Int))} {b : Nat}
end
end Go.Ev
namespace Go.Ev
open Go Go.RowKit
section
variable {fs : T EF} {h : H} {v w : V} {us : List V} {Ls : List (List (Int × Int))} {M : List Int}
theorem tb_len {α : Type} {f : Nat → α} {d : α} {n i : Nat} : (tbL f d n i).length = n := by simp [tbL]
theorem tb_first {α : Type} {f : Nat → α} {d : α} {n i : Nat} (hi : i < n) : (tbL f d n i).set i d = tbL f d n i := by
  have : (tbL f d n i)[i]'(by rw [tb_len]; exact hi) = d := by rw [tb_at, if_neg (by omega)]
  apply List.ext_getElem
  · simp
  · intro x h1 h2
    rw [List.getElem_set]
    split
    · rename_i e; subst e; exact this.symm
    · rfl
structure Rows (h : H) (h1 : H) (w : V) (xs : List V) (Q : List (List (Int × Int))) : Prop where
  sd : Sld h1 w xs Q
  ow : Own h.nx.nat w
  ox : ∀ x ∈ xs, Own h.nx.nat x
  gr : Grow h.nx.nat h h1
end
end Go.Ev
namespace Go.Ev
open Go Go.RowKit
section
variable {fs : T EF} {h : H} {v w : V} {us : List V} {Ls : List (List (Int × Int))} {M : List Int}
end
end Go.Ev
namespace Go.Ev
open Go Go.RowKit
noncomputable def f24_r0 : List EOper := [⟨(some (K.ofNat 6)), none, .as (.c .sn)⟩, ⟨(some (K.ofNat 7)), none, .as (.c (.i .i64 (.ofNat 0)))⟩]
noncomputable def f24_r1 : List EOper := [⟨(some (K.ofNat 11)), none, .mv (.t (K.ofNat 0))⟩, ⟨(some (K.ofNat 12)), none, .mv (.t (K.ofNat 1))⟩, ⟨(some (K.ofNat 13)), none, .call (.c (.fn (K.ofNat 51) [])) [(.t (K.ofNat 11)), (.t (K.ofNat 12))]⟩, ⟨(some (K.ofNat 10)), none, .mv (.t (K.ofNat 13))⟩, ⟨(some (K.ofNat 14)), none, .ext (.t (K.ofNat 10)) 0⟩, ⟨(some (K.ofNat 15)), none, .ext (.t (K.ofNat 10)) 1⟩, ⟨(some (K.ofNat 8)), none, .as (.t (K.ofNat 14))⟩, ⟨(some (K.ofNat 9)), none, .as (.t (K.ofNat 15))⟩]
noncomputable def f24_r2 : List EOper := [⟨(some (K.ofNat 16)), none, .mv (.t (K.ofNat 9))⟩, ⟨(some (K.ofNat 17)), none, .bin .neq (.t (K.ofNat 16)) (.c (.i .i64 (.ofNat 0)))⟩]
noncomputable def f24_r3 : List EOper := [⟨(some (K.ofNat 18)), none, .mv (.t (K.ofNat 9))⟩, ⟨(some (K.ofNat 6)), none, .as (.c .sn)⟩, ⟨(some (K.ofNat 7)), none, .as (.t (K.ofNat 18))⟩]
noncomputable def f24_r4 : List EOper := [⟨(some (K.ofNat 19)), none, .mv (.t (K.ofNat 0))⟩, ⟨(some (K.ofNat 20)), none, .mv (.t (K.ofNat 2))⟩, ⟨(some (K.ofNat 21)), none, .call (.c (.fn (K.ofNat 61) [])) [(.t (K.ofNat 19)), (.t (K.ofNat 20))]⟩, ⟨(some (K.ofNat 22)), none, .not (.t (K.ofNat 21))⟩]
noncomputable def f24_r5 : List EOper := [⟨(some (K.ofNat 6)), none, .as (.c .sn)⟩, ⟨(some (K.ofNat 7)), none, .as (.c (.i .i64 (.ofNat 1)))⟩]
noncomputable def f24_r6 : List EOper := [⟨(some (K.ofNat 23)), none, .mv (.t (K.ofNat 8))⟩, ⟨(some (K.ofNat 24)), none, .mv (.t (K.ofNat 2))⟩, ⟨(some (K.ofNat 25)), none, .call (.c (.fn (K.ofNat 62) [])) [(.t (K.ofNat 23)), (.t (K.ofNat 24))]⟩, ⟨(some (K.ofNat 26)), none, .call (.c (.fn (K.ofNat 60) [])) [(.t (K.ofNat 25))]⟩, ⟨(some (K.ofNat 6)), none, .as (.t (K.ofNat 26))⟩, ⟨(some (K.ofNat 7)), none, .as (.c (.i .i64 (.ofNat 0)))⟩]
noncomputable def f24_c : EC := (.seq (.reg f24_r0) (.seq (.reg f24_r1) (.seq (.seq (.reg f24_r2) (.cond (.t (K.ofNat 17)) (.seq (.reg f24_r3) .ret) .skip)) (.seq (.seq (.reg f24_r4) (.cond (.t (K.ofNat 22)) (.seq (.reg f24_r5) .ret) .skip)) (.seq (.reg f24_r6) .ret)))))
noncomputable def f24 : EF := ⟨27, [.tmp (K.ofNat 6), .tmp (K.ofNat 7)], f24_c, none⟩
theorem f24_rs : f24.rs = [.tmp (K.ofNat 6), .tmp (K.ofNat 7)] := of_eq_true (eq_self _)
section
variable {fs : T EF} {h : H} {v wm : V} {us : List V} {Ls : List (List (Int × Int))} {M : List Int}
end
end Go.Ev
namespace Go.Ev
open Go Go.RowKit
noncomputable def f4_r0 : List EOper := [⟨(some (K.ofNat 6)), none, .as (.c (.b false))⟩]
noncomputable def f4_r1 : List EOper := [⟨(some (K.ofNat 26)), none, .mv (.t (K.ofNat 0))⟩, ⟨(some (K.ofNat 27)), none, .mv (.t (K.ofNat 1))⟩, ⟨(some (K.ofNat 28)), none, .call (.c (.fn (K.ofNat 25) [])) [(.t (K.ofNat 26)), (.t (K.ofNat 27))]⟩, ⟨(some (K.ofNat 25)), none, .mv (.t (K.ofNat 28))⟩, ⟨(some (K.ofNat 29)), none, .ext (.t (K.ofNat 25)) 0⟩, ⟨(some (K.ofNat 30)), none, .ext (.t (K.ofNat 25)) 1⟩, ⟨(some (K.ofNat 7)), none, .as (.t (K.ofNat 29))⟩, ⟨(some (K.ofNat 8)), none, .as (.t (K.ofNat 30))⟩]
noncomputable def f4_r2 : List EOper := [⟨(some (K.ofNat 32)), none, .mv (.t (K.ofNat 7))⟩, ⟨(some (K.ofNat 33)), none, .mv (.t (K.ofNat 8))⟩, ⟨(some (K.ofNat 34)), none, .call (.c (.fn (K.ofNat 17) [])) [(.t (K.ofNat 32)), (.t (K.ofNat 33))]⟩, ⟨(some (K.ofNat 31)), none, .mv (.t (K.ofNat 34))⟩, ⟨(some (K.ofNat 35)), none, .ext (.t (K.ofNat 31)) 0⟩, ⟨(some (K.ofNat 36)), none, .ext (.t (K.ofNat 31)) 1⟩, ⟨(some (K.ofNat 9)), none, .as (.t (K.ofNat 35))⟩, ⟨(some (K.ofNat 10)), none, .as (.t (K.ofNat 36))⟩]
noncomputable def f4_r3 : List EOper := [⟨(some (K.ofNat 38)), none, .mv (.t (K.ofNat 7))⟩, ⟨(some (K.ofNat 39)), none, .mv (.t (K.ofNat 8))⟩, ⟨(some (K.ofNat 40)), none, .call (.c (.fn (K.ofNat 16) [])) [(.t (K.ofNat 38)), (.t (K.ofNat 39))]⟩, ⟨(some (K.ofNat 37)), none, .mv (.t (K.ofNat 40))⟩, ⟨(some (K.ofNat 41)), none, .ext (.t (K.ofNat 37)) 0⟩, ⟨(some (K.ofNat 42)), none, .ext (.t (K.ofNat 37)) 1⟩, ⟨(some (K.ofNat 11)), none, .as (.t (K.ofNat 41))⟩, ⟨(some (K.ofNat 12)), none, .as (.t (K.ofNat 42))⟩]
noncomputable def f4_r4 : List EOper := [⟨(some (K.ofNat 43)), none, .mv (.t (K.ofNat 7))⟩, ⟨(some (K.ofNat 44)), none, .mv (.t (K.ofNat 8))⟩, ⟨(some (K.ofNat 45)), none, .call (.c (.fn (K.ofNat 26) [])) [(.t (K.ofNat 43)), (.t (K.ofNat 44))]⟩, ⟨(some (K.ofNat 13)), none, .as (.t (K.ofNat 45))⟩]
noncomputable def f4_r5 : List EOper := [⟨(some (K.ofNat 46)), none, .mv (.t (K.ofNat 10))⟩, ⟨(some (K.ofNat 47)), none, .bin .neq (.t (K.ofNat 46)) (.c (.i .i64 (.ofNat 0)))⟩, ⟨(some (K.ofNat 48)), none, .mv (.t (K.ofNat 47))⟩, ⟨(some (K.ofNat 49)), (some ((K.ofNat 48), false)), .mv (.t (K.ofNat 9))⟩, ⟨(some (K.ofNat 50)), (some ((K.ofNat 48), false)), .len (.t (K.ofNat 49))⟩, ⟨(some (K.ofNat 51)), (some ((K.ofNat 48), false)), .mv (.t (K.ofNat 13))⟩, ⟨(some (K.ofNat 52)), (some ((K.ofNat 48), false)), .len (.t (K.ofNat 51))⟩, ⟨(some (K.ofNat 53)), (some ((K.ofNat 48), false)), .bin .neq (.t (K.ofNat 50)) (.t (K.ofNat 52))⟩, ⟨(some (K.ofNat 54)), none, .pick (.t (K.ofNat 48)) (.c (.b true)) (.t (K.ofNat 53))⟩, ⟨(some (K.ofNat 55)), none, .mv (.t (K.ofNat 54))⟩, ⟨(some (K.ofNat 56)), (some ((K.ofNat 55), false)), .mv (.t (K.ofNat 12))⟩, ⟨(some (K.ofNat 57)), (some ((K.ofNat 55), false)), .bin .neq (.t (K.ofNat 56)) (.c (.i .i64 (.ofNat 0)))⟩, ⟨(some (K.ofNat 58)), none, .pick (.t (K.ofNat 55)) (.c (.b true)) (.t (K.ofNat 57))⟩, ⟨(some (K.ofNat 59)), none, .mv (.t (K.ofNat 58))⟩, ⟨(some (K.ofNat 60)), (some ((K.ofNat 59), false)), .mv (.t (K.ofNat 11))⟩, ⟨(some (K.ofNat 61)), (some ((K.ofNat 59), false)), .mv (.t (K.ofNat 7))⟩, ⟨(some (K.ofNat 62)), (some ((K.ofNat 59), false)), .mv (.t (K.ofNat 8))⟩, ⟨(some (K.ofNat 63)), (some ((K.ofNat 59), false)), .call (.c (.fn (K.ofNat 27) [])) [(.t (K.ofNat 61)), (.t (K.ofNat 62))]⟩, ⟨(some (K.ofNat 64)), (some ((K.ofNat 59), false)), .bin .neq (.t (K.ofNat 60)) (.t (K.ofNat 63))⟩, ⟨(some (K.ofNat 65)), none, .pick (.t (K.ofNat 59)) (.c (.b true)) (.t (K.ofNat 64))⟩]
noncomputable def f4_r6 : List EOper := [⟨(some (K.ofNat 6)), none, .as (.c (.b false))⟩]
noncomputable def f4_r7 : List EOper := [⟨(some (K.ofNat 14)), none, .as (.c (.i .i64 (.ofNat 0)))⟩]
noncomputable def f4_r8 : List EOper := [⟨(some (K.ofNat 66)), none, .mv (.t (K.ofNat 14))⟩, ⟨(some (K.ofNat 67)), none, .mv (.t (K.ofNat 7))⟩, ⟨(some (K.ofNat 68)), none, .bin .lss (.t (K.ofNat 66)) (.t (K.ofNat 67))⟩]
noncomputable def f4_r9 : List EOper := [⟨(some (K.ofNat 72)), none, .mv (.t (K.ofNat 7))⟩, ⟨(some (K.ofNat 73)), none, .mv (.t (K.ofNat 8))⟩, ⟨(some (K.ofNat 74)), none, .mv (.t (K.ofNat 14))⟩, ⟨(some (K.ofNat 75)), none, .call (.c (.fn (K.ofNat 21) [])) [(.t (K.ofNat 72)), (.t (K.ofNat 73)), (.t (K.ofNat 74))]⟩, ⟨(some (K.ofNat 71)), none, .mv (.t (K.ofNat 75))⟩, ⟨(some (K.ofNat 76)), none, .ext (.t (K.ofNat 71)) 0⟩, ⟨(some (K.ofNat 77)), none, .ext (.t (K.ofNat 71)) 1⟩, ⟨(some (K.ofNat 15)), none, .as (.t (K.ofNat 76))⟩, ⟨(some (K.ofNat 16)), none, .as (.t (K.ofNat 77))⟩]
noncomputable def f4_r10 : List Stage := [⟨[⟨(some (K.ofNat 78)), none, .mv (.t (K.ofNat 9))⟩, ⟨(some (K.ofNat 79)), none, .mv (.t (K.ofNat 14))⟩, ⟨(some (K.ofNat 80)), none, .iads 1 (.t (K.ofNat 78)) (.t (K.ofNat 79))⟩, ⟨(some (K.ofNat 81)), none, .ld (.t (K.ofNat 80))⟩, ⟨(some (K.ofNat 82)), none, .mv (.t (K.ofNat 13))⟩, ⟨(some (K.ofNat 83)), none, .mv (.t (K.ofNat 14))⟩, ⟨(some (K.ofNat 84)), none, .iads 1 (.t (K.ofNat 82)) (.t (K.ofNat 83))⟩, ⟨(some (K.ofNat 85)), none, .ld (.t (K.ofNat 84))⟩, ⟨(some (K.ofNat 86)), none, .pr (.seql true) (.t (K.ofNat 81)) (.t (K.ofNat 85))⟩, ⟨(some (K.ofNat 87)), none, .mv (.t (K.ofNat 86))⟩, ⟨(some (K.ofNat 88)), (some ((K.ofNat 87), false)), .mv (.t (K.ofNat 16))⟩, ⟨(some (K.ofNat 89)), (some ((K.ofNat 87), false)), .bin .neq (.t (K.ofNat 88)) (.c (.i .i64 (.ofNat 0)))⟩, ⟨(some (K.ofNat 90)), none, .pick (.t (K.ofNat 87)) (.c (.b true)) (.t (K.ofNat 89))⟩, ⟨(some (K.ofNat 91)), none, .mv (.t (K.ofNat 90))⟩, ⟨(some (K.ofNat 92)), (some ((K.ofNat 91), false)), .mv (.t (K.ofNat 15))⟩, ⟨(some (K.ofNat 93)), (some ((K.ofNat 91), false)), .mv (.t (K.ofNat 8))⟩, ⟨(some (K.ofNat 94)), (some ((K.ofNat 91), false)), .mv (.t (K.ofNat 14))⟩], [], (some ⟨(some (K.ofNat 95)), (some ((K.ofNat 91), false)), .call (.c (.fn (K.ofNat 29) [])) [(.t (K.ofNat 93)), (.t (K.ofNat 94))]⟩), []⟩, ⟨[], [⟨(some (K.ofNat 92)), (some ((K.ofNat 91), false)), .mv (.t (K.ofNat 15))⟩], (some ⟨(some (K.ofNat 96)), (some ((K.ofNat 91), false)), .call (.c (.fn (K.ofNat 28) [])) [(.t (K.ofNat 92)), (.t (K.ofNat 95))]⟩), []⟩, ⟨[⟨(some (K.ofNat 97)), (some ((K.ofNat 91), false)), .not (.t (K.ofNat 96))⟩, ⟨(some (K.ofNat 98)), none, .pick (.t (K.ofNat 91)) (.c (.b true)) (.t (K.ofNat 97))⟩], [], none, []⟩]
noncomputable def f4_r11 : List EOper := [⟨(some (K.ofNat 6)), none, .as (.c (.b false))⟩]
noncomputable def f4_r12 : List EOper := [⟨(some (K.ofNat 69)), none, .mv (.t (K.ofNat 14))⟩, ⟨(some (K.ofNat 70)), none, .bin .add (.t (K.ofNat 69)) (.c (.i .i64 (.ofNat 1)))⟩, ⟨(some (K.ofNat 14)), none, .as (.t (K.ofNat 70))⟩]
noncomputable def f4_l0 : EC := (.seq (.seq (.reg f4_r8) (.cond (.t (K.ofNat 68)) .skip (.exit 0))) (.seq (.block 1 (.seq (.reg f4_r9) (.seq (.draw f4_r10) (.cond (.t (K.ofNat 98)) (.seq (.reg f4_r11) .ret) .skip)))) (.reg f4_r12)))
noncomputable def f4_r13 : List EOper := [⟨(some (K.ofNat 100)), none, .mv (.t (K.ofNat 7))⟩, ⟨(some (K.ofNat 101)), none, .mv (.t (K.ofNat 8))⟩, ⟨(some (K.ofNat 102)), none, .mv (.t (K.ofNat 7))⟩, ⟨(some (K.ofNat 103)), none, .call (.c (.fn (K.ofNat 21) [])) [(.t (K.ofNat 100)), (.t (K.ofNat 101)), (.t (K.ofNat 102))]⟩, ⟨(some (K.ofNat 99)), none, .mv (.t (K.ofNat 103))⟩, ⟨(some (K.ofNat 104)), none, .ext (.t (K.ofNat 99)) 0⟩, ⟨(some (K.ofNat 105)), none, .ext (.t (K.ofNat 99)) 1⟩, ⟨(some (K.ofNat 17)), none, .as (.t (K.ofNat 104))⟩, ⟨(some (K.ofNat 18)), none, .as (.t (K.ofNat 105))⟩]
noncomputable def f4_r14 : List EOper := [⟨(some (K.ofNat 107)), none, .mv (.t (K.ofNat 7))⟩, ⟨(some (K.ofNat 108)), none, .mv (.t (K.ofNat 8))⟩, ⟨(some (K.ofNat 109)), none, .call (.c (.fn (K.ofNat 21) [])) [(.t (K.ofNat 107)), (.t (K.ofNat 108)), (.c (.i .i64 (.negSucc 0)))]⟩, ⟨(some (K.ofNat 106)), none, .mv (.t (K.ofNat 109))⟩, ⟨(some (K.ofNat 110)), none, .ext (.t (K.ofNat 106)) 0⟩, ⟨(some (K.ofNat 111)), none, .ext (.t (K.ofNat 106)) 1⟩, ⟨(some (K.ofNat 19)), none, .as (.t (K.ofNat 110))⟩, ⟨(some (K.ofNat 20)), none, .as (.t (K.ofNat 111))⟩]
noncomputable def f4_r15 : List EOper := [⟨(some (K.ofNat 112)), none, .mv (.t (K.ofNat 18))⟩, ⟨(some (K.ofNat 113)), none, .bin .neq (.t (K.ofNat 112)) (.c (.i .i64 (.ofNat 1)))⟩, ⟨(some (K.ofNat 114)), none, .mv (.t (K.ofNat 113))⟩, ⟨(some (K.ofNat 115)), (some ((K.ofNat 114), false)), .mv (.t (K.ofNat 20))⟩, ⟨(some (K.ofNat 116)), (some ((K.ofNat 114), false)), .bin .neq (.t (K.ofNat 115)) (.c (.i .i64 (.ofNat 1)))⟩, ⟨(some (K.ofNat 117)), none, .pick (.t (K.ofNat 114)) (.c (.b true)) (.t (K.ofNat 116))⟩]
noncomputable def f4_r16 : List EOper := [⟨(some (K.ofNat 6)), none, .as (.c (.b false))⟩]
noncomputable def f4_r17 : List EOper := [⟨(some (K.ofNat 118)), none, .mv (.t (K.ofNat 2))⟩, ⟨(some (K.ofNat 119)), none, .mv (.t (K.ofNat 2))⟩, ⟨(some (K.ofNat 120)), none, .len (.t (K.ofNat 119))⟩, ⟨(some (K.ofNat 121)), none, .min (.t (K.ofNat 120)) (.c (.i .i64 (.ofNat 12)))⟩, ⟨(some (K.ofNat 122)), none, .mv (.t (K.ofNat 2))⟩, ⟨(some (K.ofNat 123)), none, .len (.t (K.ofNat 122))⟩, ⟨(some (K.ofNat 124)), none, .min (.t (K.ofNat 123)) (.c (.i .i64 (.ofNat 12)))⟩, ⟨(some (K.ofNat 125)), none, .slice 1 (.t (K.ofNat 118)) none (some (.t (K.ofNat 121))) (some (.t (K.ofNat 124)))⟩, ⟨(some (K.ofNat 21)), none, .as (.t (K.ofNat 125))⟩]
noncomputable def f4_r18 : List EOper := [⟨(some (K.ofNat 22)), none, .as (.c (.i .i64 (.ofNat 0)))⟩]
noncomputable def f4_r19 : List EOper := [⟨(some (K.ofNat 126)), none, .mv (.t (K.ofNat 22))⟩, ⟨(some (K.ofNat 127)), none, .bin .lss (.t (K.ofNat 126)) (.c (.i .i64 (.ofNat 2)))⟩]
noncomputable def f4_r20 : List EOper := [⟨(some (K.ofNat 131)), none, .mv (.t (K.ofNat 7))⟩, ⟨(some (K.ofNat 132)), none, .mv (.t (K.ofNat 8))⟩, ⟨(some (K.ofNat 133)), none, .mv (.t (K.ofNat 21))⟩, ⟨(some (K.ofNat 134)), none, .call (.c (.fn (K.ofNat 24) [])) [(.t (K.ofNat 131)), (.t (K.ofNat 132)), (.t (K.ofNat 133))]⟩, ⟨(some (K.ofNat 130)), none, .mv (.t (K.ofNat 134))⟩, ⟨(some (K.ofNat 135)), none, .ext (.t (K.ofNat 130)) 0⟩, ⟨(some (K.ofNat 136)), none, .ext (.t (K.ofNat 130)) 1⟩, ⟨(some (K.ofNat 23)), none, .as (.t (K.ofNat 135))⟩, ⟨(some (K.ofNat 24)), none, .as (.t (K.ofNat 136))⟩]
noncomputable def f4_r21 : List EOper := [⟨(some (K.ofNat 137)), none, .mv (.t (K.ofNat 7))⟩, ⟨(some (K.ofNat 138)), none, .mv (.t (K.ofNat 21))⟩, ⟨(some (K.ofNat 139)), none, .call (.c (.fn (K.ofNat 30) [])) [(.t (K.ofNat 137)), (.t (K.ofNat 138))]⟩, ⟨(some (K.ofNat 140)), none, .not (.t (K.ofNat 139))⟩]
noncomputable def f4_r22 : List EOper := [⟨(some (K.ofNat 141)), none, .mv (.t (K.ofNat 24))⟩, ⟨(some (K.ofNat 142)), none, .bin .neq (.t (K.ofNat 141)) (.c (.i .i64 (.ofNat 1)))⟩, ⟨(some (K.ofNat 143)), none, .mv (.t (K.ofNat 142))⟩, ⟨(some (K.ofNat 144)), (some ((K.ofNat 143), false)), .mv (.t (K.ofNat 23))⟩, ⟨(some (K.ofNat 145)), (some ((K.ofNat 143), false)), .len (.t (K.ofNat 144))⟩, ⟨(some (K.ofNat 146)), (some ((K.ofNat 143), false)), .bin .neq (.t (K.ofNat 145)) (.c (.i .i64 (.ofNat 0)))⟩, ⟨(some (K.ofNat 147)), none, .pick (.t (K.ofNat 143)) (.c (.b true)) (.t (K.ofNat 146))⟩]
noncomputable def f4_r23 : List EOper := [⟨(some (K.ofNat 6)), none, .as (.c (.b false))⟩]
noncomputable def f4_r24 : List EOper := [⟨(some (K.ofNat 148)), none, .mv (.t (K.ofNat 24))⟩, ⟨(some (K.ofNat 149)), none, .bin .neq (.t (K.ofNat 148)) (.c (.i .i64 (.ofNat 0)))⟩, ⟨(some (K.ofNat 150)), none, .mv (.t (K.ofNat 149))⟩, ⟨(some (K.ofNat 151)), (some ((K.ofNat 150), false)), .mv (.t (K.ofNat 23))⟩, ⟨(some (K.ofNat 152)), (some ((K.ofNat 150), false)), .mv (.t (K.ofNat 8))⟩, ⟨(some (K.ofNat 153)), (some ((K.ofNat 150), false)), .mv (.t (K.ofNat 21))⟩, ⟨(some (K.ofNat 154)), (some ((K.ofNat 150), false)), .call (.c (.fn (K.ofNat 32) [])) [(.t (K.ofNat 152)), (.t (K.ofNat 153))]⟩, ⟨(some (K.ofNat 155)), (some ((K.ofNat 150), false)), .call (.c (.fn (K.ofNat 31) [])) [(.t (K.ofNat 151)), (.t (K.ofNat 154))]⟩, ⟨(some (K.ofNat 156)), (some ((K.ofNat 150), false)), .not (.t (K.ofNat 155))⟩, ⟨(some (K.ofNat 157)), none, .pick (.t (K.ofNat 150)) (.c (.b true)) (.t (K.ofNat 156))⟩]
noncomputable def f4_r25 : List EOper := [⟨(some (K.ofNat 6)), none, .as (.c (.b false))⟩]
noncomputable def f4_r26 : List EOper := [⟨(some (K.ofNat 158)), none, .mv (.t (K.ofNat 7))⟩, ⟨(some (K.ofNat 159)), none, .mv (.t (K.ofNat 2))⟩, ⟨(some (K.ofNat 160)), none, .call (.c (.fn (K.ofNat 33) [])) [(.t (K.ofNat 158)), (.t (K.ofNat 159))]⟩, ⟨(some (K.ofNat 21)), none, .as (.t (K.ofNat 160))⟩]
noncomputable def f4_r27 : List EOper := [⟨(some (K.ofNat 128)), none, .mv (.t (K.ofNat 22))⟩, ⟨(some (K.ofNat 129)), none, .bin .add (.t (K.ofNat 128)) (.c (.i .i64 (.ofNat 1)))⟩, ⟨(some (K.ofNat 22)), none, .as (.t (K.ofNat 129))⟩]
noncomputable def f4_l1 : EC := (.seq (.seq (.reg f4_r19) (.cond (.t (K.ofNat 127)) .skip (.exit 2))) (.seq (.block 3 (.seq (.reg f4_r20) (.seq (.seq (.reg f4_r21) (.cond (.t (K.ofNat 140)) (.seq (.reg f4_r22) (.cond (.t (K.ofNat 147)) (.seq (.reg f4_r23) .ret) .skip)) (.seq (.reg f4_r24) (.cond (.t (K.ofNat 157)) (.seq (.reg f4_r25) .ret) .skip)))) (.reg f4_r26)))) (.reg f4_r27)))
noncomputable def f4_r28 : List EOper := [⟨(some (K.ofNat 161)), none, .call (.c (.fn (K.ofNat 22) [])) []⟩, ⟨(some (K.ofNat 6)), none, .as (.t (K.ofNat 161))⟩]
noncomputable def f4_c : EC := (.seq (.reg f4_r0) (.seq (.reg f4_r1) (.seq (.reg f4_r2) (.seq (.reg f4_r3) (.seq (.reg f4_r4) (.seq (.seq (.reg f4_r5) (.cond (.t (K.ofNat 65)) (.seq (.reg f4_r6) .ret) .skip)) (.seq (.seq (.reg f4_r7) (.block 0 (.loop f4_l0))) (.seq (.reg f4_r13) (.seq (.reg f4_r14) (.seq (.seq (.reg f4_r15) (.cond (.t (K.ofNat 117)) (.seq (.reg f4_r16) .ret) .skip)) (.seq (.reg f4_r17) (.seq (.seq (.reg f4_r18) (.block 2 (.loop f4_l1))) (.seq (.reg f4_r28) .ret)))))))))))))
noncomputable def f4 : EF := ⟨162, [.tmp (K.ofNat 6)], f4_c, none⟩
section
variable {fs : T EF}
end
end Go.Ev
namespace Go.Ev
open Go Go.RowKit
section
variable {α : Type} {e : α → V} {h h' : H} {w v u : V} {xs us : List V} {Q Ls : List (List α)} {L : List α} {b : Nat}
/-- A slice of slices that is only read. -/
structure Nr (e : α → V) (h : H) (v : V) (us : List V) (Ls : List (List α)) : Prop where
  len : us.length = Ls.length
  out : Sr vE h v us
  inn : ∀ i (h1 : i < us.length) (h2 : i < Ls.length), Sr e h us[i] Ls[i]
theorem Nr.grow (s : Nr e h v us Ls) (hc : HC h) (hg : Grow h.nx.nat h h') : Nr e h' v us Ls := ⟨s.len, s.out.grow hc hg, fun i h1 h2 => (s.inn i h1 h2).grow hc hg⟩
/-- A slice of slices, none of which shares its block. -/
structure Nw (e : α → V) (h : H) (v : V) (us : List V) (Ls : List (List α)) : Prop where
  len : us.length = Ls.length
  out : Sl vE h v us
  inn : ∀ i (h1 : i < us.length) (h2 : i < Ls.length), Sl e h us[i] Ls[i]
  sep : ∀ u ∈ us, ∀ id off n sz, u = .sl id off n sz → NotIn id v
  dis : ∀ i j (hi : i < us.length) (hj : j < us.length), i ≠ j → ∀ id off n sz, us[i] = .sl id off n sz → NotIn id us[j]
theorem Nw.nr (s : Nw e h v us Ls) : Nr e h v us Ls := ⟨s.len, s.out.sr, fun i h1 h2 => (s.inn i h1 h2).sr⟩
theorem Nw.grow (s : Nw e h v us Ls) (hc : HC h) (hg : Grow h.nx.nat h h') : Nw e h' v us Ls := ⟨s.len, s.out.grow hc hg, fun i h1 h2 => (s.inn i h1 h2).grow hc hg, s.sep, s.dis⟩
theorem mkw_sn {k : IntKind} {n : Nat} (hn : n ≤ 1000000) : mksV 1 [.sn] h (.i k (n : Int)) = .ok (.sl h.nx 0 n 1) (h.new (.cells (n * 1) (rep [.sn] n))) := by
  show (bif Nat.ble n 1000000 then RV.ok (.sl h.nx 0 n 1) (h.new (.cells (n * 1) (rep [.sn] n))) else .no) = _
  rw [Nat.ble_eq_true_of_le hn]; rfl
theorem Nw.empty {n : Nat} : Nw e (h.new (.cells (n * 1) (rep [.sn] n))) (.sl h.nx 0 n 1) (List.replicate n .sn) (List.replicate n ([] : List α)) := by
  refine ⟨by simp, .inr ⟨h.nx, 0, n * 1, rep [.sn] n, by rw [List.length_replicate], get_new_same, by rw [rep_cell, List.length_replicate, Nat.mul_one], by rw [List.length_replicate]; omega, fun i hi => ?_⟩, fun i h1 h2 => ?_, fun u hu id off n' sz e => (by rw [(List.mem_replicate.1 hu).2] at e; cases e), fun i j hi hj _ id off n' sz e => (by rw [List.getElem_replicate] at e; cases e)⟩
  · have hi : i < n := by simpa using hi
    rw [rep_cell, Nat.zero_add, List.getElem?_replicate, if_pos hi, List.getElem_replicate]; rfl
  · rw [List.getElem_replicate, List.getElem_replicate]; exact Sl.nil
/-- One element more in a row. -/
theorem Nw.row (s : Nw e h w xs Q) (how : Own b w) (hox : ∀ x ∈ xs, Own b x) (hb : b ≤ h.nx.nat) (hc : HC h) {i : Nat} (hi : i < xs.length) (hi2 : i < Q.length) {x : α} {c : V} (hx : c = e x) (hn : Q[i].length < 16777216) :
    ∃ u' h' p id m cs', appV 1 (h.new (.cells (1 * 1) [c])) xs[i] (.sl h.nx 0 1 1) = .ok u' h' ∧ (∀ k h1, iadsV 1 w (.i k (i : Int)) h1 = .ok p h1) ∧ loadV h p one? = .ok xs[i] h ∧ storeV h' 1 p u' = .ok undefV (h'.put id (.cells m cs')) ∧ Nw e (h'.put id (.cells m cs')) w (xs.set i u') (Q.set i (Q[i] ++ [x])) ∧ (∀ y ∈ xs.set i u', Own b y) ∧ Grow b h (h'.put id (.cells m cs')) ∧ (∀ k : K, k.nat < h.nx.nat → (∀ off n sz, w ≠ .sl k off n sz) → (∀ y ∈ xs, NotIn k y) → (h'.put id (.cells m cs')).get k = h.get k) := by
  have hbw : ∀ id off n sz, w = .sl id off n sz → id.nat < h.nx.nat := s.out.lt hc
  have hbx : ∀ j (hj : j < xs.length), ∀ id off n sz, xs[j] = .sl id off n sz → id.nat < h.nx.nat := fun j hj => (s.inn j hj (by rw [← s.len]; exact hj)).lt hc
  obtain ⟨u', h', a1, s1, o1, gr1, k1⟩ := Sl.push hx (s.inn i hi hi2) (hox _ (List.getElem_mem hi)) hb hc hn
  have hc' := gr1.hc hc
  have nw : ∀ id off n sz, w = .sl id off n sz → NotIn id xs[i] := fun id off n sz e off' n' sz' e' => s.sep _ (List.getElem_mem hi) _ _ _ _ e' _ _ _ e
  have hout : Sl vE h' w xs := s.out.same fun id off n sz e => (k1 id (hbw _ _ _ _ e) (nw _ _ _ _ e)).1
  obtain ⟨p0, q1, q2⟩ := s.out.at i hi
  obtain ⟨p, id, m, cs', b1, b2, b3, ⟨off, n, sz, b4⟩, b5⟩ := hout.st hi (x := u') (c := u') rfl s1.one hc'
  obtain rfl : p0 = p := by have := (q1 .i64 h').symm.trans (b1 .i64 h'); injection this
  have hidb := how _ _ _ _ b4
  have nwu : NotIn id u' := (k1 id (hbw _ _ _ _ b4) (nw _ _ _ _ b4)).2
  have sk : ∀ j (h1 : j < (xs.set i u').length) (h2 : j < (Q.set i (Q[i] ++ [x])).length), Sl e (h'.put id (.cells m cs')) (xs.set i u')[j] (Q.set i (Q[i] ++ [x]))[j] := fun j h1 h2 => by
    have hj : j < xs.length := by simpa using h1
    have hj2 : j < Q.length := by simpa using h2
    rw [List.getElem_set, List.getElem_set]
    by_cases e : i = j
    · rw [if_pos e, if_pos e]; exact s1.put nwu _
    · rw [if_neg e, if_neg e]
      refine ((s.inn j hj hj2).same fun id' off' n' sz' e' => (k1 id' (hbx j hj _ _ _ _ e') (s.dis j i hj hi (Ne.symm e) _ _ _ _ e')).1).put (fun off' n' sz' e' => s.sep _ (List.getElem_mem hj) _ _ _ _ e' _ _ _ b4) _
  refine ⟨u', h', p0, id, m, cs', a1, b1, q2, b2, ⟨by simp [s.len], b3, sk, fun y hy id' off' n' sz' e' => ?_, fun j j' hj hj' hjj id' off' n' sz' e' => ?_⟩, fun y hy => ?_, gr1.trans (Grow.put hidb b5 _), fun k2 hk hw hx => ?_⟩
  · rcases List.mem_or_eq_of_mem_set hy with hy | hy
    · exact s.sep y hy _ _ _ _ e'
    · rw [hy] at e'
      intro off2 n2 sz2 e2
      exact (k1 id' (hbw _ _ _ _ e2) (nw _ _ _ _ e2)).2 _ _ _ e'
  · have hj1 : j < xs.length := by simpa using hj
    have hj2 : j' < xs.length := by simpa using hj'
    rw [List.getElem_set] at e' ⊢
    by_cases e : i = j
    · rw [if_pos e] at e'
      have e3 : ¬ i = j' := fun e3 => hjj (e.symm.trans e3)
      rw [if_neg e3]
      intro off2 n2 sz2 e2
      exact (k1 id' (hbx j' hj2 _ _ _ _ e2) (s.dis j' i hj2 hi (fun q => e3 q.symm) _ _ _ _ e2)).2 _ _ _ e'
    · rw [if_neg e] at e'
      by_cases e3 : i = j'
      · rw [if_pos e3]
        exact (k1 id' (hbx j hj1 _ _ _ _ e') (s.dis j i hj1 hi (fun q => e q.symm) _ _ _ _ e')).2
      · rw [if_neg e3]
        exact s.dis j j' hj1 hj2 hjj _ _ _ _ e'
  · rcases List.mem_or_eq_of_mem_set hy with hy | hy
    · exact hox y hy
    · rw [hy]; exact o1
  · rw [get_put_other (fun e => hw off n sz (by rw [e]; exact b4))]
    exact (k1 k2 hk (hx _ (List.getElem_mem hi))).1
end
end Go.Ev
namespace Go.Ev
open Go Go.RowKit
def pZ (x : Int × Int) : V := .agg [.i .i64 x.1, .i .i64 x.2]
def in2 (x : Int × Int) : Prop := inR .i64 x.1 = true ∧ inR .i64 x.2 = true
def entZ (M : List ((Int × Int) × Int)) : List (V × V) := M.map fun e => (pZ e.1, .i .i64 e.2)
def lookZ : List ((Int × Int) × Int) → Int × Int → Option Int
  | [], _ => none
  | e :: M, x => if x = e.1 then some e.2 else lookZ M x
def putZ : List ((Int × Int) × Int) → Int × Int → Int → List ((Int × Int) × Int)
  | [], x, v => [(x, v)]
  | e :: M, x, v => if x = e.1 then (x, v) :: M else e :: putZ M x v
theorem keyEq_z {x y : Int × Int} (hx : in2 x) (hy : in2 y) : keyEq (.many [some .i64, some .i64]) (pZ x) (pZ y) = some (decide (x = y)) := by
  have := keyEq_2 hx.1 hx.2 hy.1 hy.2
  have e : (decide (x.1 = y.1) && decide (x.2 = y.2)) = decide (x = y) := by
    rw [Bool.eq_iff_iff, Bool.and_eq_true, decide_eq_true_eq, decide_eq_true_eq, decide_eq_true_eq]
    exact ⟨fun h => Prod.ext h.1 h.2, fun h => by rw [h]; exact ⟨rfl, rfl⟩⟩
  rw [e] at this
  exact this
theorem find_z {x : Int × Int} (hx : in2 x) : ∀ (M : List ((Int × Int) × Int)), (∀ e ∈ M, in2 e.1) → findE (.many [some .i64, some .i64]) (pZ x) (entZ M) = some ((lookZ M x).map (V.i .i64))
  | [], _ => by
    show (oGet (keyEq (.many [some .i64, some .i64]) (pZ x) (pZ x)) none fun _ => some none) = _
    rw [keyEq_z hx hx]; rfl
  | y :: M, hM => by
    have ih := find_z hx M fun z hz => hM z (List.mem_cons_of_mem _ hz)
    show (oGet (keyEq (.many [some .i64, some .i64]) (pZ x) (pZ y.1)) none fun r => bif r then some (some (.i .i64 y.2)) else findE (.many [some .i64, some .i64]) (pZ x) (entZ M)) = _
    rw [keyEq_z hx (hM y (by simp)), ih]
    show (bif decide (x = y.1) then _ else _) = some ((if x = y.1 then some y.2 else lookZ M x).map (V.i .i64))
    by_cases e : x = y.1
    · rw [decide_eq_true e, if_pos e]; rfl
    · rw [decide_eq_false e, if_neg e]; rfl
theorem upd_z {x : Int × Int} {v : Int} (hx : in2 x) : ∀ (M : List ((Int × Int) × Int)), (∀ e ∈ M, in2 e.1) → updE (.many [some .i64, some .i64]) (pZ x) (.i .i64 v) (entZ M) = some (entZ (putZ M x v))
  | [], _ => by
    show (oGet (keyEq (.many [some .i64, some .i64]) (pZ x) (pZ x)) none fun _ => some [(pZ x, V.i .i64 v)]) = _
    rw [keyEq_z hx hx]; rfl
  | y :: M, hM => by
    have ih := upd_z (v := v) hx M fun z hz => hM z (List.mem_cons_of_mem _ hz)
    show (oGet (keyEq (.many [some .i64, some .i64]) (pZ x) (pZ y.1)) none fun r => bif r then some ((pZ x, .i .i64 v) :: entZ M) else oGet (updE (.many [some .i64, some .i64]) (pZ x) (.i .i64 v) (entZ M)) none fun l => some ((pZ y.1, .i .i64 y.2) :: l)) = _
    rw [keyEq_z hx (hM y (by simp)), ih]
    show (bif decide (x = y.1) then _ else _) = some (entZ (if x = y.1 then (x, v) :: M else y :: putZ M x v))
    by_cases e : x = y.1
    · rw [decide_eq_true e, if_pos e]; rfl
    · rw [decide_eq_false e, if_neg e]; rfl
theorem look_put {x y : Int × Int} {v : Int} : ∀ (M : List ((Int × Int) × Int)), lookZ (putZ M x v) y = if y = x then some v else lookZ M y
  | [] => rfl
  | e :: M => by
    have ih := look_put (x := x) (y := y) (v := v) M
    show lookZ (if x = e.1 then (x, v) :: M else e :: putZ M x v) y = _
    by_cases h : x = e.1
    · rw [if_pos h]
      show (if y = x then some v else lookZ M y) = if y = x then some v else if y = e.1 then some e.2 else lookZ M y
      by_cases h2 : y = x
      · rw [if_pos h2, if_pos h2]
      · rw [if_neg h2, if_neg h2, if_neg (by rw [← h]; exact h2)]
    · rw [if_neg h]
      show (if y = e.1 then some e.2 else lookZ (putZ M x v) y) = if y = x then some v else if y = e.1 then some e.2 else lookZ M y
      rw [ih]
      by_cases h2 : y = e.1
      · rw [if_pos h2, if_pos h2, if_neg (fun h3 => h (h3.symm.trans h2))]
      · rw [if_neg h2, if_neg h2]
theorem in_put {x : Int × Int} {v : Int} (hx : in2 x) : ∀ (M : List ((Int × Int) × Int)), (∀ e ∈ M, in2 e.1) → ∀ e ∈ putZ M x v, in2 e.1
  | [], _, e, he => by rw [List.mem_singleton.1 he]; exact hx
  | y :: M, hM, e, he => by
    unfold putZ at he
    split at he
    · rcases List.mem_cons.1 he with rfl | he
      · exact hx
      · exact hM e (List.mem_cons_of_mem _ he)
    · rcases List.mem_cons.1 he with rfl | he
      · exact hM _ (by simp)
      · exact in_put hx M (fun z hz => hM z (List.mem_cons_of_mem _ hz)) e he
/-- A map from pairs to numbers. -/
def MapF (h : H) (id : K) (kt : Nat) (f : Int × Int → Option Int) : Prop := ∃ M, h.get id = .map kt (entZ M) ∧ (∀ e ∈ M, in2 e.1) ∧ ∀ x, lookZ M x = f x
theorem MapF.nil {h : H} {kt : Nat} : MapF (h.new (.map kt [])) h.nx kt fun _ => none := ⟨[], get_new_same, fun e he => absurd he (by simp), fun _ => rfl⟩
def okZ (z : V) (o : Option Int) : V := match o with | none => .tup [z, .b false] | some v => .tup [.i .i64 v, .b true]
theorem MapF.look {h : H} {id : K} {kt : Nat} {f : Int × Int → Option Int} {x : Int × Int} {z : V} (hm : MapF h id kt f) (hx : in2 x) : lookV kt (.many [some .i64, some .i64]) z h (.m id) (pZ x) true = .ok (okZ z (f x)) h := by
  obtain ⟨M, e1, e2, e3⟩ := hm
  show ((h.get id).onM kt fun es => oGet (findE (.many [some .i64, some .i64]) (pZ x) es) RV.no fun r => bif true then RV.ok (oGet r (.tup [z, .b false]) fun v => .tup [v, .b true]) h else _) = _
  rw [e1]
  show (bif Nat.beq kt kt then (oGet (findE (.many [some .i64, some .i64]) (pZ x) (entZ M)) RV.no fun r => RV.ok (oGet r (.tup [z, .b false]) fun v => .tup [v, .b true]) h) else _) = _
  rw [Nat.beq_same, find_z hx M e2, e3]
  cases f x <;> rfl
theorem MapF.put {h : H} {id : K} {kt : Nat} {f : Int × Int → Option Int} {x : Int × Int} {v : Int} (hm : MapF h id kt f) (hx : in2 x) : ∃ es, mupdV kt (.many [some .i64, some .i64]) h (.m id) (pZ x) (.i .i64 v) = .ok undefV (h.put id (.map kt es)) ∧ MapF (h.put id (.map kt es)) id kt fun y => if y = x then some v else f y := by
  obtain ⟨M, e1, e2, e3⟩ := hm
  refine ⟨entZ (putZ M x v), ?_, putZ M x v, get_put_same, in_put hx M e2, fun y => by rw [look_put, e3]⟩
  show ((h.get id).onM kt fun es => oGet (updE (.many [some .i64, some .i64]) (pZ x) (.i .i64 v) es) RV.no fun es => RV.ok undefV (h.put id (.map kt es))) = _
  rw [e1]
  show (bif Nat.beq kt kt then (oGet (updE (.many [some .i64, some .i64]) (pZ x) (.i .i64 v) (entZ M)) RV.no fun es => RV.ok undefV (h.put id (.map kt es))) else _) = _
  rw [Nat.beq_same, upd_z hx M e2]; rfl
theorem MapF.same {h h' : H} {id : K} {kt : Nat} {f : Int × Int → Option Int} (hm : MapF h id kt f) (e : h'.get id = h.get id) : MapF h' id kt f := by
  obtain ⟨M, e1, e2, e3⟩ := hm
  exact ⟨M, e.trans e1, e2, e3⟩
end Go.Ev
namespace Go.Ev
open Go Go.RowKit
/-- A call of a method value. -/
theorem callP_m {fs : T EF} {h : H} {k : K} {ef : EF} {args fst : List V} {P : V → H → Prop} (hf : fs.get k = some ef) (hn : ef.nv = none) (hr : Ret fs ef (fst ++ args) h P) : CallP fs (.bf k fst []) args h P := by
  obtain ⟨n, v, h', e, hp⟩ := hr
  refine ⟨n, v, h', ?_, hp⟩
  show (oGet (fs.get k) RV.no fun ef => callE (eval fs n) ef (cat fst (cat args [])) h) = _
  rw [hf, cat_eq, cat_eq, List.append_nil]
  show oGet ef.nv (callF (eval fs n) ef (fst ++ args) h) _ = _
  rw [hn]; exact e
end Go.Ev
namespace Go.Ev
open Go Go.RowKit
noncomputable def f84_r0 : List EOper := [⟨(some (K.ofNat 1)), none, .box 2 (.t (K.ofNat 0))⟩, ⟨(some (K.ofNat 2)), none, .alloc 2 [(.i .i64 (.ofNat 0)), (.i .i64 (.ofNat 0))]⟩]
noncomputable def f84_r1 : List EOper := [⟨(some (K.ofNat 3)), none, .fadr 1 (.t (K.ofNat 1))⟩, ⟨(some (K.ofNat 4)), none, .ld (.t (K.ofNat 3))⟩, ⟨(some (K.ofNat 5)), none, .fadr 0 (.t (K.ofNat 1))⟩, ⟨(some (K.ofNat 6)), none, .ld (.t (K.ofNat 5))⟩, ⟨(some (K.ofNat 7)), none, .build [(.i .i64 (.ofNat 0)), (.i .i64 (.ofNat 0))] [(0, 1, (.t (K.ofNat 4))), (1, 1, (.t (K.ofNat 6)))]⟩, ⟨none, none, .st 2 (.t (K.ofNat 2)) (.t (K.ofNat 7))⟩]
noncomputable def f84_c : EC := (.seq (.reg f84_r0) (.seq (.reg f84_r1) .ret))
noncomputable def f84 : EF := ⟨8, [.celln (K.ofNat 2) 2], f84_c, none⟩
theorem f84_rs : f84.rs = [.celln (K.ofNat 2) 2] := of_eq_true (eq_self _)
noncomputable def f78_r0 : List EOper := [⟨(some (K.ofNat 2)), none, .as (.c .mn)⟩]
noncomputable def f78_r1 : List EOper := [⟨(some (K.ofNat 8)), none, .mkmap 108⟩, ⟨(some (K.ofNat 3)), none, .as (.t (K.ofNat 8))⟩]
noncomputable def f78_r2 : List EOper := [⟨(some (K.ofNat 9)), none, .mv (.t (K.ofNat 0))⟩, ⟨(some (K.ofNat 10)), none, .len (.t (K.ofNat 9))⟩, ⟨(some (K.ofNat 11)), none, .mv (.c (.i .i64 (.ofNat 0)))⟩]
noncomputable def f78_r3 : List EOper := [⟨(some (K.ofNat 12)), none, .bin .lss (.t (K.ofNat 11)) (.t (K.ofNat 10))⟩]
noncomputable def f78_r4 : List EOper := [⟨(some (K.ofNat 13)), none, .mv (.t (K.ofNat 11))⟩, ⟨(some (K.ofNat 14)), none, .iads 1 (.t (K.ofNat 9)) (.t (K.ofNat 11))⟩, ⟨(some (K.ofNat 15)), none, .ld (.t (K.ofNat 14))⟩, ⟨(some (K.ofNat 4)), none, .as (.t (K.ofNat 13))⟩, ⟨(some (K.ofNat 5)), none, .as (.t (K.ofNat 15))⟩]
noncomputable def f78_r5 : List EOper := [⟨(some (K.ofNat 16)), none, .mv (.t (K.ofNat 5))⟩, ⟨(some (K.ofNat 17)), none, .len (.t (K.ofNat 16))⟩, ⟨(some (K.ofNat 18)), none, .mv (.c (.i .i64 (.ofNat 0)))⟩]
noncomputable def f78_r6 : List EOper := [⟨(some (K.ofNat 19)), none, .bin .lss (.t (K.ofNat 18)) (.t (K.ofNat 17))⟩]
noncomputable def f78_r7 : List EOper := [⟨(some (K.ofNat 20)), none, .iads 2 (.t (K.ofNat 16)) (.t (K.ofNat 18))⟩, ⟨(some (K.ofNat 21)), none, .ldn 2 (.t (K.ofNat 20))⟩, ⟨(some (K.ofNat 7)), none, .alloc 2 [(.i .i64 (.ofNat 0)), (.i .i64 (.ofNat 0))]⟩, ⟨none, none, .st 2 (.t (K.ofNat 7)) (.t (K.ofNat 21))⟩]
noncomputable def f78_r8 : List Stage := [⟨[⟨(some (K.ofNat 22)), none, .mv (.t (K.ofNat 3))⟩, ⟨(some (K.ofNat 23)), none, .ldn 2 (.t (K.ofNat 7))⟩, ⟨(some (K.ofNat 24)), none, .mv (.t (K.ofNat 3))⟩, ⟨(some (K.ofNat 25)), none, .ldn 2 (.t (K.ofNat 7))⟩, ⟨(some (K.ofNat 27)), none, .mv (.t (K.ofNat 4))⟩, ⟨(some (K.ofNat 28)), none, .mv (.t (K.ofNat 4))⟩], [], (some ⟨(some (K.ofNat 26)), none, .call (.c (.fn (K.ofNat 84) [])) [(.t (K.ofNat 25))]⟩), []⟩, ⟨[], [⟨(some (K.ofNat 22)), none, .mv (.t (K.ofNat 3))⟩, ⟨(some (K.ofNat 23)), none, .ldn 2 (.t (K.ofNat 7))⟩, ⟨(some (K.ofNat 24)), none, .mv (.t (K.ofNat 3))⟩, ⟨(some (K.ofNat 27)), none, .mv (.t (K.ofNat 4))⟩, ⟨(some (K.ofNat 28)), none, .mv (.t (K.ofNat 4))⟩], (some ⟨none, none, .mupd 108 (.many [(some .i64), (some .i64)]) (.t (K.ofNat 22)) (.t (K.ofNat 23)) (.t (K.ofNat 27))⟩), []⟩, ⟨[], [⟨(some (K.ofNat 24)), none, .mv (.t (K.ofNat 3))⟩, ⟨(some (K.ofNat 28)), none, .mv (.t (K.ofNat 4))⟩], (some ⟨none, none, .mupd 108 (.many [(some .i64), (some .i64)]) (.t (K.ofNat 24)) (.t (K.ofNat 26)) (.t (K.ofNat 28))⟩), []⟩, ⟨[], [], none, []⟩]
noncomputable def f78_r9 : List EOper := [⟨(some (K.ofNat 29)), none, .bin .add (.t (K.ofNat 18)) (.c (.i .i64 (.ofNat 1)))⟩, ⟨(some (K.ofNat 18)), none, .mv (.t (K.ofNat 29))⟩]
noncomputable def f78_l0 : EC := (.seq (.reg f78_r6) (.seq (.cond (.t (K.ofNat 19)) .skip (.exit 2)) (.seq (.block 3 (.seq (.reg f78_r7) (.draw f78_r8))) (.reg f78_r9))))
noncomputable def f78_r10 : List EOper := [⟨(some (K.ofNat 30)), none, .bin .add (.t (K.ofNat 11)) (.c (.i .i64 (.ofNat 1)))⟩, ⟨(some (K.ofNat 11)), none, .mv (.t (K.ofNat 30))⟩]
noncomputable def f78_l1 : EC := (.seq (.reg f78_r3) (.seq (.cond (.t (K.ofNat 12)) .skip (.exit 0)) (.seq (.block 1 (.seq (.reg f78_r4) (.seq (.reg f78_r5) (.block 2 (.loop f78_l0))))) (.reg f78_r10))))
noncomputable def f78_r11 : List EOper := [⟨(some (K.ofNat 31)), none, .mv (.t (K.ofNat 3))⟩, ⟨(some (K.ofNat 2)), none, .as (.t (K.ofNat 31))⟩]
noncomputable def f78_c : EC := (.seq (.reg f78_r0) (.seq (.reg f78_r1) (.seq (.seq (.reg f78_r2) (.block 0 (.loop f78_l1))) (.seq (.reg f78_r11) .ret))))
noncomputable def f78 : EF := ⟨32, [.tmp (K.ofNat 2)], f78_c, none⟩
theorem f78_rs : f78.rs = [.tmp (K.ofNat 2)] := of_eq_true (eq_self _)
section
variable {fs : T EF} {h : H} {v : V} {us : List V} {Ls : List (List (Int × Int))}
theorem ldn2_r {id : K} {a b : V} {h : H} (hb : h.get id = .cells 2 [a, b]) : readP h (.p id 0) (many? 2) = some (.agg [a, b]) := by
  show (h.get id).onC none (fun n cs => many? 2 cs n 0) = _
  rw [hb]; rfl
theorem f84_ret {x : Int × Int} (_hc : HC h) : Ret fs f84 [pZ x] h fun r h' => r = pZ (x.2, x.1) ∧ Grow h.nx.nat h h' := by
  apply ret_of rfl
  show W fs none f84_c _ _ _
  unfold f84_c pZ
  simp (disch := omega) only [f84_r0, w_reg, w_seq, seqK_n, x_nil, x_alloc, x_box, kx, rvP_ok, ev_t, getV_some, putD_some, oGet_s, frame_1, of0, getK_set, ↓reduceIte, cells2, cells2]
  have n1 := nx_new h (.cells 2 [.i .i64 x.1, .i .i64 x.2])
  have c1 : (h.new (.cells 2 [.i .i64 x.1, .i .i64 x.2])).get h.nx = .cells 2 [.i .i64 x.1, .i .i64 x.2] := get_new_same
  have g1 : Grow h.nx.nat h (h.new (.cells 2 [.i .i64 x.1, .i .i64 x.2])) := Grow.new (Nat.le_refl _) _
  generalize h.new (.cells 2 [.i .i64 x.1, .i .i64 x.2]) = h1 at *
  have n2 := nx_new h1 (.cells 2 [.i .i64 0, .i .i64 0])
  have c2 : (h1.new (.cells 2 [.i .i64 0, .i .i64 0])).get h.nx = .cells 2 [.i .i64 x.1, .i .i64 x.2] := (get_new_old (by omega)).trans c1
  have hst : ∀ c d, storeV (h1.new (.cells 2 [.i .i64 0, .i .i64 0])) 2 (.p h1.nx 0) (.agg [c, d]) = .ok undefV ((h1.new (.cells 2 [.i .i64 0, .i .i64 0])).put h1.nx (.cells 2 [c, d])) := fun c d => st2 (a := .i .i64 0) (b := .i .i64 0) get_new_same
  have l0 : loadV (h1.new (.cells 2 [.i .i64 0, .i .i64 0])) (.p h.nx (0 + 0)) one? = .ok (.i .i64 x.1) (h1.new (.cells 2 [.i .i64 0, .i .i64 0])) := load_p c2 rfl
  have l1 : loadV (h1.new (.cells 2 [.i .i64 0, .i .i64 0])) (.p h.nx (0 + 1)) one? = .ok (.i .i64 x.2) (h1.new (.cells 2 [.i .i64 0, .i .i64 0])) := load_p c2 rfl
  have c3 : ((h1.new (.cells 2 [.i .i64 0, .i .i64 0])).put h1.nx (.cells 2 [.i .i64 x.2, .i .i64 x.1])).get h1.nx = .cells 2 [.i .i64 x.2, .i .i64 x.1] := get_put_same
  have l3 : readP ((h1.new (.cells 2 [.i .i64 0, .i .i64 0])).put h1.nx (.cells 2 [.i .i64 x.2, .i .i64 x.1])) (.p h1.nx 0) (many? 2) = some (.agg [.i .i64 x.2, .i .i64 x.1]) := ldn2_r c3
  have g2 : Grow h1.nx.nat h1 ((h1.new (.cells 2 [.i .i64 0, .i .i64 0])).put h1.nx (.cells 2 [.i .i64 x.2, .i .i64 x.1])) := (Grow.new (Nat.le_refl _) _).trans (Grow.put (Nat.le_refl _) (by omega) _)
  simp (disch := omega) only [f84_r1, f84_rs, w_ret, seqK_n, true_and, retK_r, x_nil, x_build, x_ld, x_st, x_fadr, kx, rvP_ok, ev_t, getV_some, putD_some, putD_none, onP_p, oGet_s, readRs_nil, readRs_n, retV_1, cells1_i, of0, Option.some.injEq, exists_eq_left', getK_set, Nat.reduceEqDiff, ↓reduceIte, fill_2, set_2, fill_2, set_2, l0, l1, hst, l3, true_and]
  exact g1.trans (g2.low g1.nx)
def upd2 (f : Int × Int → Option Int) (e : Int × Int) (r : Int) : Int × Int → Option Int := fun y => if y = (e.2, e.1) then some r else if y = e then some r else f y
def whR (r : Int) (l : List (Int × Int)) (f : Int × Int → Option Int) : Int × Int → Option Int := l.foldl (fun f e => upd2 f e r) f
def whP (Ls : List (List (Int × Int))) : Nat → Int × Int → Option Int
  | 0 => fun _ => none
  | i + 1 => whR (i : Int) (Ls.getD i []) (whP Ls i)
theorem whR_snoc {r : Int} {l : List (Int × Int)} {f : Int × Int → Option Int} {j : Nat} (hj : j < l.length) : whR r (l.take (j + 1)) f = upd2 (whR r (l.take j) f) l[j] r := by
  unfold whR; rw [List.take_succ_eq_append_getElem hj, List.foldl_append]; rfl
structure WhI (h : H) (f : Int × Int → Option Int) (h1 : H) : Prop where
  gr : Grow h.nx.nat h h1
  lt : h.nx.nat < h1.nx.nat
  mp : MapF h1 h.nx 108 f
def f78_I (h : H) (v : V) (Ls : List (List (Int × Int))) (i : Nat) (fr : Fr) (h1 : H) : Prop := i ≤ Ls.length ∧ WhI h (whP Ls i) h1 ∧ fr.get (K.ofNat 3) = some (.m h.nx) ∧ fr.get (K.ofNat 9) = some (v) ∧ fr.get (K.ofNat 10) = some (.i .i64 (Ls.length : Int)) ∧ fr.get (K.ofNat 11) = some (.i .i64 (i : Int))
def f78_J (h : H) (v u : V) (Ls : List (List (Int × Int))) (l : List (Int × Int)) (i : Nat) (j : Nat) (fr : Fr) (h1 : H) : Prop := j ≤ l.length ∧ WhI h (whR (i : Int) (l.take j) (whP Ls i)) h1 ∧ fr.get (K.ofNat 3) = some (.m h.nx) ∧ fr.get (K.ofNat 4) = some (.i .i64 (i : Int)) ∧ fr.get (K.ofNat 9) = some (v) ∧ fr.get (K.ofNat 10) = some (.i .i64 (Ls.length : Int)) ∧ fr.get (K.ofNat 11) = some (.i .i64 (i : Int)) ∧ fr.get (K.ofNat 16) = some (u) ∧ fr.get (K.ofNat 17) = some (.i .i64 (l.length : Int)) ∧ fr.get (K.ofNat 18) = some (.i .i64 (j : Int))
theorem f78_ret (h84 : fs.get (K.ofNat 84) = some f84) (hv : Nrp h v us Ls) (hF : Ls.length ≤ 1000 ∧ ∀ l ∈ Ls, l.length ≤ 1000 ∧ ∀ e ∈ l, in2 e) (hc : HC h) : Ret fs f78 [v] h fun r h' => ∃ id, r = .m id ∧ h.nx.nat ≤ id.nat ∧ id.nat < h'.nx.nat ∧ MapF h' id 108 (whP Ls Ls.length) ∧ Grow h.nx.nat h h' := by
  have hlen : ∀ h1, lenV v h1 = .ok (.i .i64 (Ls.length : Int)) h1 := fun h1 => by rw [hv.out.len, hv.len]
  have hL := hF.1
  apply ret_of rfl
  show W fs none f78_c _ _ _
  unfold f78_c
  simp (disch := omega) only [f78_r0, f78_r1, f78_r2, w_reg, w_seq, w_block, seqK_n, x_nil, x_mv, x_as, x_mkmap, x_len, kx, rvP_ok, ev_t, ev_c, getV_some, putD_some, frame_1, of0, getK_set, Nat.reduceEqDiff, ↓reduceIte, hlen]
  refine W_loop (f78_I h v Ls) (fun i => Ls.length - i) ?_ 0 ⟨by omega, ⟨Grow.new (Nat.le_refl _) _, by rw [nx_new]; omega, MapF.nil⟩, by simp (disch := omega) only [getK_set, Nat.reduceEqDiff, ↓reduceIte, and_self, Int.natCast_zero]⟩
  rintro i fr h1 ⟨hi, hW, g3, g9, g10, g11⟩
  have hv1 := hv.grow hc hW.gr
  unfold f78_l1
  by_cases hlt : i < Ls.length
  · have d0 : decide ((i : Int) < (Ls.length : Int)) = true := by simpa using hlt
    have hiu : i < us.length := by rw [hv.len]; exact hlt
    obtain ⟨p, hp1, hp2'⟩ := hv1.out.at i hiu
    have hp2 : loadV h1 p one? = .ok us[i] h1 := hp2'
    clear hp2'
    have hui := hv.inn i hiu hlt
    obtain ⟨hl, hin⟩ := hF.2 Ls[i] (List.getElem_mem hlt)
    have hFi : whP Ls (i + 1) = whR (i : Int) Ls[i] (whP Ls i) := by show whR (i : Int) (Ls.getD i []) _ = _; rw [List.getD_eq_getElem?_getD, List.getElem?_eq_getElem hlt]; rfl
    generalize us[i] = u at *
    generalize Ls[i] = l at *
    have hlu := hui.len
    simp (disch := omega) only [f78_r3, f78_r4, f78_r5, w_skip, w_reg, w_seq, w_cond, w_block, seqK_n, ckB_b, cbB_b, true_and, x_nil, x_mv, x_as, x_ld, x_bin, x_iads, x_len, kx, rvP_ok, okv_some, ev_t, ev_c, getV_some, putD_some, bin_lss, of0, getK_set, Nat.reduceEqDiff, ↓reduceIte, g9, g10, g11, d0, hp1, hp2, hlu]
    refine W_loop (f78_J h v u Ls l i) (fun j => l.length - j) ?_ 0 ⟨by omega, hW, by simp (disch := omega) only [getK_set, Nat.reduceEqDiff, ↓reduceIte, g3, g9, g10, g11, and_self, Int.natCast_zero]⟩
    clear hW g3 g9 g10 g11 fr hp1 hp2 hv1
    rintro j fr h2 ⟨hj, hW, g3, g4, g9, g10, g11, g16, g17, g18⟩
    have hc2 := hW.gr.hc hc
    unfold f78_l0
    by_cases hlt2 : j < l.length
    · have d1 : decide ((j : Int) < (l.length : Int)) = true := by simpa using hlt2
      have hu2 := hui.grow hc hW.gr
      obtain ⟨ida, a, ha1, ha2, _, _⟩ := hu2.at2 hlt2
      have hsn := whR_snoc (r := (i : Int)) (f := whP Ls i) hlt2
      have hin2 := hin l[j] (List.getElem_mem hlt2)
      generalize l[j] = e at *
      have hst : storeV (h2.new (.cells 2 [.i .i64 0, .i .i64 0])) 2 (.p h2.nx 0) (.agg [.i .i64 e.1, .i .i64 e.2]) = .ok undefV ((h2.new (.cells 2 [.i .i64 0, .i .i64 0])).put h2.nx (.cells 2 [.i .i64 e.1, .i .i64 e.2])) := st2 (a := .i .i64 0) (b := .i .i64 0) get_new_same
      have nx1 := nx_new h2 (.cells 2 [.i .i64 0, .i .i64 0])
      have gB : Grow h2.nx.nat h2 ((h2.new (.cells 2 [.i .i64 0, .i .i64 0])).put h2.nx (.cells 2 [.i .i64 e.1, .i .i64 e.2])) := (Grow.new (Nat.le_refl _) _).trans (Grow.put (Nat.le_refl _) (by omega) _)
      have nx3 : ((h2.new (.cells 2 [.i .i64 0, .i .i64 0])).put h2.nx (.cells 2 [.i .i64 e.1, .i .i64 e.2])).nx.nat = h2.nx.nat + 1 := nx1
      have c7 : ((h2.new (.cells 2 [.i .i64 0, .i .i64 0])).put h2.nx (.cells 2 [.i .i64 e.1, .i .i64 e.2])).get h2.nx = .cells 2 [.i .i64 e.1, .i .i64 e.2] := get_put_same
      have ha2 : loadV h2 (.p ida a) (many? 2) = .ok (.agg [.i .i64 e.1, .i .i64 e.2]) h2 := ha2
      simp (disch := omega) only [f78_r6, f78_r7, w_skip, w_reg, w_draw, w_seq, w_cond, w_block, seqK_n, ckB_b, cbB_b, true_and, x_nil, x_alloc, x_ldn, x_st, x_bin, x_iads, kx, rvP_ok, okv_some, ev_t, getV_some, putD_some, putD_none, bin_lss, of0, getK_set, Nat.reduceEqDiff, ↓reduceIte, g16, g17, g18, d1, ha1, ha2, hst]
      generalize (h2.new (.cells 2 [.i .i64 0, .i .i64 0])).put h2.nx (.cells 2 [.i .i64 e.1, .i .i64 e.2]) = h3 at *
      have hc3 := gB.hc hc2
      have l3 : loadV h3 (.p h2.nx 0) (many? 2) = .ok (.agg [.i .i64 e.1, .i .i64 e.2]) h3 := ldn2 c7
      simp (disch := omega) only [f78_r8, true_and, x_call, kg, xg_nil, xg_mv, xg_ldn, xd_cons, fresh_nil, stK_s, stay_nil, rvP_ok, ev_t, ev_c, evs_nil, evs_cons, getV_some, putD_some, getK_set, Nat.reduceEqDiff, ↓reduceIte, g3, g4, l3]
      refine (callP_0 (ef := f84) h84 rfl (f84_ret (x := e) hc3)).mono ?_
      rintro r h4 ⟨rfl, gC⟩
      have hc4 := gC.hc hc3
      have hnx := hW.lt
      have c8 : h4.get h2.nx = .cells 2 [.i .i64 e.1, .i .i64 e.2] := (gC.old _ (by omega)).trans c7
      have l4 : loadV h4 (.p h2.nx 0) (many? 2) = .ok (.agg [.i .i64 e.1, .i .i64 e.2]) h4 := ldn2 c8
      have m4 : MapF h4 h.nx 108 (whR (i : Int) (l.take j) (whP Ls i)) := (hW.mp.same (gB.old _ hnx)).same (gC.old _ (by have := gB.nx; omega))
      have hin3 : in2 (e.2, e.1) := ⟨hin2.2, hin2.1⟩
      obtain ⟨es, q1, q2⟩ := m4.put (v := (i : Int)) hin2
      have q1 : mupdV 108 (.many [some .i64, some .i64]) h4 (.m h.nx) (.agg [.i .i64 e.1, .i .i64 e.2]) (.i .i64 (i : Int)) = .ok undefV (h4.put h.nx (.map 108 es)) := q1
      have hn4 : h.nx.nat < h4.nx.nat := by have := gB.nx; have := gC.nx; omega
      have gD : Grow h.nx.nat h (h4.put h.nx (.map 108 es)) := hW.gr.trans ((gB.trans (gC.low gB.nx)).low hW.gr.nx) |>.trans (Grow.put (Nat.le_refl _) hn4 _)
      obtain ⟨es2, q3, q4⟩ := q2.put (v := (i : Int)) hin3
      have q3 : mupdV 108 (.many [some .i64, some .i64]) (h4.put h.nx (.map 108 es)) (.m h.nx) (.agg [.i .i64 e.2, .i .i64 e.1]) (.i .i64 (i : Int)) = .ok undefV ((h4.put h.nx (.map 108 es)).put h.nx (.map 108 es2)) := q3
      have bm : beqV (.m h.nx) (.m h.nx) = true := by show K.beq h.nx h.nx = true; exact K.beq_refl _
      simp (disch := omega) only [f78_r9, w_reg, seqK_n, atK_n, loopK_n, true_and, x_nil, x_mv, x_bin, x_mupd, kx, xg_nil, xd_cons, fresh_nil, stK_n, stK_s, stay_nil, stay_cons, again_ok, stay_mv, beq_i, rvP_ok, okv_some, ev_t, ev_c, getV_some, putD_some, putD_none, bin_add, of1, getK_set, Nat.reduceEqDiff, ↓reduceIte, stay_ldn, beq_2, g3, g4, g18, l4, q1, q3, bm, pZ, fw64]
      exact ⟨j + 1, by omega, by omega, ⟨gD.trans (Grow.put (Nat.le_refl _) (show h.nx.nat < (h4.put h.nx (.map 108 es)).nx.nat from hn4) _), hn4, by rw [hsn]; exact q4⟩, by simp (disch := omega) only [getK_set, Nat.reduceEqDiff, ↓reduceIte, g3, g4, g9, g10, g11, g16, g17, and_self, Int.natCast_add, Int.natCast_one]⟩
    · have d1 : decide ((j : Int) < (l.length : Int)) = false := by simpa using hlt2
      have ej : j = l.length := by omega
      rw [ej, List.take_length, ← hFi] at hW
      simp (disch := omega) only [f78_r6, f78_r10, w_reg, w_seq, w_cond, w_exit, seqK_n, seqK_e, atK_n, atK_e, loopK_n, loopK_e, ckB_b, cbB_b, true_and, x_nil, x_mv, x_bin, kx, rvP_ok, okv_some, ev_t, ev_c, getV_some, putD_some, bin_add, bin_lss, of1, getK_set, Nat.reduceEqDiff, ↓reduceIte, Bool.false_eq_true, g11, g17, g18, d1, fw64]
      exact ⟨i + 1, by omega, by omega, hW, by simp (disch := omega) only [getK_set, Nat.reduceEqDiff, ↓reduceIte, g3, g9, g10, and_self, Int.natCast_add, Int.natCast_one]⟩
  · have d0 : decide ((i : Int) < (Ls.length : Int)) = false := by simpa using hlt
    have ei : i = Ls.length := by omega
    rw [ei] at hW
    simp (disch := omega) only [f78_r3, f78_r11, f78_rs, w_reg, w_seq, w_cond, w_exit, w_ret, seqK_n, seqK_e, atK_e, loopK_e, ckB_b, cbB_b, true_and, retK_r, x_nil, x_mv, x_as, x_bin, kx, rvP_ok, okv_some, ev_t, getV_some, putD_some, bin_lss, oGet_s, readRs_nil, readRs_t, retV_1, Option.some.injEq, exists_eq_left', getK_set, Nat.reduceEqDiff, ↓reduceIte, Bool.false_eq_true, g3, g10, g11, d0]
    exact ⟨h.nx, rfl, Nat.le_refl _, hW.lt, hW.mp, hW.gr⟩
end
end Go.Ev
namespace Go.Ev
open Go Go.RowKit
noncomputable def f79_r0 : List EOper := [⟨(some (K.ofNat 7)), none, .as (.c (.i .i64 (.ofNat 0)))⟩]
noncomputable def f79_r1 : List EOper := [⟨(some (K.ofNat 8)), none, .as (.c (.i .i64 (.ofNat 0)))⟩]
noncomputable def f79_r2 : List EOper := [⟨(some (K.ofNat 14)), none, .ld (.t (K.ofNat 2))⟩, ⟨(some (K.ofNat 15)), none, .mv (.c (.i .i64 (.ofNat 0)))⟩]
noncomputable def f79_r3 : List EOper := [⟨(some (K.ofNat 16)), none, .bin .lss (.t (K.ofNat 15)) (.t (K.ofNat 14))⟩]
noncomputable def f79_r4 : List EOper := [⟨(some (K.ofNat 17)), none, .mv (.t (K.ofNat 15))⟩, ⟨(some (K.ofNat 9)), none, .as (.t (K.ofNat 17))⟩]
noncomputable def f79_r5 : List EOper := [⟨(some (K.ofNat 19)), none, .ld (.t (K.ofNat 3))⟩, ⟨(some (K.ofNat 20)), none, .mv (.t (K.ofNat 0))⟩, ⟨(some (K.ofNat 21)), none, .mv (.t (K.ofNat 9))⟩, ⟨(some (K.ofNat 22)), none, .build [(.i .i64 (.ofNat 0)), (.i .i64 (.ofNat 0))] [(0, 1, (.t (K.ofNat 20))), (1, 1, (.t (K.ofNat 21)))]⟩, ⟨(some (K.ofNat 23)), none, .look 108 (.many [(some .i64), (some .i64)]) (.i .i64 (.ofNat 0)) (.t (K.ofNat 19)) (.t (K.ofNat 22)) true⟩, ⟨(some (K.ofNat 18)), none, .mv (.t (K.ofNat 23))⟩, ⟨(some (K.ofNat 24)), none, .ext (.t (K.ofNat 18)) 0⟩, ⟨(some (K.ofNat 25)), none, .ext (.t (K.ofNat 18)) 1⟩, ⟨(some (K.ofNat 10)), none, .as (.t (K.ofNat 24))⟩, ⟨(some (K.ofNat 11)), none, .as (.t (K.ofNat 25))⟩]
noncomputable def f79_r6 : List EOper := [⟨(some (K.ofNat 27)), none, .ld (.t (K.ofNat 3))⟩, ⟨(some (K.ofNat 28)), none, .mv (.t (K.ofNat 9))⟩, ⟨(some (K.ofNat 29)), none, .mv (.t (K.ofNat 1))⟩, ⟨(some (K.ofNat 30)), none, .build [(.i .i64 (.ofNat 0)), (.i .i64 (.ofNat 0))] [(0, 1, (.t (K.ofNat 28))), (1, 1, (.t (K.ofNat 29)))]⟩, ⟨(some (K.ofNat 31)), none, .look 108 (.many [(some .i64), (some .i64)]) (.i .i64 (.ofNat 0)) (.t (K.ofNat 27)) (.t (K.ofNat 30)) true⟩, ⟨(some (K.ofNat 26)), none, .mv (.t (K.ofNat 31))⟩, ⟨(some (K.ofNat 32)), none, .ext (.t (K.ofNat 26)) 0⟩, ⟨(some (K.ofNat 33)), none, .ext (.t (K.ofNat 26)) 1⟩, ⟨(some (K.ofNat 12)), none, .as (.t (K.ofNat 32))⟩, ⟨(some (K.ofNat 13)), none, .as (.t (K.ofNat 33))⟩]
noncomputable def f79_r7 : List EOper := [⟨(some (K.ofNat 34)), none, .mv (.t (K.ofNat 11))⟩, ⟨(some (K.ofNat 35)), none, .mv (.t (K.ofNat 34))⟩, ⟨(some (K.ofNat 36)), (some ((K.ofNat 35), true)), .mv (.t (K.ofNat 13))⟩, ⟨(some (K.ofNat 37)), none, .pick (.t (K.ofNat 35)) (.t (K.ofNat 36)) (.c (.b false))⟩, ⟨(some (K.ofNat 38)), none, .mv (.t (K.ofNat 37))⟩, ⟨(some (K.ofNat 39)), (some ((K.ofNat 38), true)), .mv (.t (K.ofNat 12))⟩, ⟨(some (K.ofNat 40)), (some ((K.ofNat 38), true)), .mv (.t (K.ofNat 10))⟩, ⟨(some (K.ofNat 41)), (some ((K.ofNat 38), true)), .bin .add (.t (K.ofNat 40)) (.c (.i .i64 (.ofNat 1)))⟩, ⟨(some (K.ofNat 42)), (some ((K.ofNat 38), true)), .ld (.t (K.ofNat 4))⟩, ⟨(some (K.ofNat 43)), (some ((K.ofNat 38), true)), .len (.t (K.ofNat 42))⟩, ⟨(some (K.ofNat 44)), (some ((K.ofNat 38), true)), .bin .rem (.t (K.ofNat 41)) (.t (K.ofNat 43))⟩, ⟨(some (K.ofNat 45)), (some ((K.ofNat 38), true)), .bin .eql (.t (K.ofNat 39)) (.t (K.ofNat 44))⟩, ⟨(some (K.ofNat 46)), none, .pick (.t (K.ofNat 38)) (.t (K.ofNat 45)) (.c (.b false))⟩]
noncomputable def f79_r8 : List EOper := [⟨(some (K.ofNat 47)), none, .mv (.t (K.ofNat 8))⟩, ⟨(some (K.ofNat 48)), none, .bin .add (.t (K.ofNat 47)) (.c (.i .i64 (.ofNat 1)))⟩, ⟨(some (K.ofNat 8)), none, .as (.t (K.ofNat 48))⟩]
noncomputable def f79_r9 : List EOper := [⟨(some (K.ofNat 49)), none, .bin .add (.t (K.ofNat 15)) (.c (.i .i64 (.ofNat 1)))⟩, ⟨(some (K.ofNat 15)), none, .mv (.t (K.ofNat 49))⟩]
noncomputable def f79_l0 : EC := (.seq (.reg f79_r3) (.seq (.cond (.t (K.ofNat 16)) .skip (.exit 0)) (.seq (.block 1 (.seq (.reg f79_r4) (.seq (.reg f79_r5) (.seq (.reg f79_r6) (.seq (.reg f79_r7) (.cond (.t (K.ofNat 46)) (.reg f79_r8) .skip)))))) (.reg f79_r9))))
noncomputable def f79_r10 : List EOper := [⟨(some (K.ofNat 50)), none, .mv (.t (K.ofNat 8))⟩, ⟨(some (K.ofNat 7)), none, .as (.t (K.ofNat 50))⟩]
noncomputable def f79_c : EC := (.seq (.reg f79_r0) (.seq (.reg f79_r1) (.seq (.seq (.reg f79_r2) (.block 0 (.loop f79_l0))) (.seq (.reg f79_r10) .ret))))
noncomputable def f79 : EF := ⟨51, [.tmp (K.ofNat 7)], f79_c, none⟩
theorem f79_rs : f79.rs = [.tmp (K.ofNat 7)] := of_eq_true (eq_self _)
noncomputable def f54_r0 : List EOper := [⟨(some (K.ofNat 2)), none, .box 1 (.t (K.ofNat 0))⟩, ⟨(some (K.ofNat 3)), none, .box 1 (.t (K.ofNat 1))⟩, ⟨(some (K.ofNat 4)), none, .as (.c .sn)⟩]
noncomputable def f54_r1 : List EOper := [⟨(some (K.ofNat 10)), none, .ld (.t (K.ofNat 2))⟩, ⟨(some (K.ofNat 11)), none, .call (.c (.fn (K.ofNat 78) [])) [(.t (K.ofNat 10))]⟩, ⟨(some (K.ofNat 5)), none, .alloc 1 [.mn]⟩, ⟨none, none, .st 1 (.t (K.ofNat 5)) (.t (K.ofNat 11))⟩]
noncomputable def f54_r2 : List EOper := [⟨(some (K.ofNat 12)), none, .mkfn (K.ofNat 79) [(.t (K.ofNat 3)), (.t (K.ofNat 5)), (.t (K.ofNat 2))]⟩, ⟨(some (K.ofNat 6)), none, .as (.t (K.ofNat 12))⟩]
noncomputable def f54_r3 : List EOper := [⟨(some (K.ofNat 13)), none, .ld (.t (K.ofNat 3))⟩, ⟨(some (K.ofNat 14)), none, .mkslice 1 [.sn] (.t (K.ofNat 13))⟩, ⟨(some (K.ofNat 7)), none, .as (.t (K.ofNat 14))⟩]
noncomputable def f54_r4 : List EOper := [⟨(some (K.ofNat 15)), none, .ld (.t (K.ofNat 3))⟩, ⟨(some (K.ofNat 16)), none, .mv (.c (.i .i64 (.ofNat 0)))⟩]
noncomputable def f54_r5 : List EOper := [⟨(some (K.ofNat 17)), none, .bin .lss (.t (K.ofNat 16)) (.t (K.ofNat 15))⟩]
noncomputable def f54_r6 : List EOper := [⟨(some (K.ofNat 18)), none, .mv (.t (K.ofNat 16))⟩, ⟨(some (K.ofNat 8)), none, .as (.t (K.ofNat 18))⟩]
noncomputable def f54_r7 : List EOper := [⟨(some (K.ofNat 19)), none, .ld (.t (K.ofNat 3))⟩, ⟨(some (K.ofNat 20)), none, .mv (.c (.i .i64 (.ofNat 0)))⟩]
noncomputable def f54_r8 : List EOper := [⟨(some (K.ofNat 21)), none, .bin .lss (.t (K.ofNat 20)) (.t (K.ofNat 19))⟩]
noncomputable def f54_r9 : List EOper := [⟨(some (K.ofNat 22)), none, .mv (.t (K.ofNat 20))⟩, ⟨(some (K.ofNat 9)), none, .as (.t (K.ofNat 22))⟩]
noncomputable def f54_r10 : List Stage := [⟨[⟨(some (K.ofNat 23)), none, .mv (.t (K.ofNat 7))⟩, ⟨(some (K.ofNat 24)), none, .mv (.t (K.ofNat 8))⟩, ⟨(some (K.ofNat 25)), none, .mv (.t (K.ofNat 7))⟩, ⟨(some (K.ofNat 26)), none, .mv (.t (K.ofNat 8))⟩, ⟨(some (K.ofNat 27)), none, .iads 1 (.t (K.ofNat 25)) (.t (K.ofNat 26))⟩, ⟨(some (K.ofNat 28)), none, .ld (.t (K.ofNat 27))⟩, ⟨(some (K.ofNat 29)), none, .mv (.t (K.ofNat 6))⟩, ⟨(some (K.ofNat 30)), none, .mv (.t (K.ofNat 8))⟩, ⟨(some (K.ofNat 31)), none, .mv (.t (K.ofNat 9))⟩], [], (some ⟨(some (K.ofNat 32)), none, .call (.t (K.ofNat 29)) [(.t (K.ofNat 30)), (.t (K.ofNat 31))]⟩), []⟩, ⟨[⟨(some (K.ofNat 33)), none, .bslice 1 1 [(.i .i64 (.ofNat 0))] [(0, 1, (.t (K.ofNat 32)))]⟩], [⟨(some (K.ofNat 23)), none, .mv (.t (K.ofNat 7))⟩, ⟨(some (K.ofNat 24)), none, .mv (.t (K.ofNat 8))⟩, ⟨(some (K.ofNat 25)), none, .mv (.t (K.ofNat 7))⟩, ⟨(some (K.ofNat 26)), none, .mv (.t (K.ofNat 8))⟩, ⟨(some (K.ofNat 27)), none, .iads 1 (.t (K.ofNat 25)) (.t (K.ofNat 26))⟩, ⟨(some (K.ofNat 28)), none, .ld (.t (K.ofNat 27))⟩], (some ⟨(some (K.ofNat 34)), none, .app 1 (.t (K.ofNat 28)) (.t (K.ofNat 33))⟩), [(K.ofNat 33)]⟩, ⟨[⟨(some (K.ofNat 35)), none, .iads 1 (.t (K.ofNat 23)) (.t (K.ofNat 24))⟩], [⟨(some (K.ofNat 23)), none, .mv (.t (K.ofNat 7))⟩, ⟨(some (K.ofNat 24)), none, .mv (.t (K.ofNat 8))⟩], (some ⟨none, none, .st 1 (.t (K.ofNat 35)) (.t (K.ofNat 34))⟩), []⟩, ⟨[], [], none, []⟩]
noncomputable def f54_r11 : List EOper := [⟨(some (K.ofNat 36)), none, .bin .add (.t (K.ofNat 20)) (.c (.i .i64 (.ofNat 1)))⟩, ⟨(some (K.ofNat 20)), none, .mv (.t (K.ofNat 36))⟩]
noncomputable def f54_l0 : EC := (.seq (.reg f54_r8) (.seq (.cond (.t (K.ofNat 21)) .skip (.exit 2)) (.seq (.block 3 (.seq (.reg f54_r9) (.draw f54_r10))) (.reg f54_r11))))
noncomputable def f54_r12 : List EOper := [⟨(some (K.ofNat 37)), none, .bin .add (.t (K.ofNat 16)) (.c (.i .i64 (.ofNat 1)))⟩, ⟨(some (K.ofNat 16)), none, .mv (.t (K.ofNat 37))⟩]
noncomputable def f54_l1 : EC := (.seq (.reg f54_r5) (.seq (.cond (.t (K.ofNat 17)) .skip (.exit 0)) (.seq (.block 1 (.seq (.reg f54_r6) (.seq (.reg f54_r7) (.block 2 (.loop f54_l0))))) (.reg f54_r12))))
noncomputable def f54_r13 : List EOper := [⟨(some (K.ofNat 38)), none, .mv (.t (K.ofNat 7))⟩, ⟨(some (K.ofNat 4)), none, .as (.t (K.ofNat 38))⟩]
noncomputable def f54_c : EC := (.seq (.reg f54_r0) (.seq (.reg f54_r1) (.seq (.reg f54_r2) (.seq (.reg f54_r3) (.seq (.seq (.reg f54_r4) (.block 0 (.loop f54_l1))) (.seq (.reg f54_r13) .ret))))))
noncomputable def f54 : EF := ⟨39, [.tmp (K.ofNat 4)], f54_c, none⟩
theorem f54_rs : f54.rs = [.tmp (K.ofNat 4)] := of_eq_true (eq_self _)
/-- Do i and k play with j in two rounds that follow? -/
def folB (f : Int × Int → Option Int) (L : Nat) (i k j : Int) : Bool := match f (i, j), f (j, k) with
  | some a, some b => decide (b = (a + 1).tmod (L : Int))
  | _, _ => false
def folI (f : Int × Int → Option Int) (L : Nat) (i k : Int) (n : Nat) : Int := sm (fun j => if folB f L i k (j : Int) = true then 1 else 0) n
theorem folI_bd {f : Int × Int → Option Int} {L : Nat} {i k : Int} {n : Nat} : 0 ≤ folI f L i k n ∧ folI f L i k n ≤ (n : Int) := by
  have := sm_bd (f := fun j => if folB f L i k (j : Int) = true then 1 else 0) (b := 1) (fun t => by split <;> omega) n
  unfold folI; omega
theorem fol_0 {f : Int × Int → Option Int} {L : Nat} {i k : Int} : folI f L i k 0 = 0 := by unfold folI; rfl
/-- What the closure has. -/
structure Cap (f : Int × Int → Option Int) (L n : Nat) (idn idw ids : K) (h : H) : Prop where
  n : h.get idn = .cells 1 [.i .i64 (n : Int)]
  w : ∃ idm, h.get idw = .cells 1 [.m idm] ∧ MapF h idm 108 f
  s : ∃ v, h.get ids = .cells 1 [v] ∧ ∀ h1, lenV v h1 = .ok (.i .i64 (L : Int)) h1
section
variable {fs : T EF} {h : H} {f : Int × Int → Option Int} {L n : Nat} {idn idw ids : K}
def f79_I (h : H) (f : Int × Int → Option Int) (L n : Nat) (idn idw ids : K) (i k : Int) (j : Nat) (fr : Fr) (h1 : H) : Prop := j ≤ n ∧ h1 = h ∧ fr.get (K.ofNat 0) = some (.i .i64 i) ∧ fr.get (K.ofNat 1) = some (.i .i64 k) ∧ fr.get (K.ofNat 2) = some (.p idn 0) ∧ fr.get (K.ofNat 3) = some (.p idw 0) ∧ fr.get (K.ofNat 4) = some (.p ids 0) ∧ fr.get (K.ofNat 8) = some (.i .i64 (folI f L i k j)) ∧ fr.get (K.ofNat 14) = some (.i .i64 (n : Int)) ∧ fr.get (K.ofNat 15) = some (.i .i64 (j : Int))
theorem f79_ret {i k : Nat} (c : Cap f L n idn idw ids h) (hf : ∀ x a, f x = some a → 0 ≤ a ∧ a < (L : Int)) (hn : n ≤ 1000) (hL : L ≤ 1000) (hi : i ≤ 1000) (hk : k ≤ 1000) : Ret fs f79 [.i .i64 (i : Int), .i .i64 (k : Int), .p idn 0, .p idw 0, .p ids 0] h fun r h' => r = .i .i64 (folI f L (i : Int) (k : Int) n) ∧ h' = h := by
  obtain ⟨cn, ⟨idm, cw, hm⟩, v, cs, hv⟩ := c
  have ln : loadV h (.p idn 0) one? = .ok (.i .i64 (n : Int)) h := load_p cn rfl
  have lw : loadV h (.p idw 0) one? = .ok (.m idm) h := load_p cw rfl
  have ls : loadV h (.p ids 0) one? = .ok v h := load_p cs rfl
  apply ret_of rfl
  show W fs none f79_c _ _ _
  unfold f79_c
  simp (disch := omega) only [f79_r0, f79_r1, f79_r2, w_reg, w_seq, w_block, seqK_n, x_nil, x_mv, x_as, x_ld, kx, rvP_ok, ev_t, ev_c, getV_some, putD_some, of0, getK_set, Nat.reduceEqDiff, ↓reduceIte, frame_5, ln]
  refine W_loop (f79_I h f L n idn idw ids (i : Int) (k : Int)) (fun j => n - j) ?_ 0 ⟨by omega, rfl, by simp (disch := omega) only [getK_set, Nat.reduceEqDiff, ↓reduceIte, and_self, Int.natCast_zero, fol_0]⟩
  rintro j fr h1 ⟨hj, rfl, g0, g1, g2, g3, g4, g8, g14, g15⟩
  have hb := folI_bd (f := f) (L := L) (i := (i : Int)) (k := (k : Int)) (n := j)
  have hsu : folI f L (i : Int) (k : Int) (j + 1) = folI f L (i : Int) (k : Int) j + (if folB f L (i : Int) (k : Int) (j : Int) = true then 1 else 0) := rfl
  unfold f79_l0
  by_cases hlt : j < n
  · have d0 : decide ((j : Int) < (n : Int)) = true := by simpa using hlt
    have k1 := hm.look (z := .i .i64 0) (x := ((i : Int), (j : Int))) ⟨inR_n (by omega), inR_n (by omega)⟩
    have k2 := hm.look (z := .i .i64 0) (x := ((j : Int), (k : Int))) ⟨inR_n (by omega), inR_n (by omega)⟩
    unfold pZ at k1 k2
    have key : ∀ (o1 o2 : Option Int), f ((i : Int), (j : Int)) = o1 → f ((j : Int), (k : Int)) = o2 → folB f L (i : Int) (k : Int) (j : Int) = (match o1, o2 with | some a, some b => decide (b = (a + 1).tmod (L : Int)) | _, _ => false) := fun o1 o2 e1 e2 => by
      unfold folB; rw [e1, e2]
    cases e1 : f ((i : Int), (j : Int)) with
    | none =>
      have hB := key none _ e1 rfl
      have hB : folB f L (i : Int) (k : Int) (j : Int) = false := hB
      rw [hB] at hsu
      rw [e1] at k1
      cases e2 : f ((j : Int), (k : Int)) with
      | none =>
        rw [e2] at k2
        simp (disch := omega) only [f79_r3, f79_r4, f79_r5, f79_r6, f79_r7, f79_r9, w_skip, w_reg, w_seq, w_cond, w_block, seqK_n, atK_n, loopK_n, ckB_b, cbB_b, okG_b, asG_t, true_and, x_nil, x_g, x_mv, x_as, x_pick, x_build, x_ld, x_bin, x_look, x_ext, kx, rvP_ok, okv_some, ev_t, ev_c, getV_some, putD_some, bin_add, bin_lss, pick_b, onTup_t, oGet_s, nth0, nth1, cells1_i, of0, of1, getK_set, Nat.reduceEqDiff, ↓reduceIte, Bool.false_eq_true, fill_2, set_2, g0, g1, g3, g14, g15, d0, lw, k1, k2, okZ, fill_2, set_2, fw64]
        exact ⟨j + 1, by omega, by omega, rfl, by simp (disch := omega) only [getK_set, Nat.reduceEqDiff, ↓reduceIte, Bool.false_eq_true, g0, g1, g2, g3, g4, g8, g14, and_self, Int.natCast_add, Int.natCast_one, hsu, Bool.false_eq_true, Int.add_zero]⟩
      | some b =>
        rw [e2] at k2
        simp (disch := omega) only [f79_r3, f79_r4, f79_r5, f79_r6, f79_r7, f79_r9, w_skip, w_reg, w_seq, w_cond, w_block, seqK_n, atK_n, loopK_n, ckB_b, cbB_b, okG_b, asG_t, true_and, x_nil, x_g, x_mv, x_as, x_pick, x_build, x_ld, x_bin, x_look, x_ext, kx, rvP_ok, okv_some, ev_t, ev_c, getV_some, putD_some, bin_add, bin_lss, pick_b, onTup_t, oGet_s, nth0, nth1, cells1_i, of0, of1, getK_set, Nat.reduceEqDiff, ↓reduceIte, Bool.false_eq_true, fill_2, set_2, g0, g1, g3, g14, g15, d0, lw, k1, k2, okZ, fill_2, set_2, fw64]
        exact ⟨j + 1, by omega, by omega, rfl, by simp (disch := omega) only [getK_set, Nat.reduceEqDiff, ↓reduceIte, Bool.false_eq_true, g0, g1, g2, g3, g4, g8, g14, and_self, Int.natCast_add, Int.natCast_one, hsu, Bool.false_eq_true, Int.add_zero]⟩
    | some a =>
      rw [e1] at k1
      obtain ⟨a1, a2⟩ := hf _ _ e1
      cases e2 : f ((j : Int), (k : Int)) with
      | none =>
        have hB := key _ none e1 e2
        have hB : folB f L (i : Int) (k : Int) (j : Int) = false := hB
        rw [hB] at hsu
        rw [e2] at k2
        simp (disch := omega) only [f79_r3, f79_r4, f79_r5, f79_r6, f79_r7, f79_r9, w_skip, w_reg, w_seq, w_cond, w_block, seqK_n, atK_n, loopK_n, ckB_b, cbB_b, okG_b, asG_t, true_and, x_nil, x_g, x_mv, x_as, x_pick, x_build, x_ld, x_bin, x_look, x_ext, kx, rvP_ok, okv_some, ev_t, ev_c, getV_some, putD_some, bin_add, bin_lss, pick_b, onTup_t, oGet_s, nth0, nth1, cells1_i, of0, of1, getK_set, Nat.reduceEqDiff, ↓reduceIte, Bool.false_eq_true, fill_2, set_2, g0, g1, g3, g14, g15, d0, lw, k1, k2, okZ, fill_2, set_2, fw64]
        exact ⟨j + 1, by omega, by omega, rfl, by simp (disch := omega) only [getK_set, Nat.reduceEqDiff, ↓reduceIte, Bool.false_eq_true, g0, g1, g2, g3, g4, g8, g14, and_self, Int.natCast_add, Int.natCast_one, hsu, Bool.false_eq_true, Int.add_zero]⟩
      | some b =>
        have hB := key _ _ e1 e2
        have hB : folB f L (i : Int) (k : Int) (j : Int) = decide (b = (a + 1).tmod (L : Int)) := hB
        rw [e2] at k2
        have hL0 : decide ((L : Int) = 0) = false := by simp; omega
        cases hd : decide (b = (a + 1).tmod (L : Int)) with
        | true =>
          rw [hB, hd] at hsu
          simp (disch := omega) only [f79_r3, f79_r4, f79_r5, f79_r6, f79_r7, f79_r8, f79_r9, w_skip, w_reg, w_seq, w_cond, w_block, seqK_n, atK_n, loopK_n, ckB_b, cbB_b, okG_b, asG_t, true_and, x_nil, x_g, x_mv, x_as, x_pick, x_build, x_ld, x_bin, x_look, x_ext, x_len, kx, rvP_ok, okv_some, ev_t, ev_c, getV_some, putD_some, bin_add, bin_eql, bin_lss, bin_rem, pick_b, onTup_t, oGet_s, nth0, nth1, cells1_i, of0, of1, getK_set, Nat.reduceEqDiff, ↓reduceIte, fill_2, set_2, g0, g1, g3, g4, g8, g14, g15, d0, lw, ls, hv, k1, k2, okZ, fill_2, set_2, hd, fw64]
          exact ⟨j + 1, by omega, by omega, rfl, by simp (disch := omega) only [getK_set, Nat.reduceEqDiff, ↓reduceIte, g0, g1, g2, g3, g4, g14, and_self, Int.natCast_add, Int.natCast_one, hsu]⟩
        | false =>
          rw [hB, hd] at hsu
          simp (disch := omega) only [f79_r3, f79_r4, f79_r5, f79_r6, f79_r7, f79_r9, w_skip, w_reg, w_seq, w_cond, w_block, seqK_n, atK_n, loopK_n, ckB_b, cbB_b, okG_b, asG_t, true_and, x_nil, x_g, x_mv, x_as, x_pick, x_build, x_ld, x_bin, x_look, x_ext, x_len, kx, rvP_ok, okv_some, ev_t, ev_c, getV_some, putD_some, bin_add, bin_eql, bin_lss, bin_rem, pick_b, onTup_t, oGet_s, nth0, nth1, cells1_i, of0, of1, getK_set, Nat.reduceEqDiff, ↓reduceIte, Bool.false_eq_true, fill_2, set_2, g0, g1, g3, g4, g14, g15, d0, lw, ls, hv, k1, k2, okZ, fill_2, set_2, hd, fw64]
          exact ⟨j + 1, by omega, by omega, rfl, by simp (disch := omega) only [getK_set, Nat.reduceEqDiff, ↓reduceIte, Bool.false_eq_true, g0, g1, g2, g3, g4, g8, g14, and_self, Int.natCast_add, Int.natCast_one, hsu, Bool.false_eq_true, Int.add_zero]⟩
  · have d0 : decide ((j : Int) < (n : Int)) = false := by simpa using hlt
    have ej : j = n := by omega
    rw [ej] at g8
    simp (disch := omega) only [f79_r3, f79_r10, f79_rs, w_reg, w_seq, w_cond, w_exit, w_ret, seqK_n, seqK_e, atK_e, loopK_e, ckB_b, cbB_b, retK_r, x_nil, x_mv, x_as, x_bin, kx, rvP_ok, okv_some, ev_t, getV_some, putD_some, bin_lss, oGet_s, readRs_nil, readRs_t, retV_1, Option.some.injEq, exists_eq_left', getK_set, Nat.reduceEqDiff, ↓reduceIte, Bool.false_eq_true, g8, g14, g15, d0, and_self]
theorem Cap.grow {h' : H} (c : Cap f L n idn idw ids h) (hc : HC h) (hG : Grow h.nx.nat h h') : Cap f L n idn idw ids h' := by
  obtain ⟨cn, ⟨idm, cw, M, m1, m2⟩, v, cs, hv⟩ := c
  exact ⟨(hG.old _ (hc.cells cn)).trans cn, ⟨idm, (hG.old _ (hc.cells cw)).trans cw, M, (hG.old _ (hc.lt (by rw [m1]; simp))).trans m1, m2⟩, v, (hG.old _ (hc.cells cs)).trans cs, hv⟩
structure RowsW {α : Type} (e : α → V) (h : H) (h1 : H) (w : V) (xs : List V) (Q : List (List α)) : Prop where
  sd : Nw e h1 w xs Q
  ow : Own h.nx.nat w
  ox : ∀ x ∈ xs, Own h.nx.nat x
  gr : Grow h.nx.nat h h1
def flI (f : Int × Int → Option Int) (L n : Nat) (i k : Nat) : List Int := (List.range k).map fun (k : Nat) => folI f L (i : Int) (k : Int) n
theorem flI_succ {i k : Nat} : flI f L n i (k + 1) = flI f L n i k ++ [folI f L (i : Int) (k : Int) n] := by
  unfold flI; rw [List.range_succ, List.map_append]; rfl
theorem flI_len {i k : Nat} : (flI f L n i k).length = k := by simp [flI]
def flT (f : Int × Int → Option Int) (L n : Nat) : List (List Int) := (List.range n).map fun i => flI f L n i n
def f54_I (h : H) (f : Int × Int → Option Int) (L n : Nat) (idn idw ids : K) (i : Nat) (fr : Fr) (h1 : H) : Prop := i ≤ n ∧ ∃ w xs, RowsW iE h h1 w xs (tbL (fun i => flI f L n i n) [] n i) ∧ fr.get (K.ofNat 3) = some (.p idn 0) ∧ fr.get (K.ofNat 6) = some (.fn (K.ofNat 79) [.p idn 0, .p idw 0, .p ids 0]) ∧ fr.get (K.ofNat 7) = some (w) ∧ fr.get (K.ofNat 15) = some (.i .i64 (n : Int)) ∧ fr.get (K.ofNat 16) = some (.i .i64 (i : Int))
def f54_J (h : H) (f : Int × Int → Option Int) (L n : Nat) (idn idw ids : K) (i k : Nat) (fr : Fr) (h1 : H) : Prop := k ≤ n ∧ ∃ w xs, RowsW iE h h1 w xs ((tbL (fun i => flI f L n i n) [] n i).set i (flI f L n i k)) ∧ fr.get (K.ofNat 3) = some (.p idn 0) ∧ fr.get (K.ofNat 6) = some (.fn (K.ofNat 79) [.p idn 0, .p idw 0, .p ids 0]) ∧ fr.get (K.ofNat 7) = some (w) ∧ fr.get (K.ofNat 8) = some (.i .i64 (i : Int)) ∧ fr.get (K.ofNat 15) = some (.i .i64 (n : Int)) ∧ fr.get (K.ofNat 16) = some (.i .i64 (i : Int)) ∧ fr.get (K.ofNat 19) = some (.i .i64 (n : Int)) ∧ fr.get (K.ofNat 20) = some (.i .i64 (k : Int))
structure CallsF5 (fs : T EF) : Prop where
  c78 : fs.get (K.ofNat 78) = some f78
  c79 : fs.get (K.ofNat 79) = some f79
  c84 : fs.get (K.ofNat 84) = some f84
theorem f54_ret {v : V} {us : List V} {Ls : List (List (Int × Int))} {n : Nat} (k : CallsF5 fs) (hn : n ≤ 100) (hv : Nrp h v us Ls) (hF : Ls.length ≤ 1000 ∧ ∀ l ∈ Ls, l.length ≤ 1000 ∧ ∀ e ∈ l, in2 e) (hf : ∀ x a, whP Ls Ls.length x = some a → 0 ≤ a ∧ a < (Ls.length : Int)) (hc : HC h) : Ret fs f54 [v, .i .i64 (n : Int)] h fun r h' => ∃ xs, Nw iE h' r xs (flT (whP Ls Ls.length) Ls.length n) ∧ Grow h.nx.nat h h' := by
  have hlen : ∀ h1, lenV v h1 = .ok (.i .i64 (Ls.length : Int)) h1 := fun h1 => by rw [hv.out.len, hv.len]
  have hsl : cellsN 1 v = some [v] := hv.out.one
  have gA := Grow.new (Nat.le_refl h.nx.nat) (.cells 1 [v])
  have gA1 := Grow.new (Nat.le_refl (h.new (.cells 1 [v])).nx.nat) (.cells 1 [.i .i64 (n : Int)])
  have n1 := nx_new h (.cells 1 [v])
  have n2 := nx_new (h.new (.cells 1 [v])) (.cells 1 [.i .i64 (n : Int)])
  have b1 : ((h.new (.cells 1 [v])).new (.cells 1 [.i .i64 (n : Int)])).get h.nx = .cells 1 [v] := (get_new_old (by omega)).trans get_new_same
  have b2 : ((h.new (.cells 1 [v])).new (.cells 1 [.i .i64 (n : Int)])).get (h.new (.cells 1 [v])).nx = .cells 1 [.i .i64 (n : Int)] := get_new_same
  apply ret_of rfl
  show W fs none f54_c _ _ _
  unfold f54_c
  simp (disch := omega) only [f54_r0, w_reg, w_seq, seqK_n, x_nil, x_as, x_box, kx, rvP_ok, ev_t, ev_c, getV_some, putD_some, oGet_s, frame_2, cells1_i, getK_set, Nat.reduceEqDiff, ↓reduceIte, hsl]
  generalize (h.new (.cells 1 [v])).nx = idn at *
  generalize (h.new (.cells 1 [v])).new (.cells 1 [.i .i64 (n : Int)]) = h2 at *
  have gB : Grow h.nx.nat h h2 := gA.trans (gA1.low (by omega))
  clear gA gA1
  have hc2 := gB.hc hc
  have l1 : loadV h2 (.p h.nx 0) one? = .ok v h2 := load_p b1 rfl
  simp (disch := omega) only [f54_r1, x_ld, x_call, kx, rvP_ok, ev_t, ev_c, evs_nil, evs_cons, getV_some, putD_some, getK_set, Nat.reduceEqDiff, ↓reduceIte, l1]
  refine (callP_0 (ef := f78) k.c78 rfl (f78_ret k.c84 (hv.grow hc gB) hF hc2)).mono ?_
  rintro r h3 ⟨idm, rfl, hi1, hi2, hmp, gC⟩
  have hc3 := gC.hc hc2
  have n4 := nx_new h3 (.cells 1 [.mn])
  have gD : Grow h3.nx.nat h3 ((h3.new (.cells 1 [.mn])).put h3.nx (.cells 1 [.m idm])) := (Grow.new (Nat.le_refl _) _).trans (Grow.put (Nat.le_refl _) (by omega) _)
  have hstm : storeV (h3.new (.cells 1 [.mn])) 1 (.p h3.nx 0) (.m idm) = .ok undefV ((h3.new (.cells 1 [.mn])).put h3.nx (.cells 1 [.m idm])) := by
    rw [store_p (cs := [.mn]) (xs := [.m idm]) get_new_same rfl (by omega)]; rfl
  have c5 : ((h3.new (.cells 1 [.mn])).put h3.nx (.cells 1 [.m idm])).get h3.nx = .cells 1 [.m idm] := get_put_same
  have n5 : ((h3.new (.cells 1 [.mn])).put h3.nx (.cells 1 [.m idm])).nx.nat = h3.nx.nat + 1 := n4
  simp (disch := omega) only [w_reg, w_seq, seqK_n, x_nil, x_alloc, x_st, kx, rvP_ok, ev_t, getV_some, putD_some, putD_none, getK_set, Nat.reduceEqDiff, ↓reduceIte, hstm]
  generalize (h3.new (.cells 1 [.mn])).put h3.nx (.cells 1 [.m idm]) = h5 at *
  have hc5 := gD.hc hc3
  have gE : Grow h.nx.nat h h5 := gB.trans ((gC.trans (gD.low gC.nx)).low gB.nx)
  have cap : Cap (whP Ls Ls.length) Ls.length n idn h3.nx h.nx h5 := by
    refine ⟨?_, ⟨idm, c5, hmp.same (gD.old _ hi2)⟩, v, ?_, hlen⟩
    · rw [gD.old _ (by have := gC.nx; omega), gC.old _ (by omega)]; exact b2
    · rw [gD.old _ (by have := gC.nx; omega), gC.old _ (by omega)]; exact b1
  have l5 : loadV h5 (.p idn 0) one? = .ok (.i .i64 (n : Int)) h5 := load_p cap.n rfl
  generalize hidw : h3.nx = idw at *
  generalize hids : h.nx = ids at *
  generalize whP Ls Ls.length = f at *
  have hmk := mkw_sn (h := h5) (k := .i64) (n := n) (by omega)
  have hs0 := Nw.empty (e := iE) (h := h5) (n := n)
  have gF := Grow.new (Nat.le_refl h5.nx.nat) (.cells (n * 1) (rep [.sn] n))
  rw [← tb_nil (f := fun i => flI f Ls.length n i n)] at hs0
  have l6 : loadV (h5.new (.cells (n * 1) (rep [.sn] n))) (.p idn 0) one? = .ok (.i .i64 (n : Int)) (h5.new (.cells (n * 1) (rep [.sn] n))) := load_p ((get_new_old (hc5.cells cap.n)).trans cap.n) rfl
  simp (disch := omega) only [f54_r2, f54_r3, f54_r4, w_reg, w_seq, w_block, seqK_n, x_nil, x_mv, x_as, x_ld, x_mkfn, x_mks, kx, rvP_ok, ev_t, ev_c, evs_nil, evs_cons, getV_some, putD_some, of0, getK_set, Nat.reduceEqDiff, ↓reduceIte, l5, hmk, l6]
  refine W_loop (f54_I h5 f Ls.length n idn idw ids) (fun i => n - i) ?_ 0 ⟨by omega, .sl h5.nx 0 n 1, _, ⟨hs0, (fun _ _ _ _ e => (by cases e; exact Nat.le_refl _)), (fun x hx id off n sz e => (by rw [(List.mem_replicate.1 hx).2] at e; cases e)), gF⟩, by simp (disch := omega) only [getK_set, Nat.reduceEqDiff, ↓reduceIte, and_self, Int.natCast_zero]⟩
  clear hmk hs0 gF
  rintro i fr h6 ⟨hi, w, xs, hR, g3, g6, g7, g15, g16⟩
  have hc6 := hR.gr.hc hc5
  unfold f54_l1
  by_cases hlt : i < n
  · have d0 : decide ((i : Int) < (n : Int)) = true := by simpa using hlt
    have l7 : loadV h6 (.p idn 0) one? = .ok (.i .i64 (n : Int)) h6 := load_p (cap.grow hc5 hR.gr).n rfl
    simp (disch := omega) only [f54_r5, f54_r6, f54_r7, w_skip, w_reg, w_seq, w_cond, w_block, seqK_n, ckB_b, cbB_b, true_and, x_nil, x_mv, x_as, x_ld, x_bin, kx, rvP_ok, okv_some, ev_t, ev_c, getV_some, putD_some, bin_lss, of0, getK_set, Nat.reduceEqDiff, ↓reduceIte, g3, g15, g16, d0, l7]
    refine W_loop (f54_J h5 f Ls.length n idn idw ids i) (fun k => n - k) ?_ 0 ⟨by omega, w, xs, by rw [show flI f Ls.length n i 0 = [] from rfl, tb_first hlt]; exact hR, by simp (disch := omega) only [getK_set, Nat.reduceEqDiff, ↓reduceIte, g3, g6, g7, g15, g16, and_self, Int.natCast_zero]⟩
    clear hR g3 g6 g7 g15 g16 fr l7 hc6 w xs
    rintro q fr h6 ⟨hq, w, xs, hR, g3, g6, g7, g8, g15, g16, g19, g20⟩
    have hc6 := hR.gr.hc hc5
    have cap6 := cap.grow hc5 hR.gr
    unfold f54_l0
    by_cases hlt2 : q < n
    · have d1 : decide ((q : Int) < (n : Int)) = true := by simpa using hlt2
      have hQl : ((tbL (fun i => flI f Ls.length n i n) [] n i).set i (flI f Ls.length n i q)).length = n := by rw [List.length_set, tb_len]
      have hQi : ((tbL (fun i => flI f Ls.length n i n) [] n i).set i (flI f Ls.length n i q))[i]'(by rw [hQl]; exact hlt) = flI f Ls.length n i q := List.getElem_set_self _
      obtain ⟨u', h7, p, id, m, cs', a1, a2, a3, a4, a5, a6, a7, _⟩ := hR.sd.row hR.ow hR.ox hR.gr.nx hc6 (i := i) (by rw [hR.sd.len, hQl]; exact hlt) (by rw [hQl]; exact hlt) (x := folI f Ls.length (i : Int) (q : Int) n) (c := .i .i64 (folI f Ls.length (i : Int) (q : Int) n)) rfl (by rw [hQi, flI_len]; omega)
      rw [hQi, List.set_set, ← flI_succ] at a5
      have hsn := (hR.sd.out.new hc6 (.cells (1 * 1) [.i .i64 (folI f Ls.length (i : Int) (q : Int) n)])).at i (by rw [hR.sd.len, hQl]; exact hlt)
      obtain ⟨p', q1, q2⟩ := hsn
      obtain rfl : p = p' := by have := (a2 .i64 h6).symm.trans (q1 .i64 h6); injection this
      have hwb := hR.sd.out.beq
      have hxb : beqV (xs[i]'(by rw [hR.sd.len, hQl]; exact hlt)) (xs[i]'(by rw [hR.sd.len, hQl]; exact hlt)) = true := (hR.sd.inn i (by rw [hR.sd.len, hQl]; exact hlt) (by rw [hQl]; exact hlt)).beq
      have hpb : beqV p p = true := by
        obtain ⟨p2, z1, _, z3⟩ := hR.sd.out.atb i (by rw [hR.sd.len, hQl]; exact hlt)
        obtain rfl : p = p2 := by have := (a2 .i64 h6).symm.trans (z1 .i64 h6); injection this
        exact z3
      have q2 : loadV (h6.new (.cells (1 * 1) [.i .i64 (folI f Ls.length (i : Int) (q : Int) n)])) p one? = .ok (xs[i]'(by rw [hR.sd.len, hQl]; exact hlt)) (h6.new (.cells (1 * 1) [.i .i64 (folI f Ls.length (i : Int) (q : Int) n)])) := q2
      generalize xs[i]'(by rw [hR.sd.len, hQl]; exact hlt) = x at *
      simp (disch := omega) only [f54_r8, f54_r9, f54_r10, w_skip, w_reg, w_draw, w_seq, w_cond, w_block, seqK_n, ckB_b, cbB_b, true_and, x_nil, x_mv, x_as, x_bin, x_call, kx, kg, xg_nil, xg_mv, xg_ld, xg_iads, xd_cons, fresh_nil, stK_s, stay_nil, rvP_ok, okv_some, ev_t, evs_nil, evs_cons, getV_some, putD_some, bin_lss, of0, getK_set, Nat.reduceEqDiff, ↓reduceIte, g6, g7, g8, g19, g20, d1, a2, a3]
      refine (callP_of (ef := f79) k.c79 rfl (f79_ret (i := i) (k := q) cap6 hf (by omega) (by have := hF.1; omega) (by omega) (by omega))).mono ?_
      rintro r h8 ⟨rfl, rfl⟩
      simp (disch := omega) only [true_and, x_nil, x_app, kx, xg_nil, xg_bslice, xd_cons, stK_s, stay_nil, stay_cons, stay_mv, beq_i, stay_iads, stay_ld, ev_t, getV_some, putD_some, oGet_s, cells1_i, fill_1, set_1, Option.some.injEq, exists_eq_left', getK_set, Nat.reduceEqDiff, ↓reduceIte, g7, g8, hc6.dead]
      refine ⟨fresh_one (n := 1) (sz := 1) (by simp (disch := omega) only [getK_set, ↓reduceIte]), ?_⟩
      simp (disch := omega) only [f54_r11, w_reg, seqK_n, atK_n, loopK_n, true_and, x_nil, x_mv, x_st, x_bin, kx, kg, xg_nil, xg_iads, xd_cons, fresh_nil, stK_n, stK_s, stay_nil, stay_cons, again_ok, stay_mv, beq_i, rvP_ok, okv_some, ev_t, ev_c, getV_some, putD_some, putD_none, bin_add, of1, getK_set, Nat.reduceEqDiff, ↓reduceIte, g7, g8, g20, hwb, hxb, hpb, q2, a1, a2, a4, fw64]
      exact ⟨q + 1, by omega, by omega, w, _, ⟨a5, hR.ow, a6, hR.gr.trans (a7.low (Nat.le_refl _))⟩, by simp (disch := omega) only [getK_set, Nat.reduceEqDiff, ↓reduceIte, g3, g6, g7, g8, g15, g16, g19, and_self, Int.natCast_add, Int.natCast_one]⟩
    · have d1 : decide ((q : Int) < (n : Int)) = false := by simpa using hlt2
      have ej : q = n := by omega
      rw [ej, tb_set] at hR
      simp (disch := omega) only [f54_r8, f54_r12, w_reg, w_seq, w_cond, w_exit, seqK_n, seqK_e, atK_n, atK_e, loopK_n, loopK_e, ckB_b, cbB_b, true_and, x_nil, x_mv, x_bin, kx, rvP_ok, okv_some, ev_t, ev_c, getV_some, putD_some, bin_add, bin_lss, of1, getK_set, Nat.reduceEqDiff, ↓reduceIte, Bool.false_eq_true, g16, g19, g20, d1, fw64]
      exact ⟨i + 1, by omega, by omega, w, xs, hR, by simp (disch := omega) only [getK_set, Nat.reduceEqDiff, ↓reduceIte, g3, g6, g7, g15, and_self, Int.natCast_add, Int.natCast_one]⟩
  · have d0 : decide ((i : Int) < (n : Int)) = false := by simpa using hlt
    have ei : i = n := by omega
    rw [ei, tb_all] at hR
    simp (disch := omega) only [f54_r5, f54_r13, f54_rs, w_reg, w_seq, w_cond, w_exit, w_ret, seqK_n, seqK_e, atK_e, loopK_e, ckB_b, cbB_b, true_and, retK_r, x_nil, x_mv, x_as, x_bin, kx, rvP_ok, okv_some, ev_t, getV_some, putD_some, bin_lss, oGet_s, readRs_nil, readRs_t, retV_1, Option.some.injEq, exists_eq_left', getK_set, Nat.reduceEqDiff, ↓reduceIte, Bool.false_eq_true, g7, g15, g16, d0]
    exact ⟨xs, hR.sd, gE.trans (hR.gr.low (by rw [← hids]; exact gE.nx))⟩
end
end Go.Ev
namespace Go.Ev
open Go Go.RowKit
theorem op_mem {t : Int} : ∀ {l : List (Int × Int)}, t ∈ plL l → (t, opF l t) ∈ l ∨ (opF l t, t) ∈ l
  | [], h => by simp [plL] at h
  | e :: l, h => by
    unfold opF
    by_cases h1 : t = e.1
    · rw [if_pos h1]; left; rw [h1]; simp
    · rw [if_neg h1]
      by_cases h2 : t = e.2
      · rw [if_pos h2]; right; rw [h2]; simp
      · rw [if_neg h2]
        have : t ∈ plL l := by
          have h : t ∈ e.1 :: e.2 :: plL l := h
          rcases List.mem_cons.1 h with h | h
          · exact absurd h h1
          · rcases List.mem_cons.1 h with h | h
            · exact absurd h h2
            · exact h
        rcases op_mem this with h | h
        · exact .inl (List.mem_cons_of_mem _ h)
        · exact .inr (List.mem_cons_of_mem _ h)
theorem pl_mem {l : List (Int × Int)} {e : Int × Int} (h : e ∈ l) : e.1 ∈ plL l ∧ e.2 ∈ plL l :=
  ⟨List.mem_flatMap.2 ⟨e, h, by simp⟩, List.mem_flatMap.2 ⟨e, h, by simp⟩⟩
theorem op_of {a b : Int} : ∀ {l : List (Int × Int)}, (plL l).Nodup → (a, b) ∈ l ∨ (b, a) ∈ l → opF l a = b
  | [], _, h => by simp at h
  | e :: l, hn, h => by
    have hn : (e.1 :: e.2 :: plL l).Nodup := hn
    obtain ⟨n1, n2⟩ := List.nodup_cons.1 hn
    obtain ⟨n3, n4⟩ := List.nodup_cons.1 n2
    have ne : e.1 ≠ e.2 := fun q => n1 (by rw [q]; simp)
    unfold opF
    have tail : (a, b) ∈ l ∨ (b, a) ∈ l → (if a = e.1 then e.2 else if a = e.2 then e.1 else opF l a) = b := fun h => by
      have ha : a ∈ plL l := by rcases h with h | h; exact (pl_mem h).1; exact (pl_mem h).2
      rw [if_neg (fun q => n1 (by rw [← q]; exact List.mem_cons_of_mem _ ha)), if_neg (fun q => n3 (by rw [← q]; exact ha))]
      exact op_of n4 h
    rcases h with h | h
    · rcases List.mem_cons.1 h with h | h
      · rw [← h, if_pos rfl]
      · exact tail (.inl h)
    · rcases List.mem_cons.1 h with h | h
      · rw [← h] at ne ⊢
        rw [if_neg (fun q => ne q.symm), if_pos rfl]
      · exact tail (.inr h)
theorem whR_eq {r : Int} {x : Int × Int} : ∀ {l : List (Int × Int)} {f : Int × Int → Option Int}, whR r l f x = if x ∈ l ∨ (x.2, x.1) ∈ l then some r else f x
  | [], f => by simp [whR]
  | e :: l, f => by
    show whR r l (upd2 f e r) x = _
    rw [whR_eq]
    unfold upd2
    by_cases h : x ∈ l ∨ (x.2, x.1) ∈ l
    · rw [if_pos h, if_pos (by rcases h with h | h; exact .inl (List.mem_cons_of_mem _ h); exact .inr (List.mem_cons_of_mem _ h))]
    · rw [if_neg h]
      by_cases h1 : x = (e.2, e.1)
      · rw [if_pos h1, if_pos (.inr (by rw [h1]; simp))]
      · rw [if_neg h1]
        by_cases h2 : x = e
        · rw [if_pos h2, if_pos (.inl (by rw [h2]; simp))]
        · rw [if_neg h2, if_neg]
          rintro (h3 | h3)
          · rcases List.mem_cons.1 h3 with h3 | h3
            · exact h2 h3
            · exact h (.inl h3)
          · rcases List.mem_cons.1 h3 with h3 | h3
            · exact h1 (by rw [← h3])
            · exact h (.inr h3)
section
variable {Q : List (List (Int × Int))} {n : Nat}
theorem wh_some {x : Int × Int} {a : Int} : ∀ {i : Nat}, whP Q i x = some a → ∃ r : Nat, a = (r : Int) ∧ r < i ∧ (x ∈ Q.getD r [] ∨ (x.2, x.1) ∈ Q.getD r [])
  | 0, h => by cases h
  | i + 1, h => by
    have h : whR (i : Int) (Q.getD i []) (whP Q i) x = some a := h
    rw [whR_eq] at h
    split at h
    · rename_i hx
      injection h with h
      exact ⟨i, h.symm, by omega, hx⟩
    · obtain ⟨r, h1, h2, h3⟩ := wh_some h
      exact ⟨r, h1, by omega, h3⟩
theorem vld_ds (v : Vld n Q) {i j : Nat} (hij : i < j) (hj : j < Q.length) : ∀ x ∈ Q[i]'(by omega), ∀ y ∈ Q[j], dsR x y := by
  have := v.pw
  rw [List.pairwise_flatten] at this
  exact List.pairwise_iff_getElem.1 this.2 i j (by omega) hj hij
theorem getD_at {α : Type} {l : List α} {i : Nat} {d : α} (h : i < l.length) : l.getD i d = l[i] := by
  rw [List.getD_eq_getElem?_getD, List.getElem?_eq_getElem h]; rfl
theorem wh_of (v : Vld n Q) {x : Int × Int} {r : Nat} (hx : x ∈ Q.getD r [] ∨ (x.2, x.1) ∈ Q.getD r []) : ∀ {i : Nat}, r < i → i ≤ Q.length → whP Q i x = some (r : Int)
  | 0, h, _ => by omega
  | i + 1, h, hl => by
    show whR (i : Int) (Q.getD i []) (whP Q i) x = _
    rw [whR_eq]
    by_cases e : r = i
    · subst e; rw [if_pos hx]
    · rw [if_neg, wh_of v hx (by omega) (by omega)]
      rw [getD_at (show i < Q.length by omega)]
      rw [getD_at (show r < Q.length by omega)] at hx
      have ds := vld_ds v (show r < i by omega) (by omega)
      rintro (h2 | h2) <;> rcases hx with hx | hx
      · exact (ds _ hx _ h2).1 rfl
      · exact (ds _ hx _ h2).2 rfl
      · exact (ds _ hx _ h2).2 rfl
      · exact (ds _ hx _ h2).1 rfl
theorem wh_op (v : Vld n Q) {i j : Nat} (hi : i < n) {r : Nat} (hr : r < Q.length) : whP Q Q.length ((i : Int), (j : Int)) = some (r : Int) ↔ opF (Q.getD r []) (i : Int) = (j : Int) := by
  have hrd := v.rnd (Q[r]) (List.getElem_mem hr)
  constructor
  · intro h
    obtain ⟨r', h1, h2, h3⟩ := wh_some h
    have : r = r' := by omega
    subst this
    rw [getD_at hr] at h3 ⊢
    exact op_of (rnd_nd hrd) h3
  · intro h
    have hm := op_mem (rnd_all hrd (t := (i : Int)) (by omega))
    rw [getD_at hr] at h
    rw [h] at hm
    exact wh_of v (by rw [getD_at hr]; exact hm) hr (Nat.le_refl _)
theorem wh_bd {x : Int × Int} {a : Int} (h : whP Q Q.length x = some a) : 0 ≤ a ∧ a < (Q.length : Int) := by
  obtain ⟨r, h1, h2, _⟩ := wh_some h
  omega
theorem op_in (v : Vld n Q) {r : Nat} (hr : r < Q.length) {t : Nat} (ht : t < n) : ∃ u : Nat, u < n ∧ opF (Q.getD r []) (t : Int) = (u : Int) := by
  have hrd := v.rnd (Q[r]) (List.getElem_mem hr)
  rw [getD_at hr]
  rcases op_mem (rnd_all hrd (t := (t : Int)) (by omega)) with h | h
  · have := (rnd_e hrd _ h).2.1
    exact ⟨(opF Q[r] (t : Int)).toNat, by omega, by omega⟩
  · have := (rnd_e hrd _ h).1
    exact ⟨(opF Q[r] (t : Int)).toNat, by omega, by omega⟩
theorem sm_at {g : Nat → Int} {r0 : Nat} : ∀ {L : Nat}, r0 < L → (∀ r, r < L → r ≠ r0 → g r = 0) → sm g L = g r0
  | 0, h, _ => by omega
  | L + 1, h, hz => by
    show sm g L + g L = _
    by_cases e : r0 = L
    · subst e
      rw [show sm g r0 = sm (fun _ => 0) r0 from sm_cong r0 fun t ht => hz t (by omega) (by omega), sm_zero]; omega
    · rw [sm_at (by omega) (fun r hr hne => hz r (by omega) hne), hz L (by omega) (fun q => e q.symm)]; omega
/-- Who follows t from round r on. -/
def nxT (Q : List (List (Int × Int))) (t : Int) (r : Nat) : Int := opF (Q.getD ((r + 1) % Q.length) []) (opF (Q.getD r []) t)
def rfI (Q : List (List (Int × Int))) (t k : Int) (m : Nat) : Int := sm (fun r => if nxT Q t r = k then 1 else 0) m
theorem fol_rf (v : Vld n Q) {i k : Nat} (hi : i < n) : folI (whP Q Q.length) Q.length (i : Int) (k : Int) n = rfI Q (i : Int) (k : Int) Q.length := by
  have e1 : ∀ j, j < n → (if folB (whP Q Q.length) Q.length (i : Int) (k : Int) (j : Int) = true then (1 : Int) else 0) = sm (fun r => if opF (Q.getD r []) (i : Int) = (j : Int) ∧ opF (Q.getD ((r + 1) % Q.length) []) (j : Int) = (k : Int) then 1 else 0) Q.length := fun j hj => by
    cases hw : whP Q Q.length ((i : Int), (j : Int)) with
    | none =>
      have hB : folB (whP Q Q.length) Q.length (i : Int) (k : Int) (j : Int) = false := by unfold folB; rw [hw]
      rw [hB, if_neg (by simp), sm_cong (g := fun _ => 0) _ fun r hr => ?_, sm_zero]
      rw [if_neg]
      rintro ⟨h, _⟩
      rw [(wh_op v hi hr).2 h] at hw; cases hw
    | some a =>
      obtain ⟨r0, rfl, hr0, _⟩ := wh_some hw
      have ho := (wh_op v hi hr0).1 hw
      rw [sm_at hr0 (fun r hr hne => ?_)]
      · have hp : (r0 + 1) % Q.length < Q.length := Nat.mod_lt _ (by omega)
        have hB : folB (whP Q Q.length) Q.length (i : Int) (k : Int) (j : Int) = decide (opF (Q.getD ((r0 + 1) % Q.length) []) (j : Int) = (k : Int)) := by
          have hm : ((r0 : Int) + 1).tmod (Q.length : Int) = (((r0 + 1) % Q.length : Nat) : Int) := rfl
          unfold folB
          rw [hw]
          cases hw2 : whP Q Q.length ((j : Int), (k : Int)) with
          | none =>
            refine (decide_eq_false fun h => ?_).symm
            rw [(wh_op v hj hp).2 h] at hw2; cases hw2
          | some b =>
            show decide (b = ((r0 : Int) + 1).tmod (Q.length : Int)) = _
            rw [hm]
            congr 1
            refine propext ⟨fun h => (wh_op v hj hp).1 (by rw [hw2, h]), fun h => ?_⟩
            have := (wh_op v hj hp).2 h
            rw [hw2] at this; injection this
        rw [hB]
        by_cases h : opF (Q.getD ((r0 + 1) % Q.length) []) (j : Int) = (k : Int)
        · rw [decide_eq_true h, if_pos rfl, if_pos ⟨ho, h⟩]
        · rw [decide_eq_false h, if_neg (by simp), if_neg (fun q => h q.2)]
      · rw [if_neg]
        rintro ⟨h, _⟩
        have := (wh_op v hi hr).2 h
        rw [hw] at this
        injection this with this
        omega
  unfold folI rfI
  rw [sm_cong _ e1, sm_swap (e := fun r j => if opF (Q.getD r []) (i : Int) = (j : Int) ∧ opF (Q.getD ((r + 1) % Q.length) []) (j : Int) = (k : Int) then 1 else 0)]
  refine sm_cong _ fun r hr => ?_
  obtain ⟨u, hu, he⟩ := op_in v hr hi
  rw [sm_at hu (fun j _ hne => by rw [if_neg]; rintro ⟨h, _⟩; rw [he] at h; omega)]
  unfold nxT
  rw [he]
  by_cases h : opF (Q.getD ((r + 1) % Q.length) []) (u : Int) = (k : Int)
  · rw [if_pos ⟨rfl, h⟩, if_pos h]
  · rw [if_neg (fun q => h q.2), if_neg h]
end
end Go.Ev
