/-
  Rounds: rings, of the reference.
  Rounds: one ring, whichever round is the first.
  Rounds: whether a schedule is perfect; rings of two rounds.
  Rounds: schedules that are made.
  Rounds: is it a round, a beginning, a schedule? (the reference)
  Rounds: schedules that are made, checked by the reference.
  Rounds: the law RoundsFollows.
  Rounds: sums of follow numbers; other names.
  Rounds: Rings of the program; the law RoundsSums.
  Rounds: few; what is no schedule gives the same error.
  Rounds: the laws RoundsChecks and RoundsRings.
-/
import Derived.Test.YthememdeglgnpaaPf
namespace Go.Ev
open Go Go.RowKit
noncomputable def f46_r0 : List EOper := [⟨(some (K.ofNat 6)), none, .as (.c .sn)⟩]
noncomputable def f46_r1 : List EOper := [⟨(some (K.ofNat 16)), none, .mv (.t (K.ofNat 0))⟩, ⟨(some (K.ofNat 17)), none, .mkslice 1 [(.b false)] (.t (K.ofNat 16))⟩, ⟨(some (K.ofNat 7)), none, .as (.t (K.ofNat 17))⟩]
noncomputable def f46_r2 : List EOper := [⟨(some (K.ofNat 8)), none, .as (.c .sn)⟩]
noncomputable def f46_r3 : List EOper := [⟨(some (K.ofNat 9)), none, .as (.c (.i .i64 (.ofNat 0)))⟩]
noncomputable def f46_r4 : List EOper := [⟨(some (K.ofNat 18)), none, .mv (.t (K.ofNat 9))⟩, ⟨(some (K.ofNat 19)), none, .mv (.t (K.ofNat 0))⟩, ⟨(some (K.ofNat 20)), none, .bin .lss (.t (K.ofNat 18)) (.t (K.ofNat 19))⟩]
noncomputable def f46_r5 : List EOper := [⟨(some (K.ofNat 10)), none, .as (.c (.i .i64 (.ofNat 0)))⟩]
noncomputable def f46_r6 : List EOper := [⟨(some (K.ofNat 23)), none, .mv (.t (K.ofNat 9))⟩, ⟨(some (K.ofNat 11)), none, .as (.t (K.ofNat 23))⟩]
noncomputable def f46_r7 : List EOper := [⟨(some (K.ofNat 24)), none, .mv (.t (K.ofNat 7))⟩, ⟨(some (K.ofNat 25)), none, .mv (.t (K.ofNat 11))⟩, ⟨(some (K.ofNat 26)), none, .iads 1 (.t (K.ofNat 24)) (.t (K.ofNat 25))⟩, ⟨(some (K.ofNat 27)), none, .ld (.t (K.ofNat 26))⟩, ⟨(some (K.ofNat 28)), none, .not (.t (K.ofNat 27))⟩]
noncomputable def f46_r8 : List EOper := [⟨(some (K.ofNat 29)), none, .mv (.t (K.ofNat 7))⟩, ⟨(some (K.ofNat 30)), none, .mv (.t (K.ofNat 11))⟩, ⟨(some (K.ofNat 31)), none, .iads 1 (.t (K.ofNat 29)) (.t (K.ofNat 30))⟩, ⟨none, none, .st 1 (.t (K.ofNat 31)) (.c (.b true))⟩]
noncomputable def f46_r9 : List EOper := [⟨(some (K.ofNat 33)), none, .mv (.t (K.ofNat 1))⟩, ⟨(some (K.ofNat 34)), none, .mv (.t (K.ofNat 11))⟩, ⟨(some (K.ofNat 35)), none, .call (.c (.fn (K.ofNat 64) [])) [(.t (K.ofNat 33)), (.t (K.ofNat 34))]⟩, ⟨(some (K.ofNat 32)), none, .mv (.t (K.ofNat 35))⟩, ⟨(some (K.ofNat 36)), none, .ext (.t (K.ofNat 32)) 0⟩, ⟨(some (K.ofNat 37)), none, .ext (.t (K.ofNat 32)) 1⟩, ⟨(some (K.ofNat 12)), none, .as (.t (K.ofNat 36))⟩, ⟨(some (K.ofNat 13)), none, .as (.t (K.ofNat 37))⟩]
noncomputable def f46_r10 : List EOper := [⟨(some (K.ofNat 38)), none, .mv (.t (K.ofNat 7))⟩, ⟨(some (K.ofNat 39)), none, .mv (.t (K.ofNat 13))⟩, ⟨(some (K.ofNat 40)), none, .iads 1 (.t (K.ofNat 38)) (.t (K.ofNat 39))⟩, ⟨none, none, .st 1 (.t (K.ofNat 40)) (.c (.b true))⟩]
noncomputable def f46_r11 : List EOper := [⟨(some (K.ofNat 42)), none, .mv (.t (K.ofNat 2))⟩, ⟨(some (K.ofNat 43)), none, .mv (.t (K.ofNat 13))⟩, ⟨(some (K.ofNat 44)), none, .call (.c (.fn (K.ofNat 64) [])) [(.t (K.ofNat 42)), (.t (K.ofNat 43))]⟩, ⟨(some (K.ofNat 41)), none, .mv (.t (K.ofNat 44))⟩, ⟨(some (K.ofNat 45)), none, .ext (.t (K.ofNat 41)) 0⟩, ⟨(some (K.ofNat 46)), none, .ext (.t (K.ofNat 41)) 1⟩, ⟨(some (K.ofNat 11)), none, .as (.t (K.ofNat 46))⟩]
noncomputable def f46_r12 : List EOper := [⟨(some (K.ofNat 47)), none, .mv (.t (K.ofNat 10))⟩, ⟨(some (K.ofNat 48)), none, .bin .add (.t (K.ofNat 47)) (.c (.i .i64 (.ofNat 2)))⟩, ⟨(some (K.ofNat 10)), none, .as (.t (K.ofNat 48))⟩]
noncomputable def f46_l0 : EC := (.seq (.seq (.reg f46_r7) (.cond (.t (K.ofNat 28)) .skip (.exit 2))) (.block 3 (.seq (.reg f46_r8) (.seq (.reg f46_r9) (.seq (.reg f46_r10) (.seq (.reg f46_r11) (.reg f46_r12)))))))
noncomputable def f46_r13 : List EOper := [⟨(some (K.ofNat 49)), none, .mv (.t (K.ofNat 10))⟩, ⟨(some (K.ofNat 50)), none, .bin .eql (.t (K.ofNat 49)) (.c (.i .i64 (.ofNat 0)))⟩]
noncomputable def f46_r14 : List EOper := [⟨(some (K.ofNat 14)), none, .as (.c (.i .i64 (.ofNat 0)))⟩]
noncomputable def f46_r15 : List EOper := [⟨(some (K.ofNat 51)), none, .mv (.t (K.ofNat 14))⟩, ⟨(some (K.ofNat 52)), none, .mv (.t (K.ofNat 8))⟩, ⟨(some (K.ofNat 53)), none, .len (.t (K.ofNat 52))⟩, ⟨(some (K.ofNat 54)), none, .bin .lss (.t (K.ofNat 51)) (.t (K.ofNat 53))⟩, ⟨(some (K.ofNat 55)), none, .mv (.t (K.ofNat 54))⟩, ⟨(some (K.ofNat 56)), (some ((K.ofNat 55), true)), .mv (.t (K.ofNat 8))⟩, ⟨(some (K.ofNat 57)), (some ((K.ofNat 55), true)), .mv (.t (K.ofNat 14))⟩, ⟨(some (K.ofNat 58)), (some ((K.ofNat 55), true)), .iads 1 (.t (K.ofNat 56)) (.t (K.ofNat 57))⟩, ⟨(some (K.ofNat 59)), (some ((K.ofNat 55), true)), .ld (.t (K.ofNat 58))⟩, ⟨(some (K.ofNat 60)), (some ((K.ofNat 55), true)), .mv (.t (K.ofNat 10))⟩, ⟨(some (K.ofNat 61)), (some ((K.ofNat 55), true)), .bin .leq (.t (K.ofNat 59)) (.t (K.ofNat 60))⟩, ⟨(some (K.ofNat 62)), none, .pick (.t (K.ofNat 55)) (.t (K.ofNat 61)) (.c (.b false))⟩]
noncomputable def f46_r16 : List EOper := [⟨(some (K.ofNat 63)), none, .mv (.t (K.ofNat 14))⟩, ⟨(some (K.ofNat 64)), none, .bin .add (.t (K.ofNat 63)) (.c (.i .i64 (.ofNat 1)))⟩, ⟨(some (K.ofNat 14)), none, .as (.t (K.ofNat 64))⟩]
noncomputable def f46_l1 : EC := (.seq (.seq (.reg f46_r15) (.cond (.t (K.ofNat 62)) .skip (.exit 4))) (.block 5 (.reg f46_r16)))
noncomputable def f46_r17 : List EOper := [⟨(some (K.ofNat 15)), none, .as (.c .sn)⟩]
noncomputable def f46_r18 : List EOper := [⟨(some (K.ofNat 65)), none, .mv (.t (K.ofNat 15))⟩, ⟨(some (K.ofNat 66)), none, .mv (.t (K.ofNat 8))⟩, ⟨(some (K.ofNat 67)), none, .mv (.t (K.ofNat 14))⟩, ⟨(some (K.ofNat 68)), none, .slice 1 (.t (K.ofNat 66)) none (some (.t (K.ofNat 67))) none⟩, ⟨(some (K.ofNat 69)), none, .app 1 (.t (K.ofNat 65)) (.t (K.ofNat 68))⟩, ⟨(some (K.ofNat 15)), none, .as (.t (K.ofNat 69))⟩]
noncomputable def f46_r19 : List EOper := [⟨(some (K.ofNat 70)), none, .mv (.t (K.ofNat 15))⟩, ⟨(some (K.ofNat 71)), none, .mv (.t (K.ofNat 10))⟩, ⟨(some (K.ofNat 72)), none, .bslice 1 1 [(.i .i64 (.ofNat 0))] [(0, 1, (.t (K.ofNat 71)))]⟩, ⟨(some (K.ofNat 73)), none, .app 1 (.t (K.ofNat 70)) (.t (K.ofNat 72))⟩, ⟨(some (K.ofNat 15)), none, .as (.t (K.ofNat 73))⟩]
noncomputable def f46_r20 : List EOper := [⟨(some (K.ofNat 74)), none, .mv (.t (K.ofNat 15))⟩, ⟨(some (K.ofNat 75)), none, .mv (.t (K.ofNat 8))⟩, ⟨(some (K.ofNat 76)), none, .mv (.t (K.ofNat 14))⟩, ⟨(some (K.ofNat 77)), none, .slice 1 (.t (K.ofNat 75)) (some (.t (K.ofNat 76))) none none⟩, ⟨(some (K.ofNat 78)), none, .app 1 (.t (K.ofNat 74)) (.t (K.ofNat 77))⟩, ⟨(some (K.ofNat 8)), none, .as (.t (K.ofNat 78))⟩]
noncomputable def f46_r21 : List EOper := [⟨(some (K.ofNat 21)), none, .mv (.t (K.ofNat 9))⟩, ⟨(some (K.ofNat 22)), none, .bin .add (.t (K.ofNat 21)) (.c (.i .i64 (.ofNat 1)))⟩, ⟨(some (K.ofNat 9)), none, .as (.t (K.ofNat 22))⟩]
noncomputable def f46_l2 : EC := (.seq (.seq (.reg f46_r4) (.cond (.t (K.ofNat 20)) .skip (.exit 0))) (.seq (.block 1 (.seq (.reg f46_r5) (.seq (.seq (.reg f46_r6) (.block 2 (.loop f46_l0))) (.seq (.seq (.reg f46_r13) (.cond (.t (K.ofNat 50)) (.exit 1) .skip)) (.seq (.reg f46_r14) (.seq (.block 4 (.loop f46_l1)) (.seq (.reg f46_r17) (.seq (.reg f46_r18) (.seq (.reg f46_r19) (.reg f46_r20)))))))))) (.reg f46_r21)))
noncomputable def f46_r22 : List EOper := [⟨(some (K.ofNat 79)), none, .mv (.t (K.ofNat 8))⟩, ⟨(some (K.ofNat 6)), none, .as (.t (K.ofNat 79))⟩]
noncomputable def f46_c : EC := (.seq (.reg f46_r0) (.seq (.reg f46_r1) (.seq (.reg f46_r2) (.seq (.seq (.reg f46_r3) (.block 0 (.loop f46_l2))) (.seq (.reg f46_r22) .ret)))))
noncomputable def f46 : EF := ⟨80, [.tmp (K.ofNat 6)], f46_c, none⟩
theorem f46_rs : f46.rs = [.tmp (K.ofNat 6)] := of_eq_true (eq_self _)
def bE (b : Bool) : V := .b b
theorem mks_bo {h : H} {k : IntKind} {n : Nat} (hn : n ≤ 1000000) : mksV 1 [.b false] h (.i k (n : Int)) = .ok (.sl h.nx 0 n 1) (h.new (.cells (n * 1) (rep [.b false] n))) := by
  show (bif Nat.ble n 1000000 then RV.ok (.sl h.nx 0 n 1) (h.new (.cells (n * 1) (rep [.b false] n))) else .no) = _
  rw [Nat.ble_eq_true_of_le hn]; rfl
theorem mkbo_sl {h : H} {n : Nat} : Sl bE (h.new (.cells (n * 1) (rep [.b false] n))) (.sl h.nx 0 n 1) (List.replicate n false) :=
  .inr ⟨h.nx, 0, n * 1, rep [.b false] n, by rw [List.length_replicate], get_new_same, by rw [rep_cell, List.length_replicate, Nat.mul_one], by rw [List.length_replicate]; omega, fun i hi => by
    have hi : i < n := by simpa using hi
    rw [rep_cell, Nat.zero_add, List.getElem?_replicate, if_pos hi, List.getElem_replicate]; rfl⟩
def mtL (n : Nat) (L : List Int) : List Bool := (List.range n).map fun (i : Nat) => decide ((i : Int) ∈ L)
theorem mtL_len {n : Nat} {L : List Int} : (mtL n L).length = n := by simp [mtL]
theorem mtL_0 {n : Nat} : mtL n [] = List.replicate n false := by
  apply List.ext_getElem
  · simp [mtL]
  · intro x h1 h2; simp [mtL]
theorem mtL_at {n i : Nat} {L : List Int} (hi : i < (mtL n L).length) : (mtL n L)[i] = decide ((i : Int) ∈ L) := by simp [mtL]
theorem mtL_set {n x : Nat} {L : List Int} : (mtL n L).set x true = mtL n (L ++ [(x : Int)]) := by
  apply List.ext_getElem
  · simp [mtL]
  · intro y h1 h2
    simp only [List.getElem_set, mtL, List.getElem_map, List.getElem_range]
    by_cases e : x = y
    · subst e; simp
    · rw [if_neg e]
      congr 1
      refine propext ⟨fun h => List.mem_append_left _ h, fun h => ?_⟩
      rcases List.mem_append.1 h with h | h
      · exact h
      · have := List.mem_singleton.1 h; omega
/-- A new ring meets none of what was met. -/
theorem ring_new {A B : Int → Int} {n : Nat} {M : List Int} (iA : Inv A n) (iB : Inv B n) (cA : ∀ z ∈ M, A z ∈ M) (cB : ∀ z ∈ M, B z ∈ M) {x : Int} (hx : 0 ≤ x ∧ x < (n : Int)) (hn : x ∉ M) : A x ∉ M ∧ B (A x) ∉ M :=
  ⟨fun h => by
    have := cA _ h
    rw [iA.inv _ hx] at this
    exact hn this, ring_out iA iB cA cB hx hn⟩
section
variable {fs : T EF} {h : H} {va vb : V} {a b : List (Int × Int)} {n : Nat}
structure MtI (h : H) (n : Nat) (M : List Int) (v w : V) (S : List Int) (h1 : H) : Prop where
  gr : Grow h.nx.nat h h1
  mt : Sl bE h1 v (mtL n M)
  ow : Own h.nx.nat v
  out : Sl iE h1 w S
  oo : Own h.nx.nat w
  sep : ∀ id off n sz, w = .sl id off n sz → NotIn id v
def f46_I (h : H) (va vb v : V) (a b : List (Int × Int)) (n t : Nat) (fr : Fr) (h1 : H) : Prop := t ≤ n ∧ ∃ w, MtI h n (rgs (opF a) (opF b) n t).1 v w (srtL (rgs (opF a) (opF b) n t).2) h1 ∧ fr.get (K.ofNat 0) = some (.i .i64 (n : Int)) ∧ fr.get (K.ofNat 1) = some (va) ∧ fr.get (K.ofNat 2) = some (vb) ∧ fr.get (K.ofNat 7) = some (v) ∧ fr.get (K.ofNat 8) = some (w) ∧ fr.get (K.ofNat 9) = some (.i .i64 (t : Int))
def f46_J (h : H) (va vb v w : V) (a b : List (Int × Int)) (n t : Nat) (k : Nat) (fr : Fr) (h1 : H) : Prop := ∃ (x : Nat) (L : List Int), RingI (opF a) (opF b) n (t : Int) (x : Int) L ∧ n < 2 * k + L.length ∧ ringR (opF a) (opF b) k (x : Int) L = ringR (opF a) (opF b) n (t : Int) [] ∧ (x : Int) ∉ (rgs (opF a) (opF b) n t).1 ∧ MtI h n ((rgs (opF a) (opF b) n t).1 ++ L) v w (srtL (rgs (opF a) (opF b) n t).2) h1 ∧ fr.get (K.ofNat 0) = some (.i .i64 (n : Int)) ∧ fr.get (K.ofNat 1) = some (va) ∧ fr.get (K.ofNat 2) = some (vb) ∧ fr.get (K.ofNat 7) = some (v) ∧ fr.get (K.ofNat 8) = some (w) ∧ fr.get (K.ofNat 9) = some (.i .i64 (t : Int)) ∧ fr.get (K.ofNat 10) = some (.i .i64 (L.length : Int)) ∧ fr.get (K.ofNat 11) = some (.i .i64 (x : Int))
def f46_K (h2 : H) (va vb v w : V) (S : List Int) (R : Int) (n t : Nat) (k : Nat) (fr : Fr) (h1 : H) : Prop := k ≤ S.length ∧ h1 = h2 ∧ (∀ y ∈ S.take k, y ≤ R) ∧ fr.get (K.ofNat 0) = some (.i .i64 (n : Int)) ∧ fr.get (K.ofNat 1) = some (va) ∧ fr.get (K.ofNat 2) = some (vb) ∧ fr.get (K.ofNat 7) = some (v) ∧ fr.get (K.ofNat 8) = some (w) ∧ fr.get (K.ofNat 9) = some (.i .i64 (t : Int)) ∧ fr.get (K.ofNat 10) = some (.i .i64 R) ∧ fr.get (K.ofNat 14) = some (.i .i64 (k : Int))
theorem f46_ret (h64 : fs.get (K.ofNat 64) = some f64) (hva : Srp h va a) (hvb : Srp h vb b) (hla : a.length ≤ 1000000) (hlb : b.length ≤ 1000000) (hra : rndB n a = true) (hrb : rndB n b = true) (hn : n ≤ 12) (hn1 : 1 ≤ n) (hc : HC h) : Ret fs f46 [.i .i64 (n : Int), va, vb] h fun r h' => Sl iE h' r (rgL a b n) ∧ Grow h.nx.nat h h' := by
  have iA := rnd_inv hra
  have iB := rnd_inv hrb
  apply ret_of rfl
  show W fs none f46_c _ _ _
  unfold f46_c
  have hmk := mks_bo (h := h) (k := .i64) (n := n) (by omega)
  have hs0 := mkbo_sl (h := h) (n := n)
  rw [← mtL_0] at hs0
  have gD := Grow.new (Nat.le_refl h.nx.nat) (.cells (n * 1) (rep [.b false] n))
  simp (disch := omega) only [f46_r0, f46_r1, f46_r2, f46_r3, w_reg, w_seq, w_block, seqK_n, x_nil, x_mv, x_as, x_mks, kx, rvP_ok, ev_t, ev_c, getV_some, putD_some, frame_3, of0, getK_set, Nat.reduceEqDiff, ↓reduceIte, hmk]
  refine W_loop (f46_I h va vb (.sl h.nx 0 n 1) a b n) (fun t => n - t) ?_ 0 ⟨by omega, .sn, ⟨gD, hs0, (fun _ _ _ _ e => (by cases e; exact Nat.le_refl _)), Sl.nil, Own.sn, fun _ _ _ _ e => (by cases e)⟩, by simp (disch := omega) only [getK_set, Nat.reduceEqDiff, ↓reduceIte, and_self, Int.natCast_zero]⟩
  clear hmk hs0 gD
  generalize V.sl h.nx 0 n 1 = v
  rintro t fr h1 ⟨ht, w, hM, g0, g1, g2, g7, g8, g9⟩
  have hc1 := hM.gr.hc hc
  have hR := rgs_I iA iB hn1 ht
  unfold f46_l2
  by_cases hlt : t < n
  · have d0 : decide ((t : Int) < (n : Int)) = true := by simpa using hlt
    simp (disch := omega) only [f46_r4, f46_r5, f46_r6, w_skip, w_reg, w_seq, w_cond, w_block, seqK_n, ckB_b, cbB_b, true_and, x_nil, x_mv, x_as, x_bin, kx, rvP_ok, okv_some, ev_t, ev_c, getV_some, putD_some, bin_lss, of0, getK_set, Nat.reduceEqDiff, ↓reduceIte, g0, g9, d0]
    by_cases hin : (t : Int) ∈ (rgs (opF a) (opF b) n t).1
    · have hrs : rgs (opF a) (opF b) n (t + 1) = rgs (opF a) (opF b) n t := by
        show (if _ then _ else _) = _
        rw [if_pos hin]
      refine W_loop (fun (_ : Unit) fr h2 => h2 = h1 ∧ fr.get (K.ofNat 0) = some (.i .i64 (n : Int)) ∧ fr.get (K.ofNat 1) = some (va) ∧ fr.get (K.ofNat 2) = some (vb) ∧ fr.get (K.ofNat 7) = some (v) ∧ fr.get (K.ofNat 8) = some (w) ∧ fr.get (K.ofNat 9) = some (.i .i64 (t : Int)) ∧ fr.get (K.ofNat 10) = some (.i .i64 0) ∧ fr.get (K.ofNat 11) = some (.i .i64 (t : Int))) (fun _ => 0) ?_ () ⟨rfl, by simp (disch := omega) only [getK_set, Nat.reduceEqDiff, ↓reduceIte, g0, g1, g2, g7, g8, g9, and_self]⟩
      clear g0 g1 g2 g7 g8 g9 fr
      rintro _ fr h2 ⟨rfl, g0, g1, g2, g7, g8, g9, g10, g11⟩
      unfold f46_l0
      obtain ⟨p, p1, p2⟩ := hM.mt.at t (by rw [mtL_len]; exact hlt)
      rw [mtL_at, decide_eq_true hin] at p2
      have d1 : decide ((0 : Int) = 0) = true := rfl
      simp (disch := omega) only [f46_r7, f46_r13, f46_r21, w_reg, w_seq, w_cond, w_exit, seqK_n, seqK_e, atK_e, loopK_n, loopK_e, ckB_b, cbB_b, true_and, x_nil, x_mv, x_as, x_ld, x_bin, x_not, x_iads, kx, rvP_ok, okv_some, ev_t, ev_c, getV_some, putD_some, bin_add, bin_eql, onB_b, of0, of1, getK_set, Nat.reduceEqDiff, ↓reduceIte, Bool.false_eq_true, decide_eq_true_eq, Bool.not_true, g7, g9, g10, g11, p1, p2, bE, Bool.not_true, fw64]
      exact ⟨t + 1, by omega, by omega, w, by rw [hrs]; exact hM, by simp (disch := omega) only [getK_set, Nat.reduceEqDiff, ↓reduceIte, g0, g1, g2, g7, g8, and_self, Int.natCast_add, Int.natCast_one]⟩
    · have hrs : rgs (opF a) (opF b) n (t + 1) = ((rgs (opF a) (opF b) n t).1 ++ ringR (opF a) (opF b) n (t : Int) [], (rgs (opF a) (opF b) n t).2 ++ [((ringR (opF a) (opF b) n (t : Int) []).length : Int)]) := by
        show (if _ then _ else _) = _
        rw [if_neg hin]
      have hE := ring_E iA iB (RingI.init (A := opF a) (B := opF b) (n := n) (t := (t : Int)) (by omega)) (k := n) (by simp; omega)
      refine W_loop (f46_J h va vb v w a b n t) (fun k => k) ?_ n ⟨t, [], RingI.init (by omega), by simp; omega, rfl, hin, by rw [List.append_nil]; exact hM, by simp (disch := omega) only [getK_set, Nat.reduceEqDiff, ↓reduceIte, g0, g1, g2, g7, g8, g9, and_self, List.length_nil, Int.natCast_zero]⟩
      clear hM g0 g1 g2 g7 g8 g9 fr
      rintro q fr h2 ⟨x, L, hI, hq, he, hxM, hM, g0, g1, g2, g7, g8, g9, g10, g11⟩
      have hc2 := hM.gr.hc hc
      have hxr := hI.xr
      have hxn : x < n := by omega
      unfold f46_l0
      obtain ⟨p, p1, p2⟩ := hM.mt.at x (by rw [mtL_len]; exact hxn)
      rw [mtL_at] at p2
      cases hd : decide ((x : Int) ∈ (rgs (opF a) (opF b) n t).1 ++ L) with
      | false =>
        have hxL : (x : Int) ∉ L := fun h => of_decide_eq_false hd (List.mem_append_right _ h)
        rw [hd] at p2
        obtain ⟨q, rfl⟩ : ∃ q', q = q' + 1 := ⟨q - 1, by have := hI.lt iA iB hxL; omega⟩
        have hst := hI.step iA iB hxL
        have hyr := iA.rng _ hI.xr
        have hzr := iB.rng _ hyr
        obtain ⟨_, hzM⟩ := ring_new iA iB hR.clA hR.clB hI.xr hxM
        have he : ringR (opF a) (opF b) q (opF b (opF a (x : Int))) (L ++ [(x : Int), opF a (x : Int)]) = ringR (opF a) (opF b) n (t : Int) [] := by
          rw [← he]
          show _ = if (x : Int) ∈ L then L else _
          rw [if_neg hxL]
        have hh1 := (homeP_nd (t := (x : Int)) (rnd_nd hra)).2 (rnd_all hra hxr)
        have hh2 := (homeP_nd (t := opF a (x : Int)) (rnd_nd hrb)).2 (rnd_all hrb hyr)
        obtain ⟨y, hy⟩ : ∃ y : Nat, opF a (x : Int) = (y : Int) := ⟨(opF a (x : Int)).toNat, by omega⟩
        rw [hy] at hst hyr hzr he hh1 hh2 hzM
        obtain ⟨z, hz⟩ : ∃ z : Nat, opF b (y : Int) = (z : Int) := ⟨(opF b (y : Int)).toNat, by omega⟩
        rw [hz] at hst he hh2 hzM
        -- the first store
        obtain ⟨p', id, m, cs', z1, z2, z3, ⟨off, nn, sz, z4⟩, z5⟩ := hM.mt.st (i := x) (by rw [mtL_len]; exact hxn) (x := true) (c := .b true) rfl rfl hc2
        obtain rfl : p = p' := by have := (p1 .i64 h2).symm.trans (z1 .i64 h2); injection this
        rw [mtL_set] at z3
        have hidb := hM.ow _ _ _ _ z4
        have hG3 : Grow h.nx.nat h2 (h2.put id (.cells m cs')) := Grow.put hidb z5 _
        have hc3 := hG3.hc hc2
        have nw : NotIn id w := fun off' n' sz' e' => hM.sep _ _ _ _ e' _ _ _ z4
        obtain ⟨p3, id3, m3, cs3, y1, y2, y3, ⟨off3, nn3, sz3, y4⟩, y5⟩ := z3.st (i := y) (by rw [mtL_len]; omega) (x := true) (c := .b true) rfl rfl hc3
        rw [mtL_set] at y3
        have nw3 : NotIn id3 w := fun off' n' sz' e' => hM.sep _ _ _ _ e' _ _ _ y4
        have hidb3 := hM.ow _ _ _ _ y4
        have hG4 : Grow h.nx.nat (h2.put id (.cells m cs')) ((h2.put id (.cells m cs')).put id3 (.cells m3 cs3)) := Grow.put hidb3 y5 _
        have va2 := (hva.grow hc hM.gr)
        have va3 : Srp (h2.put id (.cells m cs')) va a := hva.grow hc (hM.gr.trans hG3)
        have vb4 : Srp ((h2.put id (.cells m cs')).put id3 (.cells m3 cs3)) vb b := hvb.grow hc ((hM.gr.trans hG3).trans hG4)
        have hout := (hM.out.put nw (.cells m cs')).put nw3 (.cells m3 cs3)
        have hlen2 : ((L ++ [(x : Int), (y : Int)]).length : Int) = (L.length : Int) + 2 := by simp
        have hLl := hI.le
        simp (disch := omega) only [f46_r7, f46_r8, w_skip, w_reg, w_seq, w_cond, w_block, seqK_n, ckB_b, cbB_b, true_and, x_nil, x_mv, x_ld, x_st, x_not, x_iads, kx, rvP_ok, ev_t, ev_c, getV_some, putD_some, putD_none, onB_b, getK_set, Nat.reduceEqDiff, ↓reduceIte, Bool.not_false, g7, g11, p1, p2, bE, Bool.not_false, z2]
        simp (disch := omega) only [f46_r9, x_mv, x_call, ev_t, ev_c, evs_nil, evs_cons, getV_some, putD_some, getK_set, Nat.reduceEqDiff, ↓reduceIte, g1, g11]
        refine (callP_0 (ef := f64) h64 rfl (f64_ret (t := (x : Int)) va3 hla)).mono ?_
        rintro r h3 ⟨rfl, rfl⟩
        rw [hh1]
        simp (disch := omega) only [f46_r10, f46_r11, w_reg, w_seq, seqK_n, x_nil, x_mv, x_as, x_st, x_iads, x_ext, x_call, kx, rvP_ok, okv_some, ev_t, ev_c, evs_nil, evs_cons, getV_some, putD_some, putD_none, onTup_t, nth0, nth1, getK_set, Nat.reduceEqDiff, ↓reduceIte, g2, g7, y1, y2]
        refine (callP_0 (ef := f64) h64 rfl (f64_ret (t := (y : Int)) vb4 hlb)).mono ?_
        rintro r h4 ⟨rfl, rfl⟩
        rw [hh2]
        simp (disch := omega) only [f46_r12, w_reg, seqK_n, atK_n, loopK_n, x_nil, x_mv, x_as, x_bin, x_ext, kx, rvP_ok, okv_some, ev_t, ev_c, getV_some, putD_some, bin_add, onTup_t, nth0, nth1, of2, getK_set, Nat.reduceEqDiff, ↓reduceIte, g10, fw64]
        refine ⟨q, by omega, z, _, hst, by simp; omega, he, hzM, ⟨(hM.gr.trans hG3).trans hG4, ?_, hM.ow, hout, hM.oo, hM.sep⟩, by simp (disch := omega) only [getK_set, Nat.reduceEqDiff, ↓reduceIte, g0, g1, g2, g7, g8, g9, and_self, hlen2]⟩
        rw [List.append_assoc, List.append_assoc] at y3
        exact y3
      | true =>
        have hxL : (x : Int) ∈ L := by
          rcases List.mem_append.1 (of_decide_eq_true hd) with h | h
          · exact absurd h hxM
          · exact h
        have hL : ringR (opF a) (opF b) q (x : Int) L = L := by
          cases q with
          | zero => rfl
          | succ q => unfold ringR; rw [if_pos hxL]
        rw [hL] at he
        subst he
        have hl2 : 1 ≤ (ringR (opF a) (opF b) n (t : Int) []).length := List.length_pos_of_mem hE.mem
        have hl3 := hI.le
        have hf := hR.few
        have hsl := srtL_len (S := (rgs (opF a) (opF b) n t).2)
        have hsn := srtL_snoc (S := (rgs (opF a) (opF b) n t).2) (x := ((ringR (opF a) (opF b) n (t : Int) []).length : Int))
        rw [hd] at p2
        generalize ringR (opF a) (opF b) n (t : Int) [] = R at *
        generalize hSe : srtL (rgs (opF a) (opF b) n t).2 = S at *
        have d1 : decide ((R.length : Int) = 0) = false := decide_eq_false (by omega)
        have hwl := hM.out.len
        simp (disch := omega) only [f46_r7, f46_r13, f46_r14, w_skip, w_reg, w_seq, w_cond, w_block, w_exit, seqK_n, seqK_e, atK_e, loopK_e, ckB_b, cbB_b, true_and, x_nil, x_mv, x_as, x_ld, x_bin, x_not, x_iads, kx, rvP_ok, okv_some, ev_t, ev_c, getV_some, putD_some, bin_eql, onB_b, of0, getK_set, Nat.reduceEqDiff, ↓reduceIte, Bool.false_eq_true, Bool.not_true, g7, g10, g11, p1, p2, bE, Bool.not_true, d1]
        refine W_loop (f46_K h2 va vb v w S (R.length : Int) n t) (fun k => S.length - k) ?_ 0 ⟨by omega, rfl, by simp, by simp (disch := omega) only [getK_set, Nat.reduceEqDiff, ↓reduceIte, g0, g1, g2, g7, g8, g9, g10, and_self, Int.natCast_zero]⟩
        clear g0 g1 g2 g7 g8 g9 g10 g11 fr
        rintro k fr h3 ⟨hk, rfl, hall, g0, g1, g2, g7, g8, g9, g10, g14⟩
        unfold f46_l1
        -- what is done at the end
        have fin : (∀ y ∈ (S.drop k).head?, ¬ y ≤ (R.length : Int)) → ∀ fr, fr.get (K.ofNat 0) = some (.i .i64 (n : Int)) ∧ fr.get (K.ofNat 1) = some (va) ∧ fr.get (K.ofNat 2) = some (vb) ∧ fr.get (K.ofNat 7) = some (v) ∧ fr.get (K.ofNat 8) = some (w) ∧ fr.get (K.ofNat 9) = some (.i .i64 (t : Int)) ∧ fr.get (K.ofNat 10) = some (.i .i64 (R.length : Int)) ∧ fr.get (K.ofNat 14) = some (.i .i64 (k : Int)) → Go.Ev.X fs f46_r17 (seqK (W fs none ((EC.reg f46_r18).seq ((EC.reg f46_r19).seq (EC.reg f46_r20)))) (atK 1 (seqK (W fs none (.reg f46_r21)) (loopK (f46_I h va vb v a b n) (fun t => n - t) t (atK 0 (seqK (W fs none ((EC.reg f46_r22).seq EC.ret)) (retK f46 fun r h' => Sl iE h' r (rgL a b n) ∧ Grow h.nx.nat h h')))))) .normal) fr h3 := by
          clear g0 g1 g2 g7 g8 g9 g10 g14 fr
          rintro hB fr ⟨g0, g1, g2, g7, g8, g9, g10, g14⟩
          have e := insL_app hB hall
          rw [List.take_append_drop] at e
          obtain ⟨w1, c1, d1, _⟩ := hM.out.sr.cut (lo := none) (hi := some (.i .i64 (k : Int))) (l := 0) (u := k) bnd_none bnd_i (by omega) hk
          obtain ⟨x1, h4, a1, s1, o1, gr1, _⟩ := Sl.appR (b := h3.nx.nat) (Sl.nil (e := iE)) Own.sn (Nat.le_refl _) d1 hc2 (by simp; omega)
          have hc4 := gr1.hc hc2
          obtain ⟨x2, h5, a2, s2, o2, gr2, _⟩ := Sl.push (e := iE) (x := (R.length : Int)) (c := .i .i64 (R.length : Int)) rfl s1 o1 gr1.nx hc4 (by simp; omega)
          have hG5 := gr1.trans gr2
          have hc5 := hG5.hc hc2
          obtain ⟨w2, c2, d2, _⟩ := (hM.out.grow hc2 hG5).sr.cut (lo := some (.i .i64 (k : Int))) (hi := none) (l := k) (u := S.length) bnd_i bnd_none hk (Nat.le_refl _)
          obtain ⟨x3, h6, a3, s3, o3, gr3, _⟩ := Sl.appR s2 o2 hG5.nx d2 hc5 (by simp; omega)
          have hG6 := hG5.trans gr3
          have hnew : (([] ++ (S.take k).drop 0) ++ [(R.length : Int)]) ++ (S.take S.length).drop k = insL (R.length : Int) S := by
            rw [e, List.take_length, List.drop_zero, List.nil_append, List.append_assoc]; rfl
          rw [hnew, ← hsn] at s3
          have vlt := hM.mt.lt hc2
          simp (disch := omega) only [f46_r17, f46_r18, f46_r19, f46_r20, f46_r21, w_reg, w_seq, seqK_n, atK_n, loopK_n, x_nil, x_mv, x_as, x_bslice, x_bin, x_slice, sliceV_eq, Option.map_none, Option.map_some, x_app, kx, rvP_ok, okv_some, ev_t, ev_c, getV_some, putD_some, bin_add, oGet_s, cells1_i, fill_1, set_1, of0, of1, getK_set, Nat.reduceEqDiff, ↓reduceIte, g8, g9, g10, g14, c1, a1, a2, c2, a3, fill_1, set_1, fw64]
          exact ⟨t + 1, by omega, by omega, x3, ⟨hM.gr.trans (hG6.low hM.gr.nx), by rw [hrs]; exact hM.mt.grow hc2 hG6, hM.ow, by rw [hrs]; exact s3, o3.low hM.gr.nx, fun id off n sz e off' n' sz' e' => by have := o3 _ _ _ _ e; have := vlt _ _ _ _ e'; omega⟩, by simp (disch := omega) only [getK_set, Nat.reduceEqDiff, ↓reduceIte, g0, g1, g2, g7, and_self, Int.natCast_add, Int.natCast_one]⟩
        by_cases hlt3 : k < S.length
        · have d2 : decide ((k : Int) < (S.length : Int)) = true := by simpa using hlt3
          obtain ⟨q2, s1, s2⟩ := hM.out.at k hlt3
          have htk := List.take_succ_eq_append_getElem hlt3
          have hdk : S.drop k = S[k] :: S.drop (k + 1) := List.drop_eq_getElem_cons hlt3
          rw [hdk] at fin
          generalize S[k] = s at *
          cases d3 : decide (s ≤ (R.length : Int)) with
          | true =>
            have hs := of_decide_eq_true d3
            simp (disch := omega) only [f46_r15, f46_r16, w_skip, w_reg, w_seq, w_cond, w_block, seqK_n, atK_n, loopK_n, ckB_b, cbB_b, okG_b, asG_t, true_and, x_nil, x_g, x_mv, x_as, x_pick, x_ld, x_bin, x_iads, x_len, kx, rvP_ok, okv_some, ev_t, ev_c, getV_some, putD_some, bin_add, bin_lss, bin_leq, pick_b, of1, getK_set, Nat.reduceEqDiff, ↓reduceIte, g8, g10, g14, hwl, d2, s1, s2, iE, d3, fw64]
            refine ⟨k + 1, by omega, by omega, rfl, fun y hy => ?_, by simp (disch := omega) only [getK_set, Nat.reduceEqDiff, ↓reduceIte, g0, g1, g2, g7, g8, g9, g10, and_self, Int.natCast_add, Int.natCast_one]⟩
            rw [htk] at hy
            rcases List.mem_append.1 hy with hy | hy
            · exact hall y hy
            · rw [List.mem_singleton.1 hy]; exact hs
          | false =>
            have hs := of_decide_eq_false d3
            have fin := fin (fun y hy => by
              obtain rfl : s = y := by simpa using hy
              exact hs)
            simp (disch := omega) only [f46_r15, w_reg, w_seq, w_cond, w_exit, seqK_n, seqK_e, atK_e, loopK_e, ckB_b, cbB_b, okG_b, asG_t, true_and, x_nil, x_g, x_mv, x_pick, x_ld, x_bin, x_iads, x_len, kx, rvP_ok, okv_some, ev_t, ev_c, getV_some, putD_some, bin_lss, bin_leq, pick_b, getK_set, Nat.reduceEqDiff, ↓reduceIte, Bool.false_eq_true, g8, g10, g14, hwl, d2, s1, s2, iE, d3]
            exact fin _ (by simp (disch := omega) only [getK_set, Nat.reduceEqDiff, ↓reduceIte, g0, g1, g2, g7, g8, g9, g10, g14, and_self])
        · have d2 : decide ((k : Int) < (S.length : Int)) = false := by simpa using hlt3
          have fin := fin (by rw [List.drop_eq_nil_of_le (by omega)]; exact fun y hy => absurd hy (by simp))
          simp (disch := omega) only [f46_r15, w_reg, w_seq, w_cond, w_exit, seqK_n, seqK_e, atK_e, loopK_e, ckB_b, cbB_b, okG_b, asG_t, true_and, x_nil, x_g, x_mv, x_pick, x_bin, x_len, kx, rvP_ok, okv_some, ev_t, ev_c, getV_some, putD_some, bin_lss, pick_b, getK_set, Nat.reduceEqDiff, ↓reduceIte, Bool.false_eq_true, g8, g14, hwl, d2]
          exact fin _ (by simp (disch := omega) only [getK_set, Nat.reduceEqDiff, ↓reduceIte, g0, g1, g2, g7, g8, g9, g10, g14, and_self])
  · have d0 : decide ((t : Int) < (n : Int)) = false := by simpa using hlt
    have et : t = n := by omega
    subst et
    simp (disch := omega) only [f46_r4, f46_r22, f46_rs, w_reg, w_seq, w_cond, w_exit, w_ret, seqK_n, seqK_e, atK_e, loopK_e, ckB_b, cbB_b, true_and, retK_r, x_nil, x_mv, x_as, x_bin, kx, rvP_ok, okv_some, ev_t, getV_some, putD_some, bin_lss, oGet_s, readRs_nil, readRs_t, retV_1, Option.some.injEq, exists_eq_left', getK_set, Nat.reduceEqDiff, ↓reduceIte, Bool.false_eq_true, g0, g8, g9, d0]
    exact ⟨hM.out, hM.gr⟩
end
end Go.Ev
namespace Go.Ev
open Go Go.RowKit
section
variable {A B : Int → Int} {n : Nat}
end
end Go.Ev
namespace Go.Ev
open Go Go.RowKit
section
variable {fs : T EF} {h : H} {v : V} {us : List V} {Ls : List (List (Int × Int))} {n : Nat}
structure CallsPf (fs : T EF) : Prop extends CallsRg fs where
  c69 : fs.get (K.ofNat 69) = some f69
end
end Go.Ev
namespace Go.Ev
open Go Go.RowKit
section
variable {h h' : H} {v u : V} {us : List V} {Ls : List (List (Int × Int))} {L : List (Int × Int)} {b : Nat}
end
theorem bin_quo2 {n : Nat} (hn : n ≤ 1000000) : binV .quo (.i .i64 (n : Int)) (.i .i64 2) = some (.i .i64 ((n / 2 : Nat) : Int)) := by
  show (bif ieq 2 0 then none else some (V.i .i64 (fw .i64 ((n : Int).tdiv 2)))) = _
  rw [show (n : Int).tdiv 2 = ((n / 2 : Nat) : Int) from rfl, fw64 (by omega) (by omega)]; rfl
section
variable {fs : T EF} {h : H}
end
section
variable {fs : T EF} {h : H}
end
end Go.Ev
namespace Go.Ev
open Go Go.RowKit
noncomputable def f45_r0 : List EOper := [⟨(some (K.ofNat 4)), none, .as (.c (.b false))⟩]
noncomputable def f45_r1 : List EOper := [⟨(some (K.ofNat 5)), none, .as (.c (.i .i64 (.ofNat 0)))⟩]
noncomputable def f45_r2 : List EOper := [⟨(some (K.ofNat 6)), none, .as (.c (.i .i64 (.ofNat 0)))⟩]
noncomputable def f45_r3 : List EOper := [⟨(some (K.ofNat 9)), none, .mv (.t (K.ofNat 6))⟩, ⟨(some (K.ofNat 10)), none, .mv (.t (K.ofNat 1))⟩, ⟨(some (K.ofNat 11)), none, .len (.t (K.ofNat 10))⟩, ⟨(some (K.ofNat 12)), none, .bin .lss (.t (K.ofNat 9)) (.t (K.ofNat 11))⟩]
noncomputable def f45_r4 : List Stage := [⟨[⟨(some (K.ofNat 15)), none, .mv (.t (K.ofNat 1))⟩, ⟨(some (K.ofNat 16)), none, .mv (.t (K.ofNat 6))⟩, ⟨(some (K.ofNat 17)), none, .iads 2 (.t (K.ofNat 15)) (.t (K.ofNat 16))⟩, ⟨(some (K.ofNat 18)), none, .iadr 2 1 (.t (K.ofNat 17)) (.c (.i .i64 (.ofNat 0)))⟩, ⟨(some (K.ofNat 19)), none, .ld (.t (K.ofNat 18))⟩, ⟨(some (K.ofNat 20)), none, .mv (.t (K.ofNat 1))⟩, ⟨(some (K.ofNat 21)), none, .mv (.t (K.ofNat 6))⟩, ⟨(some (K.ofNat 22)), none, .iads 2 (.t (K.ofNat 20)) (.t (K.ofNat 21))⟩, ⟨(some (K.ofNat 23)), none, .iadr 2 1 (.t (K.ofNat 22)) (.c (.i .i64 (.ofNat 1)))⟩, ⟨(some (K.ofNat 24)), none, .ld (.t (K.ofNat 23))⟩], [], (some ⟨(some (K.ofNat 7)), none, .as (.t (K.ofNat 19))⟩), []⟩, ⟨[], [⟨(some (K.ofNat 20)), none, .mv (.t (K.ofNat 1))⟩, ⟨(some (K.ofNat 21)), none, .mv (.t (K.ofNat 6))⟩, ⟨(some (K.ofNat 22)), none, .iads 2 (.t (K.ofNat 20)) (.t (K.ofNat 21))⟩, ⟨(some (K.ofNat 23)), none, .iadr 2 1 (.t (K.ofNat 22)) (.c (.i .i64 (.ofNat 1)))⟩, ⟨(some (K.ofNat 24)), none, .ld (.t (K.ofNat 23))⟩], (some ⟨(some (K.ofNat 8)), none, .as (.t (K.ofNat 24))⟩), []⟩, ⟨[], [], none, []⟩]
noncomputable def f45_r5 : List EOper := [⟨(some (K.ofNat 25)), none, .mv (.t (K.ofNat 7))⟩, ⟨(some (K.ofNat 26)), none, .bin .lss (.t (K.ofNat 25)) (.c (.i .i64 (.ofNat 0)))⟩, ⟨(some (K.ofNat 27)), none, .mv (.t (K.ofNat 26))⟩, ⟨(some (K.ofNat 28)), (some ((K.ofNat 27), false)), .mv (.t (K.ofNat 8))⟩, ⟨(some (K.ofNat 29)), (some ((K.ofNat 27), false)), .bin .lss (.t (K.ofNat 28)) (.c (.i .i64 (.ofNat 0)))⟩, ⟨(some (K.ofNat 30)), none, .pick (.t (K.ofNat 27)) (.c (.b true)) (.t (K.ofNat 29))⟩, ⟨(some (K.ofNat 31)), none, .mv (.t (K.ofNat 30))⟩, ⟨(some (K.ofNat 32)), (some ((K.ofNat 31), false)), .mv (.t (K.ofNat 7))⟩, ⟨(some (K.ofNat 33)), (some ((K.ofNat 31), false)), .mv (.t (K.ofNat 0))⟩, ⟨(some (K.ofNat 34)), (some ((K.ofNat 31), false)), .bin .geq (.t (K.ofNat 32)) (.t (K.ofNat 33))⟩, ⟨(some (K.ofNat 35)), none, .pick (.t (K.ofNat 31)) (.c (.b true)) (.t (K.ofNat 34))⟩, ⟨(some (K.ofNat 36)), none, .mv (.t (K.ofNat 35))⟩, ⟨(some (K.ofNat 37)), (some ((K.ofNat 36), false)), .mv (.t (K.ofNat 8))⟩, ⟨(some (K.ofNat 38)), (some ((K.ofNat 36), false)), .mv (.t (K.ofNat 0))⟩, ⟨(some (K.ofNat 39)), (some ((K.ofNat 36), false)), .bin .geq (.t (K.ofNat 37)) (.t (K.ofNat 38))⟩, ⟨(some (K.ofNat 40)), none, .pick (.t (K.ofNat 36)) (.c (.b true)) (.t (K.ofNat 39))⟩, ⟨(some (K.ofNat 41)), none, .mv (.t (K.ofNat 40))⟩, ⟨(some (K.ofNat 42)), (some ((K.ofNat 41), false)), .mv (.t (K.ofNat 7))⟩, ⟨(some (K.ofNat 43)), (some ((K.ofNat 41), false)), .mv (.t (K.ofNat 8))⟩, ⟨(some (K.ofNat 44)), (some ((K.ofNat 41), false)), .bin .eql (.t (K.ofNat 42)) (.t (K.ofNat 43))⟩, ⟨(some (K.ofNat 45)), none, .pick (.t (K.ofNat 41)) (.c (.b true)) (.t (K.ofNat 44))⟩, ⟨(some (K.ofNat 46)), none, .mv (.t (K.ofNat 45))⟩, ⟨(some (K.ofNat 47)), (some ((K.ofNat 46), false)), .mv (.t (K.ofNat 5))⟩, ⟨(some (K.ofNat 48)), (some ((K.ofNat 46), false)), .mv (.t (K.ofNat 7))⟩, ⟨(some (K.ofNat 49)), (some ((K.ofNat 46), false)), .bin .shr (.t (K.ofNat 47)) (.t (K.ofNat 48))⟩, ⟨(some (K.ofNat 50)), (some ((K.ofNat 46), false)), .bin .rem (.t (K.ofNat 49)) (.c (.i .i64 (.ofNat 2)))⟩, ⟨(some (K.ofNat 51)), (some ((K.ofNat 46), false)), .bin .eql (.t (K.ofNat 50)) (.c (.i .i64 (.ofNat 1)))⟩, ⟨(some (K.ofNat 52)), none, .pick (.t (K.ofNat 46)) (.c (.b true)) (.t (K.ofNat 51))⟩, ⟨(some (K.ofNat 53)), none, .mv (.t (K.ofNat 52))⟩, ⟨(some (K.ofNat 54)), (some ((K.ofNat 53), false)), .mv (.t (K.ofNat 5))⟩, ⟨(some (K.ofNat 55)), (some ((K.ofNat 53), false)), .mv (.t (K.ofNat 8))⟩, ⟨(some (K.ofNat 56)), (some ((K.ofNat 53), false)), .bin .shr (.t (K.ofNat 54)) (.t (K.ofNat 55))⟩, ⟨(some (K.ofNat 57)), (some ((K.ofNat 53), false)), .bin .rem (.t (K.ofNat 56)) (.c (.i .i64 (.ofNat 2)))⟩, ⟨(some (K.ofNat 58)), (some ((K.ofNat 53), false)), .bin .eql (.t (K.ofNat 57)) (.c (.i .i64 (.ofNat 1)))⟩, ⟨(some (K.ofNat 59)), none, .pick (.t (K.ofNat 53)) (.c (.b true)) (.t (K.ofNat 58))⟩]
noncomputable def f45_r6 : List EOper := [⟨(some (K.ofNat 4)), none, .as (.c (.b false))⟩]
noncomputable def f45_r7 : List Stage := [⟨[⟨(some (K.ofNat 60)), none, .mv (.t (K.ofNat 5))⟩, ⟨(some (K.ofNat 61)), none, .mv (.t (K.ofNat 7))⟩, ⟨(some (K.ofNat 62)), none, .bin .shl (.c (.i .i64 (.ofNat 1))) (.t (K.ofNat 61))⟩, ⟨(some (K.ofNat 63)), none, .bin .or (.t (K.ofNat 60)) (.t (K.ofNat 62))⟩, ⟨(some (K.ofNat 64)), none, .mv (.t (K.ofNat 8))⟩, ⟨(some (K.ofNat 65)), none, .bin .shl (.c (.i .i64 (.ofNat 1))) (.t (K.ofNat 64))⟩, ⟨(some (K.ofNat 66)), none, .bin .or (.t (K.ofNat 63)) (.t (K.ofNat 65))⟩], [], (some ⟨(some (K.ofNat 5)), none, .as (.t (K.ofNat 66))⟩), []⟩, ⟨[], [], none, []⟩]
noncomputable def f45_r8 : List EOper := [⟨(some (K.ofNat 13)), none, .mv (.t (K.ofNat 6))⟩, ⟨(some (K.ofNat 14)), none, .bin .add (.t (K.ofNat 13)) (.c (.i .i64 (.ofNat 1)))⟩, ⟨(some (K.ofNat 6)), none, .as (.t (K.ofNat 14))⟩]
noncomputable def f45_l0 : EC := (.seq (.seq (.reg f45_r3) (.cond (.t (K.ofNat 12)) .skip (.exit 0))) (.seq (.block 1 (.seq (.draw f45_r4) (.seq (.seq (.reg f45_r5) (.cond (.t (K.ofNat 59)) (.seq (.reg f45_r6) .ret) .skip)) (.draw f45_r7)))) (.reg f45_r8)))
noncomputable def f45_r9 : List EOper := [⟨(some (K.ofNat 67)), none, .mv (.t (K.ofNat 1))⟩, ⟨(some (K.ofNat 68)), none, .len (.t (K.ofNat 67))⟩, ⟨(some (K.ofNat 69)), none, .mv (.t (K.ofNat 0))⟩, ⟨(some (K.ofNat 70)), none, .bin .quo (.t (K.ofNat 69)) (.c (.i .i64 (.ofNat 2)))⟩, ⟨(some (K.ofNat 71)), none, .bin .eql (.t (K.ofNat 68)) (.t (K.ofNat 70))⟩, ⟨(some (K.ofNat 4)), none, .as (.t (K.ofNat 71))⟩]
noncomputable def f45_c : EC := (.seq (.reg f45_r0) (.seq (.reg f45_r1) (.seq (.seq (.reg f45_r2) (.block 0 (.loop f45_l0))) (.seq (.reg f45_r9) .ret))))
noncomputable def f45 : EF := ⟨72, [.tmp (K.ofNat 4)], f45_c, none⟩
theorem f45_rs : f45.rs = [.tmp (K.ofNat 4)] := of_eq_true (eq_self _)
noncomputable def f48_r0 : List EOper := [⟨(some (K.ofNat 4)), none, .as (.c (.b false))⟩]
noncomputable def f48_r1 : List EOper := [⟨(some (K.ofNat 5)), none, .alloc 100 (List.replicate 100 (.b false))⟩]
noncomputable def f48_r2 : List EOper := [⟨(some (K.ofNat 6)), none, .as (.c (.i .i64 (.ofNat 0)))⟩]
noncomputable def f48_r3 : List EOper := [⟨(some (K.ofNat 11)), none, .mv (.t (K.ofNat 6))⟩, ⟨(some (K.ofNat 12)), none, .mv (.t (K.ofNat 1))⟩, ⟨(some (K.ofNat 13)), none, .len (.t (K.ofNat 12))⟩, ⟨(some (K.ofNat 14)), none, .bin .lss (.t (K.ofNat 11)) (.t (K.ofNat 13))⟩]
noncomputable def f48_r4 : List EOper := [⟨(some (K.ofNat 17)), none, .mv (.t (K.ofNat 0))⟩, ⟨(some (K.ofNat 18)), none, .mv (.t (K.ofNat 1))⟩, ⟨(some (K.ofNat 19)), none, .mv (.t (K.ofNat 6))⟩, ⟨(some (K.ofNat 20)), none, .iads 1 (.t (K.ofNat 18)) (.t (K.ofNat 19))⟩, ⟨(some (K.ofNat 21)), none, .ld (.t (K.ofNat 20))⟩, ⟨(some (K.ofNat 22)), none, .call (.c (.fn (K.ofNat 45) [])) [(.t (K.ofNat 17)), (.t (K.ofNat 21))]⟩, ⟨(some (K.ofNat 23)), none, .not (.t (K.ofNat 22))⟩]
noncomputable def f48_r5 : List EOper := [⟨(some (K.ofNat 4)), none, .as (.c (.b false))⟩]
noncomputable def f48_r6 : List EOper := [⟨(some (K.ofNat 7)), none, .as (.c (.i .i64 (.ofNat 0)))⟩]
noncomputable def f48_r7 : List EOper := [⟨(some (K.ofNat 24)), none, .mv (.t (K.ofNat 7))⟩, ⟨(some (K.ofNat 25)), none, .mv (.t (K.ofNat 1))⟩, ⟨(some (K.ofNat 26)), none, .mv (.t (K.ofNat 6))⟩, ⟨(some (K.ofNat 27)), none, .iads 1 (.t (K.ofNat 25)) (.t (K.ofNat 26))⟩, ⟨(some (K.ofNat 28)), none, .ld (.t (K.ofNat 27))⟩, ⟨(some (K.ofNat 29)), none, .len (.t (K.ofNat 28))⟩, ⟨(some (K.ofNat 30)), none, .bin .lss (.t (K.ofNat 24)) (.t (K.ofNat 29))⟩]
noncomputable def f48_r8 : List Stage := [⟨[⟨(some (K.ofNat 33)), none, .mv (.t (K.ofNat 1))⟩, ⟨(some (K.ofNat 34)), none, .mv (.t (K.ofNat 6))⟩, ⟨(some (K.ofNat 35)), none, .iads 1 (.t (K.ofNat 33)) (.t (K.ofNat 34))⟩, ⟨(some (K.ofNat 36)), none, .ld (.t (K.ofNat 35))⟩, ⟨(some (K.ofNat 37)), none, .mv (.t (K.ofNat 7))⟩, ⟨(some (K.ofNat 38)), none, .iads 2 (.t (K.ofNat 36)) (.t (K.ofNat 37))⟩, ⟨(some (K.ofNat 39)), none, .iadr 2 1 (.t (K.ofNat 38)) (.c (.i .i64 (.ofNat 0)))⟩, ⟨(some (K.ofNat 40)), none, .ld (.t (K.ofNat 39))⟩, ⟨(some (K.ofNat 41)), none, .mv (.t (K.ofNat 1))⟩, ⟨(some (K.ofNat 42)), none, .mv (.t (K.ofNat 6))⟩, ⟨(some (K.ofNat 43)), none, .iads 1 (.t (K.ofNat 41)) (.t (K.ofNat 42))⟩, ⟨(some (K.ofNat 44)), none, .ld (.t (K.ofNat 43))⟩, ⟨(some (K.ofNat 45)), none, .mv (.t (K.ofNat 7))⟩, ⟨(some (K.ofNat 46)), none, .iads 2 (.t (K.ofNat 44)) (.t (K.ofNat 45))⟩, ⟨(some (K.ofNat 47)), none, .iadr 2 1 (.t (K.ofNat 46)) (.c (.i .i64 (.ofNat 1)))⟩, ⟨(some (K.ofNat 48)), none, .ld (.t (K.ofNat 47))⟩], [], (some ⟨(some (K.ofNat 8)), none, .as (.t (K.ofNat 40))⟩), []⟩, ⟨[], [⟨(some (K.ofNat 41)), none, .mv (.t (K.ofNat 1))⟩, ⟨(some (K.ofNat 42)), none, .mv (.t (K.ofNat 6))⟩, ⟨(some (K.ofNat 43)), none, .iads 1 (.t (K.ofNat 41)) (.t (K.ofNat 42))⟩, ⟨(some (K.ofNat 44)), none, .ld (.t (K.ofNat 43))⟩, ⟨(some (K.ofNat 45)), none, .mv (.t (K.ofNat 7))⟩, ⟨(some (K.ofNat 46)), none, .iads 2 (.t (K.ofNat 44)) (.t (K.ofNat 45))⟩, ⟨(some (K.ofNat 47)), none, .iadr 2 1 (.t (K.ofNat 46)) (.c (.i .i64 (.ofNat 1)))⟩, ⟨(some (K.ofNat 48)), none, .ld (.t (K.ofNat 47))⟩], (some ⟨(some (K.ofNat 9)), none, .as (.t (K.ofNat 48))⟩), []⟩, ⟨[], [], none, []⟩]
noncomputable def f48_r9 : List EOper := [⟨(some (K.ofNat 49)), none, .mv (.t (K.ofNat 8))⟩, ⟨(some (K.ofNat 50)), none, .mv (.t (K.ofNat 9))⟩, ⟨(some (K.ofNat 51)), none, .min (.t (K.ofNat 49)) (.t (K.ofNat 50))⟩, ⟨(some (K.ofNat 52)), none, .bin .mul (.t (K.ofNat 51)) (.c (.i .i64 (.ofNat 10)))⟩, ⟨(some (K.ofNat 53)), none, .mv (.t (K.ofNat 8))⟩, ⟨(some (K.ofNat 54)), none, .mv (.t (K.ofNat 9))⟩, ⟨(some (K.ofNat 55)), none, .max (.t (K.ofNat 53)) (.t (K.ofNat 54))⟩, ⟨(some (K.ofNat 56)), none, .bin .add (.t (K.ofNat 52)) (.t (K.ofNat 55))⟩, ⟨(some (K.ofNat 10)), none, .as (.t (K.ofNat 56))⟩]
noncomputable def f48_r10 : List EOper := [⟨(some (K.ofNat 57)), none, .mv (.t (K.ofNat 10))⟩, ⟨(some (K.ofNat 58)), none, .iadr 100 1 (.t (K.ofNat 5)) (.t (K.ofNat 57))⟩, ⟨(some (K.ofNat 59)), none, .ld (.t (K.ofNat 58))⟩]
noncomputable def f48_r11 : List EOper := [⟨(some (K.ofNat 4)), none, .as (.c (.b false))⟩]
noncomputable def f48_r12 : List EOper := [⟨(some (K.ofNat 60)), none, .mv (.t (K.ofNat 10))⟩, ⟨(some (K.ofNat 61)), none, .iadr 100 1 (.t (K.ofNat 5)) (.t (K.ofNat 60))⟩, ⟨none, none, .st 1 (.t (K.ofNat 61)) (.c (.b true))⟩]
noncomputable def f48_r13 : List EOper := [⟨(some (K.ofNat 31)), none, .mv (.t (K.ofNat 7))⟩, ⟨(some (K.ofNat 32)), none, .bin .add (.t (K.ofNat 31)) (.c (.i .i64 (.ofNat 1)))⟩, ⟨(some (K.ofNat 7)), none, .as (.t (K.ofNat 32))⟩]
noncomputable def f48_l0 : EC := (.seq (.seq (.reg f48_r7) (.cond (.t (K.ofNat 30)) .skip (.exit 2))) (.seq (.block 3 (.seq (.draw f48_r8) (.seq (.reg f48_r9) (.seq (.seq (.reg f48_r10) (.cond (.t (K.ofNat 59)) (.seq (.reg f48_r11) .ret) .skip)) (.reg f48_r12))))) (.reg f48_r13)))
noncomputable def f48_r14 : List EOper := [⟨(some (K.ofNat 15)), none, .mv (.t (K.ofNat 6))⟩, ⟨(some (K.ofNat 16)), none, .bin .add (.t (K.ofNat 15)) (.c (.i .i64 (.ofNat 1)))⟩, ⟨(some (K.ofNat 6)), none, .as (.t (K.ofNat 16))⟩]
noncomputable def f48_l1 : EC := (.seq (.seq (.reg f48_r3) (.cond (.t (K.ofNat 14)) .skip (.exit 0))) (.seq (.block 1 (.seq (.seq (.reg f48_r4) (.cond (.t (K.ofNat 23)) (.seq (.reg f48_r5) .ret) .skip)) (.seq (.reg f48_r6) (.block 2 (.loop f48_l0))))) (.reg f48_r14)))
noncomputable def f48_r15 : List EOper := [⟨(some (K.ofNat 62)), none, .mv (.t (K.ofNat 1))⟩, ⟨(some (K.ofNat 63)), none, .len (.t (K.ofNat 62))⟩, ⟨(some (K.ofNat 64)), none, .mv (.t (K.ofNat 0))⟩, ⟨(some (K.ofNat 65)), none, .bin .lss (.t (K.ofNat 63)) (.t (K.ofNat 64))⟩, ⟨(some (K.ofNat 4)), none, .as (.t (K.ofNat 65))⟩]
noncomputable def f48_c : EC := (.seq (.reg f48_r0) (.seq (.reg f48_r1) (.seq (.seq (.reg f48_r2) (.block 0 (.loop f48_l1))) (.seq (.reg f48_r15) .ret))))
noncomputable def f48 : EF := ⟨66, [.tmp (K.ofNat 4)], f48_c, none⟩
noncomputable def f14_r0 : List EOper := [⟨(some (K.ofNat 4)), none, .as (.c (.i .i64 (.ofNat 0)))⟩]
noncomputable def f14_r1 : List EOper := [⟨(some (K.ofNat 6)), none, .mv (.t (K.ofNat 0))⟩, ⟨(some (K.ofNat 7)), none, .call (.c (.fn (K.ofNat 37) [])) [(.t (K.ofNat 6))]⟩, ⟨(some (K.ofNat 8)), none, .not (.t (K.ofNat 7))⟩, ⟨(some (K.ofNat 5)), none, .as (.t (K.ofNat 8))⟩]
noncomputable def f14_r2 : List EOper := [⟨(some (K.ofNat 4)), none, .as (.c (.i .i64 (.ofNat 1)))⟩]
noncomputable def f14_r3 : List EOper := [⟨(some (K.ofNat 10)), none, .mv (.t (K.ofNat 1))⟩, ⟨(some (K.ofNat 11)), none, .len (.t (K.ofNat 10))⟩, ⟨(some (K.ofNat 12)), none, .mv (.t (K.ofNat 0))⟩, ⟨(some (K.ofNat 13)), none, .bin .sub (.t (K.ofNat 12)) (.c (.i .i64 (.ofNat 1)))⟩, ⟨(some (K.ofNat 14)), none, .bin .neq (.t (K.ofNat 11)) (.t (K.ofNat 13))⟩, ⟨(some (K.ofNat 15)), none, .mv (.t (K.ofNat 14))⟩, ⟨(some (K.ofNat 16)), (some ((K.ofNat 15), false)), .mv (.t (K.ofNat 0))⟩, ⟨(some (K.ofNat 17)), (some ((K.ofNat 15), false)), .mv (.t (K.ofNat 1))⟩, ⟨(some (K.ofNat 18)), (some ((K.ofNat 15), false)), .call (.c (.fn (K.ofNat 48) [])) [(.t (K.ofNat 16)), (.t (K.ofNat 17))]⟩, ⟨(some (K.ofNat 19)), (some ((K.ofNat 15), false)), .not (.t (K.ofNat 18))⟩, ⟨(some (K.ofNat 20)), none, .pick (.t (K.ofNat 15)) (.c (.b true)) (.t (K.ofNat 19))⟩, ⟨(some (K.ofNat 9)), none, .as (.t (K.ofNat 20))⟩]
noncomputable def f14_r4 : List EOper := [⟨(some (K.ofNat 4)), none, .as (.c (.i .i64 (.ofNat 40)))⟩]
noncomputable def f14_r5 : List EOper := [⟨(some (K.ofNat 4)), none, .as (.c (.i .i64 (.ofNat 0)))⟩]
noncomputable def f14_c : EC := (.seq (.reg f14_r0) (.seq (.block 0 (.seq (.reg f14_r1) (.cond (.t (K.ofNat 5)) (.seq (.reg f14_r2) .ret) (.seq (.reg f14_r3) (.cond (.t (K.ofNat 9)) (.seq (.reg f14_r4) .ret) .skip))))) (.seq (.reg f14_r5) .ret)))
noncomputable def f14 : EF := ⟨21, [.tmp (K.ofNat 4)], f14_c, none⟩
section
variable {fs : T EF} {h : H} {v : V} {us : List V} {Ls : List (List (Int × Int))} {l : List (Int × Int)} {n : Nat}
/-- One bit of a mask. -/
theorem bit_i {m x : Nat} (hx : x ≤ 15) : binV .shr (.i .i64 (m : Int)) (.i .i64 (x : Int)) = some (.i .i64 ((m / 2 ^ x : Nat) : Int)) ∧ ((m / 2 ^ x : Nat) : Int).tmod 2 = ((m / 2 ^ x % 2 : Nat) : Int) ∧ decide (((m / 2 ^ x % 2 : Nat) : Int) = 1) = m.testBit x ∧ binV .shl (.i .i64 1) (.i .i64 (x : Int)) = some (.i .i64 ((2 ^ x : Nat) : Int)) ∧ 2 ^ x ≤ 32768 := by
  have hp : 2 ^ x ≤ 2 ^ 15 := Nat.pow_le_pow_right (by omega) hx
  have hp2' : 2 ^ 15 = 32768 := by decide
  refine ⟨by rw [bin_shr, show min x (IntKind.bits .i64) = x by show min x 64 = x; omega], rfl, ?_, ?_, by omega⟩
  · rw [Nat.testBit_eq_decide_div_mod_eq]
    congr 1
    apply propext
    omega
  · rw [bin_shl (by omega), show min ((x : Int).toNat) (IntKind.bits .i64) = x by show min ((x : Int).toNat) 64 = x; omega, Int.one_mul]
    have hz : (2 : Int) ^ x = ((2 ^ x : Nat) : Int) := by rw [Int.natCast_pow]; rfl
    rw [hz, fw64 (by have : (0 : Int) ≤ ((2 ^ x : Nat) : Int) := Int.natCast_nonneg _; omega) (by omega)]
theorem aa_no {n : Nat} {L : List Int} (h : ¬ ((∀ x ∈ L, 0 ≤ x ∧ x < (n : Int)) ∧ L.Nodup)) : aaB (n : Int) L = false := by
  rw [Bool.eq_false_iff]
  intro hh
  unfold aaB at hh
  simp only [Bool.and_eq_true, decide_eq_true_iff] at hh
  exact h hh.2
def f45_I (h : H) (n : Nat) (v : V) (l : List (Int × Int)) (i : Nat) (fr : Fr) (h1 : H) : Prop := i ≤ l.length ∧ h1 = h ∧ (∀ x ∈ plL (l.take i), 0 ≤ x ∧ x < (n : Int)) ∧ (plL (l.take i)).Nodup ∧ ∃ m, Msk m (plL (l.take i)) ∧ fr.get (K.ofNat 0) = some (.i .i64 (n : Int)) ∧ fr.get (K.ofNat 1) = some (v) ∧ fr.get (K.ofNat 5) = some (.i .i64 (m : Int)) ∧ fr.get (K.ofNat 6) = some (.i .i64 (i : Int))
theorem f45_ret (hn : n ≤ 10) (he : n % 2 = 0) (hv : Srp h v l) (hL : l.length ≤ 9223372036854775807) : Ret fs f45 [.i .i64 (n : Int), v] h fun r h' => r = .b (rndB n l) ∧ h' = h := by
  apply ret_of rfl
  show W fs none f45_c _ _ _
  unfold f45_c
  have hlen := hv.len
  have hvb := hv.beq
  have hk : kmax .i64 = 9223372036854775807 := rfl
  simp (disch := omega) only [f45_r0, f45_r1, f45_r2, w_reg, w_seq, w_block, seqK_n, x_nil, x_as, ev_c, putD_some, frame_2, of0]
  refine W_loop (f45_I h n v l) (fun i => l.length - i) ?_ 0 ⟨by omega, rfl, by simp [plL], by simp [plL], 0, Msk.nil, by simp (disch := omega) only [getK_set, Nat.reduceEqDiff, ↓reduceIte, and_self, Int.natCast_zero]⟩
  rintro i fr h1 ⟨hi, rfl, hin, hnd, m, hm, g0, g1, g5, g6⟩
  unfold f45_l0
  by_cases hlt : i < l.length
  · have d0 : decide ((i : Int) < (l.length : Int)) = true := by simpa using hlt
    obtain ⟨ida, q, hp1, _, hp3, hp4⟩ := hv.at2 hlt
    have htk := plL_snoc hlt
    have hsub : (plL (l.take (i + 1))).Sublist (plL l) := by
      conv => rhs; rw [← List.take_append_drop (i + 1) l]
      unfold plL
      rw [List.flatMap_append]
      exact List.sublist_append_left _ _
    have bad : ¬ ((∀ x ∈ plL (l.take (i + 1)), 0 ≤ x ∧ x < (n : Int)) ∧ (plL (l.take (i + 1))).Nodup) → rndB n l = false := fun hb => by
      have := aa_no (n := n) (L := plL l) fun hh => hb ⟨fun x hx => hh.1 x (hsub.subset hx), List.Pairwise.sublist hsub hh.2⟩
      unfold rndB
      rw [this, Bool.and_false]
    have hpl : i ≤ 16 := by
      have h1 := nodup_le (m := (List.range n).map fun (k : Nat) => (k : Int)) hnd fun z hz => by
        obtain ⟨h1, h2⟩ := hin z hz
        exact List.mem_map.2 ⟨z.toNat, by simp; omega, by omega⟩
      rw [plL_len, List.length_take] at h1
      simp at h1
      omega
    rw [htk] at bad
    generalize l[i] = e at *
    have b1 : ¬ (0 ≤ e.1 ∧ e.1 < (n : Int)) → rndB n l = false := fun hb => bad fun hh => hb (hh.1 e.1 (by simp))
    have b2 : ¬ (0 ≤ e.2 ∧ e.2 < (n : Int)) → rndB n l = false := fun hb => bad fun hh => hb (hh.1 e.2 (by simp))
    have b3 : ¬ (plL (l.take i) ++ [e.1, e.2]).Nodup → rndB n l = false := fun hb => bad fun hh => hb hh.2
    obtain ⟨a, b⟩ := e
    simp only at hp3 hp4 b1 b2 b3 htk
    simp (disch := omega) only [f45_r3, f45_r4, w_skip, w_reg, w_draw, w_seq, w_cond, w_block, seqK_n, ckB_b, cbB_b, true_and, x_nil, x_mv, x_as, x_bin, x_len, kx, kg, xg_nil, xg_mv, xg_ld, xg_iadr, xg_iads, xd_cons, fresh_nil, stK_n, stK_s, stay_nil, stay_cons, again_ok, stay_mv, beq_i, stay_iads, stay_ld, beq_p, rvP_ok, okv_some, ev_t, ev_c, getV_some, putD_some, bin_lss, onP_p, of0, of1, getK_set, Nat.reduceEqDiff, ↓reduceIte, stay_iadr, ix2_0, ix2_1, g1, g6, hlen, d0, hp1, hp3, hp4, hvb]
    by_cases h1 : a < 0
    · have d1 : decide (a < 0) = true := decide_eq_true h1
      have hno := b1 (by omega)
      simp (disch := omega) only [f45_r5, f45_r6, f45_rs, w_reg, w_seq, w_cond, w_ret, seqK_n, seqK_r, atK_r, loopK_r, ckB_b, cbB_b, okG_b, asG_f, retK_r, x_nil, x_g, x_mv, x_as, x_pick, x_bin, kx, rvP_ok, okv_some, ev_t, ev_c, getV_some, putD_some, bin_lss, pick_b, oGet_s, readRs_nil, readRs_t, retV_1, of0, of1, of2, Option.some.injEq, exists_eq_left', getK_set, Nat.reduceEqDiff, ↓reduceIte, Bool.false_eq_true, Bool.not_true, d1, hno, and_self]
    have d1 : decide (a < 0) = false := decide_eq_false h1
    by_cases h2 : b < 0
    · have d2 : decide (b < 0) = true := decide_eq_true h2
      have hno := b2 (by omega)
      simp (disch := omega) only [f45_r5, f45_r6, f45_rs, w_reg, w_seq, w_cond, w_ret, seqK_n, seqK_r, atK_r, loopK_r, ckB_b, cbB_b, okG_b, asG_f, retK_r, x_nil, x_g, x_mv, x_as, x_pick, x_bin, kx, rvP_ok, okv_some, ev_t, ev_c, getV_some, putD_some, bin_lss, pick_b, oGet_s, readRs_nil, readRs_t, retV_1, of0, of1, of2, Option.some.injEq, exists_eq_left', getK_set, Nat.reduceEqDiff, ↓reduceIte, Bool.false_eq_true, Bool.not_true, Bool.not_false, d1, d2, hno, and_self]
    have d2 : decide (b < 0) = false := decide_eq_false h2
    by_cases h3 : a ≥ (n : Int)
    · have d3 : decide (a ≥ (n : Int)) = true := decide_eq_true h3
      have hno := b1 (by omega)
      simp (disch := omega) only [f45_r5, f45_r6, f45_rs, w_reg, w_seq, w_cond, w_ret, seqK_n, seqK_r, atK_r, loopK_r, ckB_b, cbB_b, okG_b, asG_f, retK_r, x_nil, x_g, x_mv, x_as, x_pick, x_bin, kx, rvP_ok, okv_some, ev_t, ev_c, getV_some, putD_some, bin_lss, bin_geq, pick_b, oGet_s, readRs_nil, readRs_t, retV_1, of0, of1, of2, Option.some.injEq, exists_eq_left', getK_set, Nat.reduceEqDiff, ↓reduceIte, Bool.false_eq_true, Bool.not_true, Bool.not_false, g0, d1, d2, d3, hno, and_self]
    have d3 : decide (a ≥ (n : Int)) = false := decide_eq_false h3
    by_cases h4 : b ≥ (n : Int)
    · have d4 : decide (b ≥ (n : Int)) = true := decide_eq_true h4
      have hno := b2 (by omega)
      simp (disch := omega) only [f45_r5, f45_r6, f45_rs, w_reg, w_seq, w_cond, w_ret, seqK_n, seqK_r, atK_r, loopK_r, ckB_b, cbB_b, okG_b, asG_f, retK_r, x_nil, x_g, x_mv, x_as, x_pick, x_bin, kx, rvP_ok, okv_some, ev_t, ev_c, getV_some, putD_some, bin_lss, bin_geq, pick_b, oGet_s, readRs_nil, readRs_t, retV_1, of0, of1, of2, Option.some.injEq, exists_eq_left', getK_set, Nat.reduceEqDiff, ↓reduceIte, Bool.false_eq_true, Bool.not_true, Bool.not_false, g0, d1, d2, d3, d4, hno, and_self]
    have d4 : decide (b ≥ (n : Int)) = false := decide_eq_false h4
    by_cases h5 : a = b
    · have d5 : decide (a = b) = true := decide_eq_true h5
      have hno := b3 (by rw [h5, List.nodup_append]; simp)
      simp (disch := omega) only [f45_r5, f45_r6, f45_rs, w_reg, w_seq, w_cond, w_ret, seqK_n, seqK_r, atK_r, loopK_r, ckB_b, cbB_b, okG_b, asG_f, retK_r, x_nil, x_g, x_mv, x_as, x_pick, x_bin, kx, rvP_ok, okv_some, ev_t, ev_c, getV_some, putD_some, bin_eql, bin_lss, bin_geq, pick_b, oGet_s, readRs_nil, readRs_t, retV_1, of0, of1, of2, Option.some.injEq, exists_eq_left', getK_set, Nat.reduceEqDiff, ↓reduceIte, Bool.false_eq_true, Bool.not_true, Bool.not_false, g0, d1, d2, d3, d4, d5, hno, and_self]
    have d5 : decide (a = b) = false := decide_eq_false h5
    obtain ⟨x, rfl⟩ : ∃ x : Nat, a = (x : Int) := ⟨a.toNat, by omega⟩
    obtain ⟨y, rfl⟩ : ∃ y : Nat, b = (y : Int) := ⟨b.toNat, by omega⟩
    have hm1 := hm.1
    obtain ⟨s1, s2, s3, s4, s5⟩ := bit_i (m := m) (show x ≤ 15 by omega)
    obtain ⟨t1, t2, t3, t4, t5⟩ := bit_i (m := m) (show y ≤ 15 by omega)
    rw [hm.2 x (by omega)] at s3
    rw [hm.2 y (by omega)] at t3
    by_cases h6 : (x : Int) ∈ plL (l.take i)
    · rw [decide_eq_true h6] at s3
      have hno := b3 (by rw [List.nodup_append]; exact fun hh => hh.2.2 _ h6 _ (by simp) rfl)
      simp (disch := omega) only [f45_r5, f45_r6, f45_rs, w_reg, w_seq, w_cond, w_ret, seqK_n, seqK_r, atK_r, loopK_r, ckB_b, cbB_b, okG_b, asG_f, retK_r, x_nil, x_g, x_mv, x_as, x_pick, x_bin, kx, rvP_ok, okv_some, ev_t, ev_c, getV_some, putD_some, bin_eql, bin_lss, bin_geq, bin_rem, pick_b, oGet_s, readRs_nil, readRs_t, retV_1, of0, of1, of2, Option.some.injEq, exists_eq_left', getK_set, Nat.reduceEqDiff, ↓reduceIte, Bool.false_eq_true, Bool.not_true, Bool.not_false, g0, g5, d1, d2, d3, d4, d5, s1, s2, s3, hno, and_self]
    rw [decide_eq_false h6] at s3
    by_cases h7 : (y : Int) ∈ plL (l.take i)
    · rw [decide_eq_true h7] at t3
      have hno := b3 (by rw [List.nodup_append]; exact fun hh => hh.2.2 _ h7 _ (by simp) rfl)
      simp (disch := omega) only [f45_r5, f45_r6, f45_rs, w_reg, w_seq, w_cond, w_ret, seqK_n, seqK_r, atK_r, loopK_r, ckB_b, cbB_b, okG_b, asG_f, retK_r, x_nil, x_g, x_mv, x_as, x_pick, x_bin, kx, rvP_ok, okv_some, ev_t, ev_c, getV_some, putD_some, bin_eql, bin_lss, bin_geq, bin_rem, pick_b, oGet_s, readRs_nil, readRs_t, retV_1, of0, of1, of2, Option.some.injEq, exists_eq_left', getK_set, Nat.reduceEqDiff, ↓reduceIte, Bool.false_eq_true, Bool.not_false, g0, g5, d1, d2, d3, d4, d5, s1, s2, s3, t1, t2, t3, hno, and_self]
    rw [decide_eq_false h7] at t3
    have hm2 := hm.snoc (show x ≤ 15 by omega)
    have hm3 := hm2.snoc (show y ≤ 15 by omega)
    rw [List.append_assoc] at hm3
    have q1 : binV .or (.i .i64 (m : Int)) (.i .i64 ((2 ^ x : Nat) : Int)) = some (.i .i64 ((m ||| 2 ^ x : Nat) : Int)) := bin_or (by omega) (by omega)
    have q2 : binV .or (.i .i64 ((m ||| 2 ^ x : Nat) : Int)) (.i .i64 ((2 ^ y : Nat) : Int)) = some (.i .i64 ((m ||| 2 ^ x ||| 2 ^ y : Nat) : Int)) := bin_or (by have := hm2.1; omega) (by omega)
    simp (disch := omega) only [f45_r5, w_skip, w_draw, w_cond, seqK_n, ckB_b, cbB_b, okG_b, asG_f, true_and, x_nil, x_g, x_mv, x_pick, x_bin, kx, rvP_ok, okv_some, ev_t, ev_c, getV_some, putD_some, bin_eql, bin_lss, bin_geq, bin_rem, pick_b, of0, of1, of2, getK_set, Nat.reduceEqDiff, ↓reduceIte, Bool.false_eq_true, Bool.not_false, g0, g5, d1, d2, d3, d4, d5, s1, s2, s3, t1, t2, t3]
    simp (disch := omega) only [f45_r7, f45_r8, w_reg, seqK_n, atK_n, loopK_n, true_and, x_nil, x_mv, x_as, x_bin, kx, kg, xg_nil, xg_mv, xg_bin, xd_cons, fresh_nil, stK_n, stK_s, stay_nil, rvP_ok, okv_some, ev_t, ev_c, getV_some, putD_some, bin_add, of1, getK_set, Nat.reduceEqDiff, ↓reduceIte, g5, g6, s4, t4, q1, q2, fw64]
    refine ⟨i + 1, by omega, by omega, rfl, ?_, ?_, _, by rw [htk]; exact hm3, by simp (disch := omega) only [getK_set, Nat.reduceEqDiff, ↓reduceIte, g0, g1, and_self, Int.natCast_add, Int.natCast_one]⟩
    · rw [htk]
      intro z hz
      rcases List.mem_append.1 hz with hz | hz
      · exact hin z hz
      · rcases List.mem_cons.1 hz with rfl | hz
        · omega
        · rw [List.mem_singleton.1 hz]; omega
    · rw [htk, List.nodup_append]
      refine ⟨hnd, by simpa using h5, fun p hp r hr er => ?_⟩
      rcases List.mem_cons.1 hr with rfl | hr
      · exact h6 (er ▸ hp)
      · rw [List.mem_singleton.1 hr] at er; exact h7 (er ▸ hp)
  · have d0 : decide ((i : Int) < (l.length : Int)) = false := by simpa using hlt
    have ei : i = l.length := by omega
    rw [ei, List.take_length] at hin hnd
    have hq2 : binV .quo (.i .i64 (n : Int)) (.i .i64 2) = some (.i .i64 ((n / 2 : Nat) : Int)) := bin_quo2 (by omega)
    have hyes : decide ((l.length : Int) = ((n / 2 : Nat) : Int)) = rndB n l := by
      unfold rndB aaB
      rw [decide_eq_true hin, decide_eq_true hnd, Bool.and_true, Bool.and_true, plL_len, Bool.eq_iff_iff]
      simp only [Bool.and_eq_true, decide_eq_true_iff]
      omega
    simp (disch := omega) only [f45_r3, f45_r9, f45_rs, w_reg, w_seq, w_cond, w_exit, w_ret, seqK_n, seqK_e, atK_e, loopK_e, ckB_b, cbB_b, retK_r, x_nil, x_mv, x_as, x_bin, x_len, kx, rvP_ok, okv_some, ev_t, ev_c, getV_some, putD_some, bin_eql, bin_lss, oGet_s, readRs_nil, readRs_t, retV_1, of2, Option.some.injEq, exists_eq_left', getK_set, Nat.reduceEqDiff, ↓reduceIte, Bool.false_eq_true, g0, g1, g6, hlen, d0, hq2, hyes, and_self]
end
end Go.Ev
namespace Go.Ev
open Go Go.RowKit
section
variable {fs : T EF} {h : H} {v : V} {us : List V} {Ls : List (List (Int × Int))} {n : Nat}
theorem f37_ok {n : Int} (hn : ok5 n) : Ret fs f37 [.i .i64 n] h fun r h' => r = .b true ∧ h' = h := by
  unfold ok5 at hn
  have d1 : decide (n ≥ 2) = true := decide_eq_true (by omega)
  have d2 : decide (n ≤ 10) = true := decide_eq_true (by omega)
  have d3 : decide (n.tmod 2 = 0) = true := by rcases hn with rfl | rfl | rfl | rfl | rfl <;> rfl
  apply ret_of rfl
  show W fs none f37_c _ _ _
  unfold f37_c
  simp (disch := omega) only [f37_r0, f37_r1, f37_rs, w_reg, w_seq, w_ret, seqK_n, okG_b, asG_t, retK_r, x_nil, x_g, x_mv, x_as, x_pick, x_bin, kx, rvP_ok, okv_some, ev_t, ev_c, getV_some, putD_some, bin_eql, bin_leq, bin_geq, bin_rem, pick_b, oGet_s, readRs_nil, readRs_t, retV_1, frame_1, of0, of2, of10, Option.some.injEq, exists_eq_left', getK_set, Nat.reduceEqDiff, ↓reduceIte, d1, d2, d3, and_self]
structure CallsRc (fs : T EF) : Prop where
  c14 : fs.get (K.ofNat 14) = some f14
  c37 : fs.get (K.ofNat 37) = some f37
  c45 : fs.get (K.ofNat 45) = some f45
  c48 : fs.get (K.ofNat 48) = some f48
end
end Go.Ev
namespace Go.Ev
open Go Go.RowKit
section
variable {fs : T EF} {n : Nat} {Q : List (List (Int × Int))}
structure Sched (n : Nat) (Q : List (List (Int × Int))) : Prop where
  ok : ok5 (n : Int)
  sh : shB n Q = true
  vd : Vld n Q
  len : Q.length = n - 1
  row : ∀ l ∈ Q, l.length ≤ 100
  big : ∀ l ∈ Q, l.length ≤ 9223372036854775807
  bd : n ≤ 10 ∧ 2 ≤ n
theorem Sched.of (hn : ok5 (n : Int)) (hs : shB n Q = true) : Sched n Q := by
  obtain ⟨hv, hl⟩ := sh_vld hs
  have hn' := hn
  unfold ok5 at hn'
  have hf := hv.few (by omega) (by omega)
  exact ⟨hn, hs, hv, hl, fun l hl => (hf.2 l hl).1, fun l hl => by have := (hf.2 l hl).1; omega, by omega, by omega⟩
theorem Sched.inn (s : Sched n Q) {M : List Int} (hM : M.length = n) : InN M.length Q := fun l hl e he => by
  have := rnd_e (s.vd.rnd l hl) e he
  omega
end
end Go.Ev
namespace Go.Ev
open Go Go.RowKit
section
variable {n : Nat} {Q : List (List (Int × Int))}
/-! ### Sums of rings -/
theorem fold_add : ∀ (L : List Int) (a : Int), L.foldl (· + ·) a = a + smI L
  | [], a => by simp [smI]
  | x :: L, a => by
    show L.foldl (· + ·) (a + x) = a + L.foldl (· + ·) (0 + x)
    rw [fold_add L, fold_add L]; omega
theorem smI_cons {x : Int} {L : List Int} : smI (x :: L) = x + smI L := by
  show L.foldl (· + ·) (0 + x) = _
  rw [fold_add]; omega
theorem smI_ins {x : Int} : ∀ {P : List Int}, smI (insL x P) = x + smI P
  | [] => by simp [insL, smI]
  | y :: P => by
    unfold insL
    split
    · rw [smI_cons, smI_ins, smI_cons]; omega
    · rw [smI_cons]
theorem smI_srt : ∀ (S P : List Int), smI (S.foldl (fun P x => insL x P) P) = smI P + smI S
  | [], P => by show smI P = smI P + 0; omega
  | x :: S, P => by
    show smI (S.foldl (fun P x => insL x P) (insL x P)) = _
    rw [smI_srt S, smI_ins, smI_cons]; omega
theorem rg_sum {a b : List (Int × Int)} (hra : rndB n a = true) (hrb : rndB n b = true) (hn : 1 ≤ n) : smI (rgL a b n) = (n : Int) ∧ (∀ s ∈ rgL a b n, ∃ q : Nat, s = 2 * (q : Int) ∧ 1 ≤ q) ∧ (rgL a b n).Pairwise (· ≤ ·) ∧ (rgL a b n).length ≤ n := by
  have hR := rgs_I (rnd_inv hra) (rnd_inv hrb) hn (Nat.le_refl _)
  refine ⟨?_, fun s hs => hR.evn s (srtL_mem hs), srtL_srt, by unfold rgL; rw [srtL_len]; exact hR.few⟩
  have h1 := all_len hR.nd hR.rng hR.all
  have h2 := smI_srt (rgs (opF a) (opF b) n n).2 []
  have h3 : smI ([] : List Int) = 0 := rfl
  unfold rgL srtL
  rw [h2, h3, hR.sum, h1]; omega
end
end Go.Ev
namespace Go.Ev
open Go Go.RowKit
noncomputable def f44_r0 : List EOper := [⟨(some (K.ofNat 6)), none, .as (.c .sn)⟩, ⟨(some (K.ofNat 7)), none, .as (.c (.i .i64 (.ofNat 0)))⟩]
noncomputable def f44_r1 : List EOper := [⟨(some (K.ofNat 12)), none, .mv (.t (K.ofNat 0))⟩, ⟨(some (K.ofNat 13)), none, .call (.c (.fn (K.ofNat 65) [])) [(.t (K.ofNat 12))]⟩, ⟨(some (K.ofNat 14)), none, .not (.t (K.ofNat 13))⟩]
noncomputable def f44_r2 : List EOper := [⟨(some (K.ofNat 6)), none, .as (.c .sn)⟩, ⟨(some (K.ofNat 7)), none, .as (.c (.i .i64 (.ofNat 1)))⟩]
noncomputable def f44_r3 : List EOper := [⟨(some (K.ofNat 16)), none, .mv (.t (K.ofNat 0))⟩, ⟨(some (K.ofNat 17)), none, .mv (.t (K.ofNat 1))⟩, ⟨(some (K.ofNat 18)), none, .call (.c (.fn (K.ofNat 68) [])) [(.t (K.ofNat 16)), (.t (K.ofNat 17))]⟩, ⟨(some (K.ofNat 15)), none, .mv (.t (K.ofNat 18))⟩, ⟨(some (K.ofNat 19)), none, .ext (.t (K.ofNat 15)) 0⟩, ⟨(some (K.ofNat 20)), none, .ext (.t (K.ofNat 15)) 1⟩, ⟨(some (K.ofNat 8)), none, .as (.t (K.ofNat 19))⟩, ⟨(some (K.ofNat 9)), none, .as (.t (K.ofNat 20))⟩]
noncomputable def f44_r4 : List EOper := [⟨(some (K.ofNat 22)), none, .mv (.t (K.ofNat 0))⟩, ⟨(some (K.ofNat 23)), none, .mv (.t (K.ofNat 2))⟩, ⟨(some (K.ofNat 24)), none, .call (.c (.fn (K.ofNat 68) [])) [(.t (K.ofNat 22)), (.t (K.ofNat 23))]⟩, ⟨(some (K.ofNat 21)), none, .mv (.t (K.ofNat 24))⟩, ⟨(some (K.ofNat 25)), none, .ext (.t (K.ofNat 21)) 0⟩, ⟨(some (K.ofNat 26)), none, .ext (.t (K.ofNat 21)) 1⟩, ⟨(some (K.ofNat 10)), none, .as (.t (K.ofNat 25))⟩, ⟨(some (K.ofNat 11)), none, .as (.t (K.ofNat 26))⟩]
noncomputable def f44_r5 : List EOper := [⟨(some (K.ofNat 27)), none, .mv (.t (K.ofNat 9))⟩, ⟨(some (K.ofNat 28)), none, .not (.t (K.ofNat 27))⟩, ⟨(some (K.ofNat 29)), none, .mv (.t (K.ofNat 28))⟩, ⟨(some (K.ofNat 30)), (some ((K.ofNat 29), false)), .mv (.t (K.ofNat 11))⟩, ⟨(some (K.ofNat 31)), (some ((K.ofNat 29), false)), .not (.t (K.ofNat 30))⟩, ⟨(some (K.ofNat 32)), none, .pick (.t (K.ofNat 29)) (.c (.b true)) (.t (K.ofNat 31))⟩]
noncomputable def f44_r6 : List EOper := [⟨(some (K.ofNat 6)), none, .as (.c .sn)⟩, ⟨(some (K.ofNat 7)), none, .as (.c (.i .i64 (.ofNat 40)))⟩]
noncomputable def f44_r7 : List EOper := [⟨(some (K.ofNat 33)), none, .mv (.t (K.ofNat 0))⟩, ⟨(some (K.ofNat 34)), none, .mv (.t (K.ofNat 8))⟩, ⟨(some (K.ofNat 35)), none, .mv (.t (K.ofNat 10))⟩, ⟨(some (K.ofNat 36)), none, .call (.c (.fn (K.ofNat 69) [])) [(.t (K.ofNat 33)), (.t (K.ofNat 34)), (.t (K.ofNat 35))]⟩, ⟨(some (K.ofNat 6)), none, .as (.t (K.ofNat 36))⟩, ⟨(some (K.ofNat 7)), none, .as (.c (.i .i64 (.ofNat 0)))⟩]
noncomputable def f44_c : EC := (.seq (.reg f44_r0) (.seq (.seq (.reg f44_r1) (.cond (.t (K.ofNat 14)) (.seq (.reg f44_r2) .ret) .skip)) (.seq (.reg f44_r3) (.seq (.reg f44_r4) (.seq (.seq (.reg f44_r5) (.cond (.t (K.ofNat 32)) (.seq (.reg f44_r6) .ret) .skip)) (.seq (.reg f44_r7) .ret))))))
noncomputable def f44 : EF := ⟨37, [.tmp (K.ofNat 6), .tmp (K.ofNat 7)], f44_c, none⟩
theorem f44_rs : f44.rs = [.tmp (K.ofNat 6), .tmp (K.ofNat 7)] := of_eq_true (eq_self _)
structure CallsRi (fs : T EF) : Prop extends CallsPf fs, CallsCh fs where
  c44 : fs.get (K.ofNat 44) = some f44
section
variable {fs : T EF} {h : H} {va vb : V} {a b : List (Int × Int)} {n : Nat}
theorem f44_no {n : Int} (k : CallsRi fs) (hn : ¬ ok5 n) : Ret fs f44 [.i .i64 n, va, vb] h fun r h' => r = .tup [.sn, .i .i64 1] ∧ h' = h := by
  apply ret_of rfl
  show W fs none f44_c _ _ _
  unfold f44_c
  simp (disch := omega) only [f44_r0, f44_r1, w_reg, w_seq, seqK_n, x_nil, x_mv, x_as, x_call, ev_t, ev_c, evs_nil, evs_cons, getV_some, putD_some, frame_3, of0, getK_set, Nat.reduceEqDiff, ↓reduceIte]
  refine (callP_0 (ef := f65) k.c65 rfl (f65_no hn)).mono ?_
  rintro r h1 ⟨rfl, rfl⟩
  simp (disch := omega) only [f44_r2, f44_rs, w_reg, w_seq, w_cond, w_ret, seqK_n, seqK_r, ckB_b, cbB_b, retK_r, x_nil, x_as, x_not, kx, rvP_ok, ev_t, ev_c, getV_some, putD_some, onB_b, oGet_s, readRs_nil, readRs_t, retV_2, of1, Option.some.injEq, exists_eq_left', getK_set, Nat.reduceEqDiff, ↓reduceIte, Bool.not_false, Bool.not_false, and_self]
theorem f44_ret (k : CallsRi fs) (hn : ok5 (n : Int)) (hva : Srp h va a) (hvb : Srp h vb b) (hla : a.length ≤ 9223372036854775807) (hlb : b.length ≤ 9223372036854775807) (hc : HC h) : Ret fs f44 [.i .i64 (n : Int), va, vb] h fun r h' => ∃ u, r = .tup [u, .i .i64 (if rndB n a = true ∧ rndB n b = true then 0 else 40)] ∧ (if rndB n a = true ∧ rndB n b = true then Sl iE h' u (rgL a b n) else u = .sn) ∧ Grow h.nx.nat h h' := by
  have hn' := hn
  unfold ok5 at hn'
  apply ret_of rfl
  show W fs none f44_c _ _ _
  unfold f44_c
  simp (disch := omega) only [f44_r0, f44_r1, w_reg, w_seq, seqK_n, x_nil, x_mv, x_as, x_call, ev_t, ev_c, evs_nil, evs_cons, getV_some, putD_some, frame_3, of0, getK_set, Nat.reduceEqDiff, ↓reduceIte]
  refine (callP_0 (ef := f65) k.c65 rfl (f65_ok hn)).mono ?_
  rintro r h1 ⟨rfl, rfl⟩
  simp (disch := omega) only [f44_r3, w_skip, w_reg, w_seq, w_cond, seqK_n, ckB_b, cbB_b, true_and, x_nil, x_mv, x_not, x_call, kx, rvP_ok, ev_t, ev_c, evs_nil, evs_cons, getV_some, putD_some, onB_b, getK_set, Nat.reduceEqDiff, ↓reduceIte, Bool.false_eq_true, Bool.not_true, Bool.not_true]
  refine (callP_0 (ef := f68) k.c68 rfl (f68_ret (n := n) k.toCallsAa k.c61 (by omega) hva hla hc)).mono ?_
  rintro r h2 ⟨u1, rfl, hu1, hG2⟩
  have hc2 := hG2.hc hc
  simp (disch := omega) only [f44_r4, w_reg, w_seq, seqK_n, x_nil, x_mv, x_as, x_ext, x_call, kx, rvP_ok, okv_some, ev_t, ev_c, evs_nil, evs_cons, getV_some, putD_some, onTup_t, nth0, nth1, getK_set, Nat.reduceEqDiff, ↓reduceIte]
  refine (callP_0 (ef := f68) k.c68 rfl (f68_ret (n := n) k.toCallsAa k.c61 (by omega) (hvb.grow hc hG2) hlb hc2)).mono ?_
  rintro r h3 ⟨u2, rfl, hu2, hG3⟩
  have hc3 := hG3.hc hc2
  have hGa := hG2.trans (hG3.low hG2.nx)
  cases h1 : rndB n a with
  | false =>
    simp (disch := omega) only [f44_r5, f44_r6, f44_rs, w_reg, w_seq, w_cond, w_ret, seqK_n, seqK_r, ckB_b, cbB_b, okG_b, asG_f, true_and, retK_r, x_nil, x_g, x_mv, x_as, x_pick, x_not, x_ext, kx, rvP_ok, okv_some, ev_t, ev_c, getV_some, putD_some, pick_b, onB_b, onTup_t, oGet_s, nth0, nth1, readRs_nil, readRs_t, retV_2, Option.some.injEq, exists_eq_left', getK_set, Nat.reduceEqDiff, ↓reduceIte, Bool.false_eq_true, Bool.not_true, Bool.not_false, of40, Bool.not_false, of40]
    exact ⟨.sn, by simp, by simp, hGa⟩
  | true =>
    cases h2 : rndB n b with
    | false =>
      simp (disch := omega) only [f44_r5, f44_r6, f44_rs, w_reg, w_seq, w_cond, w_ret, seqK_n, seqK_r, ckB_b, cbB_b, okG_b, asG_f, true_and, retK_r, x_nil, x_g, x_mv, x_as, x_pick, x_not, x_ext, kx, rvP_ok, okv_some, ev_t, ev_c, getV_some, putD_some, pick_b, onB_b, onTup_t, oGet_s, nth0, nth1, readRs_nil, readRs_t, retV_2, Option.some.injEq, exists_eq_left', getK_set, Nat.reduceEqDiff, ↓reduceIte, Bool.false_eq_true, Bool.not_true, Bool.not_false, of40, Bool.not_false, Bool.not_true, of40]
      exact ⟨.sn, by simp, by simp, hGa⟩
    | true =>
      have hl1 : a.length ≤ 1000000 := by
        unfold rndB at h1
        simp only [Bool.and_eq_true, decide_eq_true_iff] at h1
        omega
      have hl2 : b.length ≤ 1000000 := by
        unfold rndB at h2
        simp only [Bool.and_eq_true, decide_eq_true_iff] at h2
        omega
      simp (disch := omega) only [f44_r5, f44_r7, w_skip, w_reg, w_seq, w_cond, seqK_n, ckB_b, cbB_b, okG_b, asG_f, true_and, x_nil, x_g, x_mv, x_as, x_pick, x_not, x_ext, x_call, kx, rvP_ok, okv_some, ev_t, ev_c, evs_nil, evs_cons, getV_some, putD_some, pick_b, onB_b, onTup_t, nth0, nth1, of0, getK_set, Nat.reduceEqDiff, ↓reduceIte, Bool.false_eq_true, Bool.not_true, Bool.not_false, Bool.not_true]
      refine (callP_0 (ef := f69) k.c69 rfl (f69_ret k.toCallsRg ((hu1 h1).1.grow hc2 hG3).srp (hu2 h2).1.srp hl1 hl2 h1 h2 (by omega) (by omega) hc3)).mono ?_
      rintro u h4 ⟨hs, _, hG4⟩
      simp (disch := omega) only [f44_rs, w_ret, seqK_n, retK_r, x_nil, x_as, kx, ev_t, ev_c, getV_some, putD_some, oGet_s, readRs_nil, readRs_t, retV_2, Option.some.injEq, exists_eq_left', getK_set, Nat.reduceEqDiff, ↓reduceIte]
      exact ⟨u, by simp, by simpa using hs, hGa.trans (hG4.low hGa.nx)⟩
end
section
variable {fs : T EF}
end
end Go.Ev
namespace Go.Ev
open Go Go.RowKit
noncomputable def f13_r0 : List EOper := [⟨(some (K.ofNat 6)), none, .as (.c .sn)⟩]
noncomputable def f13_r1 : List EOper := [⟨(some (K.ofNat 7)), none, .as (.c .sn)⟩]
noncomputable def f13_r2 : List EOper := [⟨(some (K.ofNat 8)), none, .as (.c (.i .i64 (.ofNat 0)))⟩]
noncomputable def f13_r3 : List EOper := [⟨(some (K.ofNat 10)), none, .mv (.t (K.ofNat 8))⟩, ⟨(some (K.ofNat 11)), none, .mv (.t (K.ofNat 0))⟩, ⟨(some (K.ofNat 12)), none, .len (.t (K.ofNat 11))⟩, ⟨(some (K.ofNat 13)), none, .bin .lss (.t (K.ofNat 10)) (.t (K.ofNat 12))⟩, ⟨(some (K.ofNat 14)), none, .mv (.t (K.ofNat 13))⟩, ⟨(some (K.ofNat 15)), (some ((K.ofNat 14), true)), .mv (.t (K.ofNat 8))⟩, ⟨(some (K.ofNat 16)), (some ((K.ofNat 14), true)), .mv (.t (K.ofNat 1))⟩, ⟨(some (K.ofNat 17)), (some ((K.ofNat 14), true)), .bin .lss (.t (K.ofNat 15)) (.t (K.ofNat 16))⟩, ⟨(some (K.ofNat 18)), none, .pick (.t (K.ofNat 14)) (.t (K.ofNat 17)) (.c (.b false))⟩]
noncomputable def f13_r4 : List EOper := [⟨(some (K.ofNat 9)), none, .as (.c .sn)⟩]
noncomputable def f13_r5 : List Stage := [⟨[⟨(some (K.ofNat 21)), none, .mv (.t (K.ofNat 7))⟩, ⟨(some (K.ofNat 22)), none, .mv (.t (K.ofNat 9))⟩, ⟨(some (K.ofNat 23)), none, .mv (.t (K.ofNat 0))⟩, ⟨(some (K.ofNat 24)), none, .mv (.t (K.ofNat 8))⟩, ⟨(some (K.ofNat 25)), none, .iads 1 (.t (K.ofNat 23)) (.t (K.ofNat 24))⟩, ⟨(some (K.ofNat 26)), none, .ld (.t (K.ofNat 25))⟩, ⟨(some (K.ofNat 27)), none, .mv (.t (K.ofNat 0))⟩, ⟨(some (K.ofNat 28)), none, .mv (.t (K.ofNat 8))⟩, ⟨(some (K.ofNat 29)), none, .iads 1 (.t (K.ofNat 27)) (.t (K.ofNat 28))⟩, ⟨(some (K.ofNat 30)), none, .ld (.t (K.ofNat 29))⟩, ⟨(some (K.ofNat 31)), none, .len (.t (K.ofNat 30))⟩, ⟨(some (K.ofNat 32)), none, .mv (.t (K.ofNat 2))⟩, ⟨(some (K.ofNat 33)), none, .min (.t (K.ofNat 31)) (.t (K.ofNat 32))⟩, ⟨(some (K.ofNat 34)), none, .slice 2 (.t (K.ofNat 26)) none (some (.t (K.ofNat 33))) none⟩], [], (some ⟨(some (K.ofNat 35)), none, .app 2 (.t (K.ofNat 22)) (.t (K.ofNat 34))⟩), []⟩, ⟨[⟨(some (K.ofNat 36)), none, .bslice 1 1 [.sn] [(0, 1, (.t (K.ofNat 35)))]⟩], [⟨(some (K.ofNat 21)), none, .mv (.t (K.ofNat 7))⟩], (some ⟨(some (K.ofNat 37)), none, .app 1 (.t (K.ofNat 21)) (.t (K.ofNat 36))⟩), [(K.ofNat 36)]⟩, ⟨[], [], (some ⟨(some (K.ofNat 7)), none, .as (.t (K.ofNat 37))⟩), []⟩, ⟨[], [], none, []⟩]
noncomputable def f13_r6 : List EOper := [⟨(some (K.ofNat 19)), none, .mv (.t (K.ofNat 8))⟩, ⟨(some (K.ofNat 20)), none, .bin .add (.t (K.ofNat 19)) (.c (.i .i64 (.ofNat 1)))⟩, ⟨(some (K.ofNat 8)), none, .as (.t (K.ofNat 20))⟩]
noncomputable def f13_l0 : EC := (.seq (.seq (.reg f13_r3) (.cond (.t (K.ofNat 18)) .skip (.exit 0))) (.seq (.block 1 (.seq (.reg f13_r4) (.draw f13_r5))) (.reg f13_r6)))
noncomputable def f13_r7 : List EOper := [⟨(some (K.ofNat 38)), none, .mv (.t (K.ofNat 7))⟩, ⟨(some (K.ofNat 6)), none, .as (.t (K.ofNat 38))⟩]
noncomputable def f13_c : EC := (.seq (.reg f13_r0) (.seq (.reg f13_r1) (.seq (.seq (.reg f13_r2) (.block 0 (.loop f13_l0))) (.seq (.reg f13_r7) .ret))))
noncomputable def f13 : EF := ⟨39, [.tmp (K.ofNat 6)], f13_c, none⟩
theorem f13_rs : f13.rs = [.tmp (K.ofNat 6)] := of_eq_true (eq_self _)
section
variable {fs : T EF} {h : H} {v : V} {us : List V} {Ls : List (List (Int × Int))}
def fewL (Ls : List (List (Int × Int))) (g m : Nat) : List (List (Int × Int)) := (Ls.take m).map fun l => l.take g
theorem fewL_succ {g i : Nat} (hi : i < Ls.length) : fewL Ls g (i + 1) = fewL Ls g i ++ [Ls[i].take g] := by
  unfold fewL; rw [List.take_succ_eq_append_getElem hi, List.map_append]; rfl
def f13_I (h : H) (v : V) (Ls : List (List (Int × Int))) (g m : Nat) (i : Nat) (fr : Fr) (h1 : H) : Prop := i ≤ Ls.length ∧ i ≤ m ∧ ∃ w xs, Rows h h1 w xs (fewL Ls g i) ∧ fr.get (K.ofNat 0) = some (v) ∧ fr.get (K.ofNat 1) = some (.i .i64 (m : Int)) ∧ fr.get (K.ofNat 2) = some (.i .i64 (g : Int)) ∧ fr.get (K.ofNat 7) = some (w) ∧ fr.get (K.ofNat 8) = some (.i .i64 (i : Int))
theorem f13_ret {g m : Nat} (hv : Nrp h v us Ls) (hm : m ≤ 1000) (hg : g ≤ 1000) (hc : HC h) : Ret fs f13 [v, .i .i64 (m : Int), .i .i64 (g : Int)] h fun r h' => ∃ xs, Rows h h' r xs (fewL Ls g m) := by
  have hlen : ∀ h1, lenV v h1 = .ok (.i .i64 (Ls.length : Int)) h1 := fun h1 => by rw [hv.out.len, hv.len]
  apply ret_of rfl
  show W fs none f13_c _ _ _
  unfold f13_c
  simp (disch := omega) only [f13_r0, f13_r1, f13_r2, w_reg, w_seq, w_block, seqK_n, x_nil, x_as, ev_c, putD_some, frame_3, of0]
  refine W_loop (f13_I h v Ls g m) (fun i => Ls.length - i) ?_ 0 ⟨by omega, by omega, .sn, [], ⟨Sld.nil, Own.sn, (fun x hx => absurd hx (by simp)), Grow.refl _ _⟩, by simp (disch := omega) only [getK_set, Nat.reduceEqDiff, ↓reduceIte, and_self, Int.natCast_zero]⟩
  rintro i fr h1 ⟨hi, him, w, xs, hR, g0, g1, g2, g7, g8⟩
  have hc1 := hR.gr.hc hc
  have hv1 := hv.grow hc hR.gr
  have fin : (i = Ls.length ∨ i = m) → fewL Ls g i = fewL Ls g m := fun hh => by
    rcases hh with e | e
    · unfold fewL; rw [e, List.take_length, List.take_of_length_le (by omega)]
    · rw [e]
  unfold f13_l0
  by_cases hlt : i < Ls.length
  · have d0 : decide ((i : Int) < (Ls.length : Int)) = true := decide_eq_true (by omega)
    by_cases hlt2 : i < m
    · have d1 : decide ((i : Int) < (m : Int)) = true := decide_eq_true (by omega)
      have hiu : i < us.length := by rw [hv.len]; exact hlt
      obtain ⟨p, hp1, hp2'⟩ := hv1.out.at i hiu
      have hp2 : loadV h1 p one? = .ok us[i] h1 := hp2'
      clear hp2'
      have hui := hv1.inn i hiu hlt
      have hsu := fewL_succ (g := g) hlt
      generalize us[i] = u at *
      generalize Ls[i] = l at *
      have hlu := hui.len
      have hmn : min (l.length : Int) (g : Int) = ((min l.length g : Nat) : Int) := by omega
      obtain ⟨y, y1, y2, _⟩ := hui.cut (u := min l.length g) (kk := .i64) (by omega)
      have htk : l.take (min l.length g) = l.take g := by
        rcases Nat.le_total l.length g with h | h
        · rw [Nat.min_eq_left h, List.take_length, List.take_of_length_le h]
        · rw [Nat.min_eq_right h]
      rw [htk] at y2
      obtain ⟨r, h2, a1, a2, a3, a4⟩ := y2.appN hc1 (by simp; omega)
      have hc2 := a4.hc hc1
      have hsd := hR.sd.grow hc1 a4
      have hG2 := hR.gr.trans (a4.low hR.gr.nx)
      have vlt : ∀ id off n sz, w = .sl id off n sz → id.nat < h1.nx.nat := hR.sd.out.lt hc1
      have xlt : ∀ x ∈ xs, ∀ id off n sz, x = .sl id off n sz → id.nat < h1.nx.nat := fun x hx => by
        obtain ⟨a, ha, rfl⟩ := List.getElem_of_mem hx
        exact (hR.sd.sk a ha (by rw [← hR.sd.len]; exact ha)).lt hc1
      obtain ⟨w', h3, b1, b2, b3, b4⟩ := hsd.push hR.ow hG2.nx hc2 (by simp [fewL]; omega) a2 (fun id off n sz e off' n' sz' e' => by have := a3 _ _ _ _ e; have := vlt _ _ _ _ e'; omega) (fun x hx id off n sz e off' n' sz' e' => by have := a3 _ _ _ _ e; have := xlt x hx _ _ _ _ e'; omega)
      rw [← hsu] at b2
      have hwb := hR.sd.out.sr.beq
      have hr1 : cellsN 1 r = some [r] := a2.one
      simp (disch := omega) only [f13_r3, f13_r4, f13_r5, w_skip, w_reg, w_draw, w_seq, w_cond, w_block, seqK_n, ckB_b, cbB_b, okG_b, asG_t, true_and, x_nil, x_g, x_mv, x_as, x_pick, x_bin, sliceV_eq, Option.map_none, Option.map_some, x_len, x_app, kx, kg, xg_nil, xg_mv, xg_ld, xg_slice, xg_iads, xg_len, xg_min, xg_bslice, xd_cons, fresh_nil, stK_s, stay_nil, stay_cons, stay_mv, rvP_ok, okv_some, ev_t, ev_c, getV_some, putD_some, bin_lss, pick_b, oGet_s, min_ii, fill_1, set_1, Option.some.injEq, exists_eq_left', getK_set, Nat.reduceEqDiff, ↓reduceIte, g0, g1, g2, g7, g8, hlen, d0, d1, hp1, hp2, hlu, hmn, y1, a1, hc2.dead, hr1, fill_1, set_1]
      refine ⟨fresh_one (n := 1) (sz := 1) (by simp (disch := omega) only [getK_set, ↓reduceIte]), ?_⟩
      simp (disch := omega) only [f13_r6, w_reg, seqK_n, atK_n, loopK_n, true_and, x_nil, x_mv, x_as, x_bin, kx, xg_nil, xd_cons, fresh_nil, stK_n, stK_s, stay_nil, rvP_ok, okv_some, ev_t, ev_c, getV_some, putD_some, bin_add, of1, getK_set, Nat.reduceEqDiff, ↓reduceIte, g8, hwb, b1, fw64]
      exact ⟨i + 1, by omega, by omega, by omega, w', _, ⟨b2, b3, fun x hx => by
        rcases List.mem_append.1 hx with hx | hx
        · exact hR.ox x hx
        · rw [List.mem_singleton.1 hx]; exact a3.low hR.gr.nx, hG2.trans b4⟩, by simp (disch := omega) only [getK_set, Nat.reduceEqDiff, ↓reduceIte, g0, g1, g2, and_self, Int.natCast_add, Int.natCast_one]⟩
    · have d1 : decide ((i : Int) < (m : Int)) = false := decide_eq_false (by omega)
      rw [fin (.inr (by omega))] at hR
      simp (disch := omega) only [f13_r3, f13_r7, f13_rs, w_reg, w_seq, w_cond, w_exit, w_ret, seqK_n, seqK_e, atK_e, loopK_e, ckB_b, cbB_b, okG_b, asG_t, true_and, retK_r, x_nil, x_g, x_mv, x_as, x_pick, x_bin, x_len, kx, rvP_ok, okv_some, ev_t, ev_c, getV_some, putD_some, bin_lss, pick_b, oGet_s, readRs_nil, readRs_t, retV_1, Option.some.injEq, exists_eq_left', getK_set, Nat.reduceEqDiff, ↓reduceIte, Bool.false_eq_true, g0, g1, g7, g8, hlen, d0, d1]
      exact ⟨xs, hR⟩
  · have d0 : decide ((i : Int) < (Ls.length : Int)) = false := decide_eq_false (by omega)
    rw [fin (.inl (by omega))] at hR
    simp (disch := omega) only [f13_r3, f13_r7, f13_rs, w_reg, w_seq, w_cond, w_exit, w_ret, seqK_n, seqK_e, atK_e, loopK_e, ckB_b, cbB_b, okG_b, asG_t, true_and, retK_r, x_nil, x_g, x_mv, x_as, x_pick, x_bin, x_len, kx, rvP_ok, okv_some, ev_t, ev_c, getV_some, putD_some, bin_lss, pick_b, oGet_s, readRs_nil, readRs_t, retV_1, Option.some.injEq, exists_eq_left', getK_set, Nat.reduceEqDiff, ↓reduceIte, Bool.false_eq_true, g0, g7, g8, hlen, d0]
    exact ⟨xs, hR⟩
instance ok5_dec {n : Int} : Decidable (ok5 n) := inferInstanceAs (Decidable (n = 2 ∨ n = 4 ∨ n = 6 ∨ n = 8 ∨ n = 10))
theorem ok5_nat {n : Int} (h : ok5 n) : ∃ m : Nat, n = (m : Int) := ⟨n.toNat, by unfold ok5 at h; omega⟩
end
end Go.Ev
namespace Go.Ev
open Go Go.RowKit
noncomputable def f3_r0 : List EOper := [⟨(some (K.ofNat 4)), none, .as (.c (.b false))⟩]
noncomputable def f3_r1 : List EOper := [⟨(some (K.ofNat 24)), none, .mv (.t (K.ofNat 1))⟩, ⟨(some (K.ofNat 25)), none, .call (.c (.fn (K.ofNat 13) [])) [(.t (K.ofNat 24)), (.c (.i .i64 (.ofNat 10))), (.c (.i .i64 (.ofNat 6)))]⟩, ⟨(some (K.ofNat 5)), none, .as (.t (K.ofNat 25))⟩]
noncomputable def f3_r2 : List EOper := [⟨(some (K.ofNat 26)), none, .mv (.t (K.ofNat 0))⟩, ⟨(some (K.ofNat 27)), none, .mv (.t (K.ofNat 5))⟩, ⟨(some (K.ofNat 28)), none, .call (.c (.fn (K.ofNat 14) [])) [(.t (K.ofNat 26)), (.t (K.ofNat 27))]⟩, ⟨(some (K.ofNat 6)), none, .as (.t (K.ofNat 28))⟩]
noncomputable def f3_r3 : List EOper := [⟨(some (K.ofNat 29)), none, .mv (.t (K.ofNat 0))⟩, ⟨(some (K.ofNat 30)), none, .mv (.t (K.ofNat 5))⟩, ⟨(some (K.ofNat 31)), none, .call (.c (.fn (K.ofNat 15) [])) [(.t (K.ofNat 29)), (.t (K.ofNat 30))]⟩, ⟨(some (K.ofNat 32)), none, .mv (.t (K.ofNat 6))⟩, ⟨(some (K.ofNat 33)), none, .bin .neq (.t (K.ofNat 31)) (.t (K.ofNat 32))⟩]
noncomputable def f3_r4 : List EOper := [⟨(some (K.ofNat 4)), none, .as (.c (.b false))⟩]
noncomputable def f3_r5 : List EOper := [⟨(some (K.ofNat 35)), none, .mv (.t (K.ofNat 0))⟩, ⟨(some (K.ofNat 36)), none, .mv (.t (K.ofNat 5))⟩, ⟨(some (K.ofNat 37)), none, .call (.c (.fn (K.ofNat 16) [])) [(.t (K.ofNat 35)), (.t (K.ofNat 36))]⟩, ⟨(some (K.ofNat 34)), none, .mv (.t (K.ofNat 37))⟩, ⟨(some (K.ofNat 38)), none, .ext (.t (K.ofNat 34)) 0⟩, ⟨(some (K.ofNat 39)), none, .ext (.t (K.ofNat 34)) 1⟩, ⟨(some (K.ofNat 7)), none, .as (.t (K.ofNat 38))⟩, ⟨(some (K.ofNat 8)), none, .as (.t (K.ofNat 39))⟩]
noncomputable def f3_r6 : List EOper := [⟨(some (K.ofNat 41)), none, .mv (.t (K.ofNat 0))⟩, ⟨(some (K.ofNat 42)), none, .mv (.t (K.ofNat 5))⟩, ⟨(some (K.ofNat 43)), none, .call (.c (.fn (K.ofNat 17) [])) [(.t (K.ofNat 41)), (.t (K.ofNat 42))]⟩, ⟨(some (K.ofNat 40)), none, .mv (.t (K.ofNat 43))⟩, ⟨(some (K.ofNat 44)), none, .ext (.t (K.ofNat 40)) 0⟩, ⟨(some (K.ofNat 45)), none, .ext (.t (K.ofNat 40)) 1⟩, ⟨(some (K.ofNat 9)), none, .as (.t (K.ofNat 44))⟩, ⟨(some (K.ofNat 10)), none, .as (.t (K.ofNat 45))⟩]
noncomputable def f3_r7 : List EOper := [⟨(some (K.ofNat 47)), none, .mv (.t (K.ofNat 0))⟩, ⟨(some (K.ofNat 48)), none, .mv (.t (K.ofNat 5))⟩, ⟨(some (K.ofNat 49)), none, .call (.c (.fn (K.ofNat 18) [])) [(.t (K.ofNat 47)), (.t (K.ofNat 48))]⟩, ⟨(some (K.ofNat 46)), none, .mv (.t (K.ofNat 49))⟩, ⟨(some (K.ofNat 50)), none, .ext (.t (K.ofNat 46)) 0⟩, ⟨(some (K.ofNat 51)), none, .ext (.t (K.ofNat 46)) 1⟩, ⟨(some (K.ofNat 11)), none, .as (.t (K.ofNat 50))⟩, ⟨(some (K.ofNat 12)), none, .as (.t (K.ofNat 51))⟩]
noncomputable def f3_r8 : List EOper := [⟨(some (K.ofNat 53)), none, .mv (.t (K.ofNat 0))⟩, ⟨(some (K.ofNat 54)), none, .mv (.t (K.ofNat 5))⟩, ⟨(some (K.ofNat 55)), none, .call (.c (.fn (K.ofNat 19) [])) [(.t (K.ofNat 53)), (.t (K.ofNat 54))]⟩, ⟨(some (K.ofNat 52)), none, .mv (.t (K.ofNat 55))⟩, ⟨(some (K.ofNat 56)), none, .ext (.t (K.ofNat 52)) 0⟩, ⟨(some (K.ofNat 57)), none, .ext (.t (K.ofNat 52)) 1⟩, ⟨(some (K.ofNat 13)), none, .as (.t (K.ofNat 56))⟩, ⟨(some (K.ofNat 14)), none, .as (.t (K.ofNat 57))⟩]
noncomputable def f3_r9 : List EOper := [⟨(some (K.ofNat 59)), none, .mv (.t (K.ofNat 0))⟩, ⟨(some (K.ofNat 60)), none, .mv (.t (K.ofNat 5))⟩, ⟨(some (K.ofNat 61)), none, .call (.c (.fn (K.ofNat 20) [])) [(.t (K.ofNat 59)), (.t (K.ofNat 60))]⟩, ⟨(some (K.ofNat 58)), none, .mv (.t (K.ofNat 61))⟩, ⟨(some (K.ofNat 62)), none, .ext (.t (K.ofNat 58)) 0⟩, ⟨(some (K.ofNat 63)), none, .ext (.t (K.ofNat 58)) 1⟩, ⟨(some (K.ofNat 15)), none, .as (.t (K.ofNat 62))⟩, ⟨(some (K.ofNat 16)), none, .as (.t (K.ofNat 63))⟩]
noncomputable def f3_r10 : List EOper := [⟨(some (K.ofNat 65)), none, .mv (.t (K.ofNat 0))⟩, ⟨(some (K.ofNat 66)), none, .mv (.t (K.ofNat 5))⟩, ⟨(some (K.ofNat 67)), none, .call (.c (.fn (K.ofNat 21) [])) [(.t (K.ofNat 65)), (.t (K.ofNat 66)), (.c (.i .i64 (.ofNat 0)))]⟩, ⟨(some (K.ofNat 64)), none, .mv (.t (K.ofNat 67))⟩, ⟨(some (K.ofNat 68)), none, .ext (.t (K.ofNat 64)) 0⟩, ⟨(some (K.ofNat 69)), none, .ext (.t (K.ofNat 64)) 1⟩, ⟨(some (K.ofNat 17)), none, .as (.t (K.ofNat 68))⟩, ⟨(some (K.ofNat 18)), none, .as (.t (K.ofNat 69))⟩]
noncomputable def f3_r11 : List EOper := [⟨(some (K.ofNat 70)), none, .mv (.t (K.ofNat 6))⟩, ⟨(some (K.ofNat 71)), none, .bin .eql (.t (K.ofNat 70)) (.c (.i .i64 (.ofNat 0)))⟩]
noncomputable def f3_r12 : List EOper := [⟨(some (K.ofNat 72)), none, .mv (.t (K.ofNat 8))⟩, ⟨(some (K.ofNat 73)), none, .bin .eql (.t (K.ofNat 72)) (.c (.i .i64 (.ofNat 0)))⟩, ⟨(some (K.ofNat 74)), none, .mv (.t (K.ofNat 73))⟩, ⟨(some (K.ofNat 75)), (some ((K.ofNat 74), true)), .mv (.t (K.ofNat 10))⟩, ⟨(some (K.ofNat 76)), (some ((K.ofNat 74), true)), .bin .eql (.t (K.ofNat 75)) (.c (.i .i64 (.ofNat 0)))⟩, ⟨(some (K.ofNat 77)), none, .pick (.t (K.ofNat 74)) (.t (K.ofNat 76)) (.c (.b false))⟩, ⟨(some (K.ofNat 78)), none, .mv (.t (K.ofNat 77))⟩, ⟨(some (K.ofNat 79)), (some ((K.ofNat 78), true)), .mv (.t (K.ofNat 12))⟩, ⟨(some (K.ofNat 80)), (some ((K.ofNat 78), true)), .bin .eql (.t (K.ofNat 79)) (.c (.i .i64 (.ofNat 0)))⟩, ⟨(some (K.ofNat 81)), none, .pick (.t (K.ofNat 78)) (.t (K.ofNat 80)) (.c (.b false))⟩, ⟨(some (K.ofNat 82)), none, .mv (.t (K.ofNat 81))⟩, ⟨(some (K.ofNat 83)), (some ((K.ofNat 82), true)), .mv (.t (K.ofNat 14))⟩, ⟨(some (K.ofNat 84)), (some ((K.ofNat 82), true)), .bin .eql (.t (K.ofNat 83)) (.c (.i .i64 (.ofNat 0)))⟩, ⟨(some (K.ofNat 85)), none, .pick (.t (K.ofNat 82)) (.t (K.ofNat 84)) (.c (.b false))⟩, ⟨(some (K.ofNat 86)), none, .mv (.t (K.ofNat 85))⟩, ⟨(some (K.ofNat 87)), (some ((K.ofNat 86), true)), .mv (.t (K.ofNat 16))⟩, ⟨(some (K.ofNat 88)), (some ((K.ofNat 86), true)), .bin .eql (.t (K.ofNat 87)) (.c (.i .i64 (.ofNat 0)))⟩, ⟨(some (K.ofNat 89)), none, .pick (.t (K.ofNat 86)) (.t (K.ofNat 88)) (.c (.b false))⟩, ⟨(some (K.ofNat 90)), none, .mv (.t (K.ofNat 89))⟩, ⟨(some (K.ofNat 91)), (some ((K.ofNat 90), true)), .mv (.t (K.ofNat 18))⟩, ⟨(some (K.ofNat 92)), (some ((K.ofNat 90), true)), .bin .eql (.t (K.ofNat 91)) (.c (.i .i64 (.ofNat 0)))⟩, ⟨(some (K.ofNat 93)), none, .pick (.t (K.ofNat 90)) (.t (K.ofNat 92)) (.c (.b false))⟩, ⟨(some (K.ofNat 94)), none, .mv (.t (K.ofNat 93))⟩, ⟨(some (K.ofNat 95)), (some ((K.ofNat 94), true)), .call (.c (.fn (K.ofNat 22) [])) []⟩, ⟨(some (K.ofNat 96)), none, .pick (.t (K.ofNat 94)) (.t (K.ofNat 95)) (.c (.b false))⟩, ⟨(some (K.ofNat 4)), none, .as (.t (K.ofNat 96))⟩]
noncomputable def f3_r13 : List EOper := [⟨(some (K.ofNat 98)), none, .mv (.t (K.ofNat 0))⟩, ⟨(some (K.ofNat 99)), none, .mv (.t (K.ofNat 5))⟩, ⟨(some (K.ofNat 100)), none, .call (.c (.fn (K.ofNat 23) [])) [(.t (K.ofNat 98)), (.t (K.ofNat 99))]⟩, ⟨(some (K.ofNat 97)), none, .mv (.t (K.ofNat 100))⟩, ⟨(some (K.ofNat 101)), none, .ext (.t (K.ofNat 97)) 0⟩, ⟨(some (K.ofNat 102)), none, .ext (.t (K.ofNat 97)) 1⟩, ⟨(some (K.ofNat 103)), none, .ext (.t (K.ofNat 97)) 2⟩, ⟨(some (K.ofNat 19)), none, .as (.t (K.ofNat 101))⟩, ⟨(some (K.ofNat 20)), none, .as (.t (K.ofNat 102))⟩, ⟨(some (K.ofNat 21)), none, .as (.t (K.ofNat 103))⟩]
noncomputable def f3_r14 : List EOper := [⟨(some (K.ofNat 105)), none, .mv (.t (K.ofNat 0))⟩, ⟨(some (K.ofNat 106)), none, .mv (.t (K.ofNat 5))⟩, ⟨(some (K.ofNat 107)), none, .call (.c (.fn (K.ofNat 24) [])) [(.t (K.ofNat 105)), (.t (K.ofNat 106)), (.c .sn)]⟩, ⟨(some (K.ofNat 104)), none, .mv (.t (K.ofNat 107))⟩, ⟨(some (K.ofNat 108)), none, .ext (.t (K.ofNat 104)) 0⟩, ⟨(some (K.ofNat 109)), none, .ext (.t (K.ofNat 104)) 1⟩, ⟨(some (K.ofNat 22)), none, .as (.t (K.ofNat 108))⟩, ⟨(some (K.ofNat 23)), none, .as (.t (K.ofNat 109))⟩]
noncomputable def f3_r15 : List EOper := [⟨(some (K.ofNat 110)), none, .mv (.t (K.ofNat 8))⟩, ⟨(some (K.ofNat 111)), none, .mv (.t (K.ofNat 6))⟩, ⟨(some (K.ofNat 112)), none, .bin .eql (.t (K.ofNat 110)) (.t (K.ofNat 111))⟩, ⟨(some (K.ofNat 113)), none, .mv (.t (K.ofNat 112))⟩, ⟨(some (K.ofNat 114)), (some ((K.ofNat 113), true)), .mv (.t (K.ofNat 10))⟩, ⟨(some (K.ofNat 115)), (some ((K.ofNat 113), true)), .mv (.t (K.ofNat 6))⟩, ⟨(some (K.ofNat 116)), (some ((K.ofNat 113), true)), .bin .eql (.t (K.ofNat 114)) (.t (K.ofNat 115))⟩, ⟨(some (K.ofNat 117)), none, .pick (.t (K.ofNat 113)) (.t (K.ofNat 116)) (.c (.b false))⟩, ⟨(some (K.ofNat 118)), none, .mv (.t (K.ofNat 117))⟩, ⟨(some (K.ofNat 119)), (some ((K.ofNat 118), true)), .mv (.t (K.ofNat 21))⟩, ⟨(some (K.ofNat 120)), (some ((K.ofNat 118), true)), .mv (.t (K.ofNat 6))⟩, ⟨(some (K.ofNat 121)), (some ((K.ofNat 118), true)), .bin .eql (.t (K.ofNat 119)) (.t (K.ofNat 120))⟩, ⟨(some (K.ofNat 122)), none, .pick (.t (K.ofNat 118)) (.t (K.ofNat 121)) (.c (.b false))⟩, ⟨(some (K.ofNat 123)), none, .mv (.t (K.ofNat 122))⟩, ⟨(some (K.ofNat 124)), (some ((K.ofNat 123), true)), .mv (.t (K.ofNat 23))⟩, ⟨(some (K.ofNat 125)), (some ((K.ofNat 123), true)), .mv (.t (K.ofNat 6))⟩, ⟨(some (K.ofNat 126)), (some ((K.ofNat 123), true)), .bin .eql (.t (K.ofNat 124)) (.t (K.ofNat 125))⟩, ⟨(some (K.ofNat 127)), none, .pick (.t (K.ofNat 123)) (.t (K.ofNat 126)) (.c (.b false))⟩, ⟨(some (K.ofNat 128)), none, .mv (.t (K.ofNat 127))⟩, ⟨(some (K.ofNat 129)), (some ((K.ofNat 128), true)), .mv (.t (K.ofNat 12))⟩, ⟨(some (K.ofNat 130)), (some ((K.ofNat 128), true)), .mv (.t (K.ofNat 6))⟩, ⟨(some (K.ofNat 131)), (some ((K.ofNat 128), true)), .bin .eql (.t (K.ofNat 129)) (.t (K.ofNat 130))⟩, ⟨(some (K.ofNat 132)), none, .pick (.t (K.ofNat 128)) (.t (K.ofNat 131)) (.c (.b false))⟩, ⟨(some (K.ofNat 133)), none, .mv (.t (K.ofNat 132))⟩, ⟨(some (K.ofNat 134)), (some ((K.ofNat 133), true)), .mv (.t (K.ofNat 14))⟩, ⟨(some (K.ofNat 135)), (some ((K.ofNat 133), true)), .mv (.t (K.ofNat 6))⟩, ⟨(some (K.ofNat 136)), (some ((K.ofNat 133), true)), .bin .eql (.t (K.ofNat 134)) (.t (K.ofNat 135))⟩, ⟨(some (K.ofNat 137)), none, .pick (.t (K.ofNat 133)) (.t (K.ofNat 136)) (.c (.b false))⟩, ⟨(some (K.ofNat 138)), none, .mv (.t (K.ofNat 137))⟩, ⟨(some (K.ofNat 139)), (some ((K.ofNat 138), true)), .mv (.t (K.ofNat 16))⟩, ⟨(some (K.ofNat 140)), (some ((K.ofNat 138), true)), .mv (.t (K.ofNat 6))⟩, ⟨(some (K.ofNat 141)), (some ((K.ofNat 138), true)), .bin .eql (.t (K.ofNat 139)) (.t (K.ofNat 140))⟩, ⟨(some (K.ofNat 142)), none, .pick (.t (K.ofNat 138)) (.t (K.ofNat 141)) (.c (.b false))⟩, ⟨(some (K.ofNat 143)), none, .mv (.t (K.ofNat 142))⟩, ⟨(some (K.ofNat 144)), (some ((K.ofNat 143), true)), .mv (.t (K.ofNat 18))⟩, ⟨(some (K.ofNat 145)), (some ((K.ofNat 143), true)), .mv (.t (K.ofNat 6))⟩, ⟨(some (K.ofNat 146)), (some ((K.ofNat 143), true)), .bin .eql (.t (K.ofNat 144)) (.t (K.ofNat 145))⟩, ⟨(some (K.ofNat 147)), none, .pick (.t (K.ofNat 143)) (.t (K.ofNat 146)) (.c (.b false))⟩, ⟨(some (K.ofNat 148)), none, .mv (.t (K.ofNat 147))⟩, ⟨(some (K.ofNat 149)), (some ((K.ofNat 148), true)), .mv (.t (K.ofNat 13))⟩, ⟨(some (K.ofNat 150)), (some ((K.ofNat 148), true)), .not (.t (K.ofNat 149))⟩, ⟨(some (K.ofNat 151)), none, .pick (.t (K.ofNat 148)) (.t (K.ofNat 150)) (.c (.b false))⟩, ⟨(some (K.ofNat 152)), none, .mv (.t (K.ofNat 151))⟩, ⟨(some (K.ofNat 153)), (some ((K.ofNat 152), true)), .mv (.t (K.ofNat 15))⟩, ⟨(some (K.ofNat 154)), (some ((K.ofNat 152), true)), .not (.t (K.ofNat 153))⟩, ⟨(some (K.ofNat 155)), none, .pick (.t (K.ofNat 152)) (.t (K.ofNat 154)) (.c (.b false))⟩, ⟨(some (K.ofNat 156)), none, .mv (.t (K.ofNat 155))⟩, ⟨(some (K.ofNat 157)), (some ((K.ofNat 156), true)), .mv (.t (K.ofNat 7))⟩, ⟨(some (K.ofNat 158)), (some ((K.ofNat 156), true)), .mv (.t (K.ofNat 9))⟩, ⟨(some (K.ofNat 159)), (some ((K.ofNat 156), true)), .len (.t (K.ofNat 158))⟩, ⟨(some (K.ofNat 160)), (some ((K.ofNat 156), true)), .bin .add (.t (K.ofNat 157)) (.t (K.ofNat 159))⟩, ⟨(some (K.ofNat 161)), (some ((K.ofNat 156), true)), .mv (.t (K.ofNat 19))⟩, ⟨(some (K.ofNat 162)), (some ((K.ofNat 156), true)), .bin .add (.t (K.ofNat 160)) (.t (K.ofNat 161))⟩, ⟨(some (K.ofNat 163)), (some ((K.ofNat 156), true)), .mv (.t (K.ofNat 20))⟩, ⟨(some (K.ofNat 164)), (some ((K.ofNat 156), true)), .len (.t (K.ofNat 163))⟩, ⟨(some (K.ofNat 165)), (some ((K.ofNat 156), true)), .bin .add (.t (K.ofNat 162)) (.t (K.ofNat 164))⟩, ⟨(some (K.ofNat 166)), (some ((K.ofNat 156), true)), .mv (.t (K.ofNat 11))⟩, ⟨(some (K.ofNat 167)), (some ((K.ofNat 156), true)), .len (.t (K.ofNat 166))⟩, ⟨(some (K.ofNat 168)), (some ((K.ofNat 156), true)), .bin .add (.t (K.ofNat 165)) (.t (K.ofNat 167))⟩, ⟨(some (K.ofNat 169)), (some ((K.ofNat 156), true)), .mv (.t (K.ofNat 17))⟩, ⟨(some (K.ofNat 170)), (some ((K.ofNat 156), true)), .len (.t (K.ofNat 169))⟩, ⟨(some (K.ofNat 171)), (some ((K.ofNat 156), true)), .bin .add (.t (K.ofNat 168)) (.t (K.ofNat 170))⟩, ⟨(some (K.ofNat 172)), (some ((K.ofNat 156), true)), .mv (.t (K.ofNat 22))⟩, ⟨(some (K.ofNat 173)), (some ((K.ofNat 156), true)), .len (.t (K.ofNat 172))⟩, ⟨(some (K.ofNat 174)), (some ((K.ofNat 156), true)), .bin .add (.t (K.ofNat 171)) (.t (K.ofNat 173))⟩, ⟨(some (K.ofNat 175)), (some ((K.ofNat 156), true)), .bin .eql (.t (K.ofNat 174)) (.c (.i .i64 (.ofNat 0)))⟩, ⟨(some (K.ofNat 176)), none, .pick (.t (K.ofNat 156)) (.t (K.ofNat 175)) (.c (.b false))⟩, ⟨(some (K.ofNat 177)), none, .mv (.t (K.ofNat 176))⟩, ⟨(some (K.ofNat 178)), (some ((K.ofNat 177), true)), .call (.c (.fn (K.ofNat 22) [])) []⟩, ⟨(some (K.ofNat 179)), none, .pick (.t (K.ofNat 177)) (.t (K.ofNat 178)) (.c (.b false))⟩, ⟨(some (K.ofNat 4)), none, .as (.t (K.ofNat 179))⟩]
noncomputable def f3_c : EC := (.seq (.reg f3_r0) (.seq (.reg f3_r1) (.seq (.reg f3_r2) (.seq (.seq (.reg f3_r3) (.cond (.t (K.ofNat 33)) (.seq (.reg f3_r4) .ret) .skip)) (.seq (.reg f3_r5) (.seq (.reg f3_r6) (.seq (.reg f3_r7) (.seq (.reg f3_r8) (.seq (.reg f3_r9) (.seq (.reg f3_r10) (.seq (.seq (.reg f3_r11) (.cond (.t (K.ofNat 71)) (.seq (.reg f3_r12) .ret) .skip)) (.seq (.reg f3_r13) (.seq (.reg f3_r14) (.seq (.reg f3_r15) .ret))))))))))))))
noncomputable def f3 : EF := ⟨180, [.tmp (K.ofNat 4)], f3_c, none⟩
noncomputable def f8_r0 : List EOper := [⟨(some (K.ofNat 6)), none, .as (.c (.b false))⟩]
noncomputable def f8_r1 : List EOper := [⟨(some (K.ofNat 18)), none, .mv (.t (K.ofNat 1))⟩, ⟨(some (K.ofNat 19)), none, .call (.c (.fn (K.ofNat 13) [])) [(.t (K.ofNat 18)), (.c (.i .i64 (.ofNat 2))), (.c (.i .i64 (.ofNat 6)))]⟩, ⟨(some (K.ofNat 7)), none, .as (.t (K.ofNat 19))⟩]
noncomputable def f8_r2 : List EOper := [⟨(some (K.ofNat 20)), none, .mv (.t (K.ofNat 7))⟩, ⟨(some (K.ofNat 21)), none, .len (.t (K.ofNat 20))⟩, ⟨(some (K.ofNat 22)), none, .bin .lss (.t (K.ofNat 21)) (.c (.i .i64 (.ofNat 2)))⟩]
noncomputable def f8_r3 : List EOper := [⟨(some (K.ofNat 23)), none, .mv (.t (K.ofNat 7))⟩, ⟨(some (K.ofNat 24)), none, .bslice 1 1 [.sn] [(0, 1, (.c .sn))]⟩, ⟨(some (K.ofNat 25)), none, .app 1 (.t (K.ofNat 23)) (.t (K.ofNat 24))⟩, ⟨(some (K.ofNat 7)), none, .as (.t (K.ofNat 25))⟩]
noncomputable def f8_l0 : EC := (.seq (.seq (.reg f8_r2) (.cond (.t (K.ofNat 22)) .skip (.exit 0))) (.block 1 (.reg f8_r3)))
noncomputable def f8_r4 : List Stage := [⟨[⟨(some (K.ofNat 26)), none, .mv (.t (K.ofNat 7))⟩, ⟨(some (K.ofNat 27)), none, .iads 1 (.t (K.ofNat 26)) (.c (.i .i64 (.ofNat 0)))⟩, ⟨(some (K.ofNat 28)), none, .ld (.t (K.ofNat 27))⟩, ⟨(some (K.ofNat 29)), none, .mv (.t (K.ofNat 7))⟩, ⟨(some (K.ofNat 30)), none, .iads 1 (.t (K.ofNat 29)) (.c (.i .i64 (.ofNat 1)))⟩, ⟨(some (K.ofNat 31)), none, .ld (.t (K.ofNat 30))⟩], [], (some ⟨(some (K.ofNat 8)), none, .as (.t (K.ofNat 28))⟩), []⟩, ⟨[], [⟨(some (K.ofNat 29)), none, .mv (.t (K.ofNat 7))⟩, ⟨(some (K.ofNat 30)), none, .iads 1 (.t (K.ofNat 29)) (.c (.i .i64 (.ofNat 1)))⟩, ⟨(some (K.ofNat 31)), none, .ld (.t (K.ofNat 30))⟩], (some ⟨(some (K.ofNat 9)), none, .as (.t (K.ofNat 31))⟩), []⟩, ⟨[], [], none, []⟩]
noncomputable def f8_r5 : List EOper := [⟨(some (K.ofNat 10)), none, .as (.c (.i .i64 (.ofNat 0)))⟩]
noncomputable def f8_r6 : List EOper := [⟨(some (K.ofNat 32)), none, .mv (.t (K.ofNat 10))⟩, ⟨(some (K.ofNat 33)), none, .bin .lss (.t (K.ofNat 32)) (.c (.i .i64 (.ofNat 2)))⟩]
noncomputable def f8_r7 : List EOper := [⟨(some (K.ofNat 37)), none, .mv (.t (K.ofNat 0))⟩, ⟨(some (K.ofNat 38)), none, .mv (.t (K.ofNat 8))⟩, ⟨(some (K.ofNat 39)), none, .mv (.t (K.ofNat 9))⟩, ⟨(some (K.ofNat 40)), none, .call (.c (.fn (K.ofNat 44) [])) [(.t (K.ofNat 37)), (.t (K.ofNat 38)), (.t (K.ofNat 39))]⟩, ⟨(some (K.ofNat 36)), none, .mv (.t (K.ofNat 40))⟩, ⟨(some (K.ofNat 41)), none, .ext (.t (K.ofNat 36)) 0⟩, ⟨(some (K.ofNat 42)), none, .ext (.t (K.ofNat 36)) 1⟩, ⟨(some (K.ofNat 11)), none, .as (.t (K.ofNat 41))⟩, ⟨(some (K.ofNat 12)), none, .as (.t (K.ofNat 42))⟩]
noncomputable def f8_r8 : List EOper := [⟨(some (K.ofNat 55)), none, .mv (.t (K.ofNat 0))⟩, ⟨(some (K.ofNat 56)), none, .call (.c (.fn (K.ofNat 37) [])) [(.t (K.ofNat 55))]⟩, ⟨(some (K.ofNat 57)), none, .not (.t (K.ofNat 56))⟩, ⟨(some (K.ofNat 54)), none, .as (.t (K.ofNat 57))⟩]
noncomputable def f8_r9 : List EOper := [⟨(some (K.ofNat 58)), none, .mv (.t (K.ofNat 12))⟩, ⟨(some (K.ofNat 59)), none, .bin .neq (.t (K.ofNat 58)) (.c (.i .i64 (.ofNat 1)))⟩, ⟨(some (K.ofNat 60)), none, .mv (.t (K.ofNat 59))⟩, ⟨(some (K.ofNat 61)), (some ((K.ofNat 60), false)), .mv (.t (K.ofNat 11))⟩, ⟨(some (K.ofNat 62)), (some ((K.ofNat 60), false)), .len (.t (K.ofNat 61))⟩, ⟨(some (K.ofNat 63)), (some ((K.ofNat 60), false)), .bin .neq (.t (K.ofNat 62)) (.c (.i .i64 (.ofNat 0)))⟩, ⟨(some (K.ofNat 64)), none, .pick (.t (K.ofNat 60)) (.c (.b true)) (.t (K.ofNat 63))⟩]
noncomputable def f8_r10 : List EOper := [⟨(some (K.ofNat 6)), none, .as (.c (.b false))⟩]
noncomputable def f8_r11 : List EOper := [⟨(some (K.ofNat 66)), none, .mv (.t (K.ofNat 0))⟩, ⟨(some (K.ofNat 67)), none, .mv (.t (K.ofNat 8))⟩, ⟨(some (K.ofNat 68)), none, .call (.c (.fn (K.ofNat 45) [])) [(.t (K.ofNat 66)), (.t (K.ofNat 67))]⟩, ⟨(some (K.ofNat 69)), none, .not (.t (K.ofNat 68))⟩, ⟨(some (K.ofNat 70)), none, .mv (.t (K.ofNat 69))⟩, ⟨(some (K.ofNat 71)), (some ((K.ofNat 70), false)), .mv (.t (K.ofNat 0))⟩, ⟨(some (K.ofNat 72)), (some ((K.ofNat 70), false)), .mv (.t (K.ofNat 9))⟩, ⟨(some (K.ofNat 73)), (some ((K.ofNat 70), false)), .call (.c (.fn (K.ofNat 45) [])) [(.t (K.ofNat 71)), (.t (K.ofNat 72))]⟩, ⟨(some (K.ofNat 74)), (some ((K.ofNat 70), false)), .not (.t (K.ofNat 73))⟩, ⟨(some (K.ofNat 75)), none, .pick (.t (K.ofNat 70)) (.c (.b true)) (.t (K.ofNat 74))⟩, ⟨(some (K.ofNat 65)), none, .as (.t (K.ofNat 75))⟩]
noncomputable def f8_r12 : List EOper := [⟨(some (K.ofNat 76)), none, .mv (.t (K.ofNat 12))⟩, ⟨(some (K.ofNat 77)), none, .bin .neq (.t (K.ofNat 76)) (.c (.i .i64 (.ofNat 40)))⟩, ⟨(some (K.ofNat 78)), none, .mv (.t (K.ofNat 77))⟩, ⟨(some (K.ofNat 79)), (some ((K.ofNat 78), false)), .mv (.t (K.ofNat 11))⟩, ⟨(some (K.ofNat 80)), (some ((K.ofNat 78), false)), .len (.t (K.ofNat 79))⟩, ⟨(some (K.ofNat 81)), (some ((K.ofNat 78), false)), .bin .neq (.t (K.ofNat 80)) (.c (.i .i64 (.ofNat 0)))⟩, ⟨(some (K.ofNat 82)), none, .pick (.t (K.ofNat 78)) (.c (.b true)) (.t (K.ofNat 81))⟩]
noncomputable def f8_r13 : List EOper := [⟨(some (K.ofNat 6)), none, .as (.c (.b false))⟩]
noncomputable def f8_r14 : List EOper := [⟨(some (K.ofNat 43)), none, .mv (.t (K.ofNat 12))⟩, ⟨(some (K.ofNat 44)), none, .bin .neq (.t (K.ofNat 43)) (.c (.i .i64 (.ofNat 0)))⟩, ⟨(some (K.ofNat 45)), none, .mv (.t (K.ofNat 44))⟩, ⟨(some (K.ofNat 46)), (some ((K.ofNat 45), false)), .mv (.t (K.ofNat 11))⟩, ⟨(some (K.ofNat 47)), (some ((K.ofNat 45), false)), .mv (.t (K.ofNat 0))⟩, ⟨(some (K.ofNat 48)), (some ((K.ofNat 45), false)), .mv (.t (K.ofNat 8))⟩, ⟨(some (K.ofNat 49)), (some ((K.ofNat 45), false)), .mv (.t (K.ofNat 9))⟩, ⟨(some (K.ofNat 50)), (some ((K.ofNat 45), false)), .call (.c (.fn (K.ofNat 46) [])) [(.t (K.ofNat 47)), (.t (K.ofNat 48)), (.t (K.ofNat 49))]⟩, ⟨(some (K.ofNat 51)), (some ((K.ofNat 45), false)), .call (.c (.fn (K.ofNat 28) [])) [(.t (K.ofNat 46)), (.t (K.ofNat 50))]⟩, ⟨(some (K.ofNat 52)), (some ((K.ofNat 45), false)), .not (.t (K.ofNat 51))⟩, ⟨(some (K.ofNat 53)), none, .pick (.t (K.ofNat 45)) (.c (.b true)) (.t (K.ofNat 52))⟩]
noncomputable def f8_r15 : List EOper := [⟨(some (K.ofNat 6)), none, .as (.c (.b false))⟩]
noncomputable def f8_r16 : List EOper := [⟨(some (K.ofNat 84)), none, .mv (.t (K.ofNat 0))⟩, ⟨(some (K.ofNat 85)), none, .mv (.t (K.ofNat 2))⟩, ⟨(some (K.ofNat 86)), none, .call (.c (.fn (K.ofNat 25) [])) [(.t (K.ofNat 84)), (.t (K.ofNat 85))]⟩, ⟨(some (K.ofNat 83)), none, .mv (.t (K.ofNat 86))⟩, ⟨(some (K.ofNat 87)), none, .ext (.t (K.ofNat 83)) 0⟩, ⟨(some (K.ofNat 88)), none, .ext (.t (K.ofNat 83)) 1⟩, ⟨(some (K.ofNat 13)), none, .as (.t (K.ofNat 87))⟩, ⟨(some (K.ofNat 14)), none, .as (.t (K.ofNat 88))⟩]
noncomputable def f8_r17 : List Stage := [⟨[⟨(some (K.ofNat 89)), none, .mv (.t (K.ofNat 13))⟩, ⟨(some (K.ofNat 90)), none, .mv (.t (K.ofNat 14))⟩, ⟨(some (K.ofNat 91)), none, .iads 1 (.t (K.ofNat 90)) (.c (.i .i64 (.ofNat 0)))⟩, ⟨(some (K.ofNat 92)), none, .ld (.t (K.ofNat 91))⟩], [], (some ⟨(some (K.ofNat 0)), none, .as (.t (K.ofNat 89))⟩), []⟩, ⟨[], [⟨(some (K.ofNat 90)), none, .mv (.t (K.ofNat 14))⟩, ⟨(some (K.ofNat 91)), none, .iads 1 (.t (K.ofNat 90)) (.c (.i .i64 (.ofNat 0)))⟩, ⟨(some (K.ofNat 92)), none, .ld (.t (K.ofNat 91))⟩], (some ⟨(some (K.ofNat 8)), none, .as (.t (K.ofNat 92))⟩), []⟩, ⟨[], [], none, []⟩]
noncomputable def f8_r18 : List EOper := [⟨(some (K.ofNat 15)), none, .as (.c .sn)⟩]
noncomputable def f8_r19 : List EOper := [⟨(some (K.ofNat 93)), none, .mv (.t (K.ofNat 13))⟩, ⟨(some (K.ofNat 94)), none, .mv (.t (K.ofNat 2))⟩, ⟨(some (K.ofNat 95)), none, .call (.c (.fn (K.ofNat 33) [])) [(.t (K.ofNat 93)), (.t (K.ofNat 94))]⟩, ⟨(some (K.ofNat 16)), none, .as (.t (K.ofNat 95))⟩]
noncomputable def f8_r20 : List EOper := [⟨(some (K.ofNat 17)), none, .as (.c (.i .i64 (.ofNat 0)))⟩]
noncomputable def f8_r21 : List EOper := [⟨(some (K.ofNat 96)), none, .mv (.t (K.ofNat 17))⟩, ⟨(some (K.ofNat 97)), none, .bin .add (.t (K.ofNat 96)) (.c (.i .i64 (.ofNat 1)))⟩, ⟨(some (K.ofNat 98)), none, .mv (.t (K.ofNat 13))⟩, ⟨(some (K.ofNat 99)), none, .bin .lss (.t (K.ofNat 97)) (.t (K.ofNat 98))⟩]
noncomputable def f8_r22 : List Stage := [⟨[⟨(some (K.ofNat 102)), none, .mv (.t (K.ofNat 15))⟩, ⟨(some (K.ofNat 103)), none, .mv (.t (K.ofNat 16))⟩, ⟨(some (K.ofNat 104)), none, .mv (.t (K.ofNat 17))⟩, ⟨(some (K.ofNat 105)), none, .iads 1 (.t (K.ofNat 103)) (.t (K.ofNat 104))⟩, ⟨(some (K.ofNat 106)), none, .ld (.t (K.ofNat 105))⟩, ⟨(some (K.ofNat 107)), none, .mv (.t (K.ofNat 16))⟩, ⟨(some (K.ofNat 108)), none, .mv (.t (K.ofNat 17))⟩, ⟨(some (K.ofNat 109)), none, .bin .add (.t (K.ofNat 108)) (.c (.i .i64 (.ofNat 1)))⟩, ⟨(some (K.ofNat 110)), none, .iads 1 (.t (K.ofNat 107)) (.t (K.ofNat 109))⟩, ⟨(some (K.ofNat 111)), none, .ld (.t (K.ofNat 110))⟩, ⟨(some (K.ofNat 112)), none, .build [(.i .i64 (.ofNat 0)), (.i .i64 (.ofNat 0))] [(0, 1, (.t (K.ofNat 106))), (1, 1, (.t (K.ofNat 111)))]⟩, ⟨(some (K.ofNat 113)), none, .bslice 1 2 [(.i .i64 (.ofNat 0)), (.i .i64 (.ofNat 0))] [(0, 2, (.t (K.ofNat 112)))]⟩], [], (some ⟨(some (K.ofNat 114)), none, .app 2 (.t (K.ofNat 102)) (.t (K.ofNat 113))⟩), [(K.ofNat 113)]⟩, ⟨[], [], (some ⟨(some (K.ofNat 15)), none, .as (.t (K.ofNat 114))⟩), []⟩, ⟨[], [], none, []⟩]
noncomputable def f8_r23 : List EOper := [⟨(some (K.ofNat 100)), none, .mv (.t (K.ofNat 17))⟩, ⟨(some (K.ofNat 101)), none, .bin .add (.t (K.ofNat 100)) (.c (.i .i64 (.ofNat 2)))⟩, ⟨(some (K.ofNat 17)), none, .as (.t (K.ofNat 101))⟩]
noncomputable def f8_l1 : EC := (.seq (.seq (.reg f8_r21) (.cond (.t (K.ofNat 99)) .skip (.exit 5))) (.seq (.block 6 (.draw f8_r22)) (.reg f8_r23)))
noncomputable def f8_r24 : List EOper := [⟨(some (K.ofNat 115)), none, .mv (.t (K.ofNat 15))⟩, ⟨(some (K.ofNat 9)), none, .as (.t (K.ofNat 115))⟩]
noncomputable def f8_r25 : List EOper := [⟨(some (K.ofNat 34)), none, .mv (.t (K.ofNat 10))⟩, ⟨(some (K.ofNat 35)), none, .bin .add (.t (K.ofNat 34)) (.c (.i .i64 (.ofNat 1)))⟩, ⟨(some (K.ofNat 10)), none, .as (.t (K.ofNat 35))⟩]
noncomputable def f8_l2 : EC := (.seq (.seq (.reg f8_r6) (.cond (.t (K.ofNat 33)) .skip (.exit 2))) (.seq (.block 3 (.seq (.reg f8_r7) (.seq (.block 4 (.seq (.reg f8_r8) (.cond (.t (K.ofNat 54)) (.seq (.reg f8_r9) (.cond (.t (K.ofNat 64)) (.seq (.reg f8_r10) .ret) .skip)) (.seq (.reg f8_r11) (.cond (.t (K.ofNat 65)) (.seq (.reg f8_r12) (.cond (.t (K.ofNat 82)) (.seq (.reg f8_r13) .ret) .skip)) (.seq (.reg f8_r14) (.cond (.t (K.ofNat 53)) (.seq (.reg f8_r15) .ret) .skip))))))) (.seq (.reg f8_r16) (.seq (.draw f8_r17) (.seq (.reg f8_r18) (.seq (.reg f8_r19) (.seq (.seq (.reg f8_r20) (.block 5 (.loop f8_l1))) (.reg f8_r24))))))))) (.reg f8_r25)))
noncomputable def f8_r26 : List EOper := [⟨(some (K.ofNat 116)), none, .call (.c (.fn (K.ofNat 22) [])) []⟩, ⟨(some (K.ofNat 6)), none, .as (.t (K.ofNat 116))⟩]
noncomputable def f8_c : EC := (.seq (.reg f8_r0) (.seq (.reg f8_r1) (.seq (.block 0 (.loop f8_l0)) (.seq (.draw f8_r4) (.seq (.seq (.reg f8_r5) (.block 2 (.loop f8_l2))) (.seq (.reg f8_r26) .ret))))))
noncomputable def f8 : EF := ⟨117, [.tmp (K.ofNat 6)], f8_c, none⟩
theorem f8_rs : f8.rs = [.tmp (K.ofNat 6)] := of_eq_true (eq_self _)
theorem InArg.le2 {W : World} {val : Value} {len : Nat} {zs : List Int} (a : InArg 2 W val len zs) : len * 2 ≤ zs.length := by
  rcases a with a | ⟨_, _, rfl, rfl⟩
  · exact a.le
  · simp
/-- Nested slices that come in, at the call. -/
theorem nrp_of {W : World} {val : Value} {h : H} {v : V} {us : List V} {len : Nat} {as : List NA} (s : Sr vE h v us) (l : us.length = len) (t : ∀ i (h1 : i < us.length) (h2 : i < as.length), InRead 2 h us[i] as[i]) (k : len ≤ as.length) (ha : NArg 2 W val len as) : Nrp h v us ((as.take len).map fun a => pairsOf a.2.1 a.2.2) := by
  refine ⟨by simp; omega, s, fun i h1 h2 => ?_⟩
  have h3 : i < as.length := by omega
  have hin : InArg 2 W as[i].1 as[i].2.1 as[i].2.2 := by
    rcases ha with ⟨_, _, rfl⟩ | ⟨_, _, _, _, _, _, _, _, h4⟩
    · simp at h3
    · exact h4 _ (List.getElem_mem h3)
  have := t i h1 h3
  simp only [List.getElem_map, List.getElem_take]
  exact Srk.srp this hin.le2
section
variable {fs : T EF} {h : H} {v : V} {us : List V} {Ls : List (List (Int × Int))}
theorem fewL_len {g m : Nat} : (fewL Ls g m).length ≤ m := by unfold fewL; rw [List.length_map, List.length_take]; omega
theorem fewL_row {g m : Nat} : ∀ l ∈ fewL Ls g m, l.length ≤ g := fun l hl => by
  obtain ⟨l', _, rfl⟩ := List.mem_map.1 hl
  rw [List.length_take]; omega
end
structure CallsRr (fs : T EF) : Prop extends CallsRi fs, CallsRc fs, CallsTm fs where
  c13 : fs.get (K.ofNat 13) = some f13
  c25 : fs.get (K.ofNat 25) = some f25
  c28 : fs.get (K.ofNat 28) = some f28
  c46 : fs.get (K.ofNat 46) = some f46
  c64 : fs.get (K.ofNat 64) = some f64
  aw : ∀ h P, CallP fs (.fn (K.ofNat 22) []) [] h P = P (.b true) h
section
variable {fs : T EF} {h : H} {v v2 : V} {us : List V} {Ls : List (List (Int × Int))}
def ownL (M : List Int) (k : Nat) : List (Int × Int) := (List.range k).map fun j => (M.getD (2 * j) 0, M.getD (2 * j + 1) 0)
theorem ownL_succ {M : List Int} {k : Nat} : ownL M (k + 1) = ownL M k ++ [(M.getD (2 * k) 0, M.getD (2 * k + 1) 0)] := by
  unfold ownL; rw [List.range_succ, List.map_append]; rfl
def f8_I0 (h : H) (n : Int) (v2 : V) (j : Nat) (fr : Fr) (h1 : H) : Prop := ∃ w xs Q, Rows h h1 w xs Q ∧ j + Q.length = 2 ∧ (∀ l ∈ Q, l.length ≤ 6) ∧ fr.get (K.ofNat 0) = some (.i .i64 n) ∧ fr.get (K.ofNat 2) = some (v2) ∧ fr.get (K.ofNat 7) = some (w)
def f8_I (h : H) (v2 : V) (i : Nat) (fr : Fr) (h1 : H) : Prop := i ≤ 2 ∧ Grow h.nx.nat h h1 ∧ ∃ n va vb a b, Srp h1 va a ∧ Srp h1 vb b ∧ a.length ≤ 1000 ∧ b.length ≤ 1000 ∧ fr.get (K.ofNat 0) = some (.i .i64 n) ∧ fr.get (K.ofNat 2) = some (v2) ∧ fr.get (K.ofNat 8) = some (va) ∧ fr.get (K.ofNat 9) = some (vb) ∧ fr.get (K.ofNat 10) = some (.i .i64 (i : Int))
def f8_J (h2 : H) (v2 va u : V) (M : List Int) (m i : Nat) (j : Nat) (fr : Fr) (h1 : H) : Prop := 2 * j ≤ m ∧ Grow h2.nx.nat h2 h1 ∧ ∃ w, Sk 2 qE h1 w (ownL M j) ∧ Own h2.nx.nat w ∧ fr.get (K.ofNat 0) = some (.i .i64 (m : Int)) ∧ fr.get (K.ofNat 2) = some (v2) ∧ fr.get (K.ofNat 8) = some (va) ∧ fr.get (K.ofNat 10) = some (.i .i64 (i : Int)) ∧ fr.get (K.ofNat 13) = some (.i .i64 (m : Int)) ∧ fr.get (K.ofNat 15) = some (w) ∧ fr.get (K.ofNat 16) = some (u) ∧ fr.get (K.ofNat 17) = some (.i .i64 ((2 * j : Nat) : Int))
theorem f8_ret {n : Int} {B : List Int} (k : CallsRr fs) (hv : Nrp h v us Ls) (hv2 : Sr iE h v2 B) (hB : B.length ≤ 9223372036854775807) (hc : HC h) : Ret fs f8 [.i .i64 n, v, v2] h fun r h' => r = .b true ∧ Grow h.nx.nat h h' := by
  have aw := k.aw
  have ne0 : decide ((0 : Int) ≠ 0) = false := rfl
  have ne1 : decide ((1 : Int) ≠ 1) = false := rfl
  have ne40 : decide ((40 : Int) ≠ 40) = false := rfl
  apply ret_of rfl
  show W fs none f8_c _ _ _
  unfold f8_c
  simp (disch := omega) only [f8_r0, f8_r1, w_reg, w_seq, seqK_n, x_nil, x_mv, x_as, x_call, ev_t, ev_c, evs_nil, evs_cons, getV_some, putD_some, frame_3, of2, of6, getK_set, Nat.reduceEqDiff, ↓reduceIte]
  refine (callP_0 (ef := f13) k.c13 rfl (f13_ret (m := 2) (g := 6) hv (by omega) (by omega) hc)).mono ?_
  rintro c h1 ⟨xs, hR⟩
  have hl2 := fewL_len (Ls := Ls) (g := 6) (m := 2)
  have hrow := fewL_row (Ls := Ls) (g := 6) (m := 2)
  generalize fewL Ls 6 2 = Q at *
  simp (disch := omega) only [w_seq, w_block, seqK_n, x_nil, x_as, kx, ev_t, getV_some, putD_some, getK_set, ↓reduceIte]
  refine W_loop (f8_I0 h n v2) (fun j => j) ?_ (2 - Q.length) ⟨c, xs, Q, hR, by omega, hrow, by simp (disch := omega) only [getK_set, Nat.reduceEqDiff, ↓reduceIte, and_self]⟩
  clear hR hl2 hrow Q xs c h1
  rintro j fr h1 ⟨w, xs, Q, hR, hj, hrow, g0, g2, g7⟩
  have hc1 := hR.gr.hc hc
  have hlen : ∀ h1, lenV w h1 = .ok (.i .i64 (Q.length : Int)) h1 := fun h1 => by rw [hR.sd.out.len, hR.sd.len]
  unfold f8_l0
  by_cases hlt : Q.length < 2
  · have d0 : decide ((Q.length : Int) < 2) = true := decide_eq_true (by omega)
    obtain ⟨w', h2, a1, a2, a3, a4⟩ := hR.sd.push hR.ow hR.gr.nx hc1 (by omega) (Sk.nil (k := 2) (e := qE)) (fun id off n sz e => by cases e) (fun x _ id off n sz e => by cases e)
    simp (disch := omega) only [f8_r2, f8_r3, w_skip, w_reg, w_seq, w_cond, w_block, seqK_n, atK_n, loopK_n, ckB_b, cbB_b, true_and, x_nil, x_mv, x_as, x_bslice, x_bin, x_len, x_app, kx, rvP_ok, okv_some, ev_t, ev_c, getV_some, putD_some, bin_lss, oGet_s, cells1_sn, fill_1, set_1, of2, getK_set, Nat.reduceEqDiff, ↓reduceIte, g7, hlen, d0, fill_1, set_1, a1]
    exact ⟨j - 1, by omega, w', _, _, ⟨a2, a3, fun x hx => by
      rcases List.mem_append.1 hx with hx | hx
      · exact hR.ox x hx
      · rw [List.mem_singleton.1 hx]; exact Own.sn, hR.gr.trans a4⟩, by simp; omega, fun l hl => by
      rcases List.mem_append.1 hl with hl | hl
      · exact hrow l hl
      · rw [List.mem_singleton.1 hl]; simp, by simp (disch := omega) only [getK_set, Nat.reduceEqDiff, ↓reduceIte, g0, g2, and_self]⟩
  · have d0 : decide ((Q.length : Int) < 2) = false := decide_eq_false (by omega)
    have hx2 := hR.sd.len
    obtain ⟨p, p1, p2⟩ := hR.sd.out.at 0 (by omega)
    obtain ⟨q, q1, q2⟩ := hR.sd.out.at 1 (by omega)
    have p2 : loadV h1 p one? = .ok (xs[0]'(by omega)) h1 := p2
    have q2 : loadV h1 q one? = .ok (xs[1]'(by omega)) h1 := q2
    have ha := (hR.sd.sk 0 (by omega) (by omega)).srp
    have hb := (hR.sd.sk 1 (by omega) (by omega)).srp
    have la := hrow _ (List.getElem_mem (show 0 < Q.length by omega))
    have lb := hrow _ (List.getElem_mem (show 1 < Q.length by omega))
    have hab := hb.beq
    have hwb := hR.sd.out.beq
    have hqb : beqV q q = true := by
      obtain ⟨q', z1, _, z3⟩ := hR.sd.out.atb 1 (by omega)
      obtain rfl : q = q' := by have := (q1 .i64 h1).symm.trans (z1 .i64 h1); injection this
      exact z3
    have hG := hR.gr
    have p1 : ∀ (k : IntKind) (h1 : H), iadsV 1 w (.i k 0) h1 = .ok p h1 := p1
    have q1 : ∀ (k : IntKind) (h1 : H), iadsV 1 w (.i k 1) h1 = .ok q h1 := q1
    generalize xs[0]'(by omega) = va at *
    generalize xs[1]'(by omega) = vb at *
    generalize Q[0]'(by omega) = a at *
    generalize Q[1]'(by omega) = b at *
    simp (disch := omega) only [f8_r2, f8_r4, f8_r5, w_reg, w_draw, w_seq, w_cond, w_block, w_exit, seqK_n, seqK_e, atK_e, loopK_e, ckB_b, cbB_b, true_and, x_nil, x_mv, x_as, x_bin, x_len, kx, kg, xg_nil, xg_mv, xg_ld, xg_iads, xd_cons, fresh_nil, stK_n, stK_s, stay_nil, stay_cons, again_ok, stay_mv, stay_iads, stay_ld, rvP_ok, okv_some, ev_t, ev_c, getV_some, putD_some, bin_lss, of0, of1, of2, getK_set, Nat.reduceEqDiff, ↓reduceIte, Bool.false_eq_true, g7, hlen, d0, p1, p2, q1, q2, hab, hwb, hqb]
    refine W_loop (f8_I h v2) (fun i => 2 - i) ?_ 0 ⟨by omega, hG, n, va, vb, a, b, ha, hb, by omega, by omega, by simp (disch := omega) only [getK_set, Nat.reduceEqDiff, ↓reduceIte, g0, g2, and_self, Int.natCast_zero]⟩
    clear hR hc1 hlen d0 hx2 p1 p2 q1 q2 ha hb la lb hab hwb hqb hG g0 g2 g7 fr hrow hj hlt
    rintro i fr h1 ⟨hi, hG, n, va, vb, a, b, ha, hb, la, lb, g0, g2, g8, g9, g10⟩
    have hc1 := hG.hc hc
    unfold f8_l2
    by_cases hlt : i < 2
    · have d0 : decide ((i : Int) < 2) = true := decide_eq_true (by omega)
      -- the next rounds
      have fin : ∀ (n : Int) fr h2, Grow h.nx.nat h h2 → fr.get (K.ofNat 0) = some (.i .i64 n) ∧ fr.get (K.ofNat 2) = some (v2) ∧ fr.get (K.ofNat 10) = some (.i .i64 (i : Int)) → X fs f8_r16 (seqK (W fs none (.seq (.draw f8_r17) (.seq (.reg f8_r18) (.seq (.reg f8_r19) (.seq (.seq (.reg f8_r20) (.block 5 (.loop f8_l1))) (.reg f8_r24)))))) (atK 3 (seqK (W fs none (.reg f8_r25)) (loopK (f8_I h v2) (fun i => 2 - i) i (atK 2 (seqK (W fs none (.seq (.reg f8_r26) .ret)) (retK f8 fun r h' => r = .b true ∧ Grow h.nx.nat h h')))))) .normal) fr h2 := by
        clear g0 g2 g8 g9 g10 fr hG hc1 ha hb
        rintro n fr h2 hG ⟨g0, g2, g10⟩
        have hc2 := hG.hc hc
        simp (disch := omega) only [f8_r16, x_mv, x_call, ev_t, ev_c, evs_nil, evs_cons, getV_some, putD_some, getK_set, Nat.reduceEqDiff, ↓reduceIte, g0, g2]
        refine (callP_0 (ef := f25) k.c25 rfl (f25_ret (n := n) k.toCallsTm (hv2.grow hc hG) hB hc2)).mono ?_
        rintro r h3 ⟨m, c, ws, rfl, hm, hS, hG3⟩
        have ho := teams_nat hm
        have s := Sched.of ho (tame_sh (B := B) ho)
        generalize tameL m B = Q at *
        obtain ⟨hb10, hb2⟩ := s.bd
        have hql := s.len
        have hc3 := hG3.hc hc2
        have hGa := hG.trans (hG3.low hG.nx)
        have hwl := hS.len
        obtain ⟨p, p1, p2, p3⟩ := hS.out.atb 0 (by omega)
        have p2 : loadV h3 p one? = .ok (ws[0]'(by omega)) h3 := p2
        have ha := hS.inn 0 (by omega) (by omega)
        have la := s.row _ (List.getElem_mem (show 0 < Q.length by omega))
        have hcb := hS.out.beq
        have hab := ha.beq
        have p1 : ∀ (k : IntKind) (h1 : H), iadsV 1 c (.i k 0) h1 = .ok p h1 := p1
        generalize ws[0]'(by omega) = va at *
        generalize Q[0]'(by omega) = a at *
        simp (disch := omega) only [f8_r17, f8_r18, f8_r19, w_reg, w_draw, w_seq, seqK_n, true_and, x_nil, x_mv, x_as, x_ext, x_call, kx, kg, xg_nil, xg_mv, xg_ld, xg_iads, xd_cons, fresh_nil, stK_n, stK_s, stay_nil, stay_cons, again_ok, stay_mv, stay_iads, stay_ld, rvP_ok, okv_some, ev_t, ev_c, evs_nil, evs_cons, getV_some, putD_some, onTup_t, nth0, nth1, of0, getK_set, Nat.reduceEqDiff, ↓reduceIte, g2, p1, p2, p3, hcb, hab]
        refine (callP_0 (ef := f33) k.c33 rfl (f33_ret (by omega) (hv2.grow hc hGa) hB hc3)).mono ?_
        rintro u h4 ⟨hu, _, hG4⟩
        have hc4 := hG4.hc hc3
        have hGb := hGa.trans (hG4.low hGa.nx)
        have ha4 := ha.grow hc3 hG4
        have hnl := nmL_len (B := B) (t := m)
        generalize nmL B m = M at *
        simp (disch := omega) only [f8_r20, w_reg, w_seq, w_block, seqK_n, x_nil, x_as, kx, ev_t, ev_c, getV_some, putD_some, of0, getK_set, ↓reduceIte]
        refine W_loop (f8_J h4 v2 va u M m i) (fun j => m - 2 * j) ?_ 0 ⟨by omega, Grow.refl _ _, .sn, Sk.nil, Own.sn, by simp (disch := omega) only [getK_set, Nat.reduceEqDiff, ↓reduceIte, g2, g10, and_self, Nat.mul_zero, Int.natCast_zero]⟩
        clear g0 g2 g10 fr p1 p2 p3
        rintro j fr h5 ⟨hj, hG5, w, hw, how, g0, g2, g8, g10, g13, g15, g16, g17⟩
        have hc5 := hG5.hc hc4
        unfold f8_l1
        by_cases hlt2 : 2 * j + 1 < m
        · have e1 : ((2 * j : Nat) : Int) + 1 = ((2 * j + 1 : Nat) : Int) := by omega
          have e2 : ((2 * j : Nat) : Int) + 2 = ((2 * (j + 1) : Nat) : Int) := by omega
          have d1 : decide (((2 * j + 1 : Nat) : Int) < (m : Int)) = true := decide_eq_true (by omega)
          obtain ⟨pa, pa1, pa2⟩ := (hu.grow hc4 hG5).at (2 * j) (by omega)
          obtain ⟨pb, pb1, pb2⟩ := (hu.grow hc4 hG5).at (2 * j + 1) (by omega)
          rw [← getD_at (d := 0) (show 2 * j < M.length by omega)] at pa2
          rw [← getD_at (d := 0) (show 2 * j + 1 < M.length by omega)] at pb2
          have hsu := ownL_succ (M := M) (k := j)
          generalize M.getD (2 * j) 0 = xa at *
          generalize M.getD (2 * j + 1) 0 = xb at *
          obtain ⟨w', h6, b1, b2, b3, b4, _⟩ := Sk.push qE_len (by omega) (x := (xa, xb)) hw how hG5.nx hc5 (by simp [ownL]; omega)
          have b1 : appV 2 (h5.new (.cells (1 * 2) [.i .i64 xa, .i .i64 xb])) w (.sl h5.nx 0 1 2) = .ok w' h6 := b1
          rw [← hsu] at b2
          simp (disch := omega) only [f8_r21, f8_r22, w_skip, w_reg, w_draw, w_seq, w_cond, w_block, seqK_n, ckB_b, cbB_b, true_and, x_nil, x_mv, x_bin, x_app, kx, kg, xg_nil, xg_mv, xg_build, xg_ld, xg_bin, xg_iads, xg_bslice, xd_cons, stK_s, stay_nil, rvP_ok, okv_some, ev_t, ev_c, getV_some, putD_some, bin_add, bin_lss, oGet_s, cells1_i, of0, of1, Option.some.injEq, exists_eq_left', getK_set, Nat.reduceEqDiff, ↓reduceIte, fill_2, set_2, cells2, g13, g15, g16, g17, e1, d1, pa1, pa2, pb1, pb2, iE, fill_2, set_2, fill_p2, set_p2, cells2, hc5.dead, fw64]
          refine ⟨fresh_one (n := 1) (sz := 2) (by simp (disch := omega) only [getK_set, ↓reduceIte]), ?_⟩
          simp (disch := omega) only [f8_r23, w_reg, seqK_n, atK_n, loopK_n, true_and, x_nil, x_mv, x_as, x_bin, kx, xg_nil, xd_cons, fresh_nil, stK_n, stK_s, stay_nil, rvP_ok, okv_some, ev_t, ev_c, getV_some, putD_some, bin_add, of2, getK_set, Nat.reduceEqDiff, ↓reduceIte, g17, b1, e2, fw64]
          exact ⟨j + 1, by omega, by omega, hG5.trans b4, w', b2, b3, by simp (disch := omega) only [getK_set, Nat.reduceEqDiff, ↓reduceIte, g0, g2, g8, g10, g13, g16, and_self]⟩
        · have e1 : ((2 * j : Nat) : Int) + 1 = ((2 * j + 1 : Nat) : Int) := by omega
          have d1 : decide (((2 * j + 1 : Nat) : Int) < (m : Int)) = false := decide_eq_false (by omega)
          simp (disch := omega) only [f8_r21, f8_r24, f8_r25, w_reg, w_seq, w_cond, w_exit, seqK_n, seqK_e, atK_n, atK_e, loopK_n, loopK_e, ckB_b, cbB_b, true_and, x_nil, x_mv, x_as, x_bin, kx, rvP_ok, okv_some, ev_t, ev_c, getV_some, putD_some, bin_add, bin_lss, of1, getK_set, Nat.reduceEqDiff, ↓reduceIte, Bool.false_eq_true, g10, g13, g15, g17, e1, d1, fw64]
          exact ⟨i + 1, by omega, by omega, hGb.trans (hG5.low hGb.nx), (m : Int), va, w, a, _, ha4.grow hc4 hG5, hw.srp, by omega, by simp [ownL]; omega, by simp (disch := omega) only [getK_set, Nat.reduceEqDiff, ↓reduceIte, g0, g2, g8, and_self, Int.natCast_add, Int.natCast_one]⟩
      by_cases ho : ok5 n
      · obtain ⟨m, rfl⟩ := ok5_nat ho
        have hm := ho
        unfold ok5 at hm
        simp (disch := omega) only [f8_r6, f8_r7, w_skip, w_reg, w_seq, w_cond, w_block, seqK_n, ckB_b, cbB_b, true_and, x_nil, x_mv, x_bin, x_call, kx, rvP_ok, okv_some, ev_t, ev_c, evs_nil, evs_cons, getV_some, putD_some, bin_lss, of2, getK_set, Nat.reduceEqDiff, ↓reduceIte, g0, g8, g9, g10, d0]
        refine (callP_0 (ef := f44) k.c44 rfl (f44_ret k.toCallsRi ho ha hb (by omega) (by omega) hc1)).mono ?_
        rintro r h2 ⟨u, rfl, hu, hG2⟩
        have hc2 := hG2.hc hc1
        have hGa := hG.trans (hG2.low hG.nx)
        have ha2 := ha.grow hc1 hG2
        have hb2 := hb.grow hc1 hG2
        simp (disch := omega) only [f8_r8, w_reg, w_seq, w_block, seqK_n, x_nil, x_mv, x_as, x_ext, x_call, kx, rvP_ok, okv_some, ev_t, ev_c, evs_nil, evs_cons, getV_some, putD_some, onTup_t, nth0, nth1, getK_set, Nat.reduceEqDiff, ↓reduceIte, g0]
        refine (callP_0 (ef := f37) k.c37 rfl (f37_ok ho)).mono ?_
        rintro r h3 ⟨rfl, e3⟩
        rw [e3]
        clear e3 h3
        simp (disch := omega) only [f8_r11, w_reg, w_seq, w_cond, seqK_n, ckB_b, cbB_b, true_and, x_nil, x_mv, x_as, x_not, x_call, kx, rvP_ok, ev_t, ev_c, evs_nil, evs_cons, getV_some, putD_some, onB_b, getK_set, Nat.reduceEqDiff, ↓reduceIte, Bool.false_eq_true, Bool.not_true, g0, g8, Bool.not_true]
        refine (callP_0 (ef := f45) k.c45 rfl (f45_ret (by omega) (by omega) ha2 (by omega))).mono ?_
        rintro r h3 ⟨rfl, e3⟩
        rw [e3]
        clear e3 h3
        cases hra : rndB m a with
        | false =>
          rw [hra, if_neg (by simp)] at hu
          subst hu
          simp (disch := omega) only [f8_r12, w_skip, w_reg, w_seq, w_cond, seqK_n, atK_n, ckB_b, cbB_b, okG_b, asG_f, true_and, x_nil, x_g, x_mv, x_as, x_pick, x_bin, x_not, x_len, kx, rvP_ok, okv_some, ev_t, ev_c, getV_some, putD_some, bin_neq, pick_b, onB_b, len_sn, of0, getK_set, Nat.reduceEqDiff, ↓reduceIte, Bool.false_eq_true, Bool.not_true, Bool.not_false, of40, Bool.not_false, of40, false_and, Bool.false_eq_true, ne40, ne0]
          exact fin (m : Int) _ _ hGa (by simp (disch := omega) only [getK_set, Nat.reduceEqDiff, ↓reduceIte, g0, g2, g10, and_self])
        | true =>
          simp (disch := omega) only [okG_b, asG_f, true_and, x_g, x_mv, x_not, x_call, kx, rvP_ok, ev_t, ev_c, evs_nil, evs_cons, getV_some, putD_some, onB_b, getK_set, Nat.reduceEqDiff, ↓reduceIte, Bool.not_true, Bool.not_false, g0, g9, Bool.not_true]
          refine (callP_0 (ef := f45) k.c45 rfl (f45_ret (by omega) (by omega) hb2 (by omega))).mono ?_
          rintro r h3 ⟨rfl, e3⟩
          rw [e3]
          clear e3 h3
          cases hrb : rndB m b with
          | false =>
            rw [hra, hrb, if_neg (by simp)] at hu
            subst hu
            simp (disch := omega) only [f8_r12, w_skip, w_reg, w_seq, w_cond, seqK_n, atK_n, ckB_b, cbB_b, okG_b, asG_f, true_and, x_nil, x_g, x_mv, x_as, x_pick, x_bin, x_not, x_len, kx, rvP_ok, okv_some, ev_t, ev_c, getV_some, putD_some, bin_neq, pick_b, onB_b, len_sn, of0, getK_set, Nat.reduceEqDiff, ↓reduceIte, Bool.false_eq_true, Bool.not_false, of40, Bool.not_false, of40, Bool.false_eq_true, ne40, ne0]
            exact fin (m : Int) _ _ hGa (by simp (disch := omega) only [getK_set, Nat.reduceEqDiff, ↓reduceIte, g0, g2, g10, and_self])
          | true =>
            rw [hra, hrb, if_pos ⟨rfl, rfl⟩] at hu
            simp (disch := omega) only [f8_r14, w_reg, w_seq, w_cond, seqK_n, ckB_b, cbB_b, okG_b, asG_f, true_and, x_nil, x_g, x_mv, x_as, x_pick, x_bin, x_not, x_call, kx, rvP_ok, okv_some, ev_t, ev_c, evs_nil, evs_cons, getV_some, putD_some, bin_neq, pick_b, onB_b, of0, getK_set, Nat.reduceEqDiff, ↓reduceIte, Bool.false_eq_true, Bool.not_true, Bool.not_false, g0, g8, g9, Bool.not_true, ne0]
            refine (callP_0 (ef := f46) k.c46 rfl (f46_ret k.c64 ha2 hb2 (by omega) (by omega) hra hrb (by omega) (by omega) hc2)).mono ?_
            rintro u2 h3 ⟨hu2, hG3⟩
            have hGb := hGa.trans (hG3.low hGa.nx)
            have hlr := (rg_sum hra hrb (by omega)).2.2.2
            simp (disch := omega) only [okG_b, asG_f, true_and, x_g, x_call, kx, ev_t, ev_c, evs_nil, evs_cons, getV_some, putD_some, getK_set, Nat.reduceEqDiff, ↓reduceIte, Bool.not_false]
            refine (callP_0 (ef := f28) k.c28 rfl (f28_same (hu.grow hc2 hG3).sr hu2.sr (by omega))).mono ?_
            rintro r h4 ⟨rfl, e4⟩
            rw [e4]
            clear e4 h4
            simp (disch := omega) only [w_skip, w_reg, w_seq, w_cond, seqK_n, atK_n, ckB_b, cbB_b, okG_b, asG_f, true_and, x_nil, x_g, x_pick, x_not, kx, rvP_ok, ev_t, ev_c, getV_some, putD_some, pick_b, onB_b, getK_set, Nat.reduceEqDiff, ↓reduceIte, Bool.false_eq_true, Bool.not_true, Bool.not_false, Bool.not_true]
            exact fin (m : Int) _ _ hGb (by simp (disch := omega) only [getK_set, Nat.reduceEqDiff, ↓reduceIte, g0, g2, g10, and_self])
      · simp (disch := omega) only [f8_r6, f8_r7, w_skip, w_reg, w_seq, w_cond, w_block, seqK_n, ckB_b, cbB_b, true_and, x_nil, x_mv, x_bin, x_call, kx, rvP_ok, okv_some, ev_t, ev_c, evs_nil, evs_cons, getV_some, putD_some, bin_lss, of2, getK_set, Nat.reduceEqDiff, ↓reduceIte, g0, g8, g9, g10, d0]
        refine (callP_0 (ef := f44) k.c44 rfl (f44_no (n := n) k.toCallsRi ho)).mono ?_
        rintro r h2 ⟨rfl, rfl⟩
        simp (disch := omega) only [f8_r8, w_reg, w_seq, w_block, seqK_n, x_nil, x_mv, x_as, x_ext, x_call, kx, rvP_ok, okv_some, ev_t, ev_c, evs_nil, evs_cons, getV_some, putD_some, onTup_t, nth0, nth1, getK_set, Nat.reduceEqDiff, ↓reduceIte, g0]
        refine (callP_0 (ef := f37) k.c37 rfl (f37_no ho)).mono ?_
        rintro r h3 ⟨rfl, rfl⟩
        simp (disch := omega) only [f8_r9, w_skip, w_reg, w_seq, w_cond, seqK_n, atK_n, ckB_b, cbB_b, okG_b, asG_f, true_and, x_nil, x_g, x_mv, x_as, x_pick, x_bin, x_not, x_len, kx, rvP_ok, okv_some, ev_t, ev_c, getV_some, putD_some, bin_neq, pick_b, onB_b, len_sn, of0, of1, getK_set, Nat.reduceEqDiff, ↓reduceIte, Bool.false_eq_true, Bool.not_false, Bool.not_false, ne1, ne0]
        exact fin n _ _ hG (by simp (disch := omega) only [getK_set, Nat.reduceEqDiff, ↓reduceIte, g0, g2, g10, and_self])
    · have d0 : decide ((i : Int) < 2) = false := decide_eq_false (by omega)
      simp (disch := omega) only [f8_r6, f8_r26, f8_rs, w_reg, w_seq, w_cond, w_exit, w_ret, seqK_n, seqK_e, atK_e, loopK_e, ckB_b, cbB_b, true_and, retK_r, x_nil, x_mv, x_as, x_bin, x_call, kx, rvP_ok, okv_some, ev_t, ev_c, evs_nil, getV_some, putD_some, bin_lss, oGet_s, readRs_nil, readRs_t, retV_1, of2, Option.some.injEq, exists_eq_left', getK_set, ↓reduceIte, Bool.false_eq_true, g10, d0, aw, true_and]
      exact hG
end
end Go.Ev
