/-
  Rounds: rings, of the reference.
  Rounds: one ring, whichever round is the first.
  Rounds: whether a schedule is perfect; rings of two rounds.
  Rounds: schedules that are made.
  Rounds: is it a round, a beginning, a schedule? (the reference)
-/
import Derived.Test.YthememdeglgnpaaPg
namespace Go.Ev
open Go Go.RowKit
noncomputable def f46_r0 : List EOper := [⟨(some (K.ofNat 6)), none, .as (.c .sn)⟩]
noncomputable def f46_r1 : List EOper := [⟨(some (K.ofNat 16)), none, .mv (.t (K.ofNat 0))⟩, ⟨(some (K.ofNat 17)), none, .mkslice 1 [(.b false)] (.t (K.ofNat 16))⟩, ⟨(some (K.ofNat 7)), none, .as (.t (K.ofNat 17))⟩]
noncomputable def f46_r2 : List EOper := [⟨(some (K.ofNat 8)), none, .as (.c .sn)⟩]
noncomputable def f46_r3 : List EOper := [⟨(some (K.ofNat 9)), none, .as (.c (.i .i64 (.ofNat 0)))⟩]
noncomputable def f46_r4 : List EOper := [⟨(some (K.ofNat 18)), none, .mv (.t (K.ofNat 9))⟩, ⟨(some (K.ofNat 19)), none, .mv (.t (K.ofNat 0))⟩, ⟨(some (K.ofNat 20)), none, .bin .lss (.t (K.ofNat 18)) (.t (K.ofNat 19))⟩]
noncomputable def f46_r5 : List EOper := [⟨(some (K.ofNat 10)), none, .as (.c (.i .i64 (.ofNat 0)))⟩]
noncomputable def f46_r6 : List EOper := [⟨(some (K.ofNat 23)), none, .mv (.t (K.ofNat 9))⟩, ⟨(some (K.ofNat 11)), none, .as (.t (K.ofNat 23))⟩]
noncomputable def f46_r7 : List EOper := [⟨(some (K.ofNat 24)), none, .mv (.t (K.ofNat 7))⟩, ⟨(some (K.ofNat 25)), none, .mv (.t (K.ofNat 11))⟩, ⟨(some (K.ofNat 26)), none, .iads 1 (.t (K.ofNat 24)) (.t (K.ofNat 25))⟩, ⟨(some (K.ofNat 27)), none, .ld (.t (K.ofNat 26))⟩, ⟨(some (K.ofNat 28)), none, .not (.t (K.ofNat 27))⟩]
noncomputable def f46_r8 : List EOper := [⟨(some (K.ofNat 29)), none, .mv (.t (K.ofNat 7))⟩, ⟨(some (K.ofNat 30)), none, .mv (.t (K.ofNat 11))⟩, ⟨(some (K.ofNat 31)), none, .iads 1 (.t (K.ofNat 29)) (.t (K.ofNat 30))⟩, ⟨none, none, .st 1 (.t (K.ofNat 31)) (.c (.b true))⟩]
noncomputable def f46_r9 : List EOper := [⟨(some (K.ofNat 33)), none, .mv (.t (K.ofNat 1))⟩, ⟨(some (K.ofNat 34)), none, .mv (.t (K.ofNat 11))⟩, ⟨(some (K.ofNat 35)), none, .call (.c (.fn (K.ofNat 64) [])) [(.t (K.ofNat 33)), (.t (K.ofNat 34))]⟩, ⟨(some (K.ofNat 32)), none, .mv (.t (K.ofNat 35))⟩, ⟨(some (K.ofNat 36)), none, .ext (.t (K.ofNat 32)) 0⟩, ⟨(some (K.ofNat 37)), none, .ext (.t (K.ofNat 32)) 1⟩, ⟨(some (K.ofNat 12)), none, .as (.t (K.ofNat 36))⟩, ⟨(some (K.ofNat 13)), none, .as (.t (K.ofNat 37))⟩]
noncomputable def f46_r10 : List EOper := [⟨(some (K.ofNat 38)), none, .mv (.t (K.ofNat 7))⟩, ⟨(some (K.ofNat 39)), none, .mv (.t (K.ofNat 13))⟩, ⟨(some (K.ofNat 40)), none, .iads 1 (.t (K.ofNat 38)) (.t (K.ofNat 39))⟩, ⟨none, none, .st 1 (.t (K.ofNat 40)) (.c (.b true))⟩]
noncomputable def f46_r11 : List EOper := [⟨(some (K.ofNat 42)), none, .mv (.t (K.ofNat 2))⟩, ⟨(some (K.ofNat 43)), none, .mv (.t (K.ofNat 13))⟩, ⟨(some (K.ofNat 44)), none, .call (.c (.fn (K.ofNat 64) [])) [(.t (K.ofNat 42)), (.t (K.ofNat 43))]⟩, ⟨(some (K.ofNat 41)), none, .mv (.t (K.ofNat 44))⟩, ⟨(some (K.ofNat 45)), none, .ext (.t (K.ofNat 41)) 0⟩, ⟨(some (K.ofNat 46)), none, .ext (.t (K.ofNat 41)) 1⟩, ⟨(some (K.ofNat 11)), none, .as (.t (K.ofNat 46))⟩]
noncomputable def f46_r12 : List EOper := [⟨(some (K.ofNat 47)), none, .mv (.t (K.ofNat 10))⟩, ⟨(some (K.ofNat 48)), none, .bin .add (.t (K.ofNat 47)) (.c (.i .i64 (.ofNat 2)))⟩, ⟨(some (K.ofNat 10)), none, .as (.t (K.ofNat 48))⟩]
noncomputable def f46_l0 : EC := (.seq (.seq (.reg f46_r7) (.cond (.t (K.ofNat 28)) .skip (.exit 2))) (.block 3 (.seq (.reg f46_r8) (.seq (.reg f46_r9) (.seq (.reg f46_r10) (.seq (.reg f46_r11) (.reg f46_r12)))))))
noncomputable def f46_r13 : List EOper := [⟨(some (K.ofNat 49)), none, .mv (.t (K.ofNat 10))⟩, ⟨(some (K.ofNat 50)), none, .bin .eql (.t (K.ofNat 49)) (.c (.i .i64 (.ofNat 0)))⟩]
noncomputable def f46_r14 : List EOper := [⟨(some (K.ofNat 14)), none, .as (.c (.i .i64 (.ofNat 0)))⟩]
noncomputable def f46_r15 : List EOper := [⟨(some (K.ofNat 51)), none, .mv (.t (K.ofNat 14))⟩, ⟨(some (K.ofNat 52)), none, .mv (.t (K.ofNat 8))⟩, ⟨(some (K.ofNat 53)), none, .len (.t (K.ofNat 52))⟩, ⟨(some (K.ofNat 54)), none, .bin .lss (.t (K.ofNat 51)) (.t (K.ofNat 53))⟩, ⟨(some (K.ofNat 55)), none, .mv (.t (K.ofNat 54))⟩, ⟨(some (K.ofNat 56)), (some ((K.ofNat 55), true)), .mv (.t (K.ofNat 8))⟩, ⟨(some (K.ofNat 57)), (some ((K.ofNat 55), true)), .mv (.t (K.ofNat 14))⟩, ⟨(some (K.ofNat 58)), (some ((K.ofNat 55), true)), .iads 1 (.t (K.ofNat 56)) (.t (K.ofNat 57))⟩, ⟨(some (K.ofNat 59)), (some ((K.ofNat 55), true)), .ld (.t (K.ofNat 58))⟩, ⟨(some (K.ofNat 60)), (some ((K.ofNat 55), true)), .mv (.t (K.ofNat 10))⟩, ⟨(some (K.ofNat 61)), (some ((K.ofNat 55), true)), .bin .leq (.t (K.ofNat 59)) (.t (K.ofNat 60))⟩, ⟨(some (K.ofNat 62)), none, .pick (.t (K.ofNat 55)) (.t (K.ofNat 61)) (.c (.b false))⟩]
noncomputable def f46_r16 : List EOper := [⟨(some (K.ofNat 63)), none, .mv (.t (K.ofNat 14))⟩, ⟨(some (K.ofNat 64)), none, .bin .add (.t (K.ofNat 63)) (.c (.i .i64 (.ofNat 1)))⟩, ⟨(some (K.ofNat 14)), none, .as (.t (K.ofNat 64))⟩]
noncomputable def f46_l1 : EC := (.seq (.seq (.reg f46_r15) (.cond (.t (K.ofNat 62)) .skip (.exit 4))) (.block 5 (.reg f46_r16)))
noncomputable def f46_r17 : List EOper := [⟨(some (K.ofNat 15)), none, .as (.c .sn)⟩]
noncomputable def f46_r18 : List EOper := [⟨(some (K.ofNat 65)), none, .mv (.t (K.ofNat 15))⟩, ⟨(some (K.ofNat 66)), none, .mv (.t (K.ofNat 8))⟩, ⟨(some (K.ofNat 67)), none, .mv (.t (K.ofNat 14))⟩, ⟨(some (K.ofNat 68)), none, .slice 1 (.t (K.ofNat 66)) none (some (.t (K.ofNat 67))) none⟩, ⟨(some (K.ofNat 69)), none, .app 1 (.t (K.ofNat 65)) (.t (K.ofNat 68))⟩, ⟨(some (K.ofNat 15)), none, .as (.t (K.ofNat 69))⟩]
noncomputable def f46_r19 : List EOper := [⟨(some (K.ofNat 70)), none, .mv (.t (K.ofNat 15))⟩, ⟨(some (K.ofNat 71)), none, .mv (.t (K.ofNat 10))⟩, ⟨(some (K.ofNat 72)), none, .bslice 1 1 [(.i .i64 (.ofNat 0))] [(0, 1, (.t (K.ofNat 71)))]⟩, ⟨(some (K.ofNat 73)), none, .app 1 (.t (K.ofNat 70)) (.t (K.ofNat 72))⟩, ⟨(some (K.ofNat 15)), none, .as (.t (K.ofNat 73))⟩]
noncomputable def f46_r20 : List EOper := [⟨(some (K.ofNat 74)), none, .mv (.t (K.ofNat 15))⟩, ⟨(some (K.ofNat 75)), none, .mv (.t (K.ofNat 8))⟩, ⟨(some (K.ofNat 76)), none, .mv (.t (K.ofNat 14))⟩, ⟨(some (K.ofNat 77)), none, .slice 1 (.t (K.ofNat 75)) (some (.t (K.ofNat 76))) none none⟩, ⟨(some (K.ofNat 78)), none, .app 1 (.t (K.ofNat 74)) (.t (K.ofNat 77))⟩, ⟨(some (K.ofNat 8)), none, .as (.t (K.ofNat 78))⟩]
noncomputable def f46_r21 : List EOper := [⟨(some (K.ofNat 21)), none, .mv (.t (K.ofNat 9))⟩, ⟨(some (K.ofNat 22)), none, .bin .add (.t (K.ofNat 21)) (.c (.i .i64 (.ofNat 1)))⟩, ⟨(some (K.ofNat 9)), none, .as (.t (K.ofNat 22))⟩]
noncomputable def f46_l2 : EC := (.seq (.seq (.reg f46_r4) (.cond (.t (K.ofNat 20)) .skip (.exit 0))) (.seq (.block 1 (.seq (.reg f46_r5) (.seq (.seq (.reg f46_r6) (.block 2 (.loop f46_l0))) (.seq (.seq (.reg f46_r13) (.cond (.t (K.ofNat 50)) (.exit 1) .skip)) (.seq (.reg f46_r14) (.seq (.block 4 (.loop f46_l1)) (.seq (.reg f46_r17) (.seq (.reg f46_r18) (.seq (.reg f46_r19) (.reg f46_r20)))))))))) (.reg f46_r21)))
noncomputable def f46_r22 : List EOper := [⟨(some (K.ofNat 79)), none, .mv (.t (K.ofNat 8))⟩, ⟨(some (K.ofNat 6)), none, .as (.t (K.ofNat 79))⟩]
noncomputable def f46_c : EC := (.seq (.reg f46_r0) (.seq (.reg f46_r1) (.seq (.reg f46_r2) (.seq (.seq (.reg f46_r3) (.block 0 (.loop f46_l2))) (.seq (.reg f46_r22) .ret)))))
noncomputable def f46 : EF := ⟨80, [.tmp (K.ofNat 6)], f46_c, none⟩
theorem f46_rs : f46.rs = [.tmp (K.ofNat 6)] := of_eq_true (eq_self _)
def bE (b : Bool) : V := .b b
theorem mks_bo {h : H} {k : IntKind} {n : Nat} (hn : n ≤ 1000000) : mksV 1 [.b false] h (.i k (n : Int)) = .ok (.sl h.nx 0 n 1) (h.new (.cells (n * 1) (rep [.b false] n))) := by
  show (bif Nat.ble n 1000000 then RV.ok (.sl h.nx 0 n 1) (h.new (.cells (n * 1) (rep [.b false] n))) else .no) = _
  rw [Nat.ble_eq_true_of_le hn]; rfl
theorem mkbo_sl {h : H} {n : Nat} : Sl bE (h.new (.cells (n * 1) (rep [.b false] n))) (.sl h.nx 0 n 1) (List.replicate n false) :=
  .inr ⟨h.nx, 0, n * 1, rep [.b false] n, by rw [List.length_replicate], get_new_same, by rw [rep_cell, List.length_replicate, Nat.mul_one], by rw [List.length_replicate]; omega, fun i hi => by
    have hi : i < n := by simpa using hi
    rw [rep_cell, Nat.zero_add, List.getElem?_replicate, if_pos hi, List.getElem_replicate]; rfl⟩
def mtL (n : Nat) (L : List Int) : List Bool := (List.range n).map fun (i : Nat) => decide ((i : Int) ∈ L)
theorem mtL_len {n : Nat} {L : List Int} : (mtL n L).length = n := by simp [mtL]
theorem mtL_0 {n : Nat} : mtL n [] = List.replicate n false := by
  apply List.ext_getElem
  · simp [mtL]
  · intro x h1 h2; simp [mtL]
theorem mtL_at {n i : Nat} {L : List Int} (hi : i < (mtL n L).length) : (mtL n L)[i] = decide ((i : Int) ∈ L) := by simp [mtL]
theorem mtL_set {n x : Nat} {L : List Int} : (mtL n L).set x true = mtL n (L ++ [(x : Int)]) := by
  apply List.ext_getElem
  · simp [mtL]
  · intro y h1 h2
    simp only [List.getElem_set, mtL, List.getElem_map, List.getElem_range]
    by_cases e : x = y
    · subst e; simp
    · rw [if_neg e]
      congr 1
      refine propext ⟨fun h => List.mem_append_left _ h, fun h => ?_⟩
      rcases List.mem_append.1 h with h | h
      · exact h
      · have := List.mem_singleton.1 h; omega
/-- A new ring meets none of what was met. -/
theorem ring_new {A B : Int → Int} {n : Nat} {M : List Int} (iA : Inv A n) (iB : Inv B n) (cA : ∀ z ∈ M, A z ∈ M) (cB : ∀ z ∈ M, B z ∈ M) {x : Int} (hx : 0 ≤ x ∧ x < (n : Int)) (hn : x ∉ M) : A x ∉ M ∧ B (A x) ∉ M :=
  ⟨fun h => by
    have := cA _ h
    rw [iA.inv _ hx] at this
    exact hn this, ring_out iA iB cA cB hx hn⟩
section
variable {fs : T EF} {h : H} {va vb : V} {a b : List (Int × Int)} {n : Nat}
structure MtI (h : H) (n : Nat) (M : List Int) (v w : V) (S : List Int) (h1 : H) : Prop where
  gr : Grow h.nx.nat h h1
  mt : Sl bE h1 v (mtL n M)
  ow : Own h.nx.nat v
  out : Sl iE h1 w S
  oo : Own h.nx.nat w
  sep : ∀ id off n sz, w = .sl id off n sz → NotIn id v
def f46_I (h : H) (va vb v : V) (a b : List (Int × Int)) (n t : Nat) (fr : Fr) (h1 : H) : Prop := t ≤ n ∧ ∃ w, MtI h n (rgs (opF a) (opF b) n t).1 v w (srtL (rgs (opF a) (opF b) n t).2) h1 ∧ fr.get (K.ofNat 0) = some (.i .i64 (n : Int)) ∧ fr.get (K.ofNat 1) = some (va) ∧ fr.get (K.ofNat 2) = some (vb) ∧ fr.get (K.ofNat 7) = some (v) ∧ fr.get (K.ofNat 8) = some (w) ∧ fr.get (K.ofNat 9) = some (.i .i64 (t : Int))
def f46_J (h : H) (va vb v w : V) (a b : List (Int × Int)) (n t : Nat) (k : Nat) (fr : Fr) (h1 : H) : Prop := ∃ (x : Nat) (L : List Int), RingI (opF a) (opF b) n (t : Int) (x : Int) L ∧ n < 2 * k + L.length ∧ ringR (opF a) (opF b) k (x : Int) L = ringR (opF a) (opF b) n (t : Int) [] ∧ (x : Int) ∉ (rgs (opF a) (opF b) n t).1 ∧ MtI h n ((rgs (opF a) (opF b) n t).1 ++ L) v w (srtL (rgs (opF a) (opF b) n t).2) h1 ∧ fr.get (K.ofNat 0) = some (.i .i64 (n : Int)) ∧ fr.get (K.ofNat 1) = some (va) ∧ fr.get (K.ofNat 2) = some (vb) ∧ fr.get (K.ofNat 7) = some (v) ∧ fr.get (K.ofNat 8) = some (w) ∧ fr.get (K.ofNat 9) = some (.i .i64 (t : Int)) ∧ fr.get (K.ofNat 10) = some (.i .i64 (L.length : Int)) ∧ fr.get (K.ofNat 11) = some (.i .i64 (x : Int))
def f46_K (h2 : H) (va vb v w : V) (S : List Int) (R : Int) (n t : Nat) (k : Nat) (fr : Fr) (h1 : H) : Prop := k ≤ S.length ∧ h1 = h2 ∧ (∀ y ∈ S.take k, y ≤ R) ∧ fr.get (K.ofNat 0) = some (.i .i64 (n : Int)) ∧ fr.get (K.ofNat 1) = some (va) ∧ fr.get (K.ofNat 2) = some (vb) ∧ fr.get (K.ofNat 7) = some (v) ∧ fr.get (K.ofNat 8) = some (w) ∧ fr.get (K.ofNat 9) = some (.i .i64 (t : Int)) ∧ fr.get (K.ofNat 10) = some (.i .i64 R) ∧ fr.get (K.ofNat 14) = some (.i .i64 (k : Int))
theorem f46_ret (h64 : fs.get (K.ofNat 64) = some f64) (hva : Srp h va a) (hvb : Srp h vb b) (hla : a.length ≤ 1000000) (hlb : b.length ≤ 1000000) (hra : rndB n a = true) (hrb : rndB n b = true) (hn : n ≤ 12) (hn1 : 1 ≤ n) (hc : HC h) : Ret fs f46 [.i .i64 (n : Int), va, vb] h fun r h' => Sl iE h' r (rgL a b n) ∧ Grow h.nx.nat h h' := by
  have iA := rnd_inv hra
  have iB := rnd_inv hrb
  apply ret_of rfl
  show W fs none f46_c _ _ _
  unfold f46_c
  have hmk := mks_bo (h := h) (k := .i64) (n := n) (by omega)
  have hs0 := mkbo_sl (h := h) (n := n)
  rw [← mtL_0] at hs0
  have gD := Grow.new (Nat.le_refl h.nx.nat) (.cells (n * 1) (rep [.b false] n))
  simp (disch := omega) only [f46_r0, f46_r1, f46_r2, f46_r3, w_reg, w_seq, w_block, seqK_n, x_nil, x_mv, x_as, x_mks, kx, rvP_ok, ev_t, ev_c, getV_some, putD_some, frame_3, of0, getK_set, Nat.reduceEqDiff, ↓reduceIte, hmk]
  refine W_loop (f46_I h va vb (.sl h.nx 0 n 1) a b n) (fun t => n - t) ?_ 0 ⟨by omega, .sn, ⟨gD, hs0, (fun _ _ _ _ e => (by cases e; exact Nat.le_refl _)), Sl.nil, Own.sn, fun _ _ _ _ e => (by cases e)⟩, by simp (disch := omega) only [getK_set, Nat.reduceEqDiff, ↓reduceIte, and_self, Int.natCast_zero]⟩
  clear hmk hs0 gD
  generalize V.sl h.nx 0 n 1 = v
  rintro t fr h1 ⟨ht, w, hM, g0, g1, g2, g7, g8, g9⟩
  have hc1 := hM.gr.hc hc
  have hR := rgs_I iA iB hn1 ht
  unfold f46_l2
  by_cases hlt : t < n
  · have d0 : decide ((t : Int) < (n : Int)) = true := by simpa using hlt
    simp (disch := omega) only [f46_r4, f46_r5, f46_r6, w_skip, w_reg, w_seq, w_cond, w_block, seqK_n, ckB_b, cbB_b, true_and, x_nil, x_mv, x_as, x_bin, kx, rvP_ok, okv_some, ev_t, ev_c, getV_some, putD_some, bin_lss, of0, getK_set, Nat.reduceEqDiff, ↓reduceIte, g0, g9, d0]
    by_cases hin : (t : Int) ∈ (rgs (opF a) (opF b) n t).1
    · have hrs : rgs (opF a) (opF b) n (t + 1) = rgs (opF a) (opF b) n t := by
        show (if _ then _ else _) = _
        rw [if_pos hin]
      refine W_loop (fun (_ : Unit) fr h2 => h2 = h1 ∧ fr.get (K.ofNat 0) = some (.i .i64 (n : Int)) ∧ fr.get (K.ofNat 1) = some (va) ∧ fr.get (K.ofNat 2) = some (vb) ∧ fr.get (K.ofNat 7) = some (v) ∧ fr.get (K.ofNat 8) = some (w) ∧ fr.get (K.ofNat 9) = some (.i .i64 (t : Int)) ∧ fr.get (K.ofNat 10) = some (.i .i64 0) ∧ fr.get (K.ofNat 11) = some (.i .i64 (t : Int))) (fun _ => 0) ?_ () ⟨rfl, by simp (disch := omega) only [getK_set, Nat.reduceEqDiff, ↓reduceIte, g0, g1, g2, g7, g8, g9, and_self]⟩
      clear g0 g1 g2 g7 g8 g9 fr
      rintro _ fr h2 ⟨rfl, g0, g1, g2, g7, g8, g9, g10, g11⟩
      unfold f46_l0
      obtain ⟨p, p1, p2⟩ := hM.mt.at t (by rw [mtL_len]; exact hlt)
      rw [mtL_at, decide_eq_true hin] at p2
      have d1 : decide ((0 : Int) = 0) = true := rfl
      simp (disch := omega) only [f46_r7, f46_r13, f46_r21, w_reg, w_seq, w_cond, w_exit, seqK_n, seqK_e, atK_e, loopK_n, loopK_e, ckB_b, cbB_b, true_and, x_nil, x_mv, x_as, x_ld, x_bin, x_not, x_iads, kx, rvP_ok, okv_some, ev_t, ev_c, getV_some, putD_some, bin_add, bin_eql, onB_b, of0, of1, getK_set, Nat.reduceEqDiff, ↓reduceIte, Bool.false_eq_true, decide_eq_true_eq, Bool.not_true, g7, g9, g10, g11, p1, p2, bE, Bool.not_true, fw64]
      exact ⟨t + 1, by omega, by omega, w, by rw [hrs]; exact hM, by simp (disch := omega) only [getK_set, Nat.reduceEqDiff, ↓reduceIte, g0, g1, g2, g7, g8, and_self, Int.natCast_add, Int.natCast_one]⟩
    · have hrs : rgs (opF a) (opF b) n (t + 1) = ((rgs (opF a) (opF b) n t).1 ++ ringR (opF a) (opF b) n (t : Int) [], (rgs (opF a) (opF b) n t).2 ++ [((ringR (opF a) (opF b) n (t : Int) []).length : Int)]) := by
        show (if _ then _ else _) = _
        rw [if_neg hin]
      have hE := ring_E iA iB (RingI.init (A := opF a) (B := opF b) (n := n) (t := (t : Int)) (by omega)) (k := n) (by simp; omega)
      refine W_loop (f46_J h va vb v w a b n t) (fun k => k) ?_ n ⟨t, [], RingI.init (by omega), by simp; omega, rfl, hin, by rw [List.append_nil]; exact hM, by simp (disch := omega) only [getK_set, Nat.reduceEqDiff, ↓reduceIte, g0, g1, g2, g7, g8, g9, and_self, List.length_nil, Int.natCast_zero]⟩
      clear hM g0 g1 g2 g7 g8 g9 fr
      rintro q fr h2 ⟨x, L, hI, hq, he, hxM, hM, g0, g1, g2, g7, g8, g9, g10, g11⟩
      have hc2 := hM.gr.hc hc
      have hxr := hI.xr
      have hxn : x < n := by omega
      unfold f46_l0
      obtain ⟨p, p1, p2⟩ := hM.mt.at x (by rw [mtL_len]; exact hxn)
      rw [mtL_at] at p2
      cases hd : decide ((x : Int) ∈ (rgs (opF a) (opF b) n t).1 ++ L) with
      | false =>
        have hxL : (x : Int) ∉ L := fun h => of_decide_eq_false hd (List.mem_append_right _ h)
        rw [hd] at p2
        obtain ⟨q, rfl⟩ : ∃ q', q = q' + 1 := ⟨q - 1, by have := hI.lt iA iB hxL; omega⟩
        have hst := hI.step iA iB hxL
        have hyr := iA.rng _ hI.xr
        have hzr := iB.rng _ hyr
        obtain ⟨_, hzM⟩ := ring_new iA iB hR.clA hR.clB hI.xr hxM
        have he : ringR (opF a) (opF b) q (opF b (opF a (x : Int))) (L ++ [(x : Int), opF a (x : Int)]) = ringR (opF a) (opF b) n (t : Int) [] := by
          rw [← he]
          show _ = if (x : Int) ∈ L then L else _
          rw [if_neg hxL]
        have hh1 := (homeP_nd (t := (x : Int)) (rnd_nd hra)).2 (rnd_all hra hxr)
        have hh2 := (homeP_nd (t := opF a (x : Int)) (rnd_nd hrb)).2 (rnd_all hrb hyr)
        obtain ⟨y, hy⟩ : ∃ y : Nat, opF a (x : Int) = (y : Int) := ⟨(opF a (x : Int)).toNat, by omega⟩
        rw [hy] at hst hyr hzr he hh1 hh2 hzM
        obtain ⟨z, hz⟩ : ∃ z : Nat, opF b (y : Int) = (z : Int) := ⟨(opF b (y : Int)).toNat, by omega⟩
        rw [hz] at hst he hh2 hzM
        -- the first store
        obtain ⟨p', id, m, cs', z1, z2, z3, ⟨off, nn, sz, z4⟩, z5⟩ := hM.mt.st (i := x) (by rw [mtL_len]; exact hxn) (x := true) (c := .b true) rfl rfl hc2
        obtain rfl : p = p' := by have := (p1 .i64 h2).symm.trans (z1 .i64 h2); injection this
        rw [mtL_set] at z3
        have hidb := hM.ow _ _ _ _ z4
        have hG3 : Grow h.nx.nat h2 (h2.put id (.cells m cs')) := Grow.put hidb z5 _
        have hc3 := hG3.hc hc2
        have nw : NotIn id w := fun off' n' sz' e' => hM.sep _ _ _ _ e' _ _ _ z4
        obtain ⟨p3, id3, m3, cs3, y1, y2, y3, ⟨off3, nn3, sz3, y4⟩, y5⟩ := z3.st (i := y) (by rw [mtL_len]; omega) (x := true) (c := .b true) rfl rfl hc3
        rw [mtL_set] at y3
        have nw3 : NotIn id3 w := fun off' n' sz' e' => hM.sep _ _ _ _ e' _ _ _ y4
        have hidb3 := hM.ow _ _ _ _ y4
        have hG4 : Grow h.nx.nat (h2.put id (.cells m cs')) ((h2.put id (.cells m cs')).put id3 (.cells m3 cs3)) := Grow.put hidb3 y5 _
        have va2 := (hva.grow hc hM.gr)
        have va3 : Srp (h2.put id (.cells m cs')) va a := hva.grow hc (hM.gr.trans hG3)
        have vb4 : Srp ((h2.put id (.cells m cs')).put id3 (.cells m3 cs3)) vb b := hvb.grow hc ((hM.gr.trans hG3).trans hG4)
        have hout := (hM.out.put nw (.cells m cs')).put nw3 (.cells m3 cs3)
        have hlen2 : ((L ++ [(x : Int), (y : Int)]).length : Int) = (L.length : Int) + 2 := by simp
        have hLl := hI.le
        simp (disch := omega) only [f46_r7, f46_r8, w_skip, w_reg, w_seq, w_cond, w_block, seqK_n, ckB_b, cbB_b, true_and, x_nil, x_mv, x_ld, x_st, x_not, x_iads, kx, rvP_ok, ev_t, ev_c, getV_some, putD_some, putD_none, onB_b, getK_set, Nat.reduceEqDiff, ↓reduceIte, Bool.not_false, g7, g11, p1, p2, bE, Bool.not_false, z2]
        simp (disch := omega) only [f46_r9, x_mv, x_call, ev_t, ev_c, evs_nil, evs_cons, getV_some, putD_some, getK_set, Nat.reduceEqDiff, ↓reduceIte, g1, g11]
        refine (callP_0 (ef := f64) h64 rfl (f64_ret (t := (x : Int)) va3 hla)).mono ?_
        rintro r h3 ⟨rfl, rfl⟩
        rw [hh1]
        simp (disch := omega) only [f46_r10, f46_r11, w_reg, w_seq, seqK_n, x_nil, x_mv, x_as, x_st, x_iads, x_ext, x_call, kx, rvP_ok, okv_some, ev_t, ev_c, evs_nil, evs_cons, getV_some, putD_some, putD_none, onTup_t, nth0, nth1, getK_set, Nat.reduceEqDiff, ↓reduceIte, g2, g7, y1, y2]
        refine (callP_0 (ef := f64) h64 rfl (f64_ret (t := (y : Int)) vb4 hlb)).mono ?_
        rintro r h4 ⟨rfl, rfl⟩
        rw [hh2]
        simp (disch := omega) only [f46_r12, w_reg, seqK_n, atK_n, loopK_n, x_nil, x_mv, x_as, x_bin, x_ext, kx, rvP_ok, okv_some, ev_t, ev_c, getV_some, putD_some, bin_add, onTup_t, nth0, nth1, of2, getK_set, Nat.reduceEqDiff, ↓reduceIte, g10, fw64]
        refine ⟨q, by omega, z, _, hst, by simp; omega, he, hzM, ⟨(hM.gr.trans hG3).trans hG4, ?_, hM.ow, hout, hM.oo, hM.sep⟩, by simp (disch := omega) only [getK_set, Nat.reduceEqDiff, ↓reduceIte, g0, g1, g2, g7, g8, g9, and_self, hlen2]⟩
        rw [List.append_assoc, List.append_assoc] at y3
        exact y3
      | true =>
        have hxL : (x : Int) ∈ L := by
          rcases List.mem_append.1 (of_decide_eq_true hd) with h | h
          · exact absurd h hxM
          · exact h
        have hL : ringR (opF a) (opF b) q (x : Int) L = L := by
          cases q with
          | zero => rfl
          | succ q => unfold ringR; rw [if_pos hxL]
        rw [hL] at he
        subst he
        have hl2 : 1 ≤ (ringR (opF a) (opF b) n (t : Int) []).length := List.length_pos_of_mem hE.mem
        have hl3 := hI.le
        have hf := hR.few
        have hsl := srtL_len (S := (rgs (opF a) (opF b) n t).2)
        have hsn := srtL_snoc (S := (rgs (opF a) (opF b) n t).2) (x := ((ringR (opF a) (opF b) n (t : Int) []).length : Int))
        rw [hd] at p2
        generalize ringR (opF a) (opF b) n (t : Int) [] = R at *
        generalize hSe : srtL (rgs (opF a) (opF b) n t).2 = S at *
        have d1 : decide ((R.length : Int) = 0) = false := decide_eq_false (by omega)
        have hwl := hM.out.len
        simp (disch := omega) only [f46_r7, f46_r13, f46_r14, w_skip, w_reg, w_seq, w_cond, w_block, w_exit, seqK_n, seqK_e, atK_e, loopK_e, ckB_b, cbB_b, true_and, x_nil, x_mv, x_as, x_ld, x_bin, x_not, x_iads, kx, rvP_ok, okv_some, ev_t, ev_c, getV_some, putD_some, bin_eql, onB_b, of0, getK_set, Nat.reduceEqDiff, ↓reduceIte, Bool.false_eq_true, Bool.not_true, g7, g10, g11, p1, p2, bE, Bool.not_true, d1]
        refine W_loop (f46_K h2 va vb v w S (R.length : Int) n t) (fun k => S.length - k) ?_ 0 ⟨by omega, rfl, by simp, by simp (disch := omega) only [getK_set, Nat.reduceEqDiff, ↓reduceIte, g0, g1, g2, g7, g8, g9, g10, and_self, Int.natCast_zero]⟩
        clear g0 g1 g2 g7 g8 g9 g10 g11 fr
        rintro k fr h3 ⟨hk, rfl, hall, g0, g1, g2, g7, g8, g9, g10, g14⟩
        unfold f46_l1
        -- what is done at the end
        have fin : (∀ y ∈ (S.drop k).head?, ¬ y ≤ (R.length : Int)) → ∀ fr, fr.get (K.ofNat 0) = some (.i .i64 (n : Int)) ∧ fr.get (K.ofNat 1) = some (va) ∧ fr.get (K.ofNat 2) = some (vb) ∧ fr.get (K.ofNat 7) = some (v) ∧ fr.get (K.ofNat 8) = some (w) ∧ fr.get (K.ofNat 9) = some (.i .i64 (t : Int)) ∧ fr.get (K.ofNat 10) = some (.i .i64 (R.length : Int)) ∧ fr.get (K.ofNat 14) = some (.i .i64 (k : Int)) → Go.Ev.X fs f46_r17 (seqK (W fs none ((EC.reg f46_r18).seq ((EC.reg f46_r19).seq (EC.reg f46_r20)))) (atK 1 (seqK (W fs none (.reg f46_r21)) (loopK (f46_I h va vb v a b n) (fun t => n - t) t (atK 0 (seqK (W fs none ((EC.reg f46_r22).seq EC.ret)) (retK f46 fun r h' => Sl iE h' r (rgL a b n) ∧ Grow h.nx.nat h h')))))) .normal) fr h3 := by
          clear g0 g1 g2 g7 g8 g9 g10 g14 fr
          rintro hB fr ⟨g0, g1, g2, g7, g8, g9, g10, g14⟩
          have e := insL_app hB hall
          rw [List.take_append_drop] at e
          obtain ⟨w1, c1, d1, _⟩ := hM.out.sr.cut (lo := none) (hi := some (.i .i64 (k : Int))) (l := 0) (u := k) bnd_none bnd_i (by omega) hk
          obtain ⟨x1, h4, a1, s1, o1, gr1, _⟩ := Sl.appR (b := h3.nx.nat) (Sl.nil (e := iE)) Own.sn (Nat.le_refl _) d1 hc2 (by simp; omega)
          have hc4 := gr1.hc hc2
          obtain ⟨x2, h5, a2, s2, o2, gr2, _⟩ := Sl.push (e := iE) (x := (R.length : Int)) (c := .i .i64 (R.length : Int)) rfl s1 o1 gr1.nx hc4 (by simp; omega)
          have hG5 := gr1.trans gr2
          have hc5 := hG5.hc hc2
          obtain ⟨w2, c2, d2, _⟩ := (hM.out.grow hc2 hG5).sr.cut (lo := some (.i .i64 (k : Int))) (hi := none) (l := k) (u := S.length) bnd_i bnd_none hk (Nat.le_refl _)
          obtain ⟨x3, h6, a3, s3, o3, gr3, _⟩ := Sl.appR s2 o2 hG5.nx d2 hc5 (by simp; omega)
          have hG6 := hG5.trans gr3
          have hnew : (([] ++ (S.take k).drop 0) ++ [(R.length : Int)]) ++ (S.take S.length).drop k = insL (R.length : Int) S := by
            rw [e, List.take_length, List.drop_zero, List.nil_append, List.append_assoc]; rfl
          rw [hnew, ← hsn] at s3
          have vlt := hM.mt.lt hc2
          simp (disch := omega) only [f46_r17, f46_r18, f46_r19, f46_r20, f46_r21, w_reg, w_seq, seqK_n, atK_n, loopK_n, x_nil, x_mv, x_as, x_bslice, x_bin, x_slice, sliceV_eq, Option.map_none, Option.map_some, x_app, kx, rvP_ok, okv_some, ev_t, ev_c, getV_some, putD_some, bin_add, oGet_s, cells1_i, fill_1, set_1, of0, of1, getK_set, Nat.reduceEqDiff, ↓reduceIte, g8, g9, g10, g14, c1, a1, a2, c2, a3, fill_1, set_1, fw64]
          exact ⟨t + 1, by omega, by omega, x3, ⟨hM.gr.trans (hG6.low hM.gr.nx), by rw [hrs]; exact hM.mt.grow hc2 hG6, hM.ow, by rw [hrs]; exact s3, o3.low hM.gr.nx, fun id off n sz e off' n' sz' e' => by have := o3 _ _ _ _ e; have := vlt _ _ _ _ e'; omega⟩, by simp (disch := omega) only [getK_set, Nat.reduceEqDiff, ↓reduceIte, g0, g1, g2, g7, and_self, Int.natCast_add, Int.natCast_one]⟩
        by_cases hlt3 : k < S.length
        · have d2 : decide ((k : Int) < (S.length : Int)) = true := by simpa using hlt3
          obtain ⟨q2, s1, s2⟩ := hM.out.at k hlt3
          have htk := List.take_succ_eq_append_getElem hlt3
          have hdk : S.drop k = S[k] :: S.drop (k + 1) := List.drop_eq_getElem_cons hlt3
          rw [hdk] at fin
          generalize S[k] = s at *
          cases d3 : decide (s ≤ (R.length : Int)) with
          | true =>
            have hs := of_decide_eq_true d3
            simp (disch := omega) only [f46_r15, f46_r16, w_skip, w_reg, w_seq, w_cond, w_block, seqK_n, atK_n, loopK_n, ckB_b, cbB_b, okG_b, asG_t, true_and, x_nil, x_g, x_mv, x_as, x_pick, x_ld, x_bin, x_iads, x_len, kx, rvP_ok, okv_some, ev_t, ev_c, getV_some, putD_some, bin_add, bin_lss, bin_leq, pick_b, of1, getK_set, Nat.reduceEqDiff, ↓reduceIte, g8, g10, g14, hwl, d2, s1, s2, iE, d3, fw64]
            refine ⟨k + 1, by omega, by omega, rfl, fun y hy => ?_, by simp (disch := omega) only [getK_set, Nat.reduceEqDiff, ↓reduceIte, g0, g1, g2, g7, g8, g9, g10, and_self, Int.natCast_add, Int.natCast_one]⟩
            rw [htk] at hy
            rcases List.mem_append.1 hy with hy | hy
            · exact hall y hy
            · rw [List.mem_singleton.1 hy]; exact hs
          | false =>
            have hs := of_decide_eq_false d3
            have fin := fin (fun y hy => by
              obtain rfl : s = y := by simpa using hy
              exact hs)
            simp (disch := omega) only [f46_r15, w_reg, w_seq, w_cond, w_exit, seqK_n, seqK_e, atK_e, loopK_e, ckB_b, cbB_b, okG_b, asG_t, true_and, x_nil, x_g, x_mv, x_pick, x_ld, x_bin, x_iads, x_len, kx, rvP_ok, okv_some, ev_t, ev_c, getV_some, putD_some, bin_lss, bin_leq, pick_b, getK_set, Nat.reduceEqDiff, ↓reduceIte, Bool.false_eq_true, g8, g10, g14, hwl, d2, s1, s2, iE, d3]
            exact fin _ (by simp (disch := omega) only [getK_set, Nat.reduceEqDiff, ↓reduceIte, g0, g1, g2, g7, g8, g9, g10, g14, and_self])
        · have d2 : decide ((k : Int) < (S.length : Int)) = false := by simpa using hlt3
          have fin := fin (by rw [List.drop_eq_nil_of_le (by omega)]; exact fun y hy => absurd hy (by simp))
          simp (disch := omega) only [f46_r15, w_reg, w_seq, w_cond, w_exit, seqK_n, seqK_e, atK_e, loopK_e, ckB_b, cbB_b, okG_b, asG_t, true_and, x_nil, x_g, x_mv, x_pick, x_bin, x_len, kx, rvP_ok, okv_some, ev_t, ev_c, getV_some, putD_some, bin_lss, pick_b, getK_set, Nat.reduceEqDiff, ↓reduceIte, Bool.false_eq_true, g8, g14, hwl, d2]
          exact fin _ (by simp (disch := omega) only [getK_set, Nat.reduceEqDiff, ↓reduceIte, g0, g1, g2, g7, g8, g9, g10, g14, and_self])
  · have d0 : decide ((t : Int) < (n : Int)) = false := by simpa using hlt
    have et : t = n := by omega
    subst et
    simp (disch := omega) only [f46_r4, f46_r22, f46_rs, w_reg, w_seq, w_cond, w_exit, w_ret, seqK_n, seqK_e, atK_e, loopK_e, ckB_b, cbB_b, true_and, retK_r, x_nil, x_mv, x_as, x_bin, kx, rvP_ok, okv_some, ev_t, getV_some, putD_some, bin_lss, oGet_s, readRs_nil, readRs_t, retV_1, Option.some.injEq, exists_eq_left', getK_set, Nat.reduceEqDiff, ↓reduceIte, Bool.false_eq_true, g0, g8, g9, d0]
    exact ⟨hM.out, hM.gr⟩
end
end Go.Ev
namespace Go.Ev
open Go Go.RowKit
section
variable {A B : Int → Int} {n : Nat}
theorem rgs_1 (hn : 1 ≤ n) {t : Nat} : ∃ M S, rgs A B n (t + 1) = (ringR A B n 0 [] ++ M, ((ringR A B n 0 []).length : Int) :: S) ∧ (S = [] ↔ M = []) := by
  induction t with
  | zero =>
    refine ⟨[], [], ?_, by simp⟩
    show (if (0 : Int) ∈ ([] : List Int) then _ else _) = _
    rw [if_neg (by simp)]
    simp [rgs]
  | succ t ih =>
    obtain ⟨M, S, e, hS⟩ := ih
    show ∃ M S, (if ((t + 1 : Nat) : Int) ∈ (rgs A B n (t + 1)).1 then rgs A B n (t + 1) else _) = _ ∧ _
    split
    · exact ⟨M, S, e, hS⟩
    · rename_i hm
      refine ⟨M ++ ringR A B n ((t + 1 : Nat) : Int) [], S ++ [((ringR A B n ((t + 1 : Nat) : Int) []).length : Int)], by rw [e]; simp, ?_⟩
      constructor
      · intro h; simp at h
      · intro h
        exfalso
        have h2 := (List.append_eq_nil_iff.1 h).2
        cases n with
        | zero => omega
        | succ n =>
          unfold ringR at h2
          rw [if_neg (by simp)] at h2
          have key : ∀ {k : Nat} {x : Int} {L : List Int}, L ≠ [] → ringR A B k x L ≠ [] := by
            intro k
            induction k with
            | zero => exact fun h => h
            | succ k ih =>
              intro x L hL
              unfold ringR
              split
              · exact hL
              · exact ih (by simp)
          exact key (by simp) h2
theorem rg_one (iA : Inv A n) (iB : Inv B n) (hn : 1 ≤ n) : (rgs A B n n).2.length = 1 ↔ (ringR A B n 0 []).length = n := by
  obtain ⟨m, rfl⟩ : ∃ m, n = m + 1 := ⟨n - 1, by omega⟩
  have hR := rgs_I iA iB hn (Nat.le_refl _)
  obtain ⟨M, S, e, hS⟩ := rgs_1 (A := A) (B := B) hn (t := m)
  have hl := all_len hR.nd hR.rng hR.all
  rw [e] at hl ⊢
  simp only [List.length_append, List.length_cons] at hl ⊢
  constructor
  · intro h
    have hM := hS.1 (List.length_eq_zero_iff.1 (by omega))
    rw [hM] at hl
    simpa using hl
  · intro h
    have hM : M = [] := List.length_eq_zero_iff.1 (by omega)
    rw [hS.2 hM]; rfl
theorem rgs_ne (iA : Inv A n) (iB : Inv B n) (hn : 1 ≤ n) : 1 ≤ (rgs A B n n).2.length := by
  obtain ⟨m, rfl⟩ : ∃ m, n = m + 1 := ⟨n - 1, by omega⟩
  obtain ⟨M, S, e, hS⟩ := rgs_1 (A := A) (B := B) hn (t := m)
  rw [e]; simp
theorem ring_comm (iA : Inv A n) (iB : Inv B n) (hn : 1 ≤ n) : (ringR A B n 0 []).length = (ringR B A n 0 []).length := by
  have e1 := ring_E iA iB (RingI.init (A := A) (B := B) (n := n) (t := 0) (by omega)) (k := n) (by simp; omega)
  have e2 := ring_E iB iA (RingI.init (A := B) (B := A) (n := n) (t := 0) (by omega)) (k := n) (by simp; omega)
  have h1 := nodup_le e1.nd (ring_min (A := A) (B := B) (k := n) (x := 0) (L := []) e2.clB e2.clA e2.mem (by simp))
  have h2 := nodup_le e2.nd (ring_min (A := B) (B := A) (k := n) (x := 0) (L := []) e1.clB e1.clA e1.mem (by simp))
  omega
theorem rg_comm {a b : List (Int × Int)} (hra : rndB n a = true) (hrb : rndB n b = true) (hn : 1 ≤ n) : decide (((rgL a b n).length : Int) > 1) = decide (((rgL b a n).length : Int) ≠ 1) := by
  have iA := rnd_inv hra
  have iB := rnd_inv hrb
  have h1 := rg_one iA iB hn
  have h2 := rg_one iB iA hn
  have h3 := rgs_ne iA iB hn
  have h4 := rgs_ne iB iA hn
  rw [ring_comm iA iB hn] at h1
  unfold rgL
  rw [srtL_len, srtL_len, Bool.eq_iff_iff, decide_eq_true_iff, decide_eq_true_iff]
  omega
end
end Go.Ev
namespace Go.Ev
open Go Go.RowKit
noncomputable def f56_r0 : List EOper := [⟨(some (K.ofNat 4)), none, .as (.c (.b false))⟩]
noncomputable def f56_r1 : List EOper := [⟨(some (K.ofNat 9)), none, .mv (.t (K.ofNat 0))⟩, ⟨(some (K.ofNat 10)), none, .len (.t (K.ofNat 9))⟩, ⟨(some (K.ofNat 11)), none, .mv (.c (.i .i64 (.ofNat 0)))⟩]
noncomputable def f56_r2 : List EOper := [⟨(some (K.ofNat 12)), none, .bin .lss (.t (K.ofNat 11)) (.t (K.ofNat 10))⟩]
noncomputable def f56_r3 : List EOper := [⟨(some (K.ofNat 13)), none, .mv (.t (K.ofNat 11))⟩, ⟨(some (K.ofNat 14)), none, .iads 1 (.t (K.ofNat 9)) (.t (K.ofNat 11))⟩, ⟨(some (K.ofNat 15)), none, .ld (.t (K.ofNat 14))⟩, ⟨(some (K.ofNat 5)), none, .as (.t (K.ofNat 13))⟩, ⟨(some (K.ofNat 6)), none, .as (.t (K.ofNat 15))⟩]
noncomputable def f56_r4 : List EOper := [⟨(some (K.ofNat 16)), none, .mv (.t (K.ofNat 0))⟩, ⟨(some (K.ofNat 17)), none, .mv (.t (K.ofNat 5))⟩, ⟨(some (K.ofNat 18)), none, .slice 1 (.t (K.ofNat 16)) none (some (.t (K.ofNat 17))) none⟩, ⟨(some (K.ofNat 19)), none, .len (.t (K.ofNat 18))⟩, ⟨(some (K.ofNat 20)), none, .mv (.c (.i .i64 (.ofNat 0)))⟩]
noncomputable def f56_r5 : List EOper := [⟨(some (K.ofNat 21)), none, .bin .lss (.t (K.ofNat 20)) (.t (K.ofNat 19))⟩]
noncomputable def f56_r6 : List EOper := [⟨(some (K.ofNat 22)), none, .iads 1 (.t (K.ofNat 18)) (.t (K.ofNat 20))⟩, ⟨(some (K.ofNat 23)), none, .ld (.t (K.ofNat 22))⟩, ⟨(some (K.ofNat 8)), none, .as (.t (K.ofNat 23))⟩]
noncomputable def f56_r7 : List EOper := [⟨(some (K.ofNat 24)), none, .mv (.t (K.ofNat 1))⟩, ⟨(some (K.ofNat 25)), none, .mv (.t (K.ofNat 8))⟩, ⟨(some (K.ofNat 26)), none, .mv (.t (K.ofNat 6))⟩, ⟨(some (K.ofNat 27)), none, .call (.c (.fn (K.ofNat 69) [])) [(.t (K.ofNat 24)), (.t (K.ofNat 25)), (.t (K.ofNat 26))]⟩, ⟨(some (K.ofNat 28)), none, .len (.t (K.ofNat 27))⟩, ⟨(some (K.ofNat 29)), none, .bin .gtr (.t (K.ofNat 28)) (.c (.i .i64 (.ofNat 1)))⟩]
noncomputable def f56_r8 : List EOper := [⟨(some (K.ofNat 4)), none, .as (.c (.b false))⟩]
noncomputable def f56_r9 : List EOper := [⟨(some (K.ofNat 30)), none, .bin .add (.t (K.ofNat 20)) (.c (.i .i64 (.ofNat 1)))⟩, ⟨(some (K.ofNat 20)), none, .mv (.t (K.ofNat 30))⟩]
noncomputable def f56_l0 : EC := (.seq (.reg f56_r5) (.seq (.cond (.t (K.ofNat 21)) .skip (.exit 2)) (.seq (.block 3 (.seq (.reg f56_r6) (.seq (.reg f56_r7) (.cond (.t (K.ofNat 29)) (.seq (.reg f56_r8) .ret) .skip)))) (.reg f56_r9))))
noncomputable def f56_r10 : List EOper := [⟨(some (K.ofNat 31)), none, .bin .add (.t (K.ofNat 11)) (.c (.i .i64 (.ofNat 1)))⟩, ⟨(some (K.ofNat 11)), none, .mv (.t (K.ofNat 31))⟩]
noncomputable def f56_l1 : EC := (.seq (.reg f56_r2) (.seq (.cond (.t (K.ofNat 12)) .skip (.exit 0)) (.seq (.block 1 (.seq (.reg f56_r3) (.seq (.reg f56_r4) (.block 2 (.loop f56_l0))))) (.reg f56_r10))))
noncomputable def f56_r11 : List EOper := [⟨(some (K.ofNat 4)), none, .as (.c (.b true))⟩]
noncomputable def f56_c : EC := (.seq (.reg f56_r0) (.seq (.seq (.reg f56_r1) (.block 0 (.loop f56_l1))) (.seq (.reg f56_r11) .ret)))
noncomputable def f56 : EF := ⟨32, [.tmp (K.ofNat 4)], f56_c, none⟩
theorem f56_rs : f56.rs = [.tmp (K.ofNat 4)] := of_eq_true (eq_self _)
noncomputable def f20_r0 : List EOper := [⟨(some (K.ofNat 4)), none, .as (.c (.b false))⟩, ⟨(some (K.ofNat 5)), none, .as (.c (.i .i64 (.ofNat 0)))⟩]
noncomputable def f20_r1 : List EOper := [⟨(some (K.ofNat 9)), none, .mv (.t (K.ofNat 0))⟩, ⟨(some (K.ofNat 10)), none, .mv (.t (K.ofNat 1))⟩, ⟨(some (K.ofNat 11)), none, .call (.c (.fn (K.ofNat 51) [])) [(.t (K.ofNat 9)), (.t (K.ofNat 10))]⟩, ⟨(some (K.ofNat 8)), none, .mv (.t (K.ofNat 11))⟩, ⟨(some (K.ofNat 12)), none, .ext (.t (K.ofNat 8)) 0⟩, ⟨(some (K.ofNat 13)), none, .ext (.t (K.ofNat 8)) 1⟩, ⟨(some (K.ofNat 6)), none, .as (.t (K.ofNat 12))⟩, ⟨(some (K.ofNat 7)), none, .as (.t (K.ofNat 13))⟩]
noncomputable def f20_r2 : List EOper := [⟨(some (K.ofNat 14)), none, .mv (.t (K.ofNat 7))⟩, ⟨(some (K.ofNat 15)), none, .bin .neq (.t (K.ofNat 14)) (.c (.i .i64 (.ofNat 0)))⟩]
noncomputable def f20_r3 : List EOper := [⟨(some (K.ofNat 16)), none, .mv (.t (K.ofNat 7))⟩, ⟨(some (K.ofNat 4)), none, .as (.c (.b false))⟩, ⟨(some (K.ofNat 5)), none, .as (.t (K.ofNat 16))⟩]
noncomputable def f20_r4 : List EOper := [⟨(some (K.ofNat 17)), none, .mv (.t (K.ofNat 6))⟩, ⟨(some (K.ofNat 18)), none, .mv (.t (K.ofNat 0))⟩, ⟨(some (K.ofNat 19)), none, .call (.c (.fn (K.ofNat 56) [])) [(.t (K.ofNat 17)), (.t (K.ofNat 18))]⟩, ⟨(some (K.ofNat 4)), none, .as (.t (K.ofNat 19))⟩, ⟨(some (K.ofNat 5)), none, .as (.c (.i .i64 (.ofNat 0)))⟩]
noncomputable def f20_c : EC := (.seq (.reg f20_r0) (.seq (.reg f20_r1) (.seq (.seq (.reg f20_r2) (.cond (.t (K.ofNat 15)) (.seq (.reg f20_r3) .ret) .skip)) (.seq (.reg f20_r4) .ret))))
noncomputable def f20 : EF := ⟨20, [.tmp (K.ofNat 4), .tmp (K.ofNat 5)], f20_c, none⟩
theorem f20_rs : f20.rs = [.tmp (K.ofNat 4), .tmp (K.ofNat 5)] := of_eq_true (eq_self _)
noncomputable def f40_r0 : List EOper := [⟨(some (K.ofNat 4)), none, .as (.c (.b false))⟩]
noncomputable def f40_r1 : List EOper := [⟨(some (K.ofNat 5)), none, .as (.c (.i .i64 (.ofNat 0)))⟩]
noncomputable def f40_r2 : List EOper := [⟨(some (K.ofNat 7)), none, .mv (.t (K.ofNat 5))⟩, ⟨(some (K.ofNat 8)), none, .mv (.t (K.ofNat 1))⟩, ⟨(some (K.ofNat 9)), none, .len (.t (K.ofNat 8))⟩, ⟨(some (K.ofNat 10)), none, .bin .lss (.t (K.ofNat 7)) (.t (K.ofNat 9))⟩]
noncomputable def f40_r3 : List EOper := [⟨(some (K.ofNat 6)), none, .as (.c (.i .i64 (.ofNat 0)))⟩]
noncomputable def f40_r4 : List EOper := [⟨(some (K.ofNat 13)), none, .mv (.t (K.ofNat 6))⟩, ⟨(some (K.ofNat 14)), none, .mv (.t (K.ofNat 5))⟩, ⟨(some (K.ofNat 15)), none, .bin .lss (.t (K.ofNat 13)) (.t (K.ofNat 14))⟩]
noncomputable def f40_r5 : List Stage := [⟨[⟨(some (K.ofNat 18)), none, .mv (.t (K.ofNat 0))⟩, ⟨(some (K.ofNat 19)), none, .mv (.t (K.ofNat 1))⟩, ⟨(some (K.ofNat 20)), none, .mv (.t (K.ofNat 5))⟩, ⟨(some (K.ofNat 21)), none, .iads 1 (.t (K.ofNat 19)) (.t (K.ofNat 20))⟩, ⟨(some (K.ofNat 22)), none, .ld (.t (K.ofNat 21))⟩, ⟨(some (K.ofNat 23)), none, .mv (.t (K.ofNat 1))⟩, ⟨(some (K.ofNat 24)), none, .mv (.t (K.ofNat 6))⟩, ⟨(some (K.ofNat 25)), none, .iads 1 (.t (K.ofNat 23)) (.t (K.ofNat 24))⟩, ⟨(some (K.ofNat 26)), none, .ld (.t (K.ofNat 25))⟩], [], (some ⟨(some (K.ofNat 27)), none, .call (.c (.fn (K.ofNat 46) [])) [(.t (K.ofNat 18)), (.t (K.ofNat 22)), (.t (K.ofNat 26))]⟩), []⟩, ⟨[⟨(some (K.ofNat 28)), none, .len (.t (K.ofNat 27))⟩, ⟨(some (K.ofNat 29)), none, .bin .neq (.t (K.ofNat 28)) (.c (.i .i64 (.ofNat 1)))⟩], [], none, []⟩]
noncomputable def f40_r6 : List EOper := [⟨(some (K.ofNat 4)), none, .as (.c (.b false))⟩]
noncomputable def f40_r7 : List EOper := [⟨(some (K.ofNat 16)), none, .mv (.t (K.ofNat 6))⟩, ⟨(some (K.ofNat 17)), none, .bin .add (.t (K.ofNat 16)) (.c (.i .i64 (.ofNat 1)))⟩, ⟨(some (K.ofNat 6)), none, .as (.t (K.ofNat 17))⟩]
noncomputable def f40_l0 : EC := (.seq (.seq (.reg f40_r4) (.cond (.t (K.ofNat 15)) .skip (.exit 2))) (.seq (.block 3 (.seq (.draw f40_r5) (.cond (.t (K.ofNat 29)) (.seq (.reg f40_r6) .ret) .skip))) (.reg f40_r7)))
noncomputable def f40_r8 : List EOper := [⟨(some (K.ofNat 11)), none, .mv (.t (K.ofNat 5))⟩, ⟨(some (K.ofNat 12)), none, .bin .add (.t (K.ofNat 11)) (.c (.i .i64 (.ofNat 1)))⟩, ⟨(some (K.ofNat 5)), none, .as (.t (K.ofNat 12))⟩]
noncomputable def f40_l1 : EC := (.seq (.seq (.reg f40_r2) (.cond (.t (K.ofNat 10)) .skip (.exit 0))) (.seq (.block 1 (.seq (.reg f40_r3) (.block 2 (.loop f40_l0)))) (.reg f40_r8)))
noncomputable def f40_r9 : List EOper := [⟨(some (K.ofNat 4)), none, .as (.c (.b true))⟩]
noncomputable def f40_c : EC := (.seq (.reg f40_r0) (.seq (.seq (.reg f40_r1) (.block 0 (.loop f40_l1))) (.seq (.reg f40_r9) .ret)))
noncomputable def f40 : EF := ⟨30, [.tmp (K.ofNat 4)], f40_c, none⟩
theorem f40_rs : f40.rs = [.tmp (K.ofNat 4)] := of_eq_true (eq_self _)
/-- Do the rounds before i make one ring with it, up to k? -/
def prR (n : Nat) (Ls : List (List (Int × Int))) (i k : Nat) : Bool := (List.range k).all fun k => !decide (((rgL (Ls.getD i []) (Ls.getD k []) n).length : Int) ≠ 1)
def prS (n : Nat) (Ls : List (List (Int × Int))) (i : Nat) : Bool := (List.range i).all fun i => prR n Ls i i
theorem prR_succ {n : Nat} {Ls : List (List (Int × Int))} {i k : Nat} : prR n Ls i (k + 1) = (prR n Ls i k && !decide (((rgL (Ls.getD i []) (Ls.getD k []) n).length : Int) ≠ 1)) := by
  unfold prR; rw [List.range_succ, List.all_append]; simp
theorem prS_succ {n : Nat} {Ls : List (List (Int × Int))} {i : Nat} : prS n Ls (i + 1) = (prS n Ls i && prR n Ls i i) := by
  unfold prS; rw [List.range_succ, List.all_append]; simp
theorem prR_le {n : Nat} {Ls : List (List (Int × Int))} {i k m : Nat} (h : k ≤ m) (hf : prR n Ls i k = false) : prR n Ls i m = false := by
  rw [Bool.eq_false_iff] at hf ⊢
  intro hm; apply hf
  unfold prR at hm ⊢
  rw [List.all_eq_true] at hm ⊢
  exact fun x hx => hm x (by simp at hx ⊢; omega)
theorem prS_le {n : Nat} {Ls : List (List (Int × Int))} {k m : Nat} (h : k ≤ m) (hf : prS n Ls k = false) : prS n Ls m = false := by
  rw [Bool.eq_false_iff] at hf ⊢
  intro hm; apply hf
  unfold prS at hm ⊢
  rw [List.all_eq_true] at hm ⊢
  exact fun x hx => hm x (by simp at hx ⊢; omega)
section
variable {fs : T EF} {h : H} {v : V} {us : List V} {Ls : List (List (Int × Int))} {n : Nat}
def f40_I (h : H) (v : V) (Ls : List (List (Int × Int))) (n : Nat) (i : Nat) (fr : Fr) (h1 : H) : Prop := i ≤ Ls.length ∧ Grow h.nx.nat h h1 ∧ prS n Ls i = true ∧ fr.get (K.ofNat 0) = some (.i .i64 (n : Int)) ∧ fr.get (K.ofNat 1) = some (v) ∧ fr.get (K.ofNat 5) = some (.i .i64 (i : Int))
def f40_J (h : H) (v : V) (Ls : List (List (Int × Int))) (n : Nat) (i k : Nat) (fr : Fr) (h1 : H) : Prop := k ≤ i ∧ Grow h.nx.nat h h1 ∧ prR n Ls i k = true ∧ fr.get (K.ofNat 0) = some (.i .i64 (n : Int)) ∧ fr.get (K.ofNat 1) = some (v) ∧ fr.get (K.ofNat 5) = some (.i .i64 (i : Int)) ∧ fr.get (K.ofNat 6) = some (.i .i64 (k : Int))
theorem f40_ret (h64 : fs.get (K.ofNat 64) = some f64) (h46 : fs.get (K.ofNat 46) = some f46) (hv : Nrp h v us Ls) (hvd : Vld n Ls) (hl : Ls.length ≤ 100) (hl2 : ∀ l ∈ Ls, l.length ≤ 100) (hn : n ≤ 12) (hn1 : 1 ≤ n) (hc : HC h) : Ret fs f40 [.i .i64 (n : Int), v] h fun r h' => r = .b (prS n Ls Ls.length) ∧ Grow h.nx.nat h h' := by
  have hlen : ∀ h1, lenV v h1 = .ok (.i .i64 (Ls.length : Int)) h1 := fun h1 => by rw [hv.out.len, hv.len]
  apply ret_of rfl
  show W fs none f40_c _ _ _
  unfold f40_c
  simp (disch := omega) only [f40_r0, f40_r1, w_reg, w_seq, w_block, seqK_n, x_nil, x_as, ev_c, putD_some, frame_2, of0]
  refine W_loop (f40_I h v Ls n) (fun i => Ls.length - i) ?_ 0 ⟨by omega, Grow.refl _ _, rfl, by simp (disch := omega) only [getK_set, Nat.reduceEqDiff, ↓reduceIte, and_self, Int.natCast_zero]⟩
  rintro i fr h1 ⟨hi, hG, hP, g0, g1, g5⟩
  unfold f40_l1
  by_cases hlt : i < Ls.length
  · have d0 : decide ((i : Int) < (Ls.length : Int)) = true := by simpa using hlt
    have hps := prS_succ (n := n) (Ls := Ls) (i := i)
    rw [hP, Bool.true_and] at hps
    simp (disch := omega) only [f40_r2, f40_r3, w_skip, w_reg, w_seq, w_cond, w_block, seqK_n, ckB_b, cbB_b, true_and, x_nil, x_mv, x_as, x_bin, x_len, kx, rvP_ok, okv_some, ev_t, ev_c, getV_some, putD_some, bin_lss, of0, getK_set, Nat.reduceEqDiff, ↓reduceIte, g1, g5, hlen, d0]
    refine W_loop (f40_J h v Ls n i) (fun k => i - k) ?_ 0 ⟨by omega, hG, rfl, by simp (disch := omega) only [getK_set, Nat.reduceEqDiff, ↓reduceIte, g0, g1, g5, and_self, Int.natCast_zero]⟩
    clear g0 g1 g5 fr hG
    rintro k fr h2 ⟨hk, hG, hR, g0, g1, g5, g6⟩
    have hc2 := hG.hc hc
    have hv2 := hv.grow hc hG
    unfold f40_l0
    by_cases hlt2 : k < i
    · have d1 : decide ((k : Int) < (i : Int)) = true := by simpa using hlt2
      have hiu : i < us.length := by rw [hv.len]; exact hlt
      have hkl : k < Ls.length := by omega
      have hku : k < us.length := by rw [hv.len]; exact hkl
      obtain ⟨p, p1, p2⟩ := hv2.out.at i hiu
      obtain ⟨q, q1, q2⟩ := hv2.out.at k hku
      have p2 : loadV h2 p one? = .ok us[i] h2 := p2
      have q2 : loadV h2 q one? = .ok us[k] h2 := q2
      have hua := hv2.inn i hiu hlt
      have hub := hv2.inn k hku hkl
      have r1 := hvd.rnd _ (List.getElem_mem hlt)
      have r2 := hvd.rnd _ (List.getElem_mem hkl)
      have la := hl2 _ (List.getElem_mem hlt)
      have lb := hl2 _ (List.getElem_mem hkl)
      have hrs := prR_succ (n := n) (Ls := Ls) (i := i) (k := k)
      rw [hR, Bool.true_and, getD_at hlt, getD_at hkl] at hrs
      generalize us[i] = ua at *
      generalize us[k] = ub at *
      generalize Ls[i] = a at *
      generalize Ls[k] = b at *
      simp (disch := omega) only [f40_r4, f40_r5, w_skip, w_reg, w_draw, w_seq, w_cond, w_block, seqK_n, ckB_b, cbB_b, true_and, x_nil, x_mv, x_bin, x_call, kx, kg, xg_nil, xg_mv, xg_ld, xg_iads, xd_cons, fresh_nil, stK_s, stay_nil, rvP_ok, okv_some, ev_t, ev_c, evs_nil, evs_cons, getV_some, putD_some, bin_lss, of1, getK_set, Nat.reduceEqDiff, ↓reduceIte, g0, g1, g5, g6, d1, p1, p2, q1, q2]
      refine (callP_0 (ef := f46) h46 rfl (f46_ret h64 hua hub (by omega) (by omega) r1 r2 hn hn1 hc2)).mono ?_
      rintro r h3 ⟨hr, hG3⟩
      have hGa := hG.trans (hG3.low hG.nx)
      have hrl := hr.len
      cases hd : decide (((rgL a b n).length : Int) ≠ 1) with
      | true =>
        rw [hd] at hrs
        have hf := prS_le (m := Ls.length) (show i + 1 ≤ Ls.length by omega) (by rw [hps]; exact prR_le (show k + 1 ≤ i by omega) hrs)
        simp (disch := omega) only [f40_r6, f40_rs, w_reg, w_seq, w_cond, w_ret, seqK_n, seqK_r, atK_r, loopK_r, ckB_b, cbB_b, true_and, retK_r, x_nil, x_as, kx, kg, xg_nil, xg_bin, xg_len, xd_cons, fresh_nil, stK_n, stay_nil, rvP_ok, okv_some, ev_t, ev_c, getV_some, putD_some, bin_neq, oGet_s, readRs_nil, readRs_t, retV_1, Option.some.injEq, exists_eq_left', getK_set, ↓reduceIte, hrl, hd, hf, true_and]
        exact hGa
      | false =>
        rw [hd] at hrs
        simp (disch := omega) only [f40_r7, w_skip, w_reg, w_cond, seqK_n, atK_n, loopK_n, ckB_b, cbB_b, true_and, x_nil, x_mv, x_as, x_bin, kx, kg, xg_nil, xg_bin, xg_len, xd_cons, fresh_nil, stK_n, stay_nil, rvP_ok, okv_some, ev_t, ev_c, getV_some, putD_some, bin_add, bin_neq, of1, getK_set, Nat.reduceEqDiff, ↓reduceIte, Bool.false_eq_true, g6, hrl, hd, fw64]
        exact ⟨k + 1, by omega, by omega, hGa, hrs, by simp (disch := omega) only [getK_set, Nat.reduceEqDiff, ↓reduceIte, g0, g1, g5, and_self, Int.natCast_add, Int.natCast_one]⟩
    · have d1 : decide ((k : Int) < (i : Int)) = false := by simpa using hlt2
      have ek : k = i := by omega
      rw [ek] at hR
      simp (disch := omega) only [f40_r4, f40_r8, w_reg, w_seq, w_cond, w_exit, seqK_n, seqK_e, atK_n, atK_e, loopK_n, loopK_e, ckB_b, cbB_b, true_and, x_nil, x_mv, x_as, x_bin, kx, rvP_ok, okv_some, ev_t, ev_c, getV_some, putD_some, bin_add, bin_lss, of1, getK_set, Nat.reduceEqDiff, ↓reduceIte, Bool.false_eq_true, g5, g6, d1, fw64]
      exact ⟨i + 1, by omega, by omega, hG, by rw [hps, hR], by simp (disch := omega) only [getK_set, Nat.reduceEqDiff, ↓reduceIte, g0, g1, and_self, Int.natCast_add, Int.natCast_one]⟩
  · have d0 : decide ((i : Int) < (Ls.length : Int)) = false := by simpa using hlt
    have ei : i = Ls.length := by omega
    rw [ei] at hP
    simp (disch := omega) only [f40_r2, f40_r9, f40_rs, w_reg, w_seq, w_cond, w_exit, w_ret, seqK_n, seqK_e, atK_e, loopK_e, ckB_b, cbB_b, true_and, retK_r, x_nil, x_mv, x_as, x_bin, x_len, kx, rvP_ok, okv_some, ev_t, ev_c, getV_some, putD_some, bin_lss, oGet_s, readRs_nil, readRs_t, retV_1, Option.some.injEq, exists_eq_left', getK_set, Nat.reduceEqDiff, ↓reduceIte, Bool.false_eq_true, g1, g5, hlen, d0, hP, true_and]
    exact hG
structure CallsPf (fs : T EF) : Prop extends CallsRg fs where
  c69 : fs.get (K.ofNat 69) = some f69
def f56_I (h : H) (v : V) (Ls : List (List (Int × Int))) (n : Nat) (i : Nat) (fr : Fr) (h1 : H) : Prop := i ≤ Ls.length ∧ Grow h.nx.nat h h1 ∧ prS n Ls i = true ∧ fr.get (K.ofNat 0) = some (v) ∧ fr.get (K.ofNat 1) = some (.i .i64 (n : Int)) ∧ fr.get (K.ofNat 9) = some (v) ∧ fr.get (K.ofNat 10) = some (.i .i64 (Ls.length : Int)) ∧ fr.get (K.ofNat 11) = some (.i .i64 (i : Int))
def f56_J (h : H) (v u w : V) (Ls : List (List (Int × Int))) (n : Nat) (i k : Nat) (fr : Fr) (h1 : H) : Prop := k ≤ i ∧ Grow h.nx.nat h h1 ∧ prR n Ls i k = true ∧ fr.get (K.ofNat 0) = some (v) ∧ fr.get (K.ofNat 1) = some (.i .i64 (n : Int)) ∧ fr.get (K.ofNat 6) = some (u) ∧ fr.get (K.ofNat 9) = some (v) ∧ fr.get (K.ofNat 10) = some (.i .i64 (Ls.length : Int)) ∧ fr.get (K.ofNat 11) = some (.i .i64 (i : Int)) ∧ fr.get (K.ofNat 18) = some (w) ∧ fr.get (K.ofNat 19) = some (.i .i64 (i : Int)) ∧ fr.get (K.ofNat 20) = some (.i .i64 (k : Int))
theorem f56_ret (kk : CallsPf fs) (hv : Nrp h v us Ls) (hvd : Vld n Ls) (hl : Ls.length ≤ 100) (hl2 : ∀ l ∈ Ls, l.length ≤ 100) (hn : n ≤ 12) (hn1 : 1 ≤ n) (hc : HC h) : Ret fs f56 [v, .i .i64 (n : Int)] h fun r h' => r = .b (prS n Ls Ls.length) ∧ Grow h.nx.nat h h' := by
  have hlen : ∀ h1, lenV v h1 = .ok (.i .i64 (Ls.length : Int)) h1 := fun h1 => by rw [hv.out.len, hv.len]
  apply ret_of rfl
  show W fs none f56_c _ _ _
  unfold f56_c
  simp (disch := omega) only [f56_r0, f56_r1, w_reg, w_seq, w_block, seqK_n, x_nil, x_mv, x_as, x_len, kx, rvP_ok, ev_t, ev_c, getV_some, putD_some, frame_2, of0, getK_set, Nat.reduceEqDiff, ↓reduceIte, hlen]
  refine W_loop (f56_I h v Ls n) (fun i => Ls.length - i) ?_ 0 ⟨by omega, Grow.refl _ _, rfl, by simp (disch := omega) only [getK_set, Nat.reduceEqDiff, ↓reduceIte, and_self, Int.natCast_zero]⟩
  rintro i fr h1 ⟨hi, hG, hP, g0, g1, g9, g10, g11⟩
  have hc1 := hG.hc hc
  have hv1 := hv.grow hc hG
  unfold f56_l1
  by_cases hlt : i < Ls.length
  · have d0 : decide ((i : Int) < (Ls.length : Int)) = true := by simpa using hlt
    have hps := prS_succ (n := n) (Ls := Ls) (i := i)
    rw [hP, Bool.true_and] at hps
    have hiu : i < us.length := by rw [hv.len]; exact hlt
    obtain ⟨p, p1, p2⟩ := hv1.out.at i hiu
    have p2 : loadV h1 p one? = .ok us[i] h1 := p2
    obtain ⟨w, cw, sw, _⟩ := hv.out.cut (lo := none) (hi := some (.i .i64 (i : Int))) (l := 0) (u := i) bnd_none bnd_i (by omega) (by omega)
    rw [List.drop_zero] at sw
    have hwl := sw.len
    rw [List.length_take, Nat.min_eq_left (by omega)] at hwl
    have hui := hv.inn i hiu hlt
    have r1 := hvd.rnd _ (List.getElem_mem hlt)
    have la := hl2 _ (List.getElem_mem hlt)
    generalize us[i] = ua at *
    simp (disch := omega) only [f56_r2, f56_r3, f56_r4, w_skip, w_reg, w_seq, w_cond, w_block, seqK_n, ckB_b, cbB_b, true_and, x_nil, x_mv, x_as, x_ld, x_bin, x_slice, sliceV_eq, Option.map_none, Option.map_some, x_iads, x_len, kx, rvP_ok, okv_some, ev_t, ev_c, getV_some, putD_some, bin_lss, of0, getK_set, Nat.reduceEqDiff, ↓reduceIte, g0, g9, g10, g11, d0, p1, p2, cw, hwl]
    refine W_loop (f56_J h v ua w Ls n i) (fun k => i - k) ?_ 0 ⟨by omega, hG, rfl, by simp (disch := omega) only [getK_set, Nat.reduceEqDiff, ↓reduceIte, g0, g1, g9, g10, g11, and_self, Int.natCast_zero]⟩
    have hG1 := hG
    clear g0 g1 g9 g10 g11 fr hG p1 p2 cw
    rintro k fr h2 ⟨hk, hG, hR, g0, g1, g6, g9, g10, g11, g18, g19, g20⟩
    have hc2 := hG.hc hc
    have hv2 := hv.grow hc hG
    unfold f56_l0
    by_cases hlt2 : k < i
    · have d1 : decide ((k : Int) < (i : Int)) = true := by simpa using hlt2
      have hkl : k < Ls.length := by omega
      have hku : k < us.length := by rw [hv.len]; exact hkl
      have r2 := hvd.rnd _ (List.getElem_mem hkl)
      have lb := hl2 _ (List.getElem_mem hkl)
      obtain ⟨q, q1, q2⟩ := (sw.grow hc hG).at k (by simp; omega)
      have q2 : loadV h2 q one? = .ok us[k] h2 := by
        rw [List.getElem_take] at q2; exact q2
      have hub := hv2.inn k hku hkl
      have hua := hui.grow hc hG
      have hrs := prR_succ (n := n) (Ls := Ls) (i := i) (k := k)
      rw [hR, Bool.true_and, getD_at hlt, getD_at hkl, ← rg_comm r2 r1 hn1] at hrs
      generalize us[k] = ub at *
      generalize Ls[i] = a at *
      generalize Ls[k] = b at *
      simp (disch := omega) only [f56_r5, f56_r6, f56_r7, w_skip, w_reg, w_seq, w_cond, w_block, seqK_n, ckB_b, cbB_b, true_and, x_nil, x_mv, x_as, x_ld, x_bin, x_iads, x_call, kx, rvP_ok, okv_some, ev_t, ev_c, evs_nil, evs_cons, getV_some, putD_some, bin_lss, of1, getK_set, Nat.reduceEqDiff, ↓reduceIte, g1, g6, g18, g19, g20, d1, q1, q2]
      refine (callP_0 (ef := f69) kk.c69 rfl (f69_ret kk.toCallsRg hub hua (by omega) (by omega) r2 r1 hn hn1 hc2)).mono ?_
      rintro r h3 ⟨hr, _, hG3⟩
      have hGa := hG.trans (hG3.low hG.nx)
      have hrl := hr.len
      cases hd : decide (((rgL b a n).length : Int) > 1) with
      | true =>
        rw [hd] at hrs
        have hf := prS_le (m := Ls.length) (show i + 1 ≤ Ls.length by omega) (by rw [hps]; exact prR_le (show k + 1 ≤ i by omega) hrs)
        simp (disch := omega) only [f56_r8, f56_rs, w_reg, w_seq, w_cond, w_ret, seqK_n, seqK_r, atK_r, loopK_r, ckB_b, cbB_b, true_and, retK_r, x_nil, x_as, x_bin, x_len, kx, rvP_ok, okv_some, ev_t, ev_c, getV_some, putD_some, bin_gtr, oGet_s, readRs_nil, readRs_t, retV_1, Option.some.injEq, exists_eq_left', getK_set, ↓reduceIte, hrl, hd, hf, true_and]
        exact hGa
      | false =>
        rw [hd] at hrs
        simp (disch := omega) only [f56_r9, w_skip, w_reg, w_cond, seqK_n, atK_n, loopK_n, ckB_b, cbB_b, true_and, x_nil, x_mv, x_bin, x_len, kx, rvP_ok, okv_some, ev_t, ev_c, getV_some, putD_some, bin_add, bin_gtr, of1, getK_set, Nat.reduceEqDiff, ↓reduceIte, Bool.false_eq_true, g20, hrl, hd, fw64]
        exact ⟨k + 1, by omega, by omega, hGa, hrs, by simp (disch := omega) only [getK_set, Nat.reduceEqDiff, ↓reduceIte, g0, g1, g6, g9, g10, g11, g18, g19, and_self, Int.natCast_add, Int.natCast_one]⟩
    · have d1 : decide ((k : Int) < (i : Int)) = false := by simpa using hlt2
      have ek : k = i := by omega
      rw [ek] at hR
      simp (disch := omega) only [f56_r5, f56_r10, w_reg, w_seq, w_cond, w_exit, seqK_n, seqK_e, atK_n, atK_e, loopK_n, loopK_e, ckB_b, cbB_b, true_and, x_nil, x_mv, x_bin, kx, rvP_ok, okv_some, ev_t, ev_c, getV_some, putD_some, bin_add, bin_lss, of1, getK_set, Nat.reduceEqDiff, ↓reduceIte, Bool.false_eq_true, g11, g19, g20, d1, fw64]
      exact ⟨i + 1, by omega, by omega, hG, by rw [hps, hR], by simp (disch := omega) only [getK_set, Nat.reduceEqDiff, ↓reduceIte, g0, g1, g9, g10, and_self, Int.natCast_add, Int.natCast_one]⟩
  · have d0 : decide ((i : Int) < (Ls.length : Int)) = false := by simpa using hlt
    have ei : i = Ls.length := by omega
    rw [ei] at hP
    simp (disch := omega) only [f56_r2, f56_r11, f56_rs, w_reg, w_seq, w_cond, w_exit, w_ret, seqK_n, seqK_e, atK_e, loopK_e, ckB_b, cbB_b, true_and, retK_r, x_nil, x_as, x_bin, kx, rvP_ok, okv_some, ev_t, ev_c, getV_some, putD_some, bin_lss, oGet_s, readRs_nil, readRs_t, retV_1, Option.some.injEq, exists_eq_left', getK_set, ↓reduceIte, Bool.false_eq_true, g10, g11, d0, hP, true_and]
    exact hG
theorem f20_ret (k : CallsPf fs) (kc : CallsCh fs) (h56 : fs.get (K.ofNat 56) = some f56) (hn : ok5 (n : Int)) (hv : Nrp h v us Ls) (hL2 : ∀ l ∈ Ls, l.length ≤ 9223372036854775807) (hsh : shB n Ls = true) (hc : HC h) : Ret fs f20 [.i .i64 (n : Int), v] h fun r h' => r = .tup [.b (prS n Ls Ls.length), .i .i64 0] ∧ Grow h.nx.nat h h' := by
  have hn' := hn
  unfold ok5 at hn'
  obtain ⟨hvd, hlen⟩ := sh_vld hsh
  have hfew := hvd.few (by omega) (by omega)
  apply ret_of rfl
  show W fs none f20_c _ _ _
  unfold f20_c
  simp (disch := omega) only [f20_r0, f20_r1, w_reg, w_seq, seqK_n, x_nil, x_mv, x_as, x_call, ev_t, ev_c, evs_nil, evs_cons, getV_some, putD_some, frame_2, of0, getK_set, Nat.reduceEqDiff, ↓reduceIte]
  refine (callP_0 (ef := f51) kc.c51 rfl (f51_ret kc hn hv hL2 hc)).mono ?_
  rintro r h2 ⟨c, ws, rfl, hs, hG⟩
  rw [if_pos hsh] at hs ⊢
  obtain ⟨hs, _⟩ := hs
  have ne0 : decide ((0 : Int) ≠ 0) = false := rfl
  simp (disch := omega) only [f20_r2, f20_r4, w_skip, w_reg, w_seq, w_cond, seqK_n, ckB_b, cbB_b, true_and, x_nil, x_mv, x_as, x_bin, x_ext, x_call, kx, rvP_ok, okv_some, ev_t, ev_c, evs_nil, evs_cons, getV_some, putD_some, bin_neq, onTup_t, nth0, nth1, of0, getK_set, Nat.reduceEqDiff, ↓reduceIte, Bool.false_eq_true, ne0]
  refine (callP_0 (ef := f56) h56 rfl (f56_ret k hs.nrp hvd (by omega) (fun l hl => (hfew.2 l hl).1) (by omega) (by omega) (hG.hc hc))).mono ?_
  rintro r h3 ⟨rfl, hG3⟩
  simp (disch := omega) only [f20_rs, w_ret, seqK_n, true_and, retK_r, x_nil, x_as, kx, ev_t, ev_c, getV_some, putD_some, oGet_s, readRs_nil, readRs_t, retV_2, Option.some.injEq, exists_eq_left', getK_set, Nat.reduceEqDiff, ↓reduceIte, true_and]
  exact hG.trans (hG3.low hG.nx)
end
end Go.Ev
namespace Go.Ev
open Go Go.RowKit
noncomputable def f66_r0 : List EOper := [⟨(some (K.ofNat 2)), none, .as (.c .sn)⟩]
noncomputable def f66_r1 : List EOper := [⟨(some (K.ofNat 9)), none, .mv (.t (K.ofNat 0))⟩, ⟨(some (K.ofNat 10)), none, .bin .sub (.t (K.ofNat 9)) (.c (.i .i64 (.ofNat 1)))⟩, ⟨(some (K.ofNat 3)), none, .as (.t (K.ofNat 10))⟩]
noncomputable def f66_r2 : List EOper := [⟨(some (K.ofNat 11)), none, .mv (.t (K.ofNat 3))⟩, ⟨(some (K.ofNat 12)), none, .mkslice 1 [.sn] (.t (K.ofNat 11))⟩, ⟨(some (K.ofNat 4)), none, .as (.t (K.ofNat 12))⟩]
noncomputable def f66_r3 : List EOper := [⟨(some (K.ofNat 13)), none, .mv (.t (K.ofNat 3))⟩, ⟨(some (K.ofNat 14)), none, .mv (.c (.i .i64 (.ofNat 0)))⟩]
noncomputable def f66_r4 : List EOper := [⟨(some (K.ofNat 15)), none, .bin .lss (.t (K.ofNat 14)) (.t (K.ofNat 13))⟩]
noncomputable def f66_r5 : List EOper := [⟨(some (K.ofNat 16)), none, .mv (.t (K.ofNat 14))⟩, ⟨(some (K.ofNat 5)), none, .as (.t (K.ofNat 16))⟩]
noncomputable def f66_r6 : List EOper := [⟨(some (K.ofNat 17)), none, .mv (.t (K.ofNat 5))⟩, ⟨(some (K.ofNat 18)), none, .mv (.t (K.ofNat 0))⟩, ⟨(some (K.ofNat 19)), none, .bin .sub (.t (K.ofNat 18)) (.c (.i .i64 (.ofNat 1)))⟩, ⟨(some (K.ofNat 20)), none, .build [(.i .i64 (.ofNat 0)), (.i .i64 (.ofNat 0))] [(0, 1, (.t (K.ofNat 17))), (1, 1, (.t (K.ofNat 19)))]⟩, ⟨(some (K.ofNat 6)), none, .alloc 2 [(.i .i64 (.ofNat 0)), (.i .i64 (.ofNat 0))]⟩, ⟨none, none, .st 2 (.t (K.ofNat 6)) (.t (K.ofNat 20))⟩]
noncomputable def f66_r7 : List EOper := [⟨(some (K.ofNat 21)), none, .mv (.t (K.ofNat 5))⟩, ⟨(some (K.ofNat 22)), none, .bin .rem (.t (K.ofNat 21)) (.c (.i .i64 (.ofNat 2)))⟩, ⟨(some (K.ofNat 23)), none, .bin .eql (.t (K.ofNat 22)) (.c (.i .i64 (.ofNat 1)))⟩]
noncomputable def f66_r8 : List EOper := [⟨(some (K.ofNat 24)), none, .ldn 2 (.t (K.ofNat 6))⟩, ⟨(some (K.ofNat 25)), none, .call (.c (.fn (K.ofNat 84) [])) [(.t (K.ofNat 24))]⟩, ⟨none, none, .st 2 (.t (K.ofNat 6)) (.t (K.ofNat 25))⟩]
noncomputable def f66_r9 : List EOper := [⟨(some (K.ofNat 26)), none, .mv (.t (K.ofNat 4))⟩, ⟨(some (K.ofNat 27)), none, .mv (.t (K.ofNat 5))⟩, ⟨(some (K.ofNat 28)), none, .ldn 2 (.t (K.ofNat 6))⟩, ⟨(some (K.ofNat 29)), none, .bslice 1 2 [(.i .i64 (.ofNat 0)), (.i .i64 (.ofNat 0))] [(0, 2, (.t (K.ofNat 28)))]⟩, ⟨(some (K.ofNat 30)), none, .iads 1 (.t (K.ofNat 26)) (.t (K.ofNat 27))⟩, ⟨none, none, .st 1 (.t (K.ofNat 30)) (.t (K.ofNat 29))⟩]
noncomputable def f66_r10 : List EOper := [⟨(some (K.ofNat 7)), none, .as (.c (.i .i64 (.ofNat 1)))⟩]
noncomputable def f66_r11 : List EOper := [⟨(some (K.ofNat 31)), none, .mv (.t (K.ofNat 7))⟩, ⟨(some (K.ofNat 32)), none, .mv (.t (K.ofNat 0))⟩, ⟨(some (K.ofNat 33)), none, .bin .quo (.t (K.ofNat 32)) (.c (.i .i64 (.ofNat 2)))⟩, ⟨(some (K.ofNat 34)), none, .bin .lss (.t (K.ofNat 31)) (.t (K.ofNat 33))⟩]
noncomputable def f66_r12 : List Stage := [⟨[⟨(some (K.ofNat 37)), none, .mv (.t (K.ofNat 5))⟩, ⟨(some (K.ofNat 38)), none, .mv (.t (K.ofNat 7))⟩, ⟨(some (K.ofNat 39)), none, .bin .add (.t (K.ofNat 37)) (.t (K.ofNat 38))⟩, ⟨(some (K.ofNat 40)), none, .mv (.t (K.ofNat 3))⟩, ⟨(some (K.ofNat 41)), none, .bin .rem (.t (K.ofNat 39)) (.t (K.ofNat 40))⟩, ⟨(some (K.ofNat 42)), none, .mv (.t (K.ofNat 5))⟩, ⟨(some (K.ofNat 43)), none, .mv (.t (K.ofNat 7))⟩, ⟨(some (K.ofNat 44)), none, .bin .sub (.t (K.ofNat 42)) (.t (K.ofNat 43))⟩, ⟨(some (K.ofNat 45)), none, .mv (.t (K.ofNat 3))⟩, ⟨(some (K.ofNat 46)), none, .bin .add (.t (K.ofNat 44)) (.t (K.ofNat 45))⟩, ⟨(some (K.ofNat 47)), none, .mv (.t (K.ofNat 3))⟩, ⟨(some (K.ofNat 48)), none, .bin .rem (.t (K.ofNat 46)) (.t (K.ofNat 47))⟩, ⟨(some (K.ofNat 49)), none, .build [(.i .i64 (.ofNat 0)), (.i .i64 (.ofNat 0))] [(0, 1, (.t (K.ofNat 41))), (1, 1, (.t (K.ofNat 48)))]⟩, ⟨(some (K.ofNat 8)), none, .alloc 2 [(.i .i64 (.ofNat 0)), (.i .i64 (.ofNat 0))]⟩], [], (some ⟨none, none, .st 2 (.t (K.ofNat 8)) (.t (K.ofNat 49))⟩), [(K.ofNat 8)]⟩, ⟨[], [], none, []⟩]
noncomputable def f66_r13 : List EOper := [⟨(some (K.ofNat 50)), none, .mv (.t (K.ofNat 7))⟩, ⟨(some (K.ofNat 51)), none, .bin .rem (.t (K.ofNat 50)) (.c (.i .i64 (.ofNat 2)))⟩, ⟨(some (K.ofNat 52)), none, .bin .eql (.t (K.ofNat 51)) (.c (.i .i64 (.ofNat 0)))⟩]
noncomputable def f66_r14 : List EOper := [⟨(some (K.ofNat 53)), none, .ldn 2 (.t (K.ofNat 8))⟩, ⟨(some (K.ofNat 54)), none, .call (.c (.fn (K.ofNat 84) [])) [(.t (K.ofNat 53))]⟩, ⟨none, none, .st 2 (.t (K.ofNat 8)) (.t (K.ofNat 54))⟩]
noncomputable def f66_r15 : List Stage := [⟨[⟨(some (K.ofNat 55)), none, .mv (.t (K.ofNat 4))⟩, ⟨(some (K.ofNat 56)), none, .mv (.t (K.ofNat 5))⟩, ⟨(some (K.ofNat 57)), none, .mv (.t (K.ofNat 4))⟩, ⟨(some (K.ofNat 58)), none, .mv (.t (K.ofNat 5))⟩, ⟨(some (K.ofNat 59)), none, .iads 1 (.t (K.ofNat 57)) (.t (K.ofNat 58))⟩, ⟨(some (K.ofNat 60)), none, .ld (.t (K.ofNat 59))⟩, ⟨(some (K.ofNat 61)), none, .ldn 2 (.t (K.ofNat 8))⟩, ⟨(some (K.ofNat 62)), none, .bslice 1 2 [(.i .i64 (.ofNat 0)), (.i .i64 (.ofNat 0))] [(0, 2, (.t (K.ofNat 61)))]⟩], [], (some ⟨(some (K.ofNat 63)), none, .app 2 (.t (K.ofNat 60)) (.t (K.ofNat 62))⟩), [(K.ofNat 62)]⟩, ⟨[⟨(some (K.ofNat 64)), none, .iads 1 (.t (K.ofNat 55)) (.t (K.ofNat 56))⟩], [⟨(some (K.ofNat 55)), none, .mv (.t (K.ofNat 4))⟩, ⟨(some (K.ofNat 56)), none, .mv (.t (K.ofNat 5))⟩], (some ⟨none, none, .st 1 (.t (K.ofNat 64)) (.t (K.ofNat 63))⟩), []⟩, ⟨[], [], none, []⟩]
noncomputable def f66_r16 : List EOper := [⟨(some (K.ofNat 35)), none, .mv (.t (K.ofNat 7))⟩, ⟨(some (K.ofNat 36)), none, .bin .add (.t (K.ofNat 35)) (.c (.i .i64 (.ofNat 1)))⟩, ⟨(some (K.ofNat 7)), none, .as (.t (K.ofNat 36))⟩]
noncomputable def f66_l0 : EC := (.seq (.seq (.reg f66_r11) (.cond (.t (K.ofNat 34)) .skip (.exit 2))) (.seq (.block 3 (.seq (.draw f66_r12) (.seq (.seq (.reg f66_r13) (.cond (.t (K.ofNat 52)) (.reg f66_r14) .skip)) (.draw f66_r15)))) (.reg f66_r16)))
noncomputable def f66_r17 : List EOper := [⟨(some (K.ofNat 65)), none, .bin .add (.t (K.ofNat 14)) (.c (.i .i64 (.ofNat 1)))⟩, ⟨(some (K.ofNat 14)), none, .mv (.t (K.ofNat 65))⟩]
noncomputable def f66_l1 : EC := (.seq (.reg f66_r4) (.seq (.cond (.t (K.ofNat 15)) .skip (.exit 0)) (.seq (.block 1 (.seq (.reg f66_r5) (.seq (.reg f66_r6) (.seq (.seq (.reg f66_r7) (.cond (.t (K.ofNat 23)) (.reg f66_r8) .skip)) (.seq (.reg f66_r9) (.seq (.reg f66_r10) (.block 2 (.loop f66_l0)))))))) (.reg f66_r17))))
noncomputable def f66_r18 : List EOper := [⟨(some (K.ofNat 66)), none, .mv (.t (K.ofNat 4))⟩, ⟨(some (K.ofNat 2)), none, .as (.t (K.ofNat 66))⟩]
noncomputable def f66_c : EC := (.seq (.reg f66_r0) (.seq (.reg f66_r1) (.seq (.reg f66_r2) (.seq (.seq (.reg f66_r3) (.block 0 (.loop f66_l1))) (.seq (.reg f66_r18) .ret)))))
noncomputable def f66 : EF := ⟨67, [.tmp (K.ofNat 2)], f66_c, none⟩
theorem f66_rs : f66.rs = [.tmp (K.ofNat 2)] := of_eq_true (eq_self _)
noncomputable def f67_r0 : List EOper := [⟨(some (K.ofNat 2)), none, .as (.c .sn)⟩]
noncomputable def f67_r1 : List EOper := [⟨(some (K.ofNat 8)), none, .mv (.t (K.ofNat 0))⟩, ⟨(some (K.ofNat 9)), none, .bin .sub (.t (K.ofNat 8)) (.c (.i .i64 (.ofNat 1)))⟩, ⟨(some (K.ofNat 10)), none, .mkslice 1 [.sn] (.t (K.ofNat 9))⟩, ⟨(some (K.ofNat 3)), none, .as (.t (K.ofNat 10))⟩]
noncomputable def f67_r2 : List EOper := [⟨(some (K.ofNat 4)), none, .as (.c (.i .i64 (.ofNat 1)))⟩]
noncomputable def f67_r3 : List EOper := [⟨(some (K.ofNat 11)), none, .mv (.t (K.ofNat 3))⟩, ⟨(some (K.ofNat 12)), none, .len (.t (K.ofNat 11))⟩, ⟨(some (K.ofNat 13)), none, .mv (.c (.i .i64 (.ofNat 0)))⟩]
noncomputable def f67_r4 : List EOper := [⟨(some (K.ofNat 14)), none, .bin .lss (.t (K.ofNat 13)) (.t (K.ofNat 12))⟩]
noncomputable def f67_r5 : List EOper := [⟨(some (K.ofNat 15)), none, .mv (.t (K.ofNat 13))⟩, ⟨(some (K.ofNat 5)), none, .as (.t (K.ofNat 15))⟩]
noncomputable def f67_r6 : List EOper := [⟨(some (K.ofNat 16)), none, .mv (.t (K.ofNat 0))⟩, ⟨(some (K.ofNat 17)), none, .mv (.c (.i .i64 (.ofNat 0)))⟩]
noncomputable def f67_r7 : List EOper := [⟨(some (K.ofNat 18)), none, .bin .lss (.t (K.ofNat 17)) (.t (K.ofNat 16))⟩]
noncomputable def f67_r8 : List EOper := [⟨(some (K.ofNat 19)), none, .mv (.t (K.ofNat 17))⟩, ⟨(some (K.ofNat 6)), none, .as (.t (K.ofNat 19))⟩]
noncomputable def f67_r9 : List EOper := [⟨(some (K.ofNat 20)), none, .mv (.t (K.ofNat 6))⟩, ⟨(some (K.ofNat 21)), none, .mv (.t (K.ofNat 4))⟩, ⟨(some (K.ofNat 22)), none, .bin .xor (.t (K.ofNat 20)) (.t (K.ofNat 21))⟩, ⟨(some (K.ofNat 7)), none, .as (.t (K.ofNat 22))⟩]
noncomputable def f67_r10 : List EOper := [⟨(some (K.ofNat 23)), none, .mv (.t (K.ofNat 6))⟩, ⟨(some (K.ofNat 24)), none, .mv (.t (K.ofNat 7))⟩, ⟨(some (K.ofNat 25)), none, .bin .lss (.t (K.ofNat 23)) (.t (K.ofNat 24))⟩]
noncomputable def f67_r11 : List EOper := [⟨(some (K.ofNat 26)), none, .mv (.t (K.ofNat 3))⟩, ⟨(some (K.ofNat 27)), none, .mv (.t (K.ofNat 5))⟩, ⟨(some (K.ofNat 28)), none, .mv (.t (K.ofNat 3))⟩, ⟨(some (K.ofNat 29)), none, .mv (.t (K.ofNat 5))⟩, ⟨(some (K.ofNat 30)), none, .iads 1 (.t (K.ofNat 28)) (.t (K.ofNat 29))⟩, ⟨(some (K.ofNat 31)), none, .ld (.t (K.ofNat 30))⟩, ⟨(some (K.ofNat 32)), none, .mv (.t (K.ofNat 6))⟩, ⟨(some (K.ofNat 33)), none, .mv (.t (K.ofNat 7))⟩, ⟨(some (K.ofNat 34)), none, .build [(.i .i64 (.ofNat 0)), (.i .i64 (.ofNat 0))] [(0, 1, (.t (K.ofNat 32))), (1, 1, (.t (K.ofNat 33)))]⟩, ⟨(some (K.ofNat 35)), none, .bslice 1 2 [(.i .i64 (.ofNat 0)), (.i .i64 (.ofNat 0))] [(0, 2, (.t (K.ofNat 34)))]⟩, ⟨(some (K.ofNat 36)), none, .app 2 (.t (K.ofNat 31)) (.t (K.ofNat 35))⟩, ⟨(some (K.ofNat 37)), none, .iads 1 (.t (K.ofNat 26)) (.t (K.ofNat 27))⟩, ⟨none, none, .st 1 (.t (K.ofNat 37)) (.t (K.ofNat 36))⟩]
noncomputable def f67_r12 : List EOper := [⟨(some (K.ofNat 38)), none, .bin .add (.t (K.ofNat 17)) (.c (.i .i64 (.ofNat 1)))⟩, ⟨(some (K.ofNat 17)), none, .mv (.t (K.ofNat 38))⟩]
noncomputable def f67_l0 : EC := (.seq (.reg f67_r7) (.seq (.cond (.t (K.ofNat 18)) .skip (.exit 2)) (.seq (.block 3 (.seq (.reg f67_r8) (.seq (.reg f67_r9) (.seq (.reg f67_r10) (.cond (.t (K.ofNat 25)) (.reg f67_r11) .skip))))) (.reg f67_r12))))
noncomputable def f67_r13 : List EOper := [⟨(some (K.ofNat 39)), none, .mv (.t (K.ofNat 4))⟩, ⟨(some (K.ofNat 40)), none, .bin .mul (.t (K.ofNat 39)) (.c (.i .i64 (.ofNat 2)))⟩, ⟨(some (K.ofNat 4)), none, .as (.t (K.ofNat 40))⟩]
noncomputable def f67_r14 : List EOper := [⟨(some (K.ofNat 41)), none, .mv (.t (K.ofNat 4))⟩, ⟨(some (K.ofNat 42)), none, .mv (.t (K.ofNat 0))⟩, ⟨(some (K.ofNat 43)), none, .bin .geq (.t (K.ofNat 41)) (.t (K.ofNat 42))⟩]
noncomputable def f67_r15 : List EOper := [⟨(some (K.ofNat 44)), none, .mv (.t (K.ofNat 4))⟩, ⟨(some (K.ofNat 45)), none, .mv (.t (K.ofNat 0))⟩, ⟨(some (K.ofNat 46)), none, .bin .or (.t (K.ofNat 45)) (.c (.i .i64 (.ofNat 3)))⟩, ⟨(some (K.ofNat 47)), none, .bin .xor (.t (K.ofNat 44)) (.t (K.ofNat 46))⟩, ⟨(some (K.ofNat 4)), none, .as (.t (K.ofNat 47))⟩]
noncomputable def f67_r16 : List EOper := [⟨(some (K.ofNat 48)), none, .bin .add (.t (K.ofNat 13)) (.c (.i .i64 (.ofNat 1)))⟩, ⟨(some (K.ofNat 13)), none, .mv (.t (K.ofNat 48))⟩]
noncomputable def f67_l1 : EC := (.seq (.reg f67_r4) (.seq (.cond (.t (K.ofNat 14)) .skip (.exit 0)) (.seq (.block 1 (.seq (.reg f67_r5) (.seq (.seq (.reg f67_r6) (.block 2 (.loop f67_l0))) (.seq (.reg f67_r13) (.seq (.reg f67_r14) (.cond (.t (K.ofNat 43)) (.reg f67_r15) .skip)))))) (.reg f67_r16))))
noncomputable def f67_r17 : List EOper := [⟨(some (K.ofNat 49)), none, .mv (.t (K.ofNat 3))⟩, ⟨(some (K.ofNat 2)), none, .as (.t (K.ofNat 49))⟩]
noncomputable def f67_c : EC := (.seq (.reg f67_r0) (.seq (.reg f67_r1) (.seq (.reg f67_r2) (.seq (.seq (.reg f67_r3) (.block 0 (.loop f67_l1))) (.seq (.reg f67_r17) .ret)))))
noncomputable def f67 : EF := ⟨50, [.tmp (K.ofNat 2)], f67_c, none⟩
theorem f67_rs : f67.rs = [.tmp (K.ofNat 2)] := of_eq_true (eq_self _)
section
variable {h h' : H} {v u : V} {us : List V} {Ls : List (List (Int × Int))} {L : List (Int × Int)} {b : Nat}
/-- One row is another one. -/
theorem Sld.setr (s : Sld h v us Ls) (hc : HC h) {i : Nat} (hi : i < us.length) (hu : Sk 2 qE h u L) (hsep : ∀ id off n sz, u = .sl id off n sz → NotIn id v) (hdis : ∀ x ∈ us, ∀ id off n sz, u = .sl id off n sz → NotIn id x) :
    ∃ p id m cs', (∀ k h1, iadsV 1 v (.i k (i : Int)) h1 = .ok p h1) ∧ storeV h 1 p u = .ok undefV (h.put id (.cells m cs')) ∧ Sld (h.put id (.cells m cs')) v (us.set i u) (Ls.set i L) ∧ (∃ off n sz, v = .sl id off n sz) ∧ id.nat < h.nx.nat := by
  obtain ⟨p, id, m, cs', b1, b2, b3, ⟨off, n, sz, b4⟩, b5⟩ := s.out.st hi (x := u) (c := u) rfl hu.one hc
  have sk : ∀ j (h1 : j < (us.set i u).length) (h2 : j < (Ls.set i L).length), Sk 2 qE (h.put id (.cells m cs')) (us.set i u)[j] (Ls.set i L)[j] := fun j h1 h2 => by
    have hj : j < us.length := by simpa using h1
    have hj2 : j < Ls.length := by simpa using h2
    rw [List.getElem_set, List.getElem_set]
    by_cases e : i = j
    · rw [if_pos e, if_pos e]; exact hu.put (fun off' n' sz' e' => hsep _ _ _ _ e' _ _ _ b4) _
    · rw [if_neg e, if_neg e]; exact (s.sk j hj hj2).put (fun off' n' sz' e' => s.sep _ (List.getElem_mem hj) _ _ _ _ e' _ _ _ b4) _
  refine ⟨p, id, m, cs', b1, b2, ⟨⟨by simp [s.len], b3, fun j h1 h2 => (sk j h1 h2).srp, fun y hy id' off' n' sz' e' => ?_⟩, sk, fun j j' hj hj' hjj id' off' n' sz' e' => ?_⟩, ⟨off, n, sz, b4⟩, b5⟩
  · rcases List.mem_or_eq_of_mem_set hy with hy | hy
    · exact s.sep y hy _ _ _ _ e'
    · rw [hy] at e'; exact hsep _ _ _ _ e'
  · have hj1 : j < us.length := by simpa using hj
    have hj2 : j' < us.length := by simpa using hj'
    rw [List.getElem_set] at e' ⊢
    by_cases e : i = j
    · rw [if_pos e] at e'
      rw [if_neg (fun e3 => hjj (e.symm.trans e3))]
      exact hdis _ (List.getElem_mem hj2) _ _ _ _ e'
    · rw [if_neg e] at e'
      by_cases e3 : i = j'
      · rw [if_pos e3]
        intro off2 n2 sz2 e2
        exact hdis _ (List.getElem_mem hj1) _ _ _ _ e2 _ _ _ e'
      · rw [if_neg e3]
        exact s.dis j j' hj1 hj2 hjj _ _ _ _ e'
end
theorem bin_quo2 {n : Nat} (hn : n ≤ 1000000) : binV .quo (.i .i64 (n : Int)) (.i .i64 2) = some (.i .i64 ((n / 2 : Nat) : Int)) := by
  show (bif ieq 2 0 then none else some (V.i .i64 (fw .i64 ((n : Int).tdiv 2)))) = _
  rw [show (n : Int).tdiv 2 = ((n / 2 : Nat) : Int) from rfl, fw64 (by omega) (by omega)]; rfl
def g0F (n i : Nat) : Int × Int := if i % 2 = 1 then (((n - 1 : Nat) : Int), (i : Int)) else ((i : Int), ((n - 1 : Nat) : Int))
def gmF (n i p : Nat) : Int × Int := if p % 2 = 0 then ((((i + (n - 1) - p) % (n - 1) : Nat) : Int), (((i + p) % (n - 1) : Nat) : Int)) else ((((i + p) % (n - 1) : Nat) : Int), (((i + (n - 1) - p) % (n - 1) : Nat) : Int))
def tgR (n i k : Nat) : List (Int × Int) := g0F n i :: (List.range k).map fun q => gmF n i (q + 1)
theorem tgR_succ {n i k : Nat} : tgR n i (k + 1) = tgR n i k ++ [gmF n i (k + 1)] := by
  unfold tgR; rw [List.range_succ, List.map_append]; rfl
theorem tgR_len {n i k : Nat} : (tgR n i k).length = k + 1 := by simp [tgR]
def tgF (n i : Nat) : List (Int × Int) := tgR n i (n / 2 - 1)
def tgS (n : Nat) : List (List (Int × Int)) := (List.range (n - 1)).map (tgF n)
section
variable {fs : T EF} {h : H}
def f66_I (h : H) (n : Nat) (i : Nat) (fr : Fr) (h1 : H) : Prop := i ≤ n - 1 ∧ ∃ w xs, Rows h h1 w xs (tbL (tgF n) [] (n - 1) i) ∧ fr.get (K.ofNat 0) = some (.i .i64 (n : Int)) ∧ fr.get (K.ofNat 3) = some (.i .i64 ((n - 1 : Nat) : Int)) ∧ fr.get (K.ofNat 4) = some (w) ∧ fr.get (K.ofNat 13) = some (.i .i64 ((n - 1 : Nat) : Int)) ∧ fr.get (K.ofNat 14) = some (.i .i64 (i : Int))
def f66_J (h : H) (n i : Nat) (k : Nat) (fr : Fr) (h1 : H) : Prop := k ≤ n / 2 - 1 ∧ ∃ w xs, Rows h h1 w xs ((tbL (tgF n) [] (n - 1) i).set i (tgR n i k)) ∧ fr.get (K.ofNat 0) = some (.i .i64 (n : Int)) ∧ fr.get (K.ofNat 3) = some (.i .i64 ((n - 1 : Nat) : Int)) ∧ fr.get (K.ofNat 4) = some (w) ∧ fr.get (K.ofNat 5) = some (.i .i64 (i : Int)) ∧ fr.get (K.ofNat 7) = some (.i .i64 ((k + 1 : Nat) : Int)) ∧ fr.get (K.ofNat 13) = some (.i .i64 ((n - 1 : Nat) : Int)) ∧ fr.get (K.ofNat 14) = some (.i .i64 (i : Int))
theorem f66_ret {n : Nat} (h84 : fs.get (K.ofNat 84) = some f84) (hn : 2 ≤ n ∧ n ≤ 100) (hc : HC h) : Ret fs f66 [.i .i64 (n : Int)] h fun r h' => ∃ xs, Nrp h' r xs (tgS n) ∧ Grow h.nx.nat h h' := by
  apply ret_of rfl
  show W fs none f66_c _ _ _
  unfold f66_c
  have en1 : (n : Int) - 1 = ((n - 1 : Nat) : Int) := by omega
  have hmk := mks_sn (h := h) (k := .i64) (n := n - 1) (by omega)
  have hs0 := Sld.empty (h := h) (n := n - 1)
  have gD := Grow.new (Nat.le_refl h.nx.nat) (.cells ((n - 1) * 1) (rep [.sn] (n - 1)))
  rw [← tb_nil (f := tgF n)] at hs0
  simp (disch := omega) only [f66_r0, f66_r1, f66_r2, f66_r3, w_reg, w_seq, w_block, seqK_n, x_nil, x_mv, x_as, x_bin, x_mks, kx, rvP_ok, okv_some, ev_t, ev_c, getV_some, putD_some, bin_sub, frame_1, of0, of1, getK_set, Nat.reduceEqDiff, ↓reduceIte, en1, hmk, fw64]
  refine W_loop (f66_I h n) (fun i => n - 1 - i) ?_ 0 ⟨by omega, .sl h.nx 0 (n - 1) 1, _, ⟨hs0, (fun _ _ _ _ e => (by cases e; exact Nat.le_refl _)), (fun x hx id off n sz e => (by rw [(List.mem_replicate.1 hx).2] at e; cases e)), gD⟩, by simp (disch := omega) only [getK_set, Nat.reduceEqDiff, ↓reduceIte, and_self, Int.natCast_zero]⟩
  clear hmk hs0 gD
  rintro i fr h1 ⟨hi, w, xs, hR, g0, g3, g4, g13, g14⟩
  have hc1 := hR.gr.hc hc
  unfold f66_l1
  by_cases hlt : i < n - 1
  · have d0 : decide ((i : Int) < ((n - 1 : Nat) : Int)) = true := decide_eq_true (by omega)
    have hst : storeV (h1.new (.cells 2 [.i .i64 0, .i .i64 0])) 2 (.p h1.nx 0) (.agg [.i .i64 (i : Int), .i .i64 ((n - 1 : Nat) : Int)]) = .ok undefV ((h1.new (.cells 2 [.i .i64 0, .i .i64 0])).put h1.nx (.cells 2 [.i .i64 (i : Int), .i .i64 ((n - 1 : Nat) : Int)])) := st2 (a := .i .i64 0) (b := .i .i64 0) get_new_same
    have nx1 := nx_new h1 (.cells 2 [.i .i64 0, .i .i64 0])
    have gB : Grow h1.nx.nat h1 ((h1.new (.cells 2 [.i .i64 0, .i .i64 0])).put h1.nx (.cells 2 [.i .i64 (i : Int), .i .i64 ((n - 1 : Nat) : Int)])) := (Grow.new (Nat.le_refl _) _).trans (Grow.put (Nat.le_refl _) (by omega) _)
    have nx2 : ((h1.new (.cells 2 [.i .i64 0, .i .i64 0])).put h1.nx (.cells 2 [.i .i64 (i : Int), .i .i64 ((n - 1 : Nat) : Int)])).nx.nat = h1.nx.nat + 1 := nx1
    have c7 : ((h1.new (.cells 2 [.i .i64 0, .i .i64 0])).put h1.nx (.cells 2 [.i .i64 (i : Int), .i .i64 ((n - 1 : Nat) : Int)])).get h1.nx = .cells 2 [.i .i64 (i : Int), .i .i64 ((n - 1 : Nat) : Int)] := get_put_same
    have hi2 : binV .rem (.i .i64 (i : Int)) (.i .i64 2) = some (.i .i64 ((i % 2 : Nat) : Int)) := rfl
    -- behind the first game
    have rest : ∀ fr h3, h1.nx.nat < h3.nx.nat → Grow h1.nx.nat h1 h3 → h3.get h1.nx = .cells 2 [.i .i64 (g0F n i).1, .i .i64 (g0F n i).2] → fr.get (K.ofNat 0) = some (.i .i64 (n : Int)) ∧ fr.get (K.ofNat 3) = some (.i .i64 ((n - 1 : Nat) : Int)) ∧ fr.get (K.ofNat 4) = some (w) ∧ fr.get (K.ofNat 5) = some (.i .i64 (i : Int)) ∧ fr.get (K.ofNat 6) = some (.p h1.nx 0) ∧ fr.get (K.ofNat 13) = some (.i .i64 ((n - 1 : Nat) : Int)) ∧ fr.get (K.ofNat 14) = some (.i .i64 (i : Int)) →
        Go.Ev.X fs f66_r9 (seqK (W fs none (.seq (.reg f66_r10) (.block 2 (.loop f66_l0)))) (atK 1 (seqK (W fs none (.reg f66_r17)) (loopK (f66_I h n) (fun i => n - 1 - i) i (atK 0 (seqK (W fs none (.seq (.reg f66_r18) .ret)) (retK f66 fun r h' => ∃ xs, Nrp h' r xs (tgS n) ∧ Grow h.nx.nat h h')))))) .normal) fr h3 := by
      clear g0 g3 g4 g13 g14 fr hst gB nx2 c7 nx1
      rintro fr h3 hnx hG3 c3 ⟨g0, g3, g4, g5, g6, g13, g14⟩
      have hc3 := hG3.hc hc1
      have l3 : loadV h3 (.p h1.nx 0) (many? 2) = .ok (.agg [.i .i64 (g0F n i).1, .i .i64 (g0F n i).2]) h3 := ldn2 c3
      have gC := Grow.new (Nat.le_refl h3.nx.nat) (.cells (1 * 2) [.i .i64 (g0F n i).1, .i .i64 (g0F n i).2])
      have hc4 := gC.hc hc3
      have hsd := (hR.sd.grow hc1 hG3).grow hc3 gC
      have hu : Sk 2 qE (h3.new (.cells (1 * 2) [.i .i64 (g0F n i).1, .i .i64 (g0F n i).2])) (.sl h3.nx 0 1 2) (tgR n i 0) := Sk.lit2
      have vlt : ∀ id off n sz, w = .sl id off n sz → id.nat < h1.nx.nat := hR.sd.out.lt hc1
      have xlt : ∀ x ∈ xs, ∀ id off n sz, x = .sl id off n sz → id.nat < h1.nx.nat := fun x hx => by
        obtain ⟨a, ha, rfl⟩ := List.getElem_of_mem hx
        exact (hR.sd.sk a ha (by rw [← hR.sd.len]; exact ha)).lt hc1
      have hxl : i < xs.length := by rw [hR.sd.len, tb_len]; exact hlt
      obtain ⟨p, id, m, cs', a1, a2, a3, ⟨off, nn, sz, a4⟩, a5⟩ := hsd.setr hc4 hxl hu (fun id off n sz e off' n' sz' e' => by cases e; have := vlt _ _ _ _ e'; omega) (fun x hx id off n sz e off' n' sz' e' => by cases e; have := xlt x hx _ _ _ _ e'; omega)
      have hid := hR.ow _ _ _ _ a4
      have hGa := hR.gr.trans ((hG3.trans (gC.low hG3.nx)).low hR.gr.nx)
      have hGb := hGa.trans (Grow.put hid a5 (.cells m cs'))
      simp (disch := omega) only [f66_r9, f66_r10, w_reg, w_seq, w_block, seqK_n, x_nil, x_mv, x_as, x_bslice, x_ldn, x_st, x_iads, kx, rvP_ok, ev_t, ev_c, getV_some, putD_some, putD_none, oGet_s, of0, of1, getK_set, Nat.reduceEqDiff, ↓reduceIte, cells2, g4, g5, g6, l3, fill_p2, set_p2, cells2, a1, a2]
      refine W_loop (f66_J h n i) (fun k => n / 2 - 1 - k) ?_ 0 ⟨by omega, w, _, ⟨a3, hR.ow, fun x hx => ?_, hGb⟩, by simp (disch := omega) only [getK_set, Nat.reduceEqDiff, ↓reduceIte, g0, g3, g4, g5, g13, g14, and_self, Int.natCast_one, Nat.zero_add]⟩
      · clear g0 g3 g4 g5 g6 g13 g14 fr hsd hu a1 a2 a3 a4 hGa hGb hR vlt xlt hxl l3 c3 hG3 hc3 gC hc4
        rintro k fr h5 ⟨hk, w, xs, hR, g0, g3, g4, g5, g7, g13, g14⟩
        have hc5 := hR.gr.hc hc
        have hq2 : binV .quo (.i .i64 (n : Int)) (.i .i64 2) = some (.i .i64 ((n / 2 : Nat) : Int)) := bin_quo2 (by omega)
        unfold f66_l0
        by_cases hlt2 : k < n / 2 - 1
        · have d1 : decide (((k + 1 : Nat) : Int) < ((n / 2 : Nat) : Int)) = true := decide_eq_true (by omega)
          have hn0 : decide (((n - 1 : Nat) : Int) = 0) = false := decide_eq_false (by omega)
          have hm1 : ((i : Int) + ((k + 1 : Nat) : Int)).tmod ((n - 1 : Nat) : Int) = (((i + (k + 1)) % (n - 1) : Nat) : Int) := rfl
          have hsb : (i : Int) - ((k + 1 : Nat) : Int) + ((n - 1 : Nat) : Int) = ((i + (n - 1) - (k + 1) : Nat) : Int) := by omega
          have hm2 : (((i + (n - 1) - (k + 1) : Nat) : Int)).tmod ((n - 1 : Nat) : Int) = (((i + (n - 1) - (k + 1)) % (n - 1) : Nat) : Int) := rfl
          have hm3 : binV .rem (.i .i64 ((k + 1 : Nat) : Int)) (.i .i64 2) = some (.i .i64 (((k + 1) % 2 : Nat) : Int)) := rfl
          have ek : ((k + 1 : Nat) : Int) + 1 = ((k + 1 + 1 : Nat) : Int) := by omega
          have hst : ∀ a b, storeV (h5.new (.cells 2 [.i .i64 0, .i .i64 0])) 2 (.p h5.nx 0) (.agg [.i .i64 a, .i .i64 b]) = .ok undefV ((h5.new (.cells 2 [.i .i64 0, .i .i64 0])).put h5.nx (.cells 2 [.i .i64 a, .i .i64 b])) := fun a b => st2 (a := .i .i64 0) (b := .i .i64 0) get_new_same
          have nx1 := nx_new h5 (.cells 2 [.i .i64 0, .i .i64 0])
          have hsu := tgR_succ (n := n) (i := i) (k := k)
          have rest2 : ∀ fr h6, h5.nx.nat < h6.nx.nat → Grow h5.nx.nat h5 h6 → h6.get h5.nx = .cells 2 [.i .i64 (gmF n i (k + 1)).1, .i .i64 (gmF n i (k + 1)).2] → fr.get (K.ofNat 0) = some (.i .i64 (n : Int)) ∧ fr.get (K.ofNat 3) = some (.i .i64 ((n - 1 : Nat) : Int)) ∧ fr.get (K.ofNat 4) = some (w) ∧ fr.get (K.ofNat 5) = some (.i .i64 (i : Int)) ∧ fr.get (K.ofNat 7) = some (.i .i64 ((k + 1 : Nat) : Int)) ∧ fr.get (K.ofNat 8) = some (.p h5.nx 0) ∧ fr.get (K.ofNat 13) = some (.i .i64 ((n - 1 : Nat) : Int)) ∧ fr.get (K.ofNat 14) = some (.i .i64 (i : Int)) →
              XD fs f66_r15 (atK 3 (seqK (W fs none (.reg f66_r16)) (loopK (f66_J h n i) (fun k => n / 2 - 1 - k) k (atK 2 (atK 1 (seqK (W fs none (.reg f66_r17)) (loopK (f66_I h n) (fun i => n - 1 - i) i (atK 0 (seqK (W fs none (.seq (.reg f66_r18) .ret)) (retK f66 fun r h' => ∃ xs, Nrp h' r xs (tgS n) ∧ Grow h.nx.nat h h'))))))))) .normal) fr h6 := by
            clear g0 g3 g4 g5 g7 g13 g14 fr hst nx1
            rintro fr h6 hnx hG6 c6 ⟨g0, g3, g4, g5, g7, g8, g13, g14⟩
            have hc6 := hG6.hc hc5
            have l6 : loadV h6 (.p h5.nx 0) (many? 2) = .ok (.agg [.i .i64 (gmF n i (k + 1)).1, .i .i64 (gmF n i (k + 1)).2]) h6 := ldn2 c6
            have hQl : ((tbL (tgF n) [] (n - 1) i).set i (tgR n i k)).length = n - 1 := by rw [List.length_set, tb_len]
            have hQi : ((tbL (tgF n) [] (n - 1) i).set i (tgR n i k))[i]'(by rw [hQl]; exact hlt) = tgR n i k := List.getElem_set_self _
            have hsd := hR.sd.grow hc5 hG6
            obtain ⟨u', h7, p, id, m, cs', a1, b1, b2, b3, b4, b5, b6, _⟩ := hsd.row hR.ow hR.ox (Nat.le_trans hR.gr.nx hG6.nx) hc6 (i := i) (by rw [hsd.len, hQl]; exact hlt) (by rw [hQl]; exact hlt) (x := gmF n i (k + 1)) (by rw [hQi, tgR_len]; omega)
            rw [hQi, List.set_set, ← hsu] at b4
            have hwb := hsd.out.sr.beq
            simp (disch := omega) only [f66_r15, true_and, x_app, kg, xg_nil, xg_mv, xg_ld, xg_ldn, xg_iads, xg_bslice, xd_cons, stK_s, stay_nil, rvP_ok, ev_t, getV_some, putD_some, oGet_s, of0, Option.some.injEq, exists_eq_left', getK_set, Nat.reduceEqDiff, ↓reduceIte, cells2, g4, g5, g8, b1, b2, l6, fill_p2, set_p2, cells2, hc6.dead]
            refine ⟨fresh_one (n := 1) (sz := 2) (by simp (disch := omega) only [getK_set, ↓reduceIte]), ?_⟩
            simp (disch := omega) only [f66_r16, w_reg, seqK_n, atK_n, loopK_n, true_and, x_nil, x_mv, x_as, x_st, x_bin, kx, kg, xg_nil, xg_iads, xd_cons, fresh_nil, stK_n, stK_s, stay_nil, stay_cons, stay_mv, beq_i, rvP_ok, okv_some, ev_t, ev_c, getV_some, putD_some, putD_none, bin_add, of1, getK_set, Nat.reduceEqDiff, ↓reduceIte, g4, g5, g7, a1, b1, b3, hwb, beq_i, ek, fw64]
            exact ⟨k + 1, by omega, by omega, w, _, ⟨b4, hR.ow, b5, hR.gr.trans ((hG6.low hR.gr.nx).trans b6)⟩, by simp (disch := omega) only [getK_set, Nat.reduceEqDiff, ↓reduceIte, g0, g3, g4, g5, g13, g14, and_self]⟩
          have hrem2 := hm3
          simp (disch := omega) only [f66_r11, f66_r12, w_skip, w_reg, w_draw, w_seq, w_cond, w_block, seqK_n, ckB_b, cbB_b, true_and, x_nil, x_mv, x_st, x_bin, kx, kg, xg_nil, xg_mv, xg_build, xg_bin, xd_cons, fresh_nil, stK_n, stK_s, stay_nil, rvP_ok, okv_some, ev_t, ev_c, getV_some, putD_some, putD_none, bin_add, bin_sub, bin_lss, bin_rem, oGet_s, cells1_i, of0, of2, getK_set, Nat.reduceEqDiff, ↓reduceIte, xg_alloc, fill_2, set_2, g0, g3, g5, g7, hq2, d1, hm1, hsb, hm2, fill_2, set_2, hc5.dead, hst, fw64]
          refine ⟨fresh_p (by simp (disch := omega) only [getK_set, ↓reduceIte]), ?_⟩
          generalize hA : (((i + (k + 1)) % (n - 1) : Nat) : Int) = A at *
          generalize hBe : (((i + (n - 1) - (k + 1)) % (n - 1) : Nat) : Int) = B at *
          have gB : ∀ x, Grow h5.nx.nat h5 ((h5.new (.cells 2 [.i .i64 0, .i .i64 0])).put h5.nx x) := fun x => (Grow.new (Nat.le_refl _) _).trans (Grow.put (Nat.le_refl _) (by omega) _)
          have nx2 : ∀ x, ((h5.new (.cells 2 [.i .i64 0, .i .i64 0])).put h5.nx x).nx.nat = h5.nx.nat + 1 := fun _ => nx1
          by_cases e2 : (k + 1) % 2 = 0
          · have d2 : decide ((((k + 1) % 2 : Nat) : Int) = 0) = true := decide_eq_true (by omega)
            have eg : gmF n i (k + 1) = (B, A) := by unfold gmF; rw [if_pos e2, hA, hBe]
            simp (disch := omega) only [f66_r13, w_reg, w_cond, seqK_n, ckB_b, cbB_b, true_and, x_nil, x_mv, x_bin, kx, rvP_ok, okv_some, ev_t, ev_c, getV_some, putD_some, bin_eql, of0, of2, getK_set, Nat.reduceEqDiff, ↓reduceIte, g7, hm3, d2]
            have hst2 := hst A B
            have c7 : ((h5.new (.cells 2 [.i .i64 0, .i .i64 0])).put h5.nx (.cells 2 [.i .i64 A, .i .i64 B])).get h5.nx = .cells 2 [.i .i64 A, .i .i64 B] := get_put_same
            have gB2 := gB (.cells 2 [.i .i64 A, .i .i64 B])
            have nx3 := nx2 (.cells 2 [.i .i64 A, .i .i64 B])
            generalize (h5.new (.cells 2 [.i .i64 0, .i .i64 0])).put h5.nx (.cells 2 [.i .i64 A, .i .i64 B]) = h6 at *
            have l6 : loadV h6 (.p h5.nx 0) (many? 2) = .ok (.agg [.i .i64 A, .i .i64 B]) h6 := ldn2 c7
            simp (disch := omega) only [f66_r14, x_ldn, x_call, kx, rvP_ok, ev_t, ev_c, evs_nil, evs_cons, getV_some, putD_some, getK_set, Nat.reduceEqDiff, ↓reduceIte, l6]
            refine (callP_0 (ef := f84) h84 rfl (f84_ret (x := (A, B)) (gB2.hc hc5))).mono ?_
            rintro r h7 ⟨rfl, gC⟩
            have c8 : h7.get h5.nx = .cells 2 [.i .i64 A, .i .i64 B] := (gC.old _ (by omega)).trans c7
            have hst3 : storeV h7 2 (.p h5.nx 0) (.agg [.i .i64 B, .i .i64 A]) = .ok undefV (h7.put h5.nx (.cells 2 [.i .i64 B, .i .i64 A])) := st2 c8
            have hlt3 : h5.nx.nat < h7.nx.nat := by have := gC.nx; omega
            simp (disch := omega) only [w_draw, seqK_n, x_nil, x_st, kx, rvP_ok, ev_t, getV_some, putD_some, putD_none, getK_set, Nat.reduceEqDiff, ↓reduceIte, pZ, hst3]
            exact rest2 _ _ hlt3 ((gB2.trans (gC.low gB2.nx)).trans (Grow.put (Nat.le_refl _) hlt3 _)) (by rw [eg]; exact get_put_same) (by simp (disch := omega) only [getK_set, Nat.reduceEqDiff, ↓reduceIte, g0, g3, g4, g5, g7, g13, g14, and_self])
          · have d2 : decide ((((k + 1) % 2 : Nat) : Int) = 0) = false := decide_eq_false (by omega)
            have eg : gmF n i (k + 1) = (A, B) := by unfold gmF; rw [if_neg e2, hA, hBe]
            simp (disch := omega) only [f66_r13, w_skip, w_draw, w_cond, seqK_n, ckB_b, cbB_b, true_and, x_nil, x_mv, x_bin, kx, rvP_ok, okv_some, ev_t, ev_c, getV_some, putD_some, bin_eql, of0, of2, getK_set, Nat.reduceEqDiff, ↓reduceIte, Bool.false_eq_true, g7, hm3, d2]
            exact rest2 _ _ (by rw [nx2]; omega) (gB _) (by rw [eg]; exact get_put_same) (by simp (disch := omega) only [getK_set, Nat.reduceEqDiff, ↓reduceIte, g0, g3, g4, g5, g7, g13, g14, and_self])
        · have d1 : decide (((k + 1 : Nat) : Int) < ((n / 2 : Nat) : Int)) = false := decide_eq_false (by omega)
          have ek : k = n / 2 - 1 := by omega
          rw [ek, show tgR n i (n / 2 - 1) = tgF n i from rfl, tb_set] at hR
          simp (disch := omega) only [f66_r11, f66_r17, w_reg, w_seq, w_cond, w_exit, seqK_n, seqK_e, atK_n, atK_e, loopK_n, loopK_e, ckB_b, cbB_b, true_and, x_nil, x_mv, x_bin, kx, rvP_ok, okv_some, ev_t, ev_c, getV_some, putD_some, bin_add, bin_lss, of1, of2, getK_set, Nat.reduceEqDiff, ↓reduceIte, Bool.false_eq_true, g0, g7, g14, hq2, d1, fw64]
          exact ⟨i + 1, by omega, by omega, w, xs, hR, by simp (disch := omega) only [getK_set, Nat.reduceEqDiff, ↓reduceIte, g0, g3, g4, g13, and_self, Int.natCast_add, Int.natCast_one]⟩
      · rcases List.mem_or_eq_of_mem_set hx with hx | hx
        · exact hR.ox x hx
        · rw [hx]; intro _ _ _ _ e; cases e; have := hGa.nx; have := hR.gr.nx; have := hG3.nx; omega
    by_cases e2 : i % 2 = 1
    · have d1 : decide (((i % 2 : Nat) : Int) = 1) = true := decide_eq_true (by omega)
      have eg : g0F n i = (((n - 1 : Nat) : Int), (i : Int)) := if_pos e2
      simp (disch := omega) only [f66_r4, f66_r5, f66_r6, f66_r7, w_skip, w_reg, w_seq, w_cond, w_block, seqK_n, ckB_b, cbB_b, true_and, x_nil, x_mv, x_as, x_alloc, x_build, x_st, x_bin, kx, rvP_ok, okv_some, ev_t, ev_c, getV_some, putD_some, putD_none, bin_sub, bin_eql, bin_lss, oGet_s, cells1_i, of0, of1, of2, getK_set, Nat.reduceEqDiff, ↓reduceIte, fill_2, set_2, g0, g13, g14, d0, en1, fill_2, set_2, hst, hi2, d1, fw64]
      generalize (h1.new (.cells 2 [.i .i64 0, .i .i64 0])).put h1.nx (.cells 2 [.i .i64 (i : Int), .i .i64 ((n - 1 : Nat) : Int)]) = h2 at *
      have hc2 := gB.hc hc1
      have l2 : loadV h2 (.p h1.nx 0) (many? 2) = .ok (.agg [.i .i64 (i : Int), .i .i64 ((n - 1 : Nat) : Int)]) h2 := ldn2 c7
      simp (disch := omega) only [f66_r8, x_ldn, x_call, kx, rvP_ok, ev_t, ev_c, evs_nil, evs_cons, getV_some, putD_some, getK_set, Nat.reduceEqDiff, ↓reduceIte, l2]
      refine (callP_0 (ef := f84) h84 rfl (f84_ret (x := ((i : Int), ((n - 1 : Nat) : Int))) hc2)).mono ?_
      rintro r h3 ⟨rfl, gC⟩
      have c8 : h3.get h1.nx = .cells 2 [.i .i64 (i : Int), .i .i64 ((n - 1 : Nat) : Int)] := (gC.old _ (by omega)).trans c7
      have hst3 : storeV h3 2 (.p h1.nx 0) (.agg [.i .i64 ((n - 1 : Nat) : Int), .i .i64 (i : Int)]) = .ok undefV (h3.put h1.nx (.cells 2 [.i .i64 ((n - 1 : Nat) : Int), .i .i64 (i : Int)])) := st2 c8
      have hlt3 : h1.nx.nat < h3.nx.nat := by have := gC.nx; omega
      simp (disch := omega) only [w_reg, w_seq, seqK_n, x_nil, x_st, kx, rvP_ok, ev_t, getV_some, putD_some, putD_none, getK_set, Nat.reduceEqDiff, ↓reduceIte, pZ, hst3]
      exact rest _ _ hlt3 ((gB.trans (gC.low gB.nx)).trans (Grow.put (Nat.le_refl _) hlt3 _)) (by rw [eg]; exact get_put_same) (by simp (disch := omega) only [getK_set, Nat.reduceEqDiff, ↓reduceIte, g0, g3, g4, g13, g14, and_self])
    · have d1 : decide (((i % 2 : Nat) : Int) = 1) = false := decide_eq_false (by omega)
      have eg : g0F n i = ((i : Int), ((n - 1 : Nat) : Int)) := if_neg e2
      simp (disch := omega) only [f66_r4, f66_r5, f66_r6, f66_r7, w_skip, w_reg, w_seq, w_cond, w_block, seqK_n, ckB_b, cbB_b, true_and, x_nil, x_mv, x_as, x_alloc, x_build, x_st, x_bin, kx, rvP_ok, okv_some, ev_t, ev_c, getV_some, putD_some, putD_none, bin_sub, bin_eql, bin_lss, oGet_s, cells1_i, of0, of1, of2, getK_set, Nat.reduceEqDiff, ↓reduceIte, Bool.false_eq_true, fill_2, set_2, g0, g13, g14, d0, en1, fill_2, set_2, hst, hi2, d1, fw64]
      exact rest _ _ (by omega) gB (by rw [eg]; exact c7) (by simp (disch := omega) only [getK_set, Nat.reduceEqDiff, ↓reduceIte, g0, g3, g4, g13, g14, and_self])
  · have d0 : decide ((i : Int) < ((n - 1 : Nat) : Int)) = false := decide_eq_false (by omega)
    have ei : i = n - 1 := by omega
    rw [ei, tb_all] at hR
    simp (disch := omega) only [f66_r4, f66_r18, f66_rs, w_reg, w_seq, w_cond, w_exit, w_ret, seqK_n, seqK_e, atK_e, loopK_e, ckB_b, cbB_b, true_and, retK_r, x_nil, x_mv, x_as, x_bin, kx, rvP_ok, okv_some, ev_t, getV_some, putD_some, bin_lss, oGet_s, readRs_nil, readRs_t, retV_1, Option.some.injEq, exists_eq_left', getK_set, Nat.reduceEqDiff, ↓reduceIte, Bool.false_eq_true, g4, g13, g14, d0]
    exact ⟨xs, hR.sd.nrp, hR.gr⟩
end
theorem bin_xor64 {a b : Nat} (ha : a ≤ 1000000) (hb : b ≤ 1000000) : binV .xor (.i .i64 (a : Int)) (.i .i64 (b : Int)) = some (.i .i64 ((a ^^^ b : Nat) : Int)) := by
  show some (V.i .i64 (bif Nat.ble a 9223372036854775807 && Nat.ble b 9223372036854775807 then Int.ofNat (Nat.xor a b) else _)) = _
  rw [Nat.ble_eq_true_of_le (by omega), Nat.ble_eq_true_of_le (by omega)]; rfl
theorem bin_or64 {a b : Nat} (ha : a ≤ 1000000) (hb : b ≤ 1000000) : binV .or (.i .i64 (a : Int)) (.i .i64 (b : Int)) = some (.i .i64 ((a ||| b : Nat) : Int)) := by
  show some (V.i .i64 (bif Nat.ble a 9223372036854775807 && Nat.ble b 9223372036854775807 then Int.ofNat (Nat.lor a b) else _)) = _
  rw [Nat.ble_eq_true_of_le (by omega), Nat.ble_eq_true_of_le (by omega)]; rfl
def stE (n : Nat) : Nat → Nat
  | 0 => 1
  | i + 1 => if stE n i * 2 ≥ n then (stE n i * 2) ^^^ (n ||| 3) else stE n i * 2
def srR (s t : Nat) : List (Int × Int) := ((List.range t).filter fun (x : Nat) => decide (x < x ^^^ s)).map fun (x : Nat) => ((x : Int), ((x ^^^ s : Nat) : Int))
theorem srR_succ {s t : Nat} : srR s (t + 1) = srR s t ++ (if t < t ^^^ s then [((t : Int), ((t ^^^ s : Nat) : Int))] else []) := by
  unfold srR
  rw [List.range_succ, List.filter_append, List.map_append]
  congr 1
  by_cases h : t < t ^^^ s
  · rw [if_pos h]; simp [h]
  · rw [if_neg h]; simp [h]
theorem srR_len {s t : Nat} : (srR s t).length ≤ t := by
  unfold srR
  rw [List.length_map]
  exact Nat.le_trans (List.length_filter_le _ _) (by simp)
def srF (n i : Nat) : List (Int × Int) := srR (stE n i) n
def srS (n : Nat) : List (List (Int × Int)) := (List.range (n - 1)).map (srF n)
theorem stE_le {n : Nat} (hn : n = 4 ∨ n = 8) {i : Nat} (hi : i ≤ n - 1) : stE n i ≤ 15 := by
  have k4 : ∀ i : Fin 4, stE 4 i.val ≤ 15 := by decide
  have k8 : ∀ i : Fin 8, stE 8 i.val ≤ 15 := by decide
  rcases hn with rfl | rfl
  · exact k4 ⟨i, by omega⟩
  · exact k8 ⟨i, by omega⟩
section
variable {fs : T EF} {h : H}
def f67_I (h : H) (n : Nat) (i : Nat) (fr : Fr) (h1 : H) : Prop := i ≤ n - 1 ∧ ∃ w xs, Rows h h1 w xs (tbL (srF n) [] (n - 1) i) ∧ fr.get (K.ofNat 0) = some (.i .i64 (n : Int)) ∧ fr.get (K.ofNat 3) = some (w) ∧ fr.get (K.ofNat 4) = some (.i .i64 (stE n i : Int)) ∧ fr.get (K.ofNat 12) = some (.i .i64 ((n - 1 : Nat) : Int)) ∧ fr.get (K.ofNat 13) = some (.i .i64 (i : Int))
def f67_J (h : H) (n i : Nat) (t : Nat) (fr : Fr) (h1 : H) : Prop := t ≤ n ∧ ∃ w xs, Rows h h1 w xs ((tbL (srF n) [] (n - 1) i).set i (srR (stE n i) t)) ∧ fr.get (K.ofNat 0) = some (.i .i64 (n : Int)) ∧ fr.get (K.ofNat 3) = some (w) ∧ fr.get (K.ofNat 4) = some (.i .i64 (stE n i : Int)) ∧ fr.get (K.ofNat 5) = some (.i .i64 (i : Int)) ∧ fr.get (K.ofNat 12) = some (.i .i64 ((n - 1 : Nat) : Int)) ∧ fr.get (K.ofNat 13) = some (.i .i64 (i : Int)) ∧ fr.get (K.ofNat 16) = some (.i .i64 (n : Int)) ∧ fr.get (K.ofNat 17) = some (.i .i64 (t : Int))
theorem f67_ret {n : Nat} (hn : n = 4 ∨ n = 8) (hc : HC h) : Ret fs f67 [.i .i64 (n : Int)] h fun r h' => ∃ xs, Nrp h' r xs (srS n) ∧ Grow h.nx.nat h h' := by
  apply ret_of rfl
  show W fs none f67_c _ _ _
  unfold f67_c
  have en1 : (n : Int) - 1 = ((n - 1 : Nat) : Int) := by omega
  have hmk := mks_sn (h := h) (k := .i64) (n := n - 1) (by omega)
  have hs0 := Sld.empty (h := h) (n := n - 1)
  have gD := Grow.new (Nat.le_refl h.nx.nat) (.cells ((n - 1) * 1) (rep [.sn] (n - 1)))
  rw [← tb_nil (f := srF n)] at hs0
  simp (disch := omega) only [f67_r0, f67_r1, f67_r2, f67_r3, w_reg, w_seq, w_block, seqK_n, x_nil, x_mv, x_as, x_bin, x_mks, x_len, kx, rvP_ok, okv_some, ev_t, ev_c, getV_some, putD_some, bin_sub, len_sl, frame_1, of0, of1, getK_set, Nat.reduceEqDiff, ↓reduceIte, en1, hmk, len_sl, fw64]
  refine W_loop (f67_I h n) (fun i => n - 1 - i) ?_ 0 ⟨by omega, .sl h.nx 0 (n - 1) 1, _, ⟨hs0, (fun _ _ _ _ e => (by cases e; exact Nat.le_refl _)), (fun x hx id off n sz e => (by rw [(List.mem_replicate.1 hx).2] at e; cases e)), gD⟩, by simp (disch := omega) only [getK_set, Nat.reduceEqDiff, ↓reduceIte, and_self, Int.natCast_zero, show stE n 0 = 1 from rfl, Int.natCast_one]⟩
  clear hmk hs0 gD
  rintro i fr h1 ⟨hi, w, xs, hR, g0, g3, g4, g12, g13⟩
  have hc1 := hR.gr.hc hc
  have hs15 := stE_le hn hi
  unfold f67_l1
  by_cases hlt : i < n - 1
  · have d0 : decide ((i : Int) < ((n - 1 : Nat) : Int)) = true := decide_eq_true (by omega)
    simp (disch := omega) only [f67_r4, f67_r5, f67_r6, w_skip, w_reg, w_seq, w_cond, w_block, seqK_n, ckB_b, cbB_b, true_and, x_nil, x_mv, x_as, x_bin, kx, rvP_ok, okv_some, ev_t, ev_c, getV_some, putD_some, bin_lss, of0, getK_set, Nat.reduceEqDiff, ↓reduceIte, g0, g12, g13, d0]
    refine W_loop (f67_J h n i) (fun t => n - t) ?_ 0 ⟨by omega, w, xs, by rw [show srR (stE n i) 0 = [] from rfl, tb_first hlt]; exact hR, by simp (disch := omega) only [getK_set, Nat.reduceEqDiff, ↓reduceIte, g0, g3, g4, g12, g13, and_self, Int.natCast_zero]⟩
    clear g0 g3 g4 g12 g13 fr hR w xs hc1
    rintro t fr h2 ⟨ht, w, xs, hR, g0, g3, g4, g5, g12, g13, g16, g17⟩
    have hc2 := hR.gr.hc hc
    unfold f67_l0
    by_cases hlt2 : t < n
    · have d1 : decide ((t : Int) < (n : Int)) = true := decide_eq_true (by omega)
      have hx := bin_xor64 (a := t) (b := stE n i) (by omega) (by omega)
      have hsu := srR_succ (s := stE n i) (t := t)
      by_cases hlt3 : t < t ^^^ stE n i
      · have d2 : decide ((t : Int) < ((t ^^^ stE n i : Nat) : Int)) = true := decide_eq_true (by omega)
        rw [if_pos hlt3] at hsu
        have hQl : ((tbL (srF n) [] (n - 1) i).set i (srR (stE n i) t)).length = n - 1 := by rw [List.length_set, tb_len]
        have hQi : ((tbL (srF n) [] (n - 1) i).set i (srR (stE n i) t))[i]'(by rw [hQl]; exact hlt) = srR (stE n i) t := List.getElem_set_self _
        obtain ⟨u', h7, p, id, m, cs', a1, b1, b2, b3, b4, b5, b6, _⟩ := hR.sd.row hR.ow hR.ox hR.gr.nx hc2 (i := i) (by rw [hR.sd.len, hQl]; exact hlt) (by rw [hQl]; exact hlt) (x := ((t : Int), ((t ^^^ stE n i : Nat) : Int))) (by rw [hQi]; have := srR_len (s := stE n i) (t := t); omega)
        rw [hQi, List.set_set, ← hsu] at b4
        simp (disch := omega) only [f67_r7, f67_r8, f67_r9, f67_r10, f67_r11, f67_r12, w_skip, w_reg, w_seq, w_cond, w_block, seqK_n, atK_n, loopK_n, ckB_b, cbB_b, true_and, x_nil, x_mv, x_as, x_build, x_bslice, x_ld, x_st, x_bin, x_iads, x_app, kx, rvP_ok, okv_some, ev_t, ev_c, getV_some, putD_some, putD_none, bin_add, bin_lss, oGet_s, cells1_i, of0, of1, getK_set, Nat.reduceEqDiff, ↓reduceIte, fill_2, set_2, cells2, g3, g4, g5, g16, g17, d1, hx, d2, b1, b2, fill_2, set_2, fill_p2, set_p2, cells2, a1, b3, fw64]
        exact ⟨t + 1, by omega, by omega, w, _, ⟨b4, hR.ow, b5, hR.gr.trans b6⟩, by simp (disch := omega) only [getK_set, Nat.reduceEqDiff, ↓reduceIte, g0, g3, g4, g5, g12, g13, g16, and_self, Int.natCast_add, Int.natCast_one]⟩
      · have d2 : decide ((t : Int) < ((t ^^^ stE n i : Nat) : Int)) = false := decide_eq_false (by omega)
        rw [if_neg hlt3, List.append_nil] at hsu
        simp (disch := omega) only [f67_r7, f67_r8, f67_r9, f67_r10, f67_r12, w_skip, w_reg, w_seq, w_cond, w_block, seqK_n, atK_n, loopK_n, ckB_b, cbB_b, true_and, x_nil, x_mv, x_as, x_bin, kx, rvP_ok, okv_some, ev_t, ev_c, getV_some, putD_some, bin_add, bin_lss, of1, getK_set, Nat.reduceEqDiff, ↓reduceIte, Bool.false_eq_true, g4, g16, g17, d1, hx, d2, fw64]
        exact ⟨t + 1, by omega, by omega, w, xs, by rw [hsu]; exact hR, by simp (disch := omega) only [getK_set, Nat.reduceEqDiff, ↓reduceIte, g0, g3, g4, g5, g12, g13, g16, and_self, Int.natCast_add, Int.natCast_one]⟩
    · have d1 : decide ((t : Int) < (n : Int)) = false := decide_eq_false (by omega)
      have et : t = n := by omega
      rw [et, show srR (stE n i) n = srF n i from rfl, tb_set] at hR
      have e2 : (stE n i : Int) * 2 = ((stE n i * 2 : Nat) : Int) := by omega
      have hst : stE n (i + 1) = if stE n i * 2 ≥ n then (stE n i * 2) ^^^ (n ||| 3) else stE n i * 2 := rfl
      have ho : binV .or (.i .i64 (n : Int)) (.i .i64 3) = some (.i .i64 ((n ||| 3 : Nat) : Int)) := bin_or64 (b := 3) (by omega) (by omega)
      have h15 : n ||| 3 ≤ 15 := by rcases hn with rfl | rfl <;> decide
      by_cases h3 : stE n i * 2 ≥ n
      · have d2 : decide (((stE n i * 2 : Nat) : Int) ≥ (n : Int)) = true := decide_eq_true (by omega)
        rw [if_pos h3] at hst
        have hx := bin_xor64 (a := stE n i * 2) (b := n ||| 3) (by omega) (by omega)
        simp (disch := omega) only [f67_r7, f67_r13, f67_r14, f67_r15, f67_r16, w_reg, w_seq, w_cond, w_exit, seqK_n, seqK_e, atK_n, atK_e, loopK_n, loopK_e, ckB_b, cbB_b, true_and, x_nil, x_mv, x_as, x_bin, kx, rvP_ok, okv_some, ev_t, ev_c, getV_some, putD_some, bin_add, bin_mul, bin_lss, bin_geq, of1, of2, of3, getK_set, Nat.reduceEqDiff, ↓reduceIte, Bool.false_eq_true, g0, g4, g13, g16, g17, d1, e2, d2, ho, hx, fw64]
        exact ⟨i + 1, by omega, by omega, w, xs, hR, by simp (disch := omega) only [getK_set, Nat.reduceEqDiff, ↓reduceIte, g0, g3, g12, and_self, hst, Int.natCast_add, Int.natCast_one]⟩
      · have d2 : decide (((stE n i * 2 : Nat) : Int) ≥ (n : Int)) = false := decide_eq_false (by omega)
        rw [if_neg h3] at hst
        simp (disch := omega) only [f67_r7, f67_r13, f67_r14, f67_r16, w_skip, w_reg, w_seq, w_cond, w_exit, seqK_n, seqK_e, atK_n, atK_e, loopK_n, loopK_e, ckB_b, cbB_b, true_and, x_nil, x_mv, x_as, x_bin, kx, rvP_ok, okv_some, ev_t, ev_c, getV_some, putD_some, bin_add, bin_mul, bin_lss, bin_geq, of1, of2, getK_set, Nat.reduceEqDiff, ↓reduceIte, Bool.false_eq_true, g0, g4, g13, g16, g17, d1, e2, d2, fw64]
        exact ⟨i + 1, by omega, by omega, w, xs, hR, by simp (disch := omega) only [getK_set, Nat.reduceEqDiff, ↓reduceIte, g0, g3, g12, and_self, hst, Int.natCast_add, Int.natCast_one]⟩
  · have d0 : decide ((i : Int) < ((n - 1 : Nat) : Int)) = false := decide_eq_false (by omega)
    have ei : i = n - 1 := by omega
    rw [ei, tb_all] at hR
    simp (disch := omega) only [f67_r4, f67_r17, f67_rs, w_reg, w_seq, w_cond, w_exit, w_ret, seqK_n, seqK_e, atK_e, loopK_e, ckB_b, cbB_b, true_and, retK_r, x_nil, x_mv, x_as, x_bin, kx, rvP_ok, okv_some, ev_t, getV_some, putD_some, bin_lss, oGet_s, readRs_nil, readRs_t, retV_1, Option.some.injEq, exists_eq_left', getK_set, Nat.reduceEqDiff, ↓reduceIte, Bool.false_eq_true, g3, g12, g13, d0]
    exact ⟨xs, hR.sd.nrp, hR.gr⟩
end
end Go.Ev
namespace Go.Ev
open Go Go.RowKit
noncomputable def f45_r0 : List EOper := [⟨(some (K.ofNat 4)), none, .as (.c (.b false))⟩]
noncomputable def f45_r1 : List EOper := [⟨(some (K.ofNat 5)), none, .as (.c (.i .i64 (.ofNat 0)))⟩]
noncomputable def f45_r2 : List EOper := [⟨(some (K.ofNat 6)), none, .as (.c (.i .i64 (.ofNat 0)))⟩]
noncomputable def f45_r3 : List EOper := [⟨(some (K.ofNat 9)), none, .mv (.t (K.ofNat 6))⟩, ⟨(some (K.ofNat 10)), none, .mv (.t (K.ofNat 1))⟩, ⟨(some (K.ofNat 11)), none, .len (.t (K.ofNat 10))⟩, ⟨(some (K.ofNat 12)), none, .bin .lss (.t (K.ofNat 9)) (.t (K.ofNat 11))⟩]
noncomputable def f45_r4 : List Stage := [⟨[⟨(some (K.ofNat 15)), none, .mv (.t (K.ofNat 1))⟩, ⟨(some (K.ofNat 16)), none, .mv (.t (K.ofNat 6))⟩, ⟨(some (K.ofNat 17)), none, .iads 2 (.t (K.ofNat 15)) (.t (K.ofNat 16))⟩, ⟨(some (K.ofNat 18)), none, .iadr 2 1 (.t (K.ofNat 17)) (.c (.i .i64 (.ofNat 0)))⟩, ⟨(some (K.ofNat 19)), none, .ld (.t (K.ofNat 18))⟩, ⟨(some (K.ofNat 20)), none, .mv (.t (K.ofNat 1))⟩, ⟨(some (K.ofNat 21)), none, .mv (.t (K.ofNat 6))⟩, ⟨(some (K.ofNat 22)), none, .iads 2 (.t (K.ofNat 20)) (.t (K.ofNat 21))⟩, ⟨(some (K.ofNat 23)), none, .iadr 2 1 (.t (K.ofNat 22)) (.c (.i .i64 (.ofNat 1)))⟩, ⟨(some (K.ofNat 24)), none, .ld (.t (K.ofNat 23))⟩], [], (some ⟨(some (K.ofNat 7)), none, .as (.t (K.ofNat 19))⟩), []⟩, ⟨[], [⟨(some (K.ofNat 20)), none, .mv (.t (K.ofNat 1))⟩, ⟨(some (K.ofNat 21)), none, .mv (.t (K.ofNat 6))⟩, ⟨(some (K.ofNat 22)), none, .iads 2 (.t (K.ofNat 20)) (.t (K.ofNat 21))⟩, ⟨(some (K.ofNat 23)), none, .iadr 2 1 (.t (K.ofNat 22)) (.c (.i .i64 (.ofNat 1)))⟩, ⟨(some (K.ofNat 24)), none, .ld (.t (K.ofNat 23))⟩], (some ⟨(some (K.ofNat 8)), none, .as (.t (K.ofNat 24))⟩), []⟩, ⟨[], [], none, []⟩]
noncomputable def f45_r5 : List EOper := [⟨(some (K.ofNat 25)), none, .mv (.t (K.ofNat 7))⟩, ⟨(some (K.ofNat 26)), none, .bin .lss (.t (K.ofNat 25)) (.c (.i .i64 (.ofNat 0)))⟩, ⟨(some (K.ofNat 27)), none, .mv (.t (K.ofNat 26))⟩, ⟨(some (K.ofNat 28)), (some ((K.ofNat 27), false)), .mv (.t (K.ofNat 8))⟩, ⟨(some (K.ofNat 29)), (some ((K.ofNat 27), false)), .bin .lss (.t (K.ofNat 28)) (.c (.i .i64 (.ofNat 0)))⟩, ⟨(some (K.ofNat 30)), none, .pick (.t (K.ofNat 27)) (.c (.b true)) (.t (K.ofNat 29))⟩, ⟨(some (K.ofNat 31)), none, .mv (.t (K.ofNat 30))⟩, ⟨(some (K.ofNat 32)), (some ((K.ofNat 31), false)), .mv (.t (K.ofNat 7))⟩, ⟨(some (K.ofNat 33)), (some ((K.ofNat 31), false)), .mv (.t (K.ofNat 0))⟩, ⟨(some (K.ofNat 34)), (some ((K.ofNat 31), false)), .bin .geq (.t (K.ofNat 32)) (.t (K.ofNat 33))⟩, ⟨(some (K.ofNat 35)), none, .pick (.t (K.ofNat 31)) (.c (.b true)) (.t (K.ofNat 34))⟩, ⟨(some (K.ofNat 36)), none, .mv (.t (K.ofNat 35))⟩, ⟨(some (K.ofNat 37)), (some ((K.ofNat 36), false)), .mv (.t (K.ofNat 8))⟩, ⟨(some (K.ofNat 38)), (some ((K.ofNat 36), false)), .mv (.t (K.ofNat 0))⟩, ⟨(some (K.ofNat 39)), (some ((K.ofNat 36), false)), .bin .geq (.t (K.ofNat 37)) (.t (K.ofNat 38))⟩, ⟨(some (K.ofNat 40)), none, .pick (.t (K.ofNat 36)) (.c (.b true)) (.t (K.ofNat 39))⟩, ⟨(some (K.ofNat 41)), none, .mv (.t (K.ofNat 40))⟩, ⟨(some (K.ofNat 42)), (some ((K.ofNat 41), false)), .mv (.t (K.ofNat 7))⟩, ⟨(some (K.ofNat 43)), (some ((K.ofNat 41), false)), .mv (.t (K.ofNat 8))⟩, ⟨(some (K.ofNat 44)), (some ((K.ofNat 41), false)), .bin .eql (.t (K.ofNat 42)) (.t (K.ofNat 43))⟩, ⟨(some (K.ofNat 45)), none, .pick (.t (K.ofNat 41)) (.c (.b true)) (.t (K.ofNat 44))⟩, ⟨(some (K.ofNat 46)), none, .mv (.t (K.ofNat 45))⟩, ⟨(some (K.ofNat 47)), (some ((K.ofNat 46), false)), .mv (.t (K.ofNat 5))⟩, ⟨(some (K.ofNat 48)), (some ((K.ofNat 46), false)), .mv (.t (K.ofNat 7))⟩, ⟨(some (K.ofNat 49)), (some ((K.ofNat 46), false)), .bin .shr (.t (K.ofNat 47)) (.t (K.ofNat 48))⟩, ⟨(some (K.ofNat 50)), (some ((K.ofNat 46), false)), .bin .rem (.t (K.ofNat 49)) (.c (.i .i64 (.ofNat 2)))⟩, ⟨(some (K.ofNat 51)), (some ((K.ofNat 46), false)), .bin .eql (.t (K.ofNat 50)) (.c (.i .i64 (.ofNat 1)))⟩, ⟨(some (K.ofNat 52)), none, .pick (.t (K.ofNat 46)) (.c (.b true)) (.t (K.ofNat 51))⟩, ⟨(some (K.ofNat 53)), none, .mv (.t (K.ofNat 52))⟩, ⟨(some (K.ofNat 54)), (some ((K.ofNat 53), false)), .mv (.t (K.ofNat 5))⟩, ⟨(some (K.ofNat 55)), (some ((K.ofNat 53), false)), .mv (.t (K.ofNat 8))⟩, ⟨(some (K.ofNat 56)), (some ((K.ofNat 53), false)), .bin .shr (.t (K.ofNat 54)) (.t (K.ofNat 55))⟩, ⟨(some (K.ofNat 57)), (some ((K.ofNat 53), false)), .bin .rem (.t (K.ofNat 56)) (.c (.i .i64 (.ofNat 2)))⟩, ⟨(some (K.ofNat 58)), (some ((K.ofNat 53), false)), .bin .eql (.t (K.ofNat 57)) (.c (.i .i64 (.ofNat 1)))⟩, ⟨(some (K.ofNat 59)), none, .pick (.t (K.ofNat 53)) (.c (.b true)) (.t (K.ofNat 58))⟩]
noncomputable def f45_r6 : List EOper := [⟨(some (K.ofNat 4)), none, .as (.c (.b false))⟩]
noncomputable def f45_r7 : List Stage := [⟨[⟨(some (K.ofNat 60)), none, .mv (.t (K.ofNat 5))⟩, ⟨(some (K.ofNat 61)), none, .mv (.t (K.ofNat 7))⟩, ⟨(some (K.ofNat 62)), none, .bin .shl (.c (.i .i64 (.ofNat 1))) (.t (K.ofNat 61))⟩, ⟨(some (K.ofNat 63)), none, .bin .or (.t (K.ofNat 60)) (.t (K.ofNat 62))⟩, ⟨(some (K.ofNat 64)), none, .mv (.t (K.ofNat 8))⟩, ⟨(some (K.ofNat 65)), none, .bin .shl (.c (.i .i64 (.ofNat 1))) (.t (K.ofNat 64))⟩, ⟨(some (K.ofNat 66)), none, .bin .or (.t (K.ofNat 63)) (.t (K.ofNat 65))⟩], [], (some ⟨(some (K.ofNat 5)), none, .as (.t (K.ofNat 66))⟩), []⟩, ⟨[], [], none, []⟩]
noncomputable def f45_r8 : List EOper := [⟨(some (K.ofNat 13)), none, .mv (.t (K.ofNat 6))⟩, ⟨(some (K.ofNat 14)), none, .bin .add (.t (K.ofNat 13)) (.c (.i .i64 (.ofNat 1)))⟩, ⟨(some (K.ofNat 6)), none, .as (.t (K.ofNat 14))⟩]
noncomputable def f45_l0 : EC := (.seq (.seq (.reg f45_r3) (.cond (.t (K.ofNat 12)) .skip (.exit 0))) (.seq (.block 1 (.seq (.draw f45_r4) (.seq (.seq (.reg f45_r5) (.cond (.t (K.ofNat 59)) (.seq (.reg f45_r6) .ret) .skip)) (.draw f45_r7)))) (.reg f45_r8)))
noncomputable def f45_r9 : List EOper := [⟨(some (K.ofNat 67)), none, .mv (.t (K.ofNat 1))⟩, ⟨(some (K.ofNat 68)), none, .len (.t (K.ofNat 67))⟩, ⟨(some (K.ofNat 69)), none, .mv (.t (K.ofNat 0))⟩, ⟨(some (K.ofNat 70)), none, .bin .quo (.t (K.ofNat 69)) (.c (.i .i64 (.ofNat 2)))⟩, ⟨(some (K.ofNat 71)), none, .bin .eql (.t (K.ofNat 68)) (.t (K.ofNat 70))⟩, ⟨(some (K.ofNat 4)), none, .as (.t (K.ofNat 71))⟩]
noncomputable def f45_c : EC := (.seq (.reg f45_r0) (.seq (.reg f45_r1) (.seq (.seq (.reg f45_r2) (.block 0 (.loop f45_l0))) (.seq (.reg f45_r9) .ret))))
noncomputable def f45 : EF := ⟨72, [.tmp (K.ofNat 4)], f45_c, none⟩
theorem f45_rs : f45.rs = [.tmp (K.ofNat 4)] := of_eq_true (eq_self _)
noncomputable def f48_r0 : List EOper := [⟨(some (K.ofNat 4)), none, .as (.c (.b false))⟩]
noncomputable def f48_r1 : List EOper := [⟨(some (K.ofNat 5)), none, .alloc 100 (List.replicate 100 (.b false))⟩]
noncomputable def f48_r2 : List EOper := [⟨(some (K.ofNat 6)), none, .as (.c (.i .i64 (.ofNat 0)))⟩]
noncomputable def f48_r3 : List EOper := [⟨(some (K.ofNat 11)), none, .mv (.t (K.ofNat 6))⟩, ⟨(some (K.ofNat 12)), none, .mv (.t (K.ofNat 1))⟩, ⟨(some (K.ofNat 13)), none, .len (.t (K.ofNat 12))⟩, ⟨(some (K.ofNat 14)), none, .bin .lss (.t (K.ofNat 11)) (.t (K.ofNat 13))⟩]
noncomputable def f48_r4 : List EOper := [⟨(some (K.ofNat 17)), none, .mv (.t (K.ofNat 0))⟩, ⟨(some (K.ofNat 18)), none, .mv (.t (K.ofNat 1))⟩, ⟨(some (K.ofNat 19)), none, .mv (.t (K.ofNat 6))⟩, ⟨(some (K.ofNat 20)), none, .iads 1 (.t (K.ofNat 18)) (.t (K.ofNat 19))⟩, ⟨(some (K.ofNat 21)), none, .ld (.t (K.ofNat 20))⟩, ⟨(some (K.ofNat 22)), none, .call (.c (.fn (K.ofNat 45) [])) [(.t (K.ofNat 17)), (.t (K.ofNat 21))]⟩, ⟨(some (K.ofNat 23)), none, .not (.t (K.ofNat 22))⟩]
noncomputable def f48_r5 : List EOper := [⟨(some (K.ofNat 4)), none, .as (.c (.b false))⟩]
noncomputable def f48_r6 : List EOper := [⟨(some (K.ofNat 7)), none, .as (.c (.i .i64 (.ofNat 0)))⟩]
noncomputable def f48_r7 : List EOper := [⟨(some (K.ofNat 24)), none, .mv (.t (K.ofNat 7))⟩, ⟨(some (K.ofNat 25)), none, .mv (.t (K.ofNat 1))⟩, ⟨(some (K.ofNat 26)), none, .mv (.t (K.ofNat 6))⟩, ⟨(some (K.ofNat 27)), none, .iads 1 (.t (K.ofNat 25)) (.t (K.ofNat 26))⟩, ⟨(some (K.ofNat 28)), none, .ld (.t (K.ofNat 27))⟩, ⟨(some (K.ofNat 29)), none, .len (.t (K.ofNat 28))⟩, ⟨(some (K.ofNat 30)), none, .bin .lss (.t (K.ofNat 24)) (.t (K.ofNat 29))⟩]
noncomputable def f48_r8 : List Stage := [⟨[⟨(some (K.ofNat 33)), none, .mv (.t (K.ofNat 1))⟩, ⟨(some (K.ofNat 34)), none, .mv (.t (K.ofNat 6))⟩, ⟨(some (K.ofNat 35)), none, .iads 1 (.t (K.ofNat 33)) (.t (K.ofNat 34))⟩, ⟨(some (K.ofNat 36)), none, .ld (.t (K.ofNat 35))⟩, ⟨(some (K.ofNat 37)), none, .mv (.t (K.ofNat 7))⟩, ⟨(some (K.ofNat 38)), none, .iads 2 (.t (K.ofNat 36)) (.t (K.ofNat 37))⟩, ⟨(some (K.ofNat 39)), none, .iadr 2 1 (.t (K.ofNat 38)) (.c (.i .i64 (.ofNat 0)))⟩, ⟨(some (K.ofNat 40)), none, .ld (.t (K.ofNat 39))⟩, ⟨(some (K.ofNat 41)), none, .mv (.t (K.ofNat 1))⟩, ⟨(some (K.ofNat 42)), none, .mv (.t (K.ofNat 6))⟩, ⟨(some (K.ofNat 43)), none, .iads 1 (.t (K.ofNat 41)) (.t (K.ofNat 42))⟩, ⟨(some (K.ofNat 44)), none, .ld (.t (K.ofNat 43))⟩, ⟨(some (K.ofNat 45)), none, .mv (.t (K.ofNat 7))⟩, ⟨(some (K.ofNat 46)), none, .iads 2 (.t (K.ofNat 44)) (.t (K.ofNat 45))⟩, ⟨(some (K.ofNat 47)), none, .iadr 2 1 (.t (K.ofNat 46)) (.c (.i .i64 (.ofNat 1)))⟩, ⟨(some (K.ofNat 48)), none, .ld (.t (K.ofNat 47))⟩], [], (some ⟨(some (K.ofNat 8)), none, .as (.t (K.ofNat 40))⟩), []⟩, ⟨[], [⟨(some (K.ofNat 41)), none, .mv (.t (K.ofNat 1))⟩, ⟨(some (K.ofNat 42)), none, .mv (.t (K.ofNat 6))⟩, ⟨(some (K.ofNat 43)), none, .iads 1 (.t (K.ofNat 41)) (.t (K.ofNat 42))⟩, ⟨(some (K.ofNat 44)), none, .ld (.t (K.ofNat 43))⟩, ⟨(some (K.ofNat 45)), none, .mv (.t (K.ofNat 7))⟩, ⟨(some (K.ofNat 46)), none, .iads 2 (.t (K.ofNat 44)) (.t (K.ofNat 45))⟩, ⟨(some (K.ofNat 47)), none, .iadr 2 1 (.t (K.ofNat 46)) (.c (.i .i64 (.ofNat 1)))⟩, ⟨(some (K.ofNat 48)), none, .ld (.t (K.ofNat 47))⟩], (some ⟨(some (K.ofNat 9)), none, .as (.t (K.ofNat 48))⟩), []⟩, ⟨[], [], none, []⟩]
noncomputable def f48_r9 : List EOper := [⟨(some (K.ofNat 49)), none, .mv (.t (K.ofNat 8))⟩, ⟨(some (K.ofNat 50)), none, .mv (.t (K.ofNat 9))⟩, ⟨(some (K.ofNat 51)), none, .min (.t (K.ofNat 49)) (.t (K.ofNat 50))⟩, ⟨(some (K.ofNat 52)), none, .bin .mul (.t (K.ofNat 51)) (.c (.i .i64 (.ofNat 10)))⟩, ⟨(some (K.ofNat 53)), none, .mv (.t (K.ofNat 8))⟩, ⟨(some (K.ofNat 54)), none, .mv (.t (K.ofNat 9))⟩, ⟨(some (K.ofNat 55)), none, .max (.t (K.ofNat 53)) (.t (K.ofNat 54))⟩, ⟨(some (K.ofNat 56)), none, .bin .add (.t (K.ofNat 52)) (.t (K.ofNat 55))⟩, ⟨(some (K.ofNat 10)), none, .as (.t (K.ofNat 56))⟩]
noncomputable def f48_r10 : List EOper := [⟨(some (K.ofNat 57)), none, .mv (.t (K.ofNat 10))⟩, ⟨(some (K.ofNat 58)), none, .iadr 100 1 (.t (K.ofNat 5)) (.t (K.ofNat 57))⟩, ⟨(some (K.ofNat 59)), none, .ld (.t (K.ofNat 58))⟩]
noncomputable def f48_r11 : List EOper := [⟨(some (K.ofNat 4)), none, .as (.c (.b false))⟩]
noncomputable def f48_r12 : List EOper := [⟨(some (K.ofNat 60)), none, .mv (.t (K.ofNat 10))⟩, ⟨(some (K.ofNat 61)), none, .iadr 100 1 (.t (K.ofNat 5)) (.t (K.ofNat 60))⟩, ⟨none, none, .st 1 (.t (K.ofNat 61)) (.c (.b true))⟩]
noncomputable def f48_r13 : List EOper := [⟨(some (K.ofNat 31)), none, .mv (.t (K.ofNat 7))⟩, ⟨(some (K.ofNat 32)), none, .bin .add (.t (K.ofNat 31)) (.c (.i .i64 (.ofNat 1)))⟩, ⟨(some (K.ofNat 7)), none, .as (.t (K.ofNat 32))⟩]
noncomputable def f48_l0 : EC := (.seq (.seq (.reg f48_r7) (.cond (.t (K.ofNat 30)) .skip (.exit 2))) (.seq (.block 3 (.seq (.draw f48_r8) (.seq (.reg f48_r9) (.seq (.seq (.reg f48_r10) (.cond (.t (K.ofNat 59)) (.seq (.reg f48_r11) .ret) .skip)) (.reg f48_r12))))) (.reg f48_r13)))
noncomputable def f48_r14 : List EOper := [⟨(some (K.ofNat 15)), none, .mv (.t (K.ofNat 6))⟩, ⟨(some (K.ofNat 16)), none, .bin .add (.t (K.ofNat 15)) (.c (.i .i64 (.ofNat 1)))⟩, ⟨(some (K.ofNat 6)), none, .as (.t (K.ofNat 16))⟩]
noncomputable def f48_l1 : EC := (.seq (.seq (.reg f48_r3) (.cond (.t (K.ofNat 14)) .skip (.exit 0))) (.seq (.block 1 (.seq (.seq (.reg f48_r4) (.cond (.t (K.ofNat 23)) (.seq (.reg f48_r5) .ret) .skip)) (.seq (.reg f48_r6) (.block 2 (.loop f48_l0))))) (.reg f48_r14)))
noncomputable def f48_r15 : List EOper := [⟨(some (K.ofNat 62)), none, .mv (.t (K.ofNat 1))⟩, ⟨(some (K.ofNat 63)), none, .len (.t (K.ofNat 62))⟩, ⟨(some (K.ofNat 64)), none, .mv (.t (K.ofNat 0))⟩, ⟨(some (K.ofNat 65)), none, .bin .lss (.t (K.ofNat 63)) (.t (K.ofNat 64))⟩, ⟨(some (K.ofNat 4)), none, .as (.t (K.ofNat 65))⟩]
noncomputable def f48_c : EC := (.seq (.reg f48_r0) (.seq (.reg f48_r1) (.seq (.seq (.reg f48_r2) (.block 0 (.loop f48_l1))) (.seq (.reg f48_r15) .ret))))
noncomputable def f48 : EF := ⟨66, [.tmp (K.ofNat 4)], f48_c, none⟩
theorem f48_rs : f48.rs = [.tmp (K.ofNat 4)] := of_eq_true (eq_self _)
noncomputable def f14_r0 : List EOper := [⟨(some (K.ofNat 4)), none, .as (.c (.i .i64 (.ofNat 0)))⟩]
noncomputable def f14_r1 : List EOper := [⟨(some (K.ofNat 6)), none, .mv (.t (K.ofNat 0))⟩, ⟨(some (K.ofNat 7)), none, .call (.c (.fn (K.ofNat 37) [])) [(.t (K.ofNat 6))]⟩, ⟨(some (K.ofNat 8)), none, .not (.t (K.ofNat 7))⟩, ⟨(some (K.ofNat 5)), none, .as (.t (K.ofNat 8))⟩]
noncomputable def f14_r2 : List EOper := [⟨(some (K.ofNat 4)), none, .as (.c (.i .i64 (.ofNat 1)))⟩]
noncomputable def f14_r3 : List EOper := [⟨(some (K.ofNat 10)), none, .mv (.t (K.ofNat 1))⟩, ⟨(some (K.ofNat 11)), none, .len (.t (K.ofNat 10))⟩, ⟨(some (K.ofNat 12)), none, .mv (.t (K.ofNat 0))⟩, ⟨(some (K.ofNat 13)), none, .bin .sub (.t (K.ofNat 12)) (.c (.i .i64 (.ofNat 1)))⟩, ⟨(some (K.ofNat 14)), none, .bin .neq (.t (K.ofNat 11)) (.t (K.ofNat 13))⟩, ⟨(some (K.ofNat 15)), none, .mv (.t (K.ofNat 14))⟩, ⟨(some (K.ofNat 16)), (some ((K.ofNat 15), false)), .mv (.t (K.ofNat 0))⟩, ⟨(some (K.ofNat 17)), (some ((K.ofNat 15), false)), .mv (.t (K.ofNat 1))⟩, ⟨(some (K.ofNat 18)), (some ((K.ofNat 15), false)), .call (.c (.fn (K.ofNat 48) [])) [(.t (K.ofNat 16)), (.t (K.ofNat 17))]⟩, ⟨(some (K.ofNat 19)), (some ((K.ofNat 15), false)), .not (.t (K.ofNat 18))⟩, ⟨(some (K.ofNat 20)), none, .pick (.t (K.ofNat 15)) (.c (.b true)) (.t (K.ofNat 19))⟩, ⟨(some (K.ofNat 9)), none, .as (.t (K.ofNat 20))⟩]
noncomputable def f14_r4 : List EOper := [⟨(some (K.ofNat 4)), none, .as (.c (.i .i64 (.ofNat 40)))⟩]
noncomputable def f14_r5 : List EOper := [⟨(some (K.ofNat 4)), none, .as (.c (.i .i64 (.ofNat 0)))⟩]
noncomputable def f14_c : EC := (.seq (.reg f14_r0) (.seq (.block 0 (.seq (.reg f14_r1) (.cond (.t (K.ofNat 5)) (.seq (.reg f14_r2) .ret) (.seq (.reg f14_r3) (.cond (.t (K.ofNat 9)) (.seq (.reg f14_r4) .ret) .skip))))) (.seq (.reg f14_r5) .ret)))
noncomputable def f14 : EF := ⟨21, [.tmp (K.ofNat 4)], f14_c, none⟩
theorem f14_rs : f14.rs = [.tmp (K.ofNat 4)] := of_eq_true (eq_self _)
section
variable {fs : T EF} {h : H} {v : V} {us : List V} {Ls : List (List (Int × Int))} {l : List (Int × Int)} {n : Nat}
/-- One bit of a mask. -/
theorem bit_i {m x : Nat} (hx : x ≤ 15) : binV .shr (.i .i64 (m : Int)) (.i .i64 (x : Int)) = some (.i .i64 ((m / 2 ^ x : Nat) : Int)) ∧ ((m / 2 ^ x : Nat) : Int).tmod 2 = ((m / 2 ^ x % 2 : Nat) : Int) ∧ decide (((m / 2 ^ x % 2 : Nat) : Int) = 1) = m.testBit x ∧ binV .shl (.i .i64 1) (.i .i64 (x : Int)) = some (.i .i64 ((2 ^ x : Nat) : Int)) ∧ 2 ^ x ≤ 32768 := by
  have hp : 2 ^ x ≤ 2 ^ 15 := Nat.pow_le_pow_right (by omega) hx
  have hp2' : 2 ^ 15 = 32768 := by decide
  refine ⟨by rw [bin_shr, show min x (IntKind.bits .i64) = x by show min x 64 = x; omega], rfl, ?_, ?_, by omega⟩
  · rw [Nat.testBit_eq_decide_div_mod_eq]
    congr 1
    apply propext
    omega
  · rw [bin_shl (by omega), show min ((x : Int).toNat) (IntKind.bits .i64) = x by show min ((x : Int).toNat) 64 = x; omega, Int.one_mul]
    have hz : (2 : Int) ^ x = ((2 ^ x : Nat) : Int) := by rw [Int.natCast_pow]; rfl
    rw [hz, fw64 (by have : (0 : Int) ≤ ((2 ^ x : Nat) : Int) := Int.natCast_nonneg _; omega) (by omega)]
theorem aa_no {n : Nat} {L : List Int} (h : ¬ ((∀ x ∈ L, 0 ≤ x ∧ x < (n : Int)) ∧ L.Nodup)) : aaB (n : Int) L = false := by
  rw [Bool.eq_false_iff]
  intro hh
  unfold aaB at hh
  simp only [Bool.and_eq_true, decide_eq_true_iff] at hh
  exact h hh.2
def f45_I (h : H) (n : Nat) (v : V) (l : List (Int × Int)) (i : Nat) (fr : Fr) (h1 : H) : Prop := i ≤ l.length ∧ h1 = h ∧ (∀ x ∈ plL (l.take i), 0 ≤ x ∧ x < (n : Int)) ∧ (plL (l.take i)).Nodup ∧ ∃ m, Msk m (plL (l.take i)) ∧ fr.get (K.ofNat 0) = some (.i .i64 (n : Int)) ∧ fr.get (K.ofNat 1) = some (v) ∧ fr.get (K.ofNat 5) = some (.i .i64 (m : Int)) ∧ fr.get (K.ofNat 6) = some (.i .i64 (i : Int))
theorem f45_ret (hn : n ≤ 10) (he : n % 2 = 0) (hv : Srp h v l) (hL : l.length ≤ 9223372036854775807) : Ret fs f45 [.i .i64 (n : Int), v] h fun r h' => r = .b (rndB n l) ∧ h' = h := by
  apply ret_of rfl
  show W fs none f45_c _ _ _
  unfold f45_c
  have hlen := hv.len
  have hvb := hv.beq
  have hk : kmax .i64 = 9223372036854775807 := rfl
  simp (disch := omega) only [f45_r0, f45_r1, f45_r2, w_reg, w_seq, w_block, seqK_n, x_nil, x_as, ev_c, putD_some, frame_2, of0]
  refine W_loop (f45_I h n v l) (fun i => l.length - i) ?_ 0 ⟨by omega, rfl, by simp [plL], by simp [plL], 0, Msk.nil, by simp (disch := omega) only [getK_set, Nat.reduceEqDiff, ↓reduceIte, and_self, Int.natCast_zero]⟩
  rintro i fr h1 ⟨hi, rfl, hin, hnd, m, hm, g0, g1, g5, g6⟩
  unfold f45_l0
  by_cases hlt : i < l.length
  · have d0 : decide ((i : Int) < (l.length : Int)) = true := by simpa using hlt
    obtain ⟨ida, q, hp1, _, hp3, hp4⟩ := hv.at2 hlt
    have htk := plL_snoc hlt
    have hsub : (plL (l.take (i + 1))).Sublist (plL l) := by
      conv => rhs; rw [← List.take_append_drop (i + 1) l]
      unfold plL
      rw [List.flatMap_append]
      exact List.sublist_append_left _ _
    have bad : ¬ ((∀ x ∈ plL (l.take (i + 1)), 0 ≤ x ∧ x < (n : Int)) ∧ (plL (l.take (i + 1))).Nodup) → rndB n l = false := fun hb => by
      have := aa_no (n := n) (L := plL l) fun hh => hb ⟨fun x hx => hh.1 x (hsub.subset hx), List.Pairwise.sublist hsub hh.2⟩
      unfold rndB
      rw [this, Bool.and_false]
    have hpl : i ≤ 16 := by
      have h1 := nodup_le (m := (List.range n).map fun (k : Nat) => (k : Int)) hnd fun z hz => by
        obtain ⟨h1, h2⟩ := hin z hz
        exact List.mem_map.2 ⟨z.toNat, by simp; omega, by omega⟩
      rw [plL_len, List.length_take] at h1
      simp at h1
      omega
    rw [htk] at bad
    generalize l[i] = e at *
    have b1 : ¬ (0 ≤ e.1 ∧ e.1 < (n : Int)) → rndB n l = false := fun hb => bad fun hh => hb (hh.1 e.1 (by simp))
    have b2 : ¬ (0 ≤ e.2 ∧ e.2 < (n : Int)) → rndB n l = false := fun hb => bad fun hh => hb (hh.1 e.2 (by simp))
    have b3 : ¬ (plL (l.take i) ++ [e.1, e.2]).Nodup → rndB n l = false := fun hb => bad fun hh => hb hh.2
    obtain ⟨a, b⟩ := e
    simp only at hp3 hp4 b1 b2 b3 htk
    simp (disch := omega) only [f45_r3, f45_r4, w_skip, w_reg, w_draw, w_seq, w_cond, w_block, seqK_n, ckB_b, cbB_b, true_and, x_nil, x_mv, x_as, x_bin, x_len, kx, kg, xg_nil, xg_mv, xg_ld, xg_iadr, xg_iads, xd_cons, fresh_nil, stK_n, stK_s, stay_nil, stay_cons, again_ok, stay_mv, beq_i, stay_iads, stay_ld, beq_p, rvP_ok, okv_some, ev_t, ev_c, getV_some, putD_some, bin_lss, onP_p, of0, of1, getK_set, Nat.reduceEqDiff, ↓reduceIte, stay_iadr, ix2_0, ix2_1, g1, g6, hlen, d0, hp1, hp3, hp4, hvb]
    by_cases h1 : a < 0
    · have d1 : decide (a < 0) = true := decide_eq_true h1
      have hno := b1 (by omega)
      simp (disch := omega) only [f45_r5, f45_r6, f45_rs, w_reg, w_seq, w_cond, w_ret, seqK_n, seqK_r, atK_r, loopK_r, ckB_b, cbB_b, okG_b, asG_f, retK_r, x_nil, x_g, x_mv, x_as, x_pick, x_bin, kx, rvP_ok, okv_some, ev_t, ev_c, getV_some, putD_some, bin_lss, pick_b, oGet_s, readRs_nil, readRs_t, retV_1, of0, of1, of2, Option.some.injEq, exists_eq_left', getK_set, Nat.reduceEqDiff, ↓reduceIte, Bool.false_eq_true, Bool.not_true, d1, hno, and_self]
    have d1 : decide (a < 0) = false := decide_eq_false h1
    by_cases h2 : b < 0
    · have d2 : decide (b < 0) = true := decide_eq_true h2
      have hno := b2 (by omega)
      simp (disch := omega) only [f45_r5, f45_r6, f45_rs, w_reg, w_seq, w_cond, w_ret, seqK_n, seqK_r, atK_r, loopK_r, ckB_b, cbB_b, okG_b, asG_f, retK_r, x_nil, x_g, x_mv, x_as, x_pick, x_bin, kx, rvP_ok, okv_some, ev_t, ev_c, getV_some, putD_some, bin_lss, pick_b, oGet_s, readRs_nil, readRs_t, retV_1, of0, of1, of2, Option.some.injEq, exists_eq_left', getK_set, Nat.reduceEqDiff, ↓reduceIte, Bool.false_eq_true, Bool.not_true, Bool.not_false, d1, d2, hno, and_self]
    have d2 : decide (b < 0) = false := decide_eq_false h2
    by_cases h3 : a ≥ (n : Int)
    · have d3 : decide (a ≥ (n : Int)) = true := decide_eq_true h3
      have hno := b1 (by omega)
      simp (disch := omega) only [f45_r5, f45_r6, f45_rs, w_reg, w_seq, w_cond, w_ret, seqK_n, seqK_r, atK_r, loopK_r, ckB_b, cbB_b, okG_b, asG_f, retK_r, x_nil, x_g, x_mv, x_as, x_pick, x_bin, kx, rvP_ok, okv_some, ev_t, ev_c, getV_some, putD_some, bin_lss, bin_geq, pick_b, oGet_s, readRs_nil, readRs_t, retV_1, of0, of1, of2, Option.some.injEq, exists_eq_left', getK_set, Nat.reduceEqDiff, ↓reduceIte, Bool.false_eq_true, Bool.not_true, Bool.not_false, g0, d1, d2, d3, hno, and_self]
    have d3 : decide (a ≥ (n : Int)) = false := decide_eq_false h3
    by_cases h4 : b ≥ (n : Int)
    · have d4 : decide (b ≥ (n : Int)) = true := decide_eq_true h4
      have hno := b2 (by omega)
      simp (disch := omega) only [f45_r5, f45_r6, f45_rs, w_reg, w_seq, w_cond, w_ret, seqK_n, seqK_r, atK_r, loopK_r, ckB_b, cbB_b, okG_b, asG_f, retK_r, x_nil, x_g, x_mv, x_as, x_pick, x_bin, kx, rvP_ok, okv_some, ev_t, ev_c, getV_some, putD_some, bin_lss, bin_geq, pick_b, oGet_s, readRs_nil, readRs_t, retV_1, of0, of1, of2, Option.some.injEq, exists_eq_left', getK_set, Nat.reduceEqDiff, ↓reduceIte, Bool.false_eq_true, Bool.not_true, Bool.not_false, g0, d1, d2, d3, d4, hno, and_self]
    have d4 : decide (b ≥ (n : Int)) = false := decide_eq_false h4
    by_cases h5 : a = b
    · have d5 : decide (a = b) = true := decide_eq_true h5
      have hno := b3 (by rw [h5, List.nodup_append]; simp)
      simp (disch := omega) only [f45_r5, f45_r6, f45_rs, w_reg, w_seq, w_cond, w_ret, seqK_n, seqK_r, atK_r, loopK_r, ckB_b, cbB_b, okG_b, asG_f, retK_r, x_nil, x_g, x_mv, x_as, x_pick, x_bin, kx, rvP_ok, okv_some, ev_t, ev_c, getV_some, putD_some, bin_eql, bin_lss, bin_geq, pick_b, oGet_s, readRs_nil, readRs_t, retV_1, of0, of1, of2, Option.some.injEq, exists_eq_left', getK_set, Nat.reduceEqDiff, ↓reduceIte, Bool.false_eq_true, Bool.not_true, Bool.not_false, g0, d1, d2, d3, d4, d5, hno, and_self]
    have d5 : decide (a = b) = false := decide_eq_false h5
    obtain ⟨x, rfl⟩ : ∃ x : Nat, a = (x : Int) := ⟨a.toNat, by omega⟩
    obtain ⟨y, rfl⟩ : ∃ y : Nat, b = (y : Int) := ⟨b.toNat, by omega⟩
    have hm1 := hm.1
    obtain ⟨s1, s2, s3, s4, s5⟩ := bit_i (m := m) (show x ≤ 15 by omega)
    obtain ⟨t1, t2, t3, t4, t5⟩ := bit_i (m := m) (show y ≤ 15 by omega)
    rw [hm.2 x (by omega)] at s3
    rw [hm.2 y (by omega)] at t3
    by_cases h6 : (x : Int) ∈ plL (l.take i)
    · rw [decide_eq_true h6] at s3
      have hno := b3 (by rw [List.nodup_append]; exact fun hh => hh.2.2 _ h6 _ (by simp) rfl)
      simp (disch := omega) only [f45_r5, f45_r6, f45_rs, w_reg, w_seq, w_cond, w_ret, seqK_n, seqK_r, atK_r, loopK_r, ckB_b, cbB_b, okG_b, asG_f, retK_r, x_nil, x_g, x_mv, x_as, x_pick, x_bin, kx, rvP_ok, okv_some, ev_t, ev_c, getV_some, putD_some, bin_eql, bin_lss, bin_geq, bin_rem, pick_b, oGet_s, readRs_nil, readRs_t, retV_1, of0, of1, of2, Option.some.injEq, exists_eq_left', getK_set, Nat.reduceEqDiff, ↓reduceIte, Bool.false_eq_true, Bool.not_true, Bool.not_false, g0, g5, d1, d2, d3, d4, d5, s1, s2, s3, hno, and_self]
    rw [decide_eq_false h6] at s3
    by_cases h7 : (y : Int) ∈ plL (l.take i)
    · rw [decide_eq_true h7] at t3
      have hno := b3 (by rw [List.nodup_append]; exact fun hh => hh.2.2 _ h7 _ (by simp) rfl)
      simp (disch := omega) only [f45_r5, f45_r6, f45_rs, w_reg, w_seq, w_cond, w_ret, seqK_n, seqK_r, atK_r, loopK_r, ckB_b, cbB_b, okG_b, asG_f, retK_r, x_nil, x_g, x_mv, x_as, x_pick, x_bin, kx, rvP_ok, okv_some, ev_t, ev_c, getV_some, putD_some, bin_eql, bin_lss, bin_geq, bin_rem, pick_b, oGet_s, readRs_nil, readRs_t, retV_1, of0, of1, of2, Option.some.injEq, exists_eq_left', getK_set, Nat.reduceEqDiff, ↓reduceIte, Bool.false_eq_true, Bool.not_false, g0, g5, d1, d2, d3, d4, d5, s1, s2, s3, t1, t2, t3, hno, and_self]
    rw [decide_eq_false h7] at t3
    have hm2 := hm.snoc (show x ≤ 15 by omega)
    have hm3 := hm2.snoc (show y ≤ 15 by omega)
    rw [List.append_assoc] at hm3
    have q1 : binV .or (.i .i64 (m : Int)) (.i .i64 ((2 ^ x : Nat) : Int)) = some (.i .i64 ((m ||| 2 ^ x : Nat) : Int)) := bin_or (by omega) (by omega)
    have q2 : binV .or (.i .i64 ((m ||| 2 ^ x : Nat) : Int)) (.i .i64 ((2 ^ y : Nat) : Int)) = some (.i .i64 ((m ||| 2 ^ x ||| 2 ^ y : Nat) : Int)) := bin_or (by have := hm2.1; omega) (by omega)
    simp (disch := omega) only [f45_r5, w_skip, w_draw, w_cond, seqK_n, ckB_b, cbB_b, okG_b, asG_f, true_and, x_nil, x_g, x_mv, x_pick, x_bin, kx, rvP_ok, okv_some, ev_t, ev_c, getV_some, putD_some, bin_eql, bin_lss, bin_geq, bin_rem, pick_b, of0, of1, of2, getK_set, Nat.reduceEqDiff, ↓reduceIte, Bool.false_eq_true, Bool.not_false, g0, g5, d1, d2, d3, d4, d5, s1, s2, s3, t1, t2, t3]
    simp (disch := omega) only [f45_r7, f45_r8, w_reg, seqK_n, atK_n, loopK_n, true_and, x_nil, x_mv, x_as, x_bin, kx, kg, xg_nil, xg_mv, xg_bin, xd_cons, fresh_nil, stK_n, stK_s, stay_nil, rvP_ok, okv_some, ev_t, ev_c, getV_some, putD_some, bin_add, of1, getK_set, Nat.reduceEqDiff, ↓reduceIte, g5, g6, s4, t4, q1, q2, fw64]
    refine ⟨i + 1, by omega, by omega, rfl, ?_, ?_, _, by rw [htk]; exact hm3, by simp (disch := omega) only [getK_set, Nat.reduceEqDiff, ↓reduceIte, g0, g1, and_self, Int.natCast_add, Int.natCast_one]⟩
    · rw [htk]
      intro z hz
      rcases List.mem_append.1 hz with hz | hz
      · exact hin z hz
      · rcases List.mem_cons.1 hz with rfl | hz
        · omega
        · rw [List.mem_singleton.1 hz]; omega
    · rw [htk, List.nodup_append]
      refine ⟨hnd, by simpa using h5, fun p hp r hr er => ?_⟩
      rcases List.mem_cons.1 hr with rfl | hr
      · exact h6 (er ▸ hp)
      · rw [List.mem_singleton.1 hr] at er; exact h7 (er ▸ hp)
  · have d0 : decide ((i : Int) < (l.length : Int)) = false := by simpa using hlt
    have ei : i = l.length := by omega
    rw [ei, List.take_length] at hin hnd
    have hq2 : binV .quo (.i .i64 (n : Int)) (.i .i64 2) = some (.i .i64 ((n / 2 : Nat) : Int)) := bin_quo2 (by omega)
    have hyes : decide ((l.length : Int) = ((n / 2 : Nat) : Int)) = rndB n l := by
      unfold rndB aaB
      rw [decide_eq_true hin, decide_eq_true hnd, Bool.and_true, Bool.and_true, plL_len, Bool.eq_iff_iff]
      simp only [Bool.and_eq_true, decide_eq_true_iff]
      omega
    simp (disch := omega) only [f45_r3, f45_r9, f45_rs, w_reg, w_seq, w_cond, w_exit, w_ret, seqK_n, seqK_e, atK_e, loopK_e, ckB_b, cbB_b, retK_r, x_nil, x_mv, x_as, x_bin, x_len, kx, rvP_ok, okv_some, ev_t, ev_c, getV_some, putD_some, bin_eql, bin_lss, oGet_s, readRs_nil, readRs_t, retV_1, of2, Option.some.injEq, exists_eq_left', getK_set, Nat.reduceEqDiff, ↓reduceIte, Bool.false_eq_true, g0, g1, g6, hlen, d0, hq2, hyes, and_self]
/-- Which pairs have met. -/
structure MetB (T : List Bool) (P : List (Int × Int)) : Prop where
  len : T.length = 100
  at' : ∀ x y : Nat, x < y → y < 10 → T.getD (x * 10 + y) false = decide (((x : Int), (y : Int)) ∈ P ∨ ((y : Int), (x : Int)) ∈ P)
theorem MetB.nil : MetB (List.replicate 100 false) [] := ⟨by simp, fun x y _ hy => by
  rw [List.getD_eq_getElem?_getD, List.getElem?_replicate]
  split <;> simp⟩
theorem MetB.add {T : List Bool} {P : List (Int × Int)} {a b : Nat} (m : MetB T P) (ha : a < b) (hb : b < 10) {e : Int × Int} (he : e = ((a : Int), (b : Int)) ∨ e = ((b : Int), (a : Int))) : MetB (T.set (a * 10 + b) true) (P ++ [e]) := by
  refine ⟨by rw [List.length_set]; exact m.len, fun x y hxy hy => ?_⟩
  rw [List.getD_eq_getElem?_getD, List.getElem?_set]
  by_cases h : a * 10 + b = x * 10 + y
  · have h1 : a = x := by omega
    have h2 : b = y := by omega
    subst h1; subst h2
    rw [if_pos rfl, if_pos (by rw [m.len]; omega)]
    refine (decide_eq_true ?_).symm
    rcases he with rfl | rfl <;> simp
  · rw [if_neg h, ← List.getD_eq_getElem?_getD, m.at' x y hxy hy]
    congr 1
    refine propext ⟨fun h => ?_, fun h => ?_⟩
    · rcases h with h | h
      · exact .inl (List.mem_append_left _ h)
      · exact .inr (List.mem_append_left _ h)
    · have key : ∀ z : Int × Int, (z = ((x : Int), (y : Int)) ∨ z = ((y : Int), (x : Int))) → z ≠ e := by
        intro z hz q
        rw [q] at hz
        rcases he with rfl | rfl <;> rcases hz with hz | hz <;> simp only [Prod.mk.injEq] at hz <;> omega
      rcases h with h | h
      · rcases List.mem_append.1 h with h | h
        · exact .inl h
        · exact absurd (List.mem_singleton.1 h) (key _ (.inl rfl))
      · rcases List.mem_append.1 h with h | h
        · exact .inr h
        · exact absurd (List.mem_singleton.1 h) (key _ (.inr rfl))
theorem rep_b100 : List.replicate 100 (V.b false) = (List.replicate 100 false).map (fun b => V.b b) := by rw [List.map_replicate]
theorem bg_no {n : Nat} {Ls : List (List (Int × Int))} (h : ¬ ((∀ l ∈ Ls, rndB n l = true) ∧ Ls.flatten.Pairwise dsR)) : bgB n Ls = false := by
  rw [Bool.eq_false_iff]
  intro hh
  unfold bgB at hh
  simp only [Bool.and_eq_true, decide_eq_true_iff, List.all_eq_true] at hh
  exact h hh.2
def f48_I (h : H) (n : Nat) (v : V) (Ls : List (List (Int × Int))) (i : Nat) (fr : Fr) (h1 : H) : Prop := i ≤ Ls.length ∧ Grow h.nx.nat h h1 ∧ (∀ l ∈ Ls.take i, rndB n l = true) ∧ (Ls.take i).flatten.Pairwise dsR ∧ ∃ T, Ar (fun b => V.b b) h1 h.nx T ∧ MetB T (Ls.take i).flatten ∧ h.nx.nat < h1.nx.nat ∧ fr.get (K.ofNat 0) = some (.i .i64 (n : Int)) ∧ fr.get (K.ofNat 1) = some (v) ∧ fr.get (K.ofNat 5) = some (.p h.nx 0) ∧ fr.get (K.ofNat 6) = some (.i .i64 (i : Int))
def f48_J (h : H) (n : Nat) (v : V) (P l : List (Int × Int)) (i j : Nat) (fr : Fr) (h1 : H) : Prop := j ≤ l.length ∧ Grow h.nx.nat h h1 ∧ (P ++ l.take j).Pairwise dsR ∧ ∃ T, Ar (fun b => V.b b) h1 h.nx T ∧ MetB T (P ++ l.take j) ∧ h.nx.nat < h1.nx.nat ∧ fr.get (K.ofNat 0) = some (.i .i64 (n : Int)) ∧ fr.get (K.ofNat 1) = some (v) ∧ fr.get (K.ofNat 5) = some (.p h.nx 0) ∧ fr.get (K.ofNat 6) = some (.i .i64 (i : Int)) ∧ fr.get (K.ofNat 7) = some (.i .i64 (j : Int))
theorem f48_ret (h45 : fs.get (K.ofNat 45) = some f45) (hn : n ≤ 10) (hn1 : 1 ≤ n) (he : n % 2 = 0) (hv : Nrp h v us Ls) (hL : Ls.length ≤ 1000000) (hL2 : ∀ l ∈ Ls, l.length ≤ 9223372036854775807) (hc : HC h) : Ret fs f48 [.i .i64 (n : Int), v] h fun r h' => r = .b (bgB n Ls) ∧ Grow h.nx.nat h h' := by
  have hlen : ∀ h1, lenV v h1 = .ok (.i .i64 (Ls.length : Int)) h1 := fun h1 => by rw [hv.out.len, hv.len]
  have hvb := hv.out.beq
  apply ret_of rfl
  show W fs none f48_c _ _ _
  unfold f48_c
  have n1 := nx_new h (.cells 100 (List.replicate 100 (.b false)))
  have e1 : Ar (fun b => V.b b) (h.new (.cells 100 (List.replicate 100 (.b false)))) h.nx (List.replicate 100 false) := by
    unfold Ar
    rw [get_new_same, rep_b100]
    rfl
  have gA := Grow.new (Nat.le_refl h.nx.nat) (.cells 100 (List.replicate 100 (.b false)))
  simp (disch := omega) only [f48_r0, f48_r1, f48_r2, w_reg, w_seq, w_block, seqK_n, x_nil, x_as, x_alloc, ev_c, putD_some, frame_2, of0]
  refine W_loop (f48_I h n v Ls) (fun i => Ls.length - i) ?_ 0 ⟨by omega, gA, by simp, by simp, _, e1, MetB.nil, by omega, by simp (disch := omega) only [getK_set, Nat.reduceEqDiff, ↓reduceIte, and_self, Int.natCast_zero]⟩
  clear n1 e1 gA
  rintro i fr h1 ⟨hi, hG, hall, hpw, T, hT, hM, hnx, g0, g1, g5, g6⟩
  have hv1 := hv.grow hc hG
  unfold f48_l1
  by_cases hlt : i < Ls.length
  · have d0 : decide ((i : Int) < (Ls.length : Int)) = true := by simpa using hlt
    have hiu : i < us.length := by rw [hv.len]; exact hlt
    obtain ⟨p, hp1, hp2'⟩ := hv1.out.at i hiu
    have hp2 : loadV h1 p one? = .ok us[i] h1 := hp2'
    clear hp2'
    have hui := hv.inn i hiu hlt
    have hl2 := hL2 Ls[i] (List.getElem_mem hlt)
    have hsn : Ls.take (i + 1) = Ls.take i ++ [Ls[i]] := List.take_succ_eq_append_getElem hlt
    have hbad : rndB n Ls[i] = false → bgB n Ls = false := fun hr => bg_no fun hh => by
      have := hh.1 _ (List.getElem_mem hlt)
      rw [hr] at this; cases this
    have hfl : Ls.flatten = ((Ls.take i).flatten ++ Ls[i]) ++ (Ls.drop (i + 1)).flatten := by
      conv => lhs; rw [← List.take_append_drop (i + 1) Ls, hsn]
      rw [List.flatten_append, List.flatten_append]; simp
    simp (disch := omega) only [f48_r3, f48_r4, w_skip, w_reg, w_seq, w_cond, w_block, seqK_n, ckB_b, cbB_b, true_and, x_nil, x_mv, x_ld, x_bin, x_iads, x_call, x_len, kx, rvP_ok, okv_some, ev_t, ev_c, evs_nil, evs_cons, getV_some, putD_some, bin_lss, getK_set, Nat.reduceEqDiff, ↓reduceIte, g0, g1, g6, hlen, d0, hp1, hp2]
    refine (callP_0 (ef := f45) h45 rfl (f45_ret hn he (hui.grow hc hG) hl2)).mono ?_
    rintro r h2 ⟨rfl, rfl⟩
    cases hr : rndB n Ls[i] with
    | false =>
      have hno := hbad hr
      simp (disch := omega) only [f48_r5, f48_rs, w_reg, w_seq, w_cond, w_ret, seqK_n, seqK_r, atK_r, loopK_r, ckB_b, cbB_b, true_and, retK_r, x_nil, x_as, x_not, kx, rvP_ok, ev_t, ev_c, getV_some, putD_some, onB_b, oGet_s, readRs_nil, readRs_t, retV_1, Option.some.injEq, exists_eq_left', getK_set, ↓reduceIte, Bool.not_false, Bool.not_false, hno, true_and]
      exact hG
    | true =>
      have hre := rnd_e hr
      have hll : Ls[i].length = n / 2 := by
        unfold rndB at hr
        simp only [Bool.and_eq_true, decide_eq_true_iff] at hr
        exact hr.1
      have hfin : ∀ h3, Grow h.nx.nat h h3 → loadV h3 p one? = .ok us[i] h3 := fun h3 hG3 => by
        obtain ⟨p', a1, a2⟩ := (hv.grow hc hG3).out.at i hiu
        obtain rfl : p = p' := by have := (hp1 .i64 h3).symm.trans (a1 .i64 h3); injection this
        exact a2
      generalize us[i] = u at *
      generalize Ls[i] = l at *
      have hlu := hui.len
      have hub := hui.beq
      simp (disch := omega) only [f48_r6, w_skip, w_reg, w_seq, w_cond, w_block, seqK_n, ckB_b, cbB_b, true_and, x_nil, x_as, x_not, kx, rvP_ok, ev_t, ev_c, getV_some, putD_some, onB_b, of0, getK_set, ↓reduceIte, Bool.false_eq_true, Bool.not_true, Bool.not_true]
      refine W_loop (f48_J h n v (Ls.take i).flatten l i) (fun j => l.length - j) ?_ 0 ⟨by omega, hG, by simpa using hpw, T, hT, by simpa using hM, hnx, by simp (disch := omega) only [getK_set, Nat.reduceEqDiff, ↓reduceIte, g0, g1, g5, g6, and_self, Int.natCast_zero]⟩
      clear g0 g1 g5 g6 fr hG hT hM hnx hp2 hv1 hpw
      clear T
      rintro j fr h3 ⟨hj, hG, hpw, T, hT, hM, hnx, g0, g1, g5, g6, g7⟩
      have hp2 := hfin h3 hG
      unfold f48_l0
      by_cases hlt2 : j < l.length
      · have d1 : decide ((j : Int) < (l.length : Int)) = true := by simpa using hlt2
        obtain ⟨ida, q, hq1, _, hq3, hq4⟩ := (hui.grow hc hG).at2 hlt2
        obtain ⟨r1, r2, r3⟩ := hre l[j] (List.getElem_mem hlt2)
        have htk : (Ls.take i).flatten ++ l.take (j + 1) = ((Ls.take i).flatten ++ l.take j) ++ [l[j]] := by rw [List.take_succ_eq_append_getElem hlt2, List.append_assoc]
        have hds := ds_snoc (e := l[j]) hpw
        rw [← htk] at hds
        have hbad2 : (l[j] ∈ (Ls.take i).flatten ++ l.take j ∨ (l[j].2, l[j].1) ∈ (Ls.take i).flatten ++ l.take j) → bgB n Ls = false := fun hb => bg_no fun hh => by
          have h1 := hh.2
          rw [hfl, ← List.take_append_drop (j + 1) l, ← List.append_assoc, List.append_assoc] at h1
          exact absurd hb (hds.1 (List.pairwise_append.1 h1).1)
        obtain ⟨x, hx⟩ : ∃ x : Nat, l[j].1 = (x : Int) := ⟨l[j].1.toNat, by omega⟩
        obtain ⟨y, hy⟩ : ∃ y : Nat, l[j].2 = (y : Int) := ⟨l[j].2.toNat, by omega⟩
        have hee : l[j] = ((x : Int), (y : Int)) := Prod.ext hx hy
        rw [hee] at htk hds hbad2 hq3 hq4 r1 r2 r3
        simp only at r1 r2 r3 hbad2 hds
        obtain ⟨a, b, hab, hb10, hmin, hmax, hor⟩ : ∃ a b : Nat, a < b ∧ b < 10 ∧ min (x : Int) (y : Int) = (a : Int) ∧ max (x : Int) (y : Int) = (b : Int) ∧ ((((x : Int), (y : Int)) : Int × Int) = ((a : Int), (b : Int)) ∨ (((x : Int), (y : Int)) : Int × Int) = ((b : Int), (a : Int))) := by
          rcases Nat.lt_or_ge x y with h | h
          · exact ⟨x, y, h, by omega, by omega, by omega, .inl rfl⟩
          · exact ⟨y, x, by omega, by omega, by omega, by omega, .inr rfl⟩
        have hid : (a : Int) * 10 + (b : Int) = ((a * 10 + b : Nat) : Int) := by omega
        have hil : a * 10 + b < T.length := by rw [hM.len]; omega
        have hil2 : a * 10 + b < 100 := by omega
        have hl0 := hT.ld hil
        have hat := hM.at' a b hab hb10
        rw [getD_at hil] at hat
        have heq : decide (((a : Int), (b : Int)) ∈ (Ls.take i).flatten ++ l.take j ∨ ((b : Int), (a : Int)) ∈ (Ls.take i).flatten ++ l.take j) = decide (((x : Int), (y : Int)) ∈ (Ls.take i).flatten ++ l.take j ∨ ((y : Int), (x : Int)) ∈ (Ls.take i).flatten ++ l.take j) := by
          congr 1
          rcases hor with h | h
          · injection h with h1 h2; rw [h1, h2]
          · injection h with h1 h2; rw [h1, h2]; exact propext Or.comm
        rw [heq] at hat
        rw [hat] at hl0
        obtain ⟨hst, hT2⟩ := hT.st hil (x := true) (c := .b true) rfl rfl
        have hM2 := hM.add hab hb10 hor
        rw [← htk] at hM2
        have e10 : (a : Int) * 10 = ((a * 10 : Nat) : Int) := by omega
        have e11 : ((a * 10 : Nat) : Int) + (b : Int) = ((a * 10 + b : Nat) : Int) := by omega
        have hpb : beqV p p = true := by
          obtain ⟨p2, z1, _, z3⟩ := (hv.grow hc hG).out.atb i hiu
          obtain rfl : p = p2 := by have := (hp1 .i64 h3).symm.trans (z1 .i64 h3); injection this
          exact z3
        cases hd : decide (((x : Int), (y : Int)) ∈ (Ls.take i).flatten ++ l.take j ∨ ((y : Int), (x : Int)) ∈ (Ls.take i).flatten ++ l.take j) with
        | true =>
          rw [hd] at hl0
          have hno := hbad2 (of_decide_eq_true hd)
          simp (disch := omega) only [f48_r7, f48_r8, f48_r9, f48_r10, f48_r11, f48_rs, w_skip, w_reg, w_draw, w_seq, w_cond, w_block, w_ret, seqK_n, seqK_r, atK_r, loopK_r, ckB_b, cbB_b, true_and, retK_r, x_nil, x_mv, x_as, x_ld, x_bin, x_iadr, x_iads, x_len, x_min, x_max, kx, kg, xg_nil, xg_mv, xg_ld, xg_iadr, xg_iads, xd_cons, fresh_nil, stK_n, stK_s, stay_nil, stay_cons, again_ok, stay_mv, beq_i, stay_iads, stay_ld, beq_p, rvP_ok, okv_some, ev_t, ev_c, getV_some, putD_some, bin_add, bin_mul, bin_lss, onP_p, oGet_s, idx_n, min_ii, max_ii, readRs_nil, readRs_t, retV_1, of0, of1, of10, Option.some.injEq, exists_eq_left', getK_set, Nat.reduceEqDiff, ↓reduceIte, stay_iadr, ix2_0, ix2_1, g1, g5, g6, g7, hp1, hp2, hlu, d1, hq1, hq3, hq4, hvb, hub, hpb, hmin, hmax, e10, e11, hl0, hno, true_and, fw64]
          exact hG
        | false =>
          rw [hd] at hl0
          simp (disch := omega) only [f48_r7, f48_r8, f48_r9, f48_r10, w_skip, w_reg, w_draw, w_seq, w_cond, w_block, seqK_n, ckB_b, cbB_b, true_and, x_nil, x_mv, x_as, x_ld, x_bin, x_iadr, x_iads, x_len, x_min, x_max, kx, kg, xg_nil, xg_mv, xg_ld, xg_iadr, xg_iads, xd_cons, fresh_nil, stK_n, stK_s, stay_nil, stay_cons, again_ok, stay_mv, beq_i, stay_iads, stay_ld, beq_p, rvP_ok, okv_some, ev_t, ev_c, getV_some, putD_some, bin_add, bin_mul, bin_lss, onP_p, idx_n, min_ii, max_ii, of0, of1, of10, getK_set, Nat.reduceEqDiff, ↓reduceIte, Bool.false_eq_true, stay_iadr, ix2_0, ix2_1, g1, g5, g6, g7, hp1, hp2, hlu, d1, hq1, hq3, hq4, hvb, hub, hpb, hmin, hmax, e10, e11, hl0, fw64]
          simp (disch := omega) only [f48_r12, f48_r13, w_reg, seqK_n, atK_n, loopK_n, x_nil, x_mv, x_as, x_st, x_bin, x_iadr, kx, rvP_ok, okv_some, ev_t, ev_c, getV_some, putD_some, putD_none, bin_add, onP_p, idx_n, of1, getK_set, Nat.reduceEqDiff, ↓reduceIte, g5, g7, hst, fw64]
          exact ⟨j + 1, by omega, by omega, hG.trans (Grow.put (Nat.le_refl _) hnx _), hds.2 (of_decide_eq_false hd), _, hT2, hM2, hnx, by simp (disch := omega) only [getK_set, Nat.reduceEqDiff, ↓reduceIte, g0, g1, g5, g6, and_self, Int.natCast_add, Int.natCast_one]⟩
      · have d1 : decide ((j : Int) < (l.length : Int)) = false := by simpa using hlt2
        have ej : j = l.length := by omega
        have hfl2 : (Ls.take (i + 1)).flatten = (Ls.take i).flatten ++ l := by rw [hsn, List.flatten_append]; simp
        rw [ej, List.take_length, ← hfl2] at hM hpw
        simp (disch := omega) only [f48_r7, f48_r14, w_reg, w_seq, w_cond, w_exit, seqK_n, seqK_e, atK_n, atK_e, loopK_n, loopK_e, ckB_b, cbB_b, true_and, x_nil, x_mv, x_as, x_ld, x_bin, x_iads, x_len, kx, rvP_ok, okv_some, ev_t, ev_c, getV_some, putD_some, bin_add, bin_lss, of1, getK_set, Nat.reduceEqDiff, ↓reduceIte, Bool.false_eq_true, g1, g6, g7, hp1, hp2, hlu, d1, fw64]
        exact ⟨i + 1, by omega, by omega, hG, fun l' hl' => by
          rw [hsn] at hl'
          rcases List.mem_append.1 hl' with hl' | hl'
          · exact hall _ hl'
          · rw [List.mem_singleton.1 hl']; exact hr, hpw, T, hT, hM, hnx, by simp (disch := omega) only [getK_set, Nat.reduceEqDiff, ↓reduceIte, g0, g1, g5, and_self, Int.natCast_add, Int.natCast_one]⟩
  · have d0 : decide ((i : Int) < (Ls.length : Int)) = false := by simpa using hlt
    have ei : i = Ls.length := by omega
    rw [ei, List.take_length] at hall hpw
    have hyes : decide ((Ls.length : Int) < (n : Int)) = bgB n Ls := by
      unfold bgB
      rw [List.all_eq_true.2 hall, decide_eq_true hpw, Bool.and_true, Bool.and_true, Bool.eq_iff_iff]
      simp only [decide_eq_true_iff]
      omega
    simp (disch := omega) only [f48_r3, f48_r15, f48_rs, w_reg, w_seq, w_cond, w_exit, w_ret, seqK_n, seqK_e, atK_e, loopK_e, ckB_b, cbB_b, true_and, retK_r, x_nil, x_mv, x_as, x_bin, x_len, kx, rvP_ok, okv_some, ev_t, getV_some, putD_some, bin_lss, oGet_s, readRs_nil, readRs_t, retV_1, Option.some.injEq, exists_eq_left', getK_set, Nat.reduceEqDiff, ↓reduceIte, Bool.false_eq_true, g0, g1, g6, hlen, d0, hyes, true_and]
    exact hG
end
end Go.Ev
