/-
  Labels: the law LabelsRuler.
  Labels: measured, IsRuler.
  Labels: Extend; few.
  Labels: the law LabelsRulers.
  Labels: are labels graceful?
  Labels: the reference's Graceful; IsGraceful.
  Labels: IsGraceful, Turned, of the program and of the reference.
  Labels: the reference's search: it gives some labels, whichever.
  Labels: the reference's Parts; its search gives some labels.
-/
import Derived.Test.YtbpiomajalfclaaPe
namespace Go.Ev
open Go Go.RowKit
noncomputable def f30_r0 : List EOper := [⟨(some (K.ofNat 4)), none, .as (.c (.b false))⟩]
noncomputable def f30_r1 : List EOper := [⟨(some (K.ofNat 6)), none, .mv (.t (K.ofNat 0))⟩, ⟨(some (K.ofNat 7)), none, .len (.t (K.ofNat 6))⟩, ⟨(some (K.ofNat 8)), none, .mv (.t (K.ofNat 1))⟩, ⟨(some (K.ofNat 9)), none, .len (.t (K.ofNat 8))⟩, ⟨(some (K.ofNat 10)), none, .bin .neq (.t (K.ofNat 7)) (.t (K.ofNat 9))⟩]
noncomputable def f30_r2 : List EOper := [⟨(some (K.ofNat 4)), none, .as (.c (.b false))⟩]
noncomputable def f30_r3 : List EOper := [⟨(some (K.ofNat 5)), none, .as (.c (.i .i64 (.ofNat 0)))⟩]
noncomputable def f30_r4 : List EOper := [⟨(some (K.ofNat 11)), none, .mv (.t (K.ofNat 5))⟩, ⟨(some (K.ofNat 12)), none, .mv (.t (K.ofNat 0))⟩, ⟨(some (K.ofNat 13)), none, .len (.t (K.ofNat 12))⟩, ⟨(some (K.ofNat 14)), none, .bin .lss (.t (K.ofNat 11)) (.t (K.ofNat 13))⟩]
noncomputable def f30_r5 : List Stage := [⟨[⟨(some (K.ofNat 17)), none, .mv (.t (K.ofNat 0))⟩, ⟨(some (K.ofNat 18)), none, .mv (.t (K.ofNat 5))⟩, ⟨(some (K.ofNat 19)), none, .iads 1 (.t (K.ofNat 17)) (.t (K.ofNat 18))⟩, ⟨(some (K.ofNat 20)), none, .ld (.t (K.ofNat 19))⟩, ⟨(some (K.ofNat 21)), none, .mv (.t (K.ofNat 1))⟩, ⟨(some (K.ofNat 22)), none, .mv (.t (K.ofNat 5))⟩, ⟨(some (K.ofNat 23)), none, .iads 1 (.t (K.ofNat 21)) (.t (K.ofNat 22))⟩, ⟨(some (K.ofNat 24)), none, .ld (.t (K.ofNat 23))⟩, ⟨(some (K.ofNat 25)), none, .bin .neq (.t (K.ofNat 20)) (.t (K.ofNat 24))⟩], [], none, []⟩]
noncomputable def f30_r6 : List EOper := [⟨(some (K.ofNat 4)), none, .as (.c (.b false))⟩]
noncomputable def f30_r7 : List EOper := [⟨(some (K.ofNat 15)), none, .mv (.t (K.ofNat 5))⟩, ⟨(some (K.ofNat 16)), none, .bin .add (.t (K.ofNat 15)) (.c (.i .i64 (.ofNat 1)))⟩, ⟨(some (K.ofNat 5)), none, .as (.t (K.ofNat 16))⟩]
noncomputable def f30_l0 : EC := (.seq (.seq (.reg f30_r4) (.cond (.t (K.ofNat 14)) .skip (.exit 0))) (.seq (.block 1 (.seq (.draw f30_r5) (.cond (.t (K.ofNat 25)) (.seq (.reg f30_r6) .ret) .skip))) (.reg f30_r7)))
noncomputable def f30_r8 : List EOper := [⟨(some (K.ofNat 4)), none, .as (.c (.b true))⟩]
noncomputable def f30_c : EC := (.seq (.reg f30_r0) (.seq (.seq (.reg f30_r1) (.cond (.t (K.ofNat 10)) (.seq (.reg f30_r2) .ret) .skip)) (.seq (.seq (.reg f30_r3) (.block 0 (.loop f30_l0))) (.seq (.reg f30_r8) .ret))))
noncomputable def f30 : EF := ⟨26, [.tmp (K.ofNat 4)], f30_c, none⟩
theorem f30_rs : f30.rs = [.tmp (K.ofNat 4)] := of_eq_true (eq_self _)
section
variable {fs : T EF} {ro : Option K} {h : H} {v u : V} {L : List Int}
def f30_I (h : H) (v u : V) (L : List Int) (i : Nat) (fr : Fr) (h1 : H) : Prop := h1 = h ∧ i ≤ L.length ∧ fr.get (K.ofNat 0) = some (v) ∧ fr.get (K.ofNat 1) = some (u) ∧ fr.get (K.ofNat 5) = some (.i .i64 (i : Int))
theorem f30_same (hv : Sr iE h v L) (hu : Sr iE h u L) (hL : L.length ≤ 1000000) : Ret fs f30 [v, u] h fun r h' => r = .b true ∧ h' = h := by
  apply ret_of rfl
  show W fs none f30_c _ _ _
  unfold f30_c
  have hl1 := hv.len
  have hl2 := hu.len
  have d0 : decide ((L.length : Int) ≠ (L.length : Int)) = false := by simp
  simp (disch := omega) only [f30_r0, f30_r1, f30_r3, w_skip, w_reg, w_seq, w_cond, w_block, seqK_n, ckB_b, cbB_b, true_and, x_nil, x_mv, x_as, x_bin, x_len, kx, rvP_ok, okv_some, ev_t, ev_c, getV_some, putD_some, bin_neq, frame_2, of0, getK_set, Nat.reduceEqDiff, ↓reduceIte, Bool.false_eq_true, hl1, hl2, d0]
  refine W_loop (f30_I h v u L) (fun i => L.length - i) ?_ 0 ⟨rfl, by omega, by simp (disch := omega) only [getK_set, Nat.reduceEqDiff, ↓reduceIte, and_self, Int.natCast_zero]⟩
  rintro i fr h1 ⟨rfl, hi, g0, g1, g5⟩
  unfold f30_l0
  by_cases hlt : i < L.length
  · have d1 : decide ((i : Int) < (L.length : Int)) = true := by simpa using hlt
    obtain ⟨p, hp1, hp2, hp3⟩ := hv.atb i hlt
    obtain ⟨q, hq1, hq2, hq3⟩ := hu.atb i hlt
    have d2 : decide (L[i] ≠ L[i]) = false := by simp
    have hvb := hv.beq
    have hub := hu.beq
    simp (disch := omega) only [f30_r4, f30_r5, f30_r7, w_skip, w_reg, w_draw, w_seq, w_cond, w_block, seqK_n, atK_n, loopK_n, ckB_b, cbB_b, true_and, x_nil, x_mv, x_as, x_bin, x_len, kx, kg, xg_nil, xg_mv, xg_ld, xg_bin, xg_iads, xd_cons, fresh_nil, stK_n, stay_nil, rvP_ok, okv_some, ev_t, ev_c, getV_some, putD_some, bin_add, bin_neq, bin_lss, of1, getK_set, Nat.reduceEqDiff, ↓reduceIte, Bool.false_eq_true, g0, g1, g5, hl1, d1, hp1, hp2, hq1, hq2, iE, d2, fw64]
    exact ⟨i + 1, by omega, rfl, by omega, by simp (disch := omega) only [getK_set, Nat.reduceEqDiff, ↓reduceIte, g0, g1, and_self, Int.natCast_add, Int.natCast_one]⟩
  · have d1 : decide ((i : Int) < (L.length : Int)) = false := by simpa using hlt
    simp (disch := omega) only [f30_r4, f30_r8, f30_rs, w_reg, w_seq, w_cond, w_exit, w_ret, seqK_n, seqK_e, atK_e, loopK_e, ckB_b, cbB_b, retK_r, x_nil, x_mv, x_as, x_bin, x_len, kx, rvP_ok, okv_some, ev_t, ev_c, getV_some, putD_some, bin_lss, oGet_s, readRs_nil, readRs_t, retV_1, Option.some.injEq, exists_eq_left', getK_set, Nat.reduceEqDiff, ↓reduceIte, Bool.false_eq_true, g0, g5, hl1, d1, and_self]
end
end Go.Ev
namespace Go.Ev
open Go Go.RowKit
section
variable {fs : T EF} {ro : Option K} {h : H} {v : V} {L : List Int} {A : List Bool}
end
end Go.Ev
namespace Go.Ev
open Go Go.RowKit
noncomputable def f15_r0 : List EOper := [⟨(some (K.ofNat 4)), none, .as (.c .sn)⟩]
noncomputable def f15_r1 : List EOper := [⟨(some (K.ofNat 5)), none, .as (.c .sn)⟩]
noncomputable def f15_r2 : List EOper := [⟨(some (K.ofNat 6)), none, .mv (.t (K.ofNat 5))⟩, ⟨(some (K.ofNat 7)), none, .mv (.t (K.ofNat 0))⟩, ⟨(some (K.ofNat 8)), none, .mv (.t (K.ofNat 0))⟩, ⟨(some (K.ofNat 9)), none, .len (.t (K.ofNat 8))⟩, ⟨(some (K.ofNat 10)), none, .mv (.t (K.ofNat 1))⟩, ⟨(some (K.ofNat 11)), none, .min (.t (K.ofNat 9)) (.t (K.ofNat 10))⟩, ⟨(some (K.ofNat 12)), none, .slice 1 (.t (K.ofNat 7)) none (some (.t (K.ofNat 11))) none⟩, ⟨(some (K.ofNat 13)), none, .app 1 (.t (K.ofNat 6)) (.t (K.ofNat 12))⟩, ⟨(some (K.ofNat 4)), none, .as (.t (K.ofNat 13))⟩]
noncomputable def f15_c : EC := (.seq (.reg f15_r0) (.seq (.reg f15_r1) (.seq (.reg f15_r2) .ret)))
noncomputable def f15 : EF := ⟨14, [.tmp (K.ofNat 4)], f15_c, none⟩
theorem f15_rs : f15.rs = [.tmp (K.ofNat 4)] := of_eq_true (eq_self _)
section
variable {fs : T EF} {ro : Option K} {h : H} {v : V} {L : List Int} {A : List Bool} {m l : Int}
theorem f15_sr {m : Nat} (hv : Sr iE h v L) (hc : HC h) (hm : m ≤ 1000000) : Ret fs f15 [v, .i .i64 (m : Int)] h fun u h' => Sl iE h' u (L.take m) ∧ Own h.nx.nat u ∧ Grow h.nx.nat h h' := by
  apply ret_of rfl
  show W fs none f15_c _ _ _
  unfold f15_c
  have hmin : min (L.length : Int) (m : Int) = ((min L.length m : Nat) : Int) := by omega
  obtain ⟨v', p1, p2, _⟩ := hv.cut (lo := none) (hi := some (.i .i64 ((min L.length m : Nat) : Int))) (l := 0) (u := min L.length m) bnd_none bnd_i (by omega) (by omega)
  rw [List.drop_zero, show L.take (min L.length m) = L.take m by rw [Nat.min_comm, List.take_eq_take_iff]; omega] at p2
  obtain ⟨v2, h2, q1, q2, q3, q4, _⟩ := Sl.appR (e := iE) (b := h.nx.nat) (v := .sn) (L := []) Sl.nil Own.sn (Nat.le_refl _) p2 hc (by simp; omega)
  simp (disch := omega) only [f15_r0, f15_r1, f15_r2, f15_rs, w_reg, w_seq, w_ret, seqK_n, retK_r, x_nil, x_mv, x_as, x_slice, sliceV_eq, Option.map_none, Option.map_some, x_len, x_app, x_min, kx, rvP_ok, ev_t, ev_c, getV_some, putD_some, oGet_s, min_ii, readRs_nil, readRs_t, retV_1, frame_2, Option.some.injEq, exists_eq_left', getK_set, Nat.reduceEqDiff, ↓reduceIte, hv.len, hmin, p1, q1]
  exact ⟨by simpa using q2, q3, q4⟩
end
end Go.Ev
namespace Go.Ev
open Go Go.RowKit
theorem rem_k (x : Int) {k : Nat} (hk : 0 < k) (hk2 : k ≤ 1000) : ∃ q : Nat, q < k ∧ fw .i64 ((fw .u64 x).tmod (k : Int)) = (q : Int) := by
  have h0 : 0 ≤ fw .u64 x := by rw [fw_eq]; exact Int.emod_nonneg _ (by decide)
  obtain ⟨m, hm⟩ := Int.eq_ofNat_of_zero_le h0
  have h1 : (fw .u64 x).tmod (k : Int) = ((m % k : Nat) : Int) := by rw [hm]; rfl
  have h2 : m % k < k := Nat.mod_lt _ hk
  exact ⟨m % k, by omega, by rw [h1, fw64 (by omega) (by omega)]⟩
section
variable {fs : T EF} {ro : Option K}
end
end Go.Ev
namespace Go.Ev
open Go Go.RowKit
noncomputable def f62_r0 : List EOper := [⟨(some (K.ofNat 6)), none, .as (.c (.b false))⟩]
noncomputable def f62_r1 : List EOper := [⟨(some (K.ofNat 12)), none, .mv (.t (K.ofNat 2))⟩, ⟨(some (K.ofNat 13)), none, .len (.t (K.ofNat 12))⟩, ⟨(some (K.ofNat 14)), none, .mv (.t (K.ofNat 0))⟩, ⟨(some (K.ofNat 15)), none, .bin .neq (.t (K.ofNat 13)) (.t (K.ofNat 14))⟩]
noncomputable def f62_r2 : List EOper := [⟨(some (K.ofNat 6)), none, .as (.c (.b false))⟩]
noncomputable def f62_r3 : List EOper := [⟨(some (K.ofNat 16)), none, .mv (.t (K.ofNat 2))⟩, ⟨(some (K.ofNat 17)), none, .len (.t (K.ofNat 16))⟩, ⟨(some (K.ofNat 18)), none, .mv (.c (.i .i64 (.ofNat 0)))⟩]
noncomputable def f62_r4 : List EOper := [⟨(some (K.ofNat 19)), none, .bin .lss (.t (K.ofNat 18)) (.t (K.ofNat 17))⟩]
noncomputable def f62_r5 : List EOper := [⟨(some (K.ofNat 20)), none, .mv (.t (K.ofNat 18))⟩, ⟨(some (K.ofNat 21)), none, .iads 1 (.t (K.ofNat 16)) (.t (K.ofNat 18))⟩, ⟨(some (K.ofNat 22)), none, .ld (.t (K.ofNat 21))⟩, ⟨(some (K.ofNat 7)), none, .as (.t (K.ofNat 20))⟩, ⟨(some (K.ofNat 8)), none, .as (.t (K.ofNat 22))⟩]
noncomputable def f62_r6 : List EOper := [⟨(some (K.ofNat 23)), none, .mv (.t (K.ofNat 8))⟩, ⟨(some (K.ofNat 24)), none, .bin .lss (.t (K.ofNat 23)) (.c (.i .i64 (.ofNat 0)))⟩, ⟨(some (K.ofNat 25)), none, .mv (.t (K.ofNat 24))⟩, ⟨(some (K.ofNat 26)), (some ((K.ofNat 25), false)), .mv (.t (K.ofNat 8))⟩, ⟨(some (K.ofNat 27)), (some ((K.ofNat 25), false)), .mv (.t (K.ofNat 1))⟩, ⟨(some (K.ofNat 28)), (some ((K.ofNat 25), false)), .len (.t (K.ofNat 27))⟩, ⟨(some (K.ofNat 29)), (some ((K.ofNat 25), false)), .bin .gtr (.t (K.ofNat 26)) (.t (K.ofNat 28))⟩, ⟨(some (K.ofNat 30)), none, .pick (.t (K.ofNat 25)) (.c (.b true)) (.t (K.ofNat 29))⟩, ⟨(some (K.ofNat 31)), none, .mv (.t (K.ofNat 30))⟩, ⟨(some (K.ofNat 32)), (some ((K.ofNat 31), false)), .mv (.t (K.ofNat 2))⟩, ⟨(some (K.ofNat 33)), (some ((K.ofNat 31), false)), .mv (.t (K.ofNat 7))⟩, ⟨(some (K.ofNat 34)), (some ((K.ofNat 31), false)), .slice 1 (.t (K.ofNat 32)) none (some (.t (K.ofNat 33))) none⟩, ⟨(some (K.ofNat 35)), (some ((K.ofNat 31), false)), .mv (.t (K.ofNat 8))⟩, ⟨(some (K.ofNat 36)), (some ((K.ofNat 31), false)), .call (.c (.fn (K.ofNat 99) [])) [(.t (K.ofNat 34)), (.t (K.ofNat 35))]⟩, ⟨(some (K.ofNat 37)), none, .pick (.t (K.ofNat 31)) (.c (.b true)) (.t (K.ofNat 36))⟩]
noncomputable def f62_r7 : List EOper := [⟨(some (K.ofNat 6)), none, .as (.c (.b false))⟩]
noncomputable def f62_r8 : List EOper := [⟨(some (K.ofNat 38)), none, .bin .add (.t (K.ofNat 18)) (.c (.i .i64 (.ofNat 1)))⟩, ⟨(some (K.ofNat 18)), none, .mv (.t (K.ofNat 38))⟩]
noncomputable def f62_l0 : EC := (.seq (.reg f62_r4) (.seq (.cond (.t (K.ofNat 19)) .skip (.exit 0)) (.seq (.block 1 (.seq (.reg f62_r5) (.seq (.reg f62_r6) (.cond (.t (K.ofNat 37)) (.seq (.reg f62_r7) .ret) .skip)))) (.reg f62_r8))))
noncomputable def f62_r9 : List EOper := [⟨(some (K.ofNat 9)), none, .alloc 26 (List.replicate 26 (.b false))⟩]
noncomputable def f62_r10 : List EOper := [⟨(some (K.ofNat 39)), none, .mv (.t (K.ofNat 1))⟩, ⟨(some (K.ofNat 40)), none, .len (.t (K.ofNat 39))⟩, ⟨(some (K.ofNat 41)), none, .mv (.c (.i .i64 (.ofNat 0)))⟩]
noncomputable def f62_r11 : List EOper := [⟨(some (K.ofNat 42)), none, .bin .lss (.t (K.ofNat 41)) (.t (K.ofNat 40))⟩]
noncomputable def f62_r12 : List EOper := [⟨(some (K.ofNat 43)), none, .iads 2 (.t (K.ofNat 39)) (.t (K.ofNat 41))⟩, ⟨(some (K.ofNat 44)), none, .ldn 2 (.t (K.ofNat 43))⟩, ⟨(some (K.ofNat 11)), none, .alloc 2 [(.i .i64 (.ofNat 0)), (.i .i64 (.ofNat 0))]⟩, ⟨none, none, .st 2 (.t (K.ofNat 11)) (.t (K.ofNat 44))⟩]
noncomputable def f62_r13 : List Stage := [⟨[⟨(some (K.ofNat 45)), none, .mv (.t (K.ofNat 2))⟩, ⟨(some (K.ofNat 46)), none, .iadr 2 1 (.t (K.ofNat 11)) (.c (.i .i64 (.ofNat 0)))⟩, ⟨(some (K.ofNat 47)), none, .ld (.t (K.ofNat 46))⟩, ⟨(some (K.ofNat 48)), none, .iads 1 (.t (K.ofNat 45)) (.t (K.ofNat 47))⟩, ⟨(some (K.ofNat 49)), none, .ld (.t (K.ofNat 48))⟩, ⟨(some (K.ofNat 50)), none, .mv (.t (K.ofNat 2))⟩, ⟨(some (K.ofNat 51)), none, .iadr 2 1 (.t (K.ofNat 11)) (.c (.i .i64 (.ofNat 1)))⟩, ⟨(some (K.ofNat 52)), none, .ld (.t (K.ofNat 51))⟩, ⟨(some (K.ofNat 53)), none, .iads 1 (.t (K.ofNat 50)) (.t (K.ofNat 52))⟩, ⟨(some (K.ofNat 54)), none, .ld (.t (K.ofNat 53))⟩], [], (some ⟨(some (K.ofNat 55)), none, .call (.c (.fn (K.ofNat 101) [])) [(.t (K.ofNat 49)), (.t (K.ofNat 54))]⟩), []⟩, ⟨[], [], (some ⟨(some (K.ofNat 56)), none, .call (.c (.fn (K.ofNat 100) [])) [(.t (K.ofNat 9)), (.t (K.ofNat 55))]⟩), []⟩, ⟨[⟨(some (K.ofNat 57)), none, .not (.t (K.ofNat 56))⟩], [], none, []⟩]
noncomputable def f62_r14 : List EOper := [⟨(some (K.ofNat 6)), none, .as (.c (.b false))⟩]
noncomputable def f62_r15 : List EOper := [⟨(some (K.ofNat 58)), none, .bin .add (.t (K.ofNat 41)) (.c (.i .i64 (.ofNat 1)))⟩, ⟨(some (K.ofNat 41)), none, .mv (.t (K.ofNat 58))⟩]
noncomputable def f62_l1 : EC := (.seq (.reg f62_r11) (.seq (.cond (.t (K.ofNat 42)) .skip (.exit 2)) (.seq (.block 3 (.seq (.reg f62_r12) (.seq (.draw f62_r13) (.cond (.t (K.ofNat 57)) (.seq (.reg f62_r14) .ret) .skip)))) (.reg f62_r15))))
noncomputable def f62_r16 : List EOper := [⟨(some (K.ofNat 6)), none, .as (.c (.b true))⟩]
noncomputable def f62_c : EC := (.seq (.reg f62_r0) (.seq (.seq (.reg f62_r1) (.cond (.t (K.ofNat 15)) (.seq (.reg f62_r2) .ret) .skip)) (.seq (.seq (.reg f62_r3) (.block 0 (.loop f62_l0))) (.seq (.reg f62_r9) (.seq (.seq (.reg f62_r10) (.block 2 (.loop f62_l1))) (.seq (.reg f62_r16) .ret))))))
noncomputable def f62 : EF := ⟨59, [.tmp (K.ofNat 6)], f62_c, none⟩
theorem f62_rs : f62.rs = [.tmp (K.ofNat 6)] := of_eq_true (eq_self _)
/-- The difference at an edge. -/
def dfE (L : List Int) (e : Int × Int) : Int := absD (L.getD e.1.toNat 0) (L.getD e.2.toNat 0)
def labOk1 (m : Int) (L : List Int) (j : Nat) : Bool := decide (0 ≤ L.getD j 0) && (decide (L.getD j 0 ≤ m) && !decide (L.getD j 0 ∈ L.take j))
def labsOk (m : Int) (L : List Int) : Bool := (List.range L.length).all (labOk1 m L)
def difOk1 (E : List (Int × Int)) (L : List Int) (j : Nat) : Bool := !decide (dfE L (E.getD j (0, 0)) ∈ (E.take j).map (dfE L))
def difsOk (E : List (Int × Int)) (L : List Int) : Bool := (List.range E.length).all (difOk1 E L)
/-- Are these graceful labels? -/
def grB (n : Int) (E : List (Int × Int)) (L : List Int) : Bool := decide ((L.length : Int) = n) && (labsOk (E.length : Int) L && difsOk E L)
theorem all_no {n j : Nat} {f : Nat → Bool} (hj : j < n) (h : f j = false) : (List.range n).all f = false := by
  rw [Bool.eq_false_iff]
  intro hr
  have := List.all_eq_true.1 hr j (by simpa using hj)
  rw [h] at this; cases this
theorem all_yes {n : Nat} {f : Nat → Bool} (h : ∀ j, j < n → f j = true) : (List.range n).all f = true := List.all_eq_true.2 fun j hj => h j (by simpa using hj)
/-- Which differences were met. -/
def Met (E : List (Int × Int)) (L : List Int) (j : Nat) (B : List Bool) : Prop := ∀ d (h : d < B.length), B[d] = true ↔ (d : Int) ∈ (E.take j).map (dfE L)
theorem Met.zero {E : List (Int × Int)} {L : List Int} {k : Nat} : Met E L 0 (List.replicate k false) := fun d h => by simp
theorem Met.succ {E : List (Int × Int)} {L : List Int} {j d : Nat} {B : List Bool} (hm : Met E L j B) (hj : j < E.length) (hd : dfE L E[j] = (d : Int)) (_ : d < B.length) : Met E L (j + 1) (B.set d true) := fun k hk => by
  rw [List.take_succ_eq_append_getElem hj, List.map_append, List.mem_append, List.map_cons, List.map_nil, List.mem_singleton, hd]
  have hk' : k < B.length := by simpa using hk
  rw [List.getElem_set]
  by_cases e : d = k
  · subst e; simp
  · rw [if_neg e, hm k hk']
    constructor
    · exact fun h => .inl h
    · rintro (h | h)
      · exact h
      · exact absurd (by omega) e
theorem Met.dif {E : List (Int × Int)} {L : List Int} {j d : Nat} {B : List Bool} (hm : Met E L j B) (hj : j < E.length) (hd : dfE L E[j] = (d : Int)) (hdB : d < B.length) : difOk1 E L j = !B[d] := by
  have hg : E.getD j (0, 0) = E[j] := by simp [List.getD_eq_getElem?_getD, hj]
  unfold difOk1
  rw [hg, hd]
  have := hm d hdB
  cases hb : B[d] with
  | true => rw [decide_eq_true (this.1 hb)]
  | false => rw [decide_eq_false (fun h => by rw [this.2 h] at hb; cases hb)]
theorem labs_in {E : List (Int × Int)} {L : List Int} (h : labsOk (E.length : Int) L = true) : LabOk E L := fun x hx => by
  obtain ⟨j, hj, rfl⟩ := List.getElem_of_mem hx
  have := List.all_eq_true.1 h j (by simpa using hj)
  unfold labOk1 at this
  have hg : L.getD j 0 = L[j] := by simp [List.getD_eq_getElem?_getD, hj]
  rw [hg] at this
  simp only [Bool.and_eq_true, decide_eq_true_eq] at this
  exact ⟨this.1, this.2.1⟩
theorem dfE_in {E : List (Int × Int)} {L : List Int} {n : Nat} (hE : EdgesOk n E) (hL : LabOk E L) (hn : L.length = n) {j : Nat} (hj : j < E.length) :
    ∃ a b d : Nat, ∃ (ha : a < L.length) (hb : b < L.length), E[j].1 = (a : Int) ∧ E[j].2 = (b : Int) ∧ a < b ∧ dfE L E[j] = (d : Int) ∧ absD L[a] L[b] = (d : Int) ∧ d ≤ E.length ∧ (0 ≤ L[a] ∧ L[a] ≤ 10) ∧ (0 ≤ L[b] ∧ L[b] ≤ 10) := by
  obtain ⟨h1, h2, h3⟩ := hE
  obtain ⟨e0, e1, e2⟩ := h3 E[j] (List.getElem_mem hj)
  have ha : E[j].1.toNat < L.length := by omega
  have hb : E[j].2.toNat < L.length := by omega
  obtain ⟨p1, p2⟩ := hL _ (List.getElem_mem ha)
  obtain ⟨q1, q2⟩ := hL _ (List.getElem_mem hb)
  have hd : dfE L E[j] = absD L[E[j].1.toNat] L[E[j].2.toNat] := by
    unfold dfE
    rw [List.getD_eq_getElem?_getD, List.getD_eq_getElem?_getD, List.getElem?_eq_getElem ha, List.getElem?_eq_getElem hb]; rfl
  have hr : 0 ≤ absD L[E[j].1.toNat] L[E[j].2.toNat] ∧ absD L[E[j].1.toNat] L[E[j].2.toNat] ≤ (E.length : Int) := by unfold absD; split <;> omega
  refine ⟨_, _, (absD L[E[j].1.toNat] L[E[j].2.toNat]).toNat, ha, hb, by omega, by omega, by omega, by rw [hd]; omega, by omega, by omega, ⟨p1, by omega⟩, q1, by omega⟩
structure CallsGr (fs : T EF) : Prop where
  c62 : fs.get (K.ofNat 62) = some f62
  c99 : fs.get (K.ofNat 99) = some f99
  c100 : fs.get (K.ofNat 100) = some f100
  c101 : fs.get (K.ofNat 101) = some f101
  c102 : fs.get (K.ofNat 102) = some f102
  c130 : fs.get (K.ofNat 130) = some f130
section
variable {fs : T EF} {ro : Option K} {h : H} {v w : V} {n : Nat} {E : List (Int × Int)} {L : List Int}
def f62_I (h : H) (n : Nat) (v w : V) (E : List (Int × Int)) (L : List Int) (j : Nat) (fr : Fr) (h1 : H) : Prop := j ≤ L.length ∧ h1 = h ∧ (∀ i, i < j → labOk1 (E.length : Int) L i = true) ∧ fr.get (K.ofNat 0) = some (.i .i64 (n : Int)) ∧ fr.get (K.ofNat 1) = some (v) ∧ fr.get (K.ofNat 2) = some (w) ∧ fr.get (K.ofNat 16) = some (w) ∧ fr.get (K.ofNat 17) = some (.i .i64 (L.length : Int)) ∧ fr.get (K.ofNat 18) = some (.i .i64 (j : Int))
def f62_J (h : H) (v w : V) (E : List (Int × Int)) (L : List Int) (j : Nat) (fr : Fr) (h1 : H) : Prop := j ≤ E.length ∧ Grow h.nx.nat h h1 ∧ h.nx.nat < h1.nx.nat ∧ (∃ B : List Bool, B.length = 26 ∧ Met E L j B ∧ Ar V.b h1 h.nx B) ∧ (∀ i, i < j → difOk1 E L i = true) ∧ fr.get (K.ofNat 2) = some (w) ∧ fr.get (K.ofNat 9) = some (.p h.nx 0) ∧ fr.get (K.ofNat 39) = some (v) ∧ fr.get (K.ofNat 40) = some (.i .i64 (E.length : Int)) ∧ fr.get (K.ofNat 41) = some (.i .i64 (j : Int))
theorem f62_ret (k : CallsGr fs) (hv : Srp h v E) (hw : Sr iE h w L) (hc : HC h) (hE : EdgesOk n E) (hL : L.length ≤ 1000000) : Ret fs f62 [.i .i64 (n : Int), v, w] h fun r h' => r = .b (grB (n : Int) E L) ∧ Grow h.nx.nat h h' := by
  apply ret_of rfl
  show W fs none f62_c _ _ _
  unfold f62_c
  have hl := hw.len
  by_cases hn : L.length = n
  · have d0 : decide ((L.length : Int) ≠ (n : Int)) = false := by simp; omega
    have e0 : decide ((L.length : Int) = (n : Int)) = true := by simp; omega
    simp (disch := omega) only [f62_r0, f62_r1, f62_r3, w_skip, w_reg, w_seq, w_cond, w_block, seqK_n, ckB_b, cbB_b, true_and, x_nil, x_mv, x_as, x_bin, x_len, kx, rvP_ok, okv_some, ev_t, ev_c, getV_some, putD_some, bin_neq, frame_3, of0, getK_set, Nat.reduceEqDiff, ↓reduceIte, Bool.false_eq_true, hl, d0]
    refine W_loop (f62_I h n v w E L) (fun j => L.length - j) ?_ 0 ⟨by omega, rfl, fun i hi => by omega, by simp (disch := omega) only [getK_set, Nat.reduceEqDiff, ↓reduceIte, and_self, Int.natCast_zero]⟩
    rintro j fr h1 ⟨hj, rfl, hok, g0, g1, g2, g16, g17, g18⟩
    unfold f62_l0
    by_cases hlt : j < L.length
    · have d1 : decide ((j : Int) < (L.length : Int)) = true := by simpa using hlt
      obtain ⟨p, hp1, hp2⟩ := hw.at j hlt
      have hg : L.getD j 0 = L[j] := by simp [List.getD_eq_getElem?_getD, hlt]
      have bad : labOk1 (E.length : Int) L j = false → grB (n : Int) E L = false := fun hb => by
        unfold grB labsOk
        rw [all_no hlt hb]; simp
      cases d2 : decide (L[j] < 0) with
      | true =>
        have hb : labOk1 (E.length : Int) L j = false := by
          unfold labOk1; rw [hg, decide_eq_false (by have := of_decide_eq_true d2; omega)]; rfl
        simp (disch := omega) only [f62_r4, f62_r5, f62_r6, f62_r7, f62_rs, w_skip, w_reg, w_seq, w_cond, w_block, w_ret, seqK_n, seqK_r, atK_r, loopK_r, ckB_b, cbB_b, okG_b, asG_f, true_and, retK_r, x_nil, x_g, x_mv, x_as, x_pick, x_ld, x_bin, x_iads, kx, rvP_ok, okv_some, ev_t, ev_c, getV_some, putD_some, bin_lss, pick_b, oGet_s, readRs_nil, readRs_t, retV_1, of0, Option.some.injEq, exists_eq_left', getK_set, Nat.reduceEqDiff, ↓reduceIte, Bool.false_eq_true, Bool.not_true, g16, g17, g18, d1, hp1, hp2, iE, d2, bad hb, true_and]
        exact Grow.refl _ _
      | false =>
      have n2 := of_decide_eq_false d2
      cases d3 : decide (L[j] > (E.length : Int)) with
      | true =>
        have hb : labOk1 (E.length : Int) L j = false := by
          unfold labOk1; rw [hg, decide_eq_false (by have := of_decide_eq_true d3; omega : ¬ L[j] ≤ (E.length : Int))]; simp
        simp (disch := omega) only [f62_r4, f62_r5, f62_r6, f62_r7, f62_rs, w_skip, w_reg, w_seq, w_cond, w_block, w_ret, seqK_n, seqK_r, atK_r, loopK_r, ckB_b, cbB_b, okG_b, asG_f, true_and, retK_r, x_nil, x_g, x_mv, x_as, x_pick, x_ld, x_bin, x_iads, x_len, kx, rvP_ok, okv_some, ev_t, ev_c, getV_some, putD_some, bin_lss, bin_gtr, pick_b, oGet_s, readRs_nil, readRs_t, retV_1, of0, Option.some.injEq, exists_eq_left', getK_set, Nat.reduceEqDiff, ↓reduceIte, Bool.false_eq_true, Bool.not_true, Bool.not_false, g1, g16, g17, g18, hv.len, d1, hp1, hp2, iE, d2, d3, bad hb, true_and]
        exact Grow.refl _ _
      | false =>
      have n3 := of_decide_eq_false d3
      obtain ⟨v', p1, p2, _⟩ := hw.cut (lo := none) (hi := some (.i .i64 (j : Int))) (l := 0) (u := j) bnd_none bnd_i (by omega) (by omega)
      rw [List.drop_zero] at p2
      simp (disch := omega) only [f62_r4, f62_r5, f62_r6, w_skip, w_reg, w_seq, w_cond, w_block, seqK_n, ckB_b, cbB_b, okG_b, asG_f, true_and, x_nil, x_g, x_mv, x_as, x_pick, x_ld, x_bin, x_slice, sliceV_eq, Option.map_none, Option.map_some, x_iads, x_call, x_len, kx, rvP_ok, okv_some, ev_t, ev_c, evs_nil, evs_cons, getV_some, putD_some, bin_lss, bin_gtr, pick_b, of0, getK_set, Nat.reduceEqDiff, ↓reduceIte, Bool.false_eq_true, Bool.not_false, g1, g2, g16, g17, g18, hv.len, d1, hp1, hp2, iE, d2, d3, p1]
      refine (callP_0 (ef := f99) k.c99 rfl (f99_ret k.c130 p2 (by simp; omega))).mono ?_
      rintro r h2 ⟨rfl, rfl⟩
      have hlo : labOk1 (E.length : Int) L j = !decide (L[j] ∈ L.take j) := by
        unfold labOk1
        rw [hg, decide_eq_true (by omega : 0 ≤ L[j]), decide_eq_true (by omega : L[j] ≤ (E.length : Int))]; rfl
      cases hm : decide (L[j] ∈ L.take j) with
      | true =>
        rw [hm] at hlo
        simp (disch := omega) only [f62_r7, f62_rs, w_reg, w_seq, w_cond, w_ret, seqK_n, seqK_r, atK_r, loopK_r, ckB_b, cbB_b, true_and, retK_r, x_nil, x_as, x_pick, kx, rvP_ok, ev_t, ev_c, getV_some, putD_some, pick_b, oGet_s, readRs_nil, readRs_t, retV_1, Option.some.injEq, exists_eq_left', getK_set, Nat.reduceEqDiff, ↓reduceIte, Bool.false_eq_true, bad hlo, true_and]
        exact Grow.refl _ _
      | false =>
        rw [hm] at hlo
        simp (disch := omega) only [f62_r8, w_skip, w_reg, w_cond, seqK_n, atK_n, loopK_n, ckB_b, cbB_b, true_and, x_nil, x_mv, x_pick, x_bin, kx, rvP_ok, okv_some, ev_t, ev_c, getV_some, putD_some, bin_add, pick_b, of1, getK_set, Nat.reduceEqDiff, ↓reduceIte, Bool.false_eq_true, g18, fw64]
        refine ⟨j + 1, by omega, by omega, rfl, fun i hi => ?_, by simp (disch := omega) only [getK_set, Nat.reduceEqDiff, ↓reduceIte, g0, g1, g2, g16, g17, and_self, Int.natCast_add, Int.natCast_one]⟩
        by_cases e : i = j
        · rw [e]; exact hlo
        · exact hok i (by omega)
    · have d1 : decide ((j : Int) < (L.length : Int)) = false := by simpa using hlt
      have ej : j = L.length := by omega
      have hlabs : labsOk (E.length : Int) L = true := all_yes fun i hi => hok i (by omega)
      have hlin := labs_in hlabs
      have heq : grB (n : Int) E L = difsOk E L := by unfold grB; rw [e0, hlabs]; rfl
      have n1 := nx_new h1 (.cells 26 (fls.map V.b))
      have g1' := Grow.new (Nat.le_refl h1.nx.nat) (.cells 26 (fls.map V.b))
      have hfl : (List.replicate 26 (V.b false)) = fls.map V.b := rfl
      have eA : Ar V.b (h1.new (.cells 26 (fls.map V.b))) h1.nx fls := get_new_same
      simp (disch := omega) only [f62_r4, f62_r9, f62_r10, w_reg, w_seq, w_cond, w_block, w_exit, seqK_n, seqK_e, atK_e, loopK_e, ckB_b, cbB_b, true_and, x_nil, x_mv, x_alloc, x_bin, x_len, kx, rvP_ok, okv_some, ev_t, ev_c, getV_some, putD_some, bin_lss, of0, getK_set, Nat.reduceEqDiff, ↓reduceIte, Bool.false_eq_true, g1, g17, g18, d1, hv.len, hfl]
      refine W_loop (f62_J h1 v w E L) (fun j => E.length - j) ?_ 0 ⟨by omega, g1', by omega, ⟨fls, rfl, Met.zero, eA⟩, fun i hi => by omega, by simp (disch := omega) only [getK_set, Nat.reduceEqDiff, ↓reduceIte, g2, and_self, Int.natCast_zero]⟩
      clear g0 g1 g2 g16 g17 g18 eA d1
      rintro j fr h2 ⟨hj, hG, hnx, ⟨B, hB, hM, hA⟩, hok2, g2, g9, g39, g40, g41⟩
      have hc2 := hG.hc hc
      have hv2 := hv.grow hc hG
      unfold f62_l1
      by_cases hlt2 : j < E.length
      · have d1 : decide ((j : Int) < (E.length : Int)) = true := by simpa using hlt2
        obtain ⟨ide, q, hp1, hp2, _, _⟩ := hv2.at2 hlt2
        obtain ⟨a, b, d, ha, hb, ea, eb, hab, ed, ead, hdE, la, lb⟩ := dfE_in hE hlin hn hlt2
        have hd26 : d < 26 := by have := hE.1; omega
        have hdm := hM.dif hlt2 ed (by omega)
        have hst2 : storeV (h2.new (.cells 2 zz)) 2 (.p h2.nx 0) (.agg [.i .i64 E[j].1, .i .i64 E[j].2]) = .ok undefV ((h2.new (.cells 2 zz)).put h2.nx (.cells 2 [.i .i64 E[j].1, .i .i64 E[j].2])) := st2 (a := .i .i64 (.ofNat 0)) (b := .i .i64 (.ofNat 0)) get_new_same
        have nx1 := nx_new h2 (.cells 2 zz)
        have gA : Grow h2.nx.nat h2 ((h2.new (.cells 2 zz)).put h2.nx (.cells 2 [.i .i64 E[j].1, .i .i64 E[j].2])) := (Grow.new (Nat.le_refl _) _).trans (Grow.put (Nat.le_refl _) (by omega) _)
        have c12 : ((h2.new (.cells 2 zz)).put h2.nx (.cells 2 [.i .i64 E[j].1, .i .i64 E[j].2])).get h2.nx = .cells 2 [.i .i64 E[j].1, .i .i64 E[j].2] := get_put_same
        have hzz : ([.i .i64 0, .i .i64 0] : List V) = zz := rfl
        generalize hh2 : (h2.new (.cells 2 zz)).put h2.nx (.cells 2 [.i .i64 E[j].1, .i .i64 E[j].2]) = h3 at *
        have hG3 := hG.trans (gA.low hG.nx)
        have hc3 := hG3.hc hc
        have hw3 := hw.grow hc hG3
        have l0 : loadV h3 (.p h2.nx (0 + 0 * 1)) one? = .ok (.i .i64 E[j].1) h3 := load_p c12 rfl
        have l1 : loadV h3 (.p h2.nx (0 + 1 * 1)) one? = .ok (.i .i64 E[j].2) h3 := load_p c12 rfl
        obtain ⟨s, hs1, hs2, hs3⟩ := hw3.atb a ha
        obtain ⟨t, ht1, ht2, ht3⟩ := hw3.atb b hb
        have hwb := hw.beq
        rw [ea] at l0
        rw [eb] at l1
        rw [ea, eb] at hst2 hp2
        simp (disch := omega) only [f62_r11, f62_r12, f62_r13, w_skip, w_reg, w_draw, w_seq, w_cond, w_block, seqK_n, ckB_b, cbB_b, true_and, x_nil, x_alloc, x_ldn, x_st, x_bin, x_iads, x_call, kx, kg, xg_nil, xg_mv, xg_ld, xg_iadr, xg_iads, xd_cons, fresh_nil, stK_s, stay_nil, rvP_ok, okv_some, ev_t, ev_c, evs_nil, evs_cons, getV_some, putD_some, putD_none, bin_lss, onP_p, of0, of1, getK_set, Nat.reduceEqDiff, ↓reduceIte, ix2_0, ix2_1, g2, g39, g40, g41, d1, hp1, hp2, hzz, hst2, l0, l1, hs1, hs2, ht1, ht2, iE]
        refine (callP_0 (ef := f101) k.c101 rfl (f101_ret (a := L[a]) (b := L[b]) k.c102 hc3 (by omega) (by omega))).mono ?_
        rintro r h4 ⟨rfl, gB⟩
        have hG4 := hG3.trans (gB.low hG3.nx)
        have hn3 := gA.nx
        have hA4 : Ar V.b h4 h1.nx B := by
          unfold Ar
          rw [gB.old _ (by omega), gA.old _ (by omega)]; exact hA
        rw [ead]
        simp (disch := omega) only [true_and, x_nil, x_call, kx, xg_nil, xd_cons, fresh_nil, stK_s, stay_nil, ev_t, ev_c, evs_nil, evs_cons, getV_some, putD_some, getK_set, Nat.reduceEqDiff, ↓reduceIte, g9]
        refine (callP_0 (ef := f100) k.c100 rfl (f100_ret hA4 hB hd26)).mono ?_
        rintro r h5 ⟨rfl, rfl⟩
        cases hbd : B[d]'(by omega) with
        | true =>
          rw [hbd] at hdm
          have hno : grB (n : Int) E L = false := by rw [heq]; unfold difsOk; exact all_no hlt2 hdm
          simp (disch := omega) only [f62_r14, f62_rs, w_reg, w_seq, w_cond, w_ret, seqK_n, seqK_r, atK_r, loopK_r, ckB_b, cbB_b, true_and, retK_r, x_nil, x_as, kx, kg, xg_nil, xg_not, xd_cons, fresh_nil, stK_n, stay_nil, rvP_ok, ev_t, ev_c, getV_some, putD_some, onB_b, oGet_s, readRs_nil, readRs_t, retV_1, Option.some.injEq, exists_eq_left', getK_set, ↓reduceIte, Bool.not_true, Bool.not_false, hno, Bool.not_true, Bool.not_false, true_and]
          exact hG4
        | false =>
          rw [hbd] at hdm
          have hn4 := gB.nx
          have hE10 : E.length ≤ 10 := hE.1
          simp (disch := omega) only [f62_r15, w_skip, w_reg, w_cond, seqK_n, atK_n, loopK_n, ckB_b, cbB_b, true_and, x_nil, x_mv, x_bin, kx, kg, xg_nil, xg_not, xd_cons, fresh_nil, stK_n, stay_nil, rvP_ok, okv_some, ev_t, ev_c, getV_some, putD_some, bin_add, onB_b, of1, getK_set, Nat.reduceEqDiff, ↓reduceIte, Bool.false_eq_true, Bool.not_true, Bool.not_false, g41, Bool.not_true, Bool.not_false, fw64]
          refine ⟨j + 1, by omega, by omega, hG4.trans (Grow.put (Nat.le_refl _) (by omega) _), by show h1.nx.nat < h4.nx.nat; omega, ⟨B.set d true, by simpa using hB, hM.succ hlt2 ed (by omega), ?_⟩, fun i hi => ?_, by simp (disch := omega) only [getK_set, Nat.reduceEqDiff, ↓reduceIte, g2, g9, g39, g40, and_self, Int.natCast_add, Int.natCast_one]⟩
          · show (h4.put _ _).get _ = .cells (B.set d true).length _
            rw [get_put_same, List.length_set, hB]
          · by_cases e : i = j
            · rw [e]; exact hdm
            · exact hok2 i (by omega)
      · have d1 : decide ((j : Int) < (E.length : Int)) = false := by simpa using hlt2
        have hdf : difsOk E L = true := all_yes fun i hi => hok2 i (by omega)
        simp (disch := omega) only [f62_r11, f62_r16, f62_rs, w_reg, w_seq, w_cond, w_exit, w_ret, seqK_n, seqK_e, atK_e, loopK_e, ckB_b, cbB_b, true_and, retK_r, x_nil, x_as, x_bin, kx, rvP_ok, okv_some, ev_t, ev_c, getV_some, putD_some, bin_lss, oGet_s, readRs_nil, readRs_t, retV_1, Option.some.injEq, exists_eq_left', getK_set, ↓reduceIte, Bool.false_eq_true, g40, g41, d1, heq, hdf, true_and]
        exact hG
  · have d0 : decide ((L.length : Int) ≠ (n : Int)) = true := by simp; omega
    have e0 : grB (n : Int) E L = false := by unfold grB; rw [decide_eq_false (by omega)]; rfl
    simp (disch := omega) only [f62_r0, f62_r1, f62_r2, f62_rs, w_reg, w_seq, w_cond, w_ret, seqK_n, seqK_r, ckB_b, cbB_b, true_and, retK_r, x_nil, x_mv, x_as, x_bin, x_len, kx, rvP_ok, okv_some, ev_t, ev_c, getV_some, putD_some, bin_neq, oGet_s, readRs_nil, readRs_t, retV_1, frame_3, Option.some.injEq, exists_eq_left', getK_set, Nat.reduceEqDiff, ↓reduceIte, hl, d0, e0, true_and]
    exact Grow.refl _ _
end
end Go.Ev
namespace Go.Ev
open Go Go.RowKit
noncomputable def f32_r0 : List EOper := [⟨(some (K.ofNat 6)), none, .as (.c (.b false))⟩]
noncomputable def f32_r1 : List EOper := [⟨(some (K.ofNat 13)), none, .mv (.t (K.ofNat 2))⟩, ⟨(some (K.ofNat 14)), none, .len (.t (K.ofNat 13))⟩, ⟨(some (K.ofNat 15)), none, .mv (.t (K.ofNat 0))⟩, ⟨(some (K.ofNat 16)), none, .bin .neq (.t (K.ofNat 14)) (.t (K.ofNat 15))⟩]
noncomputable def f32_r2 : List EOper := [⟨(some (K.ofNat 6)), none, .as (.c (.b false))⟩]
noncomputable def f32_r3 : List EOper := [⟨(some (K.ofNat 17)), none, .mv (.t (K.ofNat 1))⟩, ⟨(some (K.ofNat 18)), none, .len (.t (K.ofNat 17))⟩, ⟨(some (K.ofNat 7)), none, .as (.t (K.ofNat 18))⟩]
noncomputable def f32_r4 : List EOper := [⟨(some (K.ofNat 8)), none, .as (.c (.i .i64 (.ofNat 0)))⟩]
noncomputable def f32_r5 : List EOper := [⟨(some (K.ofNat 19)), none, .mv (.t (K.ofNat 8))⟩, ⟨(some (K.ofNat 20)), none, .mv (.t (K.ofNat 0))⟩, ⟨(some (K.ofNat 21)), none, .bin .lss (.t (K.ofNat 19)) (.t (K.ofNat 20))⟩]
noncomputable def f32_r6 : List EOper := [⟨(some (K.ofNat 24)), none, .mv (.t (K.ofNat 2))⟩, ⟨(some (K.ofNat 25)), none, .mv (.t (K.ofNat 8))⟩, ⟨(some (K.ofNat 26)), none, .iads 1 (.t (K.ofNat 24)) (.t (K.ofNat 25))⟩, ⟨(some (K.ofNat 27)), none, .ld (.t (K.ofNat 26))⟩, ⟨(some (K.ofNat 28)), none, .bin .lss (.t (K.ofNat 27)) (.c (.i .i64 (.ofNat 0)))⟩, ⟨(some (K.ofNat 29)), none, .mv (.t (K.ofNat 28))⟩, ⟨(some (K.ofNat 30)), (some ((K.ofNat 29), false)), .mv (.t (K.ofNat 2))⟩, ⟨(some (K.ofNat 31)), (some ((K.ofNat 29), false)), .mv (.t (K.ofNat 8))⟩, ⟨(some (K.ofNat 32)), (some ((K.ofNat 29), false)), .iads 1 (.t (K.ofNat 30)) (.t (K.ofNat 31))⟩, ⟨(some (K.ofNat 33)), (some ((K.ofNat 29), false)), .ld (.t (K.ofNat 32))⟩, ⟨(some (K.ofNat 34)), (some ((K.ofNat 29), false)), .mv (.t (K.ofNat 7))⟩, ⟨(some (K.ofNat 35)), (some ((K.ofNat 29), false)), .bin .gtr (.t (K.ofNat 33)) (.t (K.ofNat 34))⟩, ⟨(some (K.ofNat 36)), none, .pick (.t (K.ofNat 29)) (.c (.b true)) (.t (K.ofNat 35))⟩]
noncomputable def f32_r7 : List EOper := [⟨(some (K.ofNat 6)), none, .as (.c (.b false))⟩]
noncomputable def f32_r8 : List EOper := [⟨(some (K.ofNat 9)), none, .as (.c (.i .i64 (.ofNat 0)))⟩]
noncomputable def f32_r9 : List EOper := [⟨(some (K.ofNat 37)), none, .mv (.t (K.ofNat 9))⟩, ⟨(some (K.ofNat 38)), none, .mv (.t (K.ofNat 8))⟩, ⟨(some (K.ofNat 39)), none, .bin .lss (.t (K.ofNat 37)) (.t (K.ofNat 38))⟩]
noncomputable def f32_r10 : List Stage := [⟨[⟨(some (K.ofNat 42)), none, .mv (.t (K.ofNat 2))⟩, ⟨(some (K.ofNat 43)), none, .mv (.t (K.ofNat 9))⟩, ⟨(some (K.ofNat 44)), none, .iads 1 (.t (K.ofNat 42)) (.t (K.ofNat 43))⟩, ⟨(some (K.ofNat 45)), none, .ld (.t (K.ofNat 44))⟩, ⟨(some (K.ofNat 46)), none, .mv (.t (K.ofNat 2))⟩, ⟨(some (K.ofNat 47)), none, .mv (.t (K.ofNat 8))⟩, ⟨(some (K.ofNat 48)), none, .iads 1 (.t (K.ofNat 46)) (.t (K.ofNat 47))⟩, ⟨(some (K.ofNat 49)), none, .ld (.t (K.ofNat 48))⟩, ⟨(some (K.ofNat 50)), none, .bin .eql (.t (K.ofNat 45)) (.t (K.ofNat 49))⟩], [], none, []⟩]
noncomputable def f32_r11 : List EOper := [⟨(some (K.ofNat 6)), none, .as (.c (.b false))⟩]
noncomputable def f32_r12 : List EOper := [⟨(some (K.ofNat 40)), none, .mv (.t (K.ofNat 9))⟩, ⟨(some (K.ofNat 41)), none, .bin .add (.t (K.ofNat 40)) (.c (.i .i64 (.ofNat 1)))⟩, ⟨(some (K.ofNat 9)), none, .as (.t (K.ofNat 41))⟩]
noncomputable def f32_l0 : EC := (.seq (.seq (.reg f32_r9) (.cond (.t (K.ofNat 39)) .skip (.exit 2))) (.seq (.block 3 (.seq (.draw f32_r10) (.cond (.t (K.ofNat 50)) (.seq (.reg f32_r11) .ret) .skip))) (.reg f32_r12)))
noncomputable def f32_r13 : List EOper := [⟨(some (K.ofNat 22)), none, .mv (.t (K.ofNat 8))⟩, ⟨(some (K.ofNat 23)), none, .bin .add (.t (K.ofNat 22)) (.c (.i .i64 (.ofNat 1)))⟩, ⟨(some (K.ofNat 8)), none, .as (.t (K.ofNat 23))⟩]
noncomputable def f32_l1 : EC := (.seq (.seq (.reg f32_r5) (.cond (.t (K.ofNat 21)) .skip (.exit 0))) (.seq (.block 1 (.seq (.seq (.reg f32_r6) (.cond (.t (K.ofNat 36)) (.seq (.reg f32_r7) .ret) .skip)) (.seq (.reg f32_r8) (.block 2 (.loop f32_l0))))) (.reg f32_r13)))
noncomputable def f32_r14 : List EOper := [⟨(some (K.ofNat 51)), none, .mv (.t (K.ofNat 7))⟩, ⟨(some (K.ofNat 52)), none, .bin .add (.t (K.ofNat 51)) (.c (.i .i64 (.ofNat 1)))⟩, ⟨(some (K.ofNat 53)), none, .mkslice 1 [(.b false)] (.t (K.ofNat 52))⟩, ⟨(some (K.ofNat 10)), none, .as (.t (K.ofNat 53))⟩]
noncomputable def f32_r15 : List EOper := [⟨(some (K.ofNat 11)), none, .as (.c (.i .i64 (.ofNat 0)))⟩]
noncomputable def f32_r16 : List EOper := [⟨(some (K.ofNat 54)), none, .mv (.t (K.ofNat 11))⟩, ⟨(some (K.ofNat 55)), none, .mv (.t (K.ofNat 7))⟩, ⟨(some (K.ofNat 56)), none, .bin .lss (.t (K.ofNat 54)) (.t (K.ofNat 55))⟩]
noncomputable def f32_r17 : List Stage := [⟨[⟨(some (K.ofNat 59)), none, .mv (.t (K.ofNat 2))⟩, ⟨(some (K.ofNat 60)), none, .mv (.t (K.ofNat 1))⟩, ⟨(some (K.ofNat 61)), none, .mv (.t (K.ofNat 11))⟩, ⟨(some (K.ofNat 62)), none, .iads 2 (.t (K.ofNat 60)) (.t (K.ofNat 61))⟩, ⟨(some (K.ofNat 63)), none, .iadr 2 1 (.t (K.ofNat 62)) (.c (.i .i64 (.ofNat 0)))⟩, ⟨(some (K.ofNat 64)), none, .ld (.t (K.ofNat 63))⟩, ⟨(some (K.ofNat 65)), none, .iads 1 (.t (K.ofNat 59)) (.t (K.ofNat 64))⟩, ⟨(some (K.ofNat 66)), none, .ld (.t (K.ofNat 65))⟩, ⟨(some (K.ofNat 67)), none, .mv (.t (K.ofNat 2))⟩, ⟨(some (K.ofNat 68)), none, .mv (.t (K.ofNat 1))⟩, ⟨(some (K.ofNat 69)), none, .mv (.t (K.ofNat 11))⟩, ⟨(some (K.ofNat 70)), none, .iads 2 (.t (K.ofNat 68)) (.t (K.ofNat 69))⟩, ⟨(some (K.ofNat 71)), none, .iadr 2 1 (.t (K.ofNat 70)) (.c (.i .i64 (.ofNat 1)))⟩, ⟨(some (K.ofNat 72)), none, .ld (.t (K.ofNat 71))⟩, ⟨(some (K.ofNat 73)), none, .iads 1 (.t (K.ofNat 67)) (.t (K.ofNat 72))⟩, ⟨(some (K.ofNat 74)), none, .ld (.t (K.ofNat 73))⟩, ⟨(some (K.ofNat 75)), none, .bin .sub (.t (K.ofNat 66)) (.t (K.ofNat 74))⟩, ⟨(some (K.ofNat 76)), none, .mv (.t (K.ofNat 2))⟩, ⟨(some (K.ofNat 77)), none, .mv (.t (K.ofNat 1))⟩, ⟨(some (K.ofNat 78)), none, .mv (.t (K.ofNat 11))⟩, ⟨(some (K.ofNat 79)), none, .iads 2 (.t (K.ofNat 77)) (.t (K.ofNat 78))⟩, ⟨(some (K.ofNat 80)), none, .iadr 2 1 (.t (K.ofNat 79)) (.c (.i .i64 (.ofNat 1)))⟩, ⟨(some (K.ofNat 81)), none, .ld (.t (K.ofNat 80))⟩, ⟨(some (K.ofNat 82)), none, .iads 1 (.t (K.ofNat 76)) (.t (K.ofNat 81))⟩, ⟨(some (K.ofNat 83)), none, .ld (.t (K.ofNat 82))⟩, ⟨(some (K.ofNat 84)), none, .mv (.t (K.ofNat 2))⟩, ⟨(some (K.ofNat 85)), none, .mv (.t (K.ofNat 1))⟩, ⟨(some (K.ofNat 86)), none, .mv (.t (K.ofNat 11))⟩, ⟨(some (K.ofNat 87)), none, .iads 2 (.t (K.ofNat 85)) (.t (K.ofNat 86))⟩, ⟨(some (K.ofNat 88)), none, .iadr 2 1 (.t (K.ofNat 87)) (.c (.i .i64 (.ofNat 0)))⟩, ⟨(some (K.ofNat 89)), none, .ld (.t (K.ofNat 88))⟩, ⟨(some (K.ofNat 90)), none, .iads 1 (.t (K.ofNat 84)) (.t (K.ofNat 89))⟩, ⟨(some (K.ofNat 91)), none, .ld (.t (K.ofNat 90))⟩, ⟨(some (K.ofNat 92)), none, .bin .sub (.t (K.ofNat 83)) (.t (K.ofNat 91))⟩, ⟨(some (K.ofNat 93)), none, .max (.t (K.ofNat 75)) (.t (K.ofNat 92))⟩], [], (some ⟨(some (K.ofNat 12)), none, .as (.t (K.ofNat 93))⟩), []⟩, ⟨[], [], none, []⟩]
noncomputable def f32_r18 : List EOper := [⟨(some (K.ofNat 94)), none, .mv (.t (K.ofNat 10))⟩, ⟨(some (K.ofNat 95)), none, .mv (.t (K.ofNat 12))⟩, ⟨(some (K.ofNat 96)), none, .iads 1 (.t (K.ofNat 94)) (.t (K.ofNat 95))⟩, ⟨(some (K.ofNat 97)), none, .ld (.t (K.ofNat 96))⟩]
noncomputable def f32_r19 : List EOper := [⟨(some (K.ofNat 6)), none, .as (.c (.b false))⟩]
noncomputable def f32_r20 : List EOper := [⟨(some (K.ofNat 98)), none, .mv (.t (K.ofNat 10))⟩, ⟨(some (K.ofNat 99)), none, .mv (.t (K.ofNat 12))⟩, ⟨(some (K.ofNat 100)), none, .iads 1 (.t (K.ofNat 98)) (.t (K.ofNat 99))⟩, ⟨none, none, .st 1 (.t (K.ofNat 100)) (.c (.b true))⟩]
noncomputable def f32_r21 : List EOper := [⟨(some (K.ofNat 57)), none, .mv (.t (K.ofNat 11))⟩, ⟨(some (K.ofNat 58)), none, .bin .add (.t (K.ofNat 57)) (.c (.i .i64 (.ofNat 1)))⟩, ⟨(some (K.ofNat 11)), none, .as (.t (K.ofNat 58))⟩]
noncomputable def f32_l2 : EC := (.seq (.seq (.reg f32_r16) (.cond (.t (K.ofNat 56)) .skip (.exit 4))) (.seq (.block 5 (.seq (.draw f32_r17) (.seq (.seq (.reg f32_r18) (.cond (.t (K.ofNat 97)) (.seq (.reg f32_r19) .ret) .skip)) (.reg f32_r20)))) (.reg f32_r21)))
noncomputable def f32_r22 : List EOper := [⟨(some (K.ofNat 6)), none, .as (.c (.b true))⟩]
noncomputable def f32_c : EC := (.seq (.reg f32_r0) (.seq (.seq (.reg f32_r1) (.cond (.t (K.ofNat 16)) (.seq (.reg f32_r2) .ret) .skip)) (.seq (.reg f32_r3) (.seq (.seq (.reg f32_r4) (.block 0 (.loop f32_l1))) (.seq (.reg f32_r14) (.seq (.seq (.reg f32_r15) (.block 4 (.loop f32_l2))) (.seq (.reg f32_r22) .ret)))))))
noncomputable def f32 : EF := ⟨101, [.tmp (K.ofNat 6)], f32_c, none⟩
theorem f32_rs : f32.rs = [.tmp (K.ofNat 6)] := of_eq_true (eq_self _)
theorem mks_b {h : H} {k : IntKind} {n : Nat} (hn : n ≤ 1000000) : mksV 1 [.b false] h (.i k (n : Int)) = .ok (.sl h.nx 0 n 1) (h.new (.cells (n * 1) (rep [.b false] n))) := by
  show (bif Nat.ble n 1000000 then RV.ok (.sl h.nx 0 n 1) (h.new (.cells (n * 1) (rep [.b false] n))) else .no) = _
  rw [Nat.ble_eq_true_of_le hn]; rfl
theorem mksb_sl {h : H} {n : Nat} : Sl V.b (h.new (.cells (n * 1) (rep [.b false] n))) (.sl h.nx 0 n 1) (List.replicate n false) :=
  .inr ⟨h.nx, 0, n * 1, rep [.b false] n, by rw [List.length_replicate], get_new_same, by rw [rep_cell, List.length_replicate, Nat.mul_one], by rw [List.length_replicate]; omega, fun i hi => by
    have hi : i < n := by simpa using hi
    rw [rep_cell, Nat.zero_add, List.getElem?_replicate, if_pos hi, List.getElem_replicate]⟩
section
variable {fs : T EF} {ro : Option K} {h : H} {v w : V} {n : Nat} {E : List (Int × Int)} {L : List Int}
def f32_I (h : H) (n : Nat) (v w : V) (E : List (Int × Int)) (L : List Int) (j : Nat) (fr : Fr) (h1 : H) : Prop := j ≤ L.length ∧ h1 = h ∧ (∀ i, i < j → labOk1 (E.length : Int) L i = true) ∧ fr.get (K.ofNat 0) = some (.i .i64 (n : Int)) ∧ fr.get (K.ofNat 1) = some (v) ∧ fr.get (K.ofNat 2) = some (w) ∧ fr.get (K.ofNat 7) = some (.i .i64 (E.length : Int)) ∧ fr.get (K.ofNat 8) = some (.i .i64 (j : Int))
def f32_K (h : H) (n : Nat) (v w : V) (E : List (Int × Int)) (L : List Int) (j : Nat) (i : Nat) (fr : Fr) (h1 : H) : Prop := i ≤ j ∧ h1 = h ∧ L.getD j 0 ∉ L.take i ∧ fr.get (K.ofNat 0) = some (.i .i64 (n : Int)) ∧ fr.get (K.ofNat 1) = some (v) ∧ fr.get (K.ofNat 2) = some (w) ∧ fr.get (K.ofNat 7) = some (.i .i64 (E.length : Int)) ∧ fr.get (K.ofNat 8) = some (.i .i64 (j : Int)) ∧ fr.get (K.ofNat 9) = some (.i .i64 (i : Int))
def f32_J (h : H) (v w u : V) (E : List (Int × Int)) (L : List Int) (j : Nat) (fr : Fr) (h1 : H) : Prop := j ≤ E.length ∧ Grow h.nx.nat h h1 ∧ (∃ B : List Bool, B.length = E.length + 1 ∧ Met E L j B ∧ Sl V.b h1 u B) ∧ (∀ i, i < j → difOk1 E L i = true) ∧ fr.get (K.ofNat 1) = some (v) ∧ fr.get (K.ofNat 2) = some (w) ∧ fr.get (K.ofNat 7) = some (.i .i64 (E.length : Int)) ∧ fr.get (K.ofNat 10) = some (u) ∧ fr.get (K.ofNat 11) = some (.i .i64 (j : Int))
theorem f32_ret (hv : Srp h v E) (hw : Sr iE h w L) (hc : HC h) (hE : EdgesOk n E) (hL : L.length ≤ 1000000) : Ret fs f32 [.i .i64 (n : Int), v, w] h fun r h' => r = .b (grB (n : Int) E L) ∧ Grow h.nx.nat h h' := by
  apply ret_of rfl
  show W fs none f32_c _ _ _
  unfold f32_c
  have hl := hw.len
  have hE10 : E.length ≤ 10 := hE.1
  by_cases hn : L.length = n
  · have d0 : decide ((L.length : Int) ≠ (n : Int)) = false := by simp; omega
    have e0 : decide ((L.length : Int) = (n : Int)) = true := by simp; omega
    simp (disch := omega) only [f32_r0, f32_r1, f32_r3, f32_r4, w_skip, w_reg, w_seq, w_cond, w_block, seqK_n, ckB_b, cbB_b, true_and, x_nil, x_mv, x_as, x_bin, x_len, kx, rvP_ok, okv_some, ev_t, ev_c, getV_some, putD_some, bin_neq, frame_3, of0, getK_set, Nat.reduceEqDiff, ↓reduceIte, Bool.false_eq_true, hl, d0, hv.len]
    refine W_loop (f32_I h n v w E L) (fun j => L.length - j) ?_ 0 ⟨by omega, rfl, fun i hi => by omega, by simp (disch := omega) only [getK_set, Nat.reduceEqDiff, ↓reduceIte, and_self, Int.natCast_zero]⟩
    rintro j fr h1 ⟨hj, rfl, hok, g0, g1, g2, g7, g8⟩
    unfold f32_l1
    by_cases hlt : j < L.length
    · have d1 : decide ((j : Int) < (n : Int)) = true := by simp; omega
      obtain ⟨p, hp1, hp2, hp3⟩ := hw.atb j hlt
      have hg : L.getD j 0 = L[j] := by simp [List.getD_eq_getElem?_getD, hlt]
      have bad : labOk1 (E.length : Int) L j = false → grB (n : Int) E L = false := fun hb => by
        unfold grB labsOk
        rw [all_no hlt hb]; simp
      cases d2 : decide (L[j] < 0) with
      | true =>
        have hb : labOk1 (E.length : Int) L j = false := by
          unfold labOk1; rw [hg, decide_eq_false (by have := of_decide_eq_true d2; omega)]; rfl
        simp (disch := omega) only [f32_r5, f32_r6, f32_r7, f32_rs, w_skip, w_reg, w_seq, w_cond, w_block, w_ret, seqK_n, seqK_r, atK_r, loopK_r, ckB_b, cbB_b, okG_b, asG_f, true_and, retK_r, x_nil, x_g, x_mv, x_as, x_pick, x_ld, x_bin, x_iads, kx, rvP_ok, okv_some, ev_t, ev_c, getV_some, putD_some, bin_lss, pick_b, oGet_s, readRs_nil, readRs_t, retV_1, of0, Option.some.injEq, exists_eq_left', getK_set, Nat.reduceEqDiff, ↓reduceIte, Bool.false_eq_true, Bool.not_true, g0, g2, g8, d1, hp1, hp2, iE, d2, bad hb, true_and]
        exact Grow.refl _ _
      | false =>
      have n2 := of_decide_eq_false d2
      cases d3 : decide (L[j] > (E.length : Int)) with
      | true =>
        have hb : labOk1 (E.length : Int) L j = false := by
          unfold labOk1; rw [hg, decide_eq_false (by have := of_decide_eq_true d3; omega : ¬ L[j] ≤ (E.length : Int))]; simp
        simp (disch := omega) only [f32_r5, f32_r6, f32_r7, f32_rs, w_skip, w_reg, w_seq, w_cond, w_block, w_ret, seqK_n, seqK_r, atK_r, loopK_r, ckB_b, cbB_b, okG_b, asG_f, true_and, retK_r, x_nil, x_g, x_mv, x_as, x_pick, x_ld, x_bin, x_iads, kx, rvP_ok, okv_some, ev_t, ev_c, getV_some, putD_some, bin_lss, bin_gtr, pick_b, oGet_s, readRs_nil, readRs_t, retV_1, of0, Option.some.injEq, exists_eq_left', getK_set, Nat.reduceEqDiff, ↓reduceIte, Bool.false_eq_true, Bool.not_false, g0, g2, g7, g8, d1, hp1, hp2, iE, d2, d3, bad hb, true_and]
        exact Grow.refl _ _
      | false =>
      have n3 := of_decide_eq_false d3
      have hlo : labOk1 (E.length : Int) L j = !decide (L[j] ∈ L.take j) := by
        unfold labOk1
        rw [hg, decide_eq_true (by omega : 0 ≤ L[j]), decide_eq_true (by omega : L[j] ≤ (E.length : Int))]; rfl
      simp (disch := omega) only [f32_r5, f32_r6, f32_r8, w_skip, w_reg, w_seq, w_cond, w_block, seqK_n, ckB_b, cbB_b, okG_b, asG_f, true_and, x_nil, x_g, x_mv, x_as, x_pick, x_ld, x_bin, x_iads, kx, rvP_ok, okv_some, ev_t, ev_c, getV_some, putD_some, bin_lss, bin_gtr, pick_b, of0, getK_set, Nat.reduceEqDiff, ↓reduceIte, Bool.false_eq_true, Bool.not_false, g0, g2, g7, g8, d1, hp1, hp2, iE, d2, d3]
      refine W_loop (f32_K h1 n v w E L j) (fun i => j - i) ?_ 0 ⟨by omega, rfl, by simp, by simp (disch := omega) only [getK_set, Nat.reduceEqDiff, ↓reduceIte, g0, g1, g2, g7, g8, and_self, Int.natCast_zero]⟩
      clear g0 g1 g2 g7 g8
      rintro i fr h2 ⟨hi, rfl, hnin, g0, g1, g2, g7, g8, g9⟩
      unfold f32_l0
      by_cases hil : i < j
      · have d4 : decide ((i : Int) < (j : Int)) = true := by simp; omega
        obtain ⟨q, hq1, hq2, hq3⟩ := hw.atb i (by omega)
        have hwb := hw.beq
        cases d5 : decide (L[i] = L[j]) with
        | true =>
          have hin : L[j] ∈ L.take j := by
            rw [← of_decide_eq_true d5]
            exact List.mem_iff_getElem.2 ⟨i, by simp; omega, by simp⟩
          rw [decide_eq_true hin] at hlo
          simp (disch := omega) only [f32_r9, f32_r10, f32_r11, f32_rs, w_skip, w_reg, w_draw, w_seq, w_cond, w_block, w_ret, seqK_n, seqK_r, atK_r, loopK_r, ckB_b, cbB_b, true_and, retK_r, x_nil, x_mv, x_as, x_bin, kx, kg, xg_nil, xg_mv, xg_ld, xg_bin, xg_iads, xd_cons, fresh_nil, stK_n, stay_nil, rvP_ok, okv_some, ev_t, ev_c, getV_some, putD_some, bin_eql, bin_lss, oGet_s, readRs_nil, readRs_t, retV_1, Option.some.injEq, exists_eq_left', getK_set, Nat.reduceEqDiff, ↓reduceIte, g2, g8, g9, d4, hp1, hp2, hq1, hq2, iE, d5, bad hlo, true_and]
          exact Grow.refl _ _
        | false =>
          simp (disch := omega) only [f32_r9, f32_r10, f32_r12, w_skip, w_reg, w_draw, w_seq, w_cond, w_block, seqK_n, atK_n, loopK_n, ckB_b, cbB_b, true_and, x_nil, x_mv, x_as, x_bin, kx, kg, xg_nil, xg_mv, xg_ld, xg_bin, xg_iads, xd_cons, fresh_nil, stK_n, stay_nil, rvP_ok, okv_some, ev_t, ev_c, getV_some, putD_some, bin_add, bin_eql, bin_lss, of1, getK_set, Nat.reduceEqDiff, ↓reduceIte, Bool.false_eq_true, g2, g8, g9, d4, hp1, hp2, hq1, hq2, iE, d5, fw64]
          refine ⟨i + 1, by omega, by omega, rfl, ?_, by simp (disch := omega) only [getK_set, Nat.reduceEqDiff, ↓reduceIte, g0, g1, g2, g7, g8, and_self, Int.natCast_add, Int.natCast_one]⟩
          rw [hg] at hnin ⊢
          rw [List.take_succ_eq_append_getElem (by omega), List.mem_append, List.mem_singleton]
          rintro (h | h)
          · exact hnin h
          · exact of_decide_eq_false d5 h.symm
      · have d4 : decide ((i : Int) < (j : Int)) = false := by simp; omega
        have ei : i = j := by omega
        rw [ei, hg] at hnin
        rw [decide_eq_false hnin] at hlo
        simp (disch := omega) only [f32_r9, f32_r13, w_reg, w_seq, w_cond, w_exit, seqK_n, seqK_e, atK_n, atK_e, loopK_n, loopK_e, ckB_b, cbB_b, true_and, x_nil, x_mv, x_as, x_bin, kx, rvP_ok, okv_some, ev_t, ev_c, getV_some, putD_some, bin_add, bin_lss, of1, getK_set, Nat.reduceEqDiff, ↓reduceIte, Bool.false_eq_true, g8, g9, d4, fw64]
        refine ⟨j + 1, by omega, by omega, rfl, fun i hi => ?_, by simp (disch := omega) only [getK_set, Nat.reduceEqDiff, ↓reduceIte, g0, g1, g2, g7, and_self, Int.natCast_add, Int.natCast_one]⟩
        by_cases e : i = j
        · rw [e]; exact hlo
        · exact hok i (by omega)
    · have d1 : decide ((j : Int) < (n : Int)) = false := by simp; omega
      have ej : j = L.length := by omega
      have hlabs : labsOk (E.length : Int) L = true := all_yes fun i hi => hok i (by omega)
      have hlin := labs_in hlabs
      have heq : grB (n : Int) E L = difsOk E L := by unfold grB; rw [e0, hlabs]; rfl
      have hmk : ∀ {k : IntKind}, mksV 1 [.b false] h1 (.i k ((E.length + 1 : Nat) : Int)) = .ok (.sl h1.nx 0 (E.length + 1) 1) (h1.new (.cells ((E.length + 1) * 1) (rep [.b false] (E.length + 1)))) := mks_b (by omega)
      rw [Int.natCast_add, Int.natCast_one] at hmk
      have hs0 := mksb_sl (h := h1) (n := E.length + 1)
      have gl := Grow.new (Nat.le_refl h1.nx.nat) (.cells ((E.length + 1) * 1) (rep [.b false] (E.length + 1)))
      have nl := nx_new h1 (.cells ((E.length + 1) * 1) (rep [.b false] (E.length + 1)))
      simp (disch := omega) only [f32_r5, f32_r14, f32_r15, w_reg, w_seq, w_cond, w_block, w_exit, seqK_n, seqK_e, atK_e, loopK_e, ckB_b, cbB_b, true_and, x_nil, x_mv, x_as, x_bin, x_mks, kx, rvP_ok, okv_some, ev_t, ev_c, getV_some, putD_some, bin_add, bin_lss, of0, of1, getK_set, Nat.reduceEqDiff, ↓reduceIte, Bool.false_eq_true, g0, g7, g8, d1, fw64, hmk]
      refine W_loop (f32_J h1 v w (.sl h1.nx 0 (E.length + 1) 1) E L) (fun j => E.length - j) ?_ 0 ⟨by omega, gl, ⟨List.replicate (E.length + 1) false, by simp, Met.zero, hs0⟩, fun i hi => by omega, by simp (disch := omega) only [getK_set, Nat.reduceEqDiff, ↓reduceIte, g1, g2, g7, and_self, Int.natCast_zero]⟩
      clear g0 g1 g2 g7 g8 hs0 gl d1 hmk
      rintro j fr h2 ⟨hj, hG, ⟨B, hB, hM, hS⟩, hok2, g1, g2, g7, g10, g11⟩
      have hc2 := hG.hc hc
      have hv2 := hv.grow hc hG
      have hw2 := hw.grow hc hG
      unfold f32_l2
      by_cases hlt2 : j < E.length
      · have d1 : decide ((j : Int) < (E.length : Int)) = true := by simpa using hlt2
        obtain ⟨ide, q, hp1, _, hp2, hp3⟩ := hv2.at2 hlt2
        obtain ⟨a, b, d, ha, hb, ea, eb, hab, ed, ead, hdE, la, lb⟩ := dfE_in hE hlin hn hlt2
        have hdm := hM.dif hlt2 ed (by omega)
        obtain ⟨s, hs1, hs2, hs3⟩ := hw2.atb a ha
        obtain ⟨t, ht1, ht2, ht3⟩ := hw2.atb b hb
        have hwb := hw.beq
        have hvb := hv.beq
        rw [ea] at hp2
        rw [eb] at hp3
        have hmax : max (L[a] - L[b]) (L[b] - L[a]) = (d : Int) := by rw [← ead]; unfold absD; split <;> omega
        simp (disch := omega) only [f32_r16, f32_r17, w_skip, w_reg, w_draw, w_seq, w_cond, w_block, seqK_n, ckB_b, cbB_b, true_and, x_nil, x_mv, x_as, x_bin, kx, kg, xg_nil, xg_mv, xg_ld, xg_bin, xg_iadr, xg_iads, xg_max, xd_cons, fresh_nil, stK_n, stK_s, stay_nil, rvP_ok, okv_some, ev_t, ev_c, getV_some, putD_some, bin_sub, bin_lss, onP_p, max_ii, of0, of1, getK_set, Nat.reduceEqDiff, ↓reduceIte, ix2_0, ix2_1, g1, g2, g7, g11, d1, hp1, hp2, hp3, hs1, hs2, ht1, ht2, iE, fw64, hmax]
        obtain ⟨r, hr1, hr2⟩ := hS.at d (by omega)
        cases hbd : B[d]'(by omega) with
        | true =>
          rw [hbd] at hdm hr2
          have hno : grB (n : Int) E L = false := by rw [heq]; unfold difsOk; exact all_no hlt2 hdm
          simp (disch := omega) only [f32_r18, f32_r19, f32_rs, w_reg, w_seq, w_cond, w_ret, seqK_n, seqK_r, atK_r, loopK_r, ckB_b, cbB_b, true_and, retK_r, x_nil, x_mv, x_as, x_ld, x_iads, kx, rvP_ok, ev_t, ev_c, getV_some, putD_some, oGet_s, readRs_nil, readRs_t, retV_1, Option.some.injEq, exists_eq_left', getK_set, Nat.reduceEqDiff, ↓reduceIte, g10, hr1, hr2, hno, true_and]
          exact hG
        | false =>
          rw [hbd] at hdm hr2
          obtain ⟨r', id', m', cs', hst1, hst2, hst3, hst4, hst5⟩ := hS.st (i := d) (by omega) (x := true) (c := .b true) rfl rfl hc2
          obtain ⟨off', n', sz', hid⟩ := hst4
          injection hid with hid _ _ _
          have hrr : r' = r := by
            have h9 := (hst1 .i64 h2).symm.trans (hr1 .i64 h2)
            injection h9
          rw [hrr] at hst2
          simp (disch := omega) only [f32_r18, f32_r20, f32_r21, w_skip, w_reg, w_cond, seqK_n, atK_n, loopK_n, ckB_b, cbB_b, true_and, x_nil, x_mv, x_as, x_ld, x_st, x_bin, x_iads, kx, rvP_ok, okv_some, ev_t, ev_c, getV_some, putD_some, putD_none, bin_add, of1, getK_set, Nat.reduceEqDiff, ↓reduceIte, Bool.false_eq_true, g10, g11, hr1, hr2, hst2, fw64]
          refine ⟨j + 1, by omega, by omega, hG.trans (Grow.put (by rw [← hid]; exact Nat.le_refl _) hst5 _), ⟨_, by simpa using hB, hM.succ hlt2 ed (by omega), hst3⟩, fun i hi => ?_, by simp (disch := omega) only [getK_set, Nat.reduceEqDiff, ↓reduceIte, g1, g2, g7, g10, and_self, Int.natCast_add, Int.natCast_one]⟩
          by_cases e : i = j
          · rw [e]; exact hdm
          · exact hok2 i (by omega)
      · have d1 : decide ((j : Int) < (E.length : Int)) = false := by simpa using hlt2
        have hdf : difsOk E L = true := all_yes fun i hi => hok2 i (by omega)
        simp (disch := omega) only [f32_r16, f32_r22, f32_rs, w_reg, w_seq, w_cond, w_exit, w_ret, seqK_n, seqK_e, atK_e, loopK_e, ckB_b, cbB_b, true_and, retK_r, x_nil, x_mv, x_as, x_bin, kx, rvP_ok, okv_some, ev_t, ev_c, getV_some, putD_some, bin_lss, oGet_s, readRs_nil, readRs_t, retV_1, Option.some.injEq, exists_eq_left', getK_set, Nat.reduceEqDiff, ↓reduceIte, Bool.false_eq_true, g7, g11, d1, heq, hdf, true_and]
        exact hG
  · have d0 : decide ((L.length : Int) ≠ (n : Int)) = true := by simp; omega
    have e0 : grB (n : Int) E L = false := by unfold grB; rw [decide_eq_false (by omega)]; rfl
    simp (disch := omega) only [f32_r0, f32_r1, f32_r2, f32_rs, w_reg, w_seq, w_cond, w_ret, seqK_n, seqK_r, ckB_b, cbB_b, true_and, retK_r, x_nil, x_mv, x_as, x_bin, x_len, kx, rvP_ok, okv_some, ev_t, ev_c, getV_some, putD_some, bin_neq, oGet_s, readRs_nil, readRs_t, retV_1, frame_3, Option.some.injEq, exists_eq_left', getK_set, Nat.reduceEqDiff, ↓reduceIte, hl, d0, e0, true_and]
    exact Grow.refl _ _
end
end Go.Ev
namespace Go.Ev
open Go Go.RowKit
noncomputable def f18_r0 : List EOper := [⟨(some (K.ofNat 6)), none, .as (.c (.b false))⟩, ⟨(some (K.ofNat 7)), none, .as (.c (.i .i64 (.ofNat 0)))⟩]
noncomputable def f18_r1 : List EOper := [⟨(some (K.ofNat 9)), none, .mv (.t (K.ofNat 0))⟩, ⟨(some (K.ofNat 10)), none, .mv (.t (K.ofNat 1))⟩, ⟨(some (K.ofNat 11)), none, .call (.c (.fn (K.ofNat 17) [])) [(.t (K.ofNat 9)), (.t (K.ofNat 10))]⟩, ⟨(some (K.ofNat 8)), none, .as (.t (K.ofNat 11))⟩]
noncomputable def f18_r2 : List EOper := [⟨(some (K.ofNat 12)), none, .mv (.t (K.ofNat 8))⟩, ⟨(some (K.ofNat 13)), none, .bin .neq (.t (K.ofNat 12)) (.c (.i .i64 (.ofNat 0)))⟩]
noncomputable def f18_r3 : List EOper := [⟨(some (K.ofNat 14)), none, .mv (.t (K.ofNat 8))⟩, ⟨(some (K.ofNat 6)), none, .as (.c (.b false))⟩, ⟨(some (K.ofNat 7)), none, .as (.t (K.ofNat 14))⟩]
noncomputable def f18_r4 : List EOper := [⟨(some (K.ofNat 15)), none, .mv (.t (K.ofNat 0))⟩, ⟨(some (K.ofNat 16)), none, .mv (.t (K.ofNat 1))⟩, ⟨(some (K.ofNat 17)), none, .mv (.t (K.ofNat 2))⟩, ⟨(some (K.ofNat 18)), none, .call (.c (.fn (K.ofNat 62) [])) [(.t (K.ofNat 15)), (.t (K.ofNat 16)), (.t (K.ofNat 17))]⟩, ⟨(some (K.ofNat 6)), none, .as (.t (K.ofNat 18))⟩, ⟨(some (K.ofNat 7)), none, .as (.c (.i .i64 (.ofNat 0)))⟩]
noncomputable def f18_c : EC := (.seq (.reg f18_r0) (.seq (.seq (.reg f18_r1) (.seq (.reg f18_r2) (.cond (.t (K.ofNat 13)) (.seq (.reg f18_r3) .ret) .skip))) (.seq (.reg f18_r4) .ret)))
noncomputable def f18 : EF := ⟨19, [.tmp (K.ofNat 6), .tmp (K.ofNat 7)], f18_c, none⟩
theorem f18_rs : f18.rs = [.tmp (K.ofNat 6), .tmp (K.ofNat 7)] := of_eq_true (eq_self _)
noncomputable def f64_r0 : List EOper := [⟨(some (K.ofNat 6)), none, .as (.c (.i .i64 (.ofNat 0)))⟩]
noncomputable def f64_r1 : List EOper := [⟨(some (K.ofNat 8)), none, .mv (.t (K.ofNat 0))⟩, ⟨(some (K.ofNat 9)), none, .mv (.t (K.ofNat 1))⟩, ⟨(some (K.ofNat 10)), none, .call (.c (.fn (K.ofNat 17) [])) [(.t (K.ofNat 8)), (.t (K.ofNat 9))]⟩, ⟨(some (K.ofNat 7)), none, .as (.t (K.ofNat 10))⟩]
noncomputable def f64_r2 : List EOper := [⟨(some (K.ofNat 11)), none, .mv (.t (K.ofNat 7))⟩, ⟨(some (K.ofNat 12)), none, .bin .neq (.t (K.ofNat 11)) (.c (.i .i64 (.ofNat 0)))⟩]
noncomputable def f64_r3 : List EOper := [⟨(some (K.ofNat 13)), none, .mv (.t (K.ofNat 7))⟩, ⟨(some (K.ofNat 6)), none, .as (.t (K.ofNat 13))⟩]
noncomputable def f64_r4 : List EOper := [⟨(some (K.ofNat 14)), none, .mv (.t (K.ofNat 0))⟩, ⟨(some (K.ofNat 15)), none, .mv (.t (K.ofNat 1))⟩, ⟨(some (K.ofNat 16)), none, .mv (.t (K.ofNat 2))⟩, ⟨(some (K.ofNat 17)), none, .call (.c (.fn (K.ofNat 62) [])) [(.t (K.ofNat 14)), (.t (K.ofNat 15)), (.t (K.ofNat 16))]⟩, ⟨(some (K.ofNat 18)), none, .not (.t (K.ofNat 17))⟩]
noncomputable def f64_r5 : List EOper := [⟨(some (K.ofNat 6)), none, .as (.c (.i .i64 (.ofNat 1)))⟩]
noncomputable def f64_r6 : List EOper := [⟨(some (K.ofNat 6)), none, .as (.c (.i .i64 (.ofNat 0)))⟩]
noncomputable def f64_c : EC := (.seq (.reg f64_r0) (.seq (.seq (.reg f64_r1) (.seq (.reg f64_r2) (.cond (.t (K.ofNat 12)) (.seq (.reg f64_r3) .ret) .skip))) (.seq (.seq (.reg f64_r4) (.cond (.t (K.ofNat 18)) (.seq (.reg f64_r5) .ret) .skip)) (.seq (.reg f64_r6) .ret))))
noncomputable def f64 : EF := ⟨19, [.tmp (K.ofNat 6)], f64_c, none⟩
theorem f64_rs : f64.rs = [.tmp (K.ofNat 6)] := of_eq_true (eq_self _)
noncomputable def f20_r0 : List EOper := [⟨(some (K.ofNat 6)), none, .as (.c .sn)⟩, ⟨(some (K.ofNat 7)), none, .as (.c (.i .i64 (.ofNat 0)))⟩]
noncomputable def f20_r1 : List EOper := [⟨(some (K.ofNat 12)), none, .mv (.t (K.ofNat 0))⟩, ⟨(some (K.ofNat 13)), none, .mv (.t (K.ofNat 1))⟩, ⟨(some (K.ofNat 14)), none, .mv (.t (K.ofNat 2))⟩, ⟨(some (K.ofNat 15)), none, .call (.c (.fn (K.ofNat 64) [])) [(.t (K.ofNat 12)), (.t (K.ofNat 13)), (.t (K.ofNat 14))]⟩, ⟨(some (K.ofNat 8)), none, .as (.t (K.ofNat 15))⟩]
noncomputable def f20_r2 : List EOper := [⟨(some (K.ofNat 16)), none, .mv (.t (K.ofNat 8))⟩, ⟨(some (K.ofNat 17)), none, .bin .neq (.t (K.ofNat 16)) (.c (.i .i64 (.ofNat 0)))⟩]
noncomputable def f20_r3 : List EOper := [⟨(some (K.ofNat 18)), none, .mv (.t (K.ofNat 8))⟩, ⟨(some (K.ofNat 6)), none, .as (.c .sn)⟩, ⟨(some (K.ofNat 7)), none, .as (.t (K.ofNat 18))⟩]
noncomputable def f20_r4 : List EOper := [⟨(some (K.ofNat 19)), none, .mv (.t (K.ofNat 0))⟩, ⟨(some (K.ofNat 20)), none, .mkslice 1 [(.i .i64 (.ofNat 0))] (.t (K.ofNat 19))⟩, ⟨(some (K.ofNat 9)), none, .as (.t (K.ofNat 20))⟩]
noncomputable def f20_r5 : List EOper := [⟨(some (K.ofNat 21)), none, .mv (.t (K.ofNat 2))⟩, ⟨(some (K.ofNat 22)), none, .len (.t (K.ofNat 21))⟩, ⟨(some (K.ofNat 23)), none, .mv (.c (.i .i64 (.ofNat 0)))⟩]
noncomputable def f20_r6 : List EOper := [⟨(some (K.ofNat 24)), none, .bin .lss (.t (K.ofNat 23)) (.t (K.ofNat 22))⟩]
noncomputable def f20_r7 : List EOper := [⟨(some (K.ofNat 25)), none, .mv (.t (K.ofNat 23))⟩, ⟨(some (K.ofNat 26)), none, .iads 1 (.t (K.ofNat 21)) (.t (K.ofNat 23))⟩, ⟨(some (K.ofNat 27)), none, .ld (.t (K.ofNat 26))⟩, ⟨(some (K.ofNat 10)), none, .as (.t (K.ofNat 25))⟩, ⟨(some (K.ofNat 11)), none, .as (.t (K.ofNat 27))⟩]
noncomputable def f20_r8 : List EOper := [⟨(some (K.ofNat 28)), none, .mv (.t (K.ofNat 9))⟩, ⟨(some (K.ofNat 29)), none, .mv (.t (K.ofNat 10))⟩, ⟨(some (K.ofNat 30)), none, .mv (.t (K.ofNat 1))⟩, ⟨(some (K.ofNat 31)), none, .len (.t (K.ofNat 30))⟩, ⟨(some (K.ofNat 32)), none, .mv (.t (K.ofNat 11))⟩, ⟨(some (K.ofNat 33)), none, .bin .sub (.t (K.ofNat 31)) (.t (K.ofNat 32))⟩, ⟨(some (K.ofNat 34)), none, .iads 1 (.t (K.ofNat 28)) (.t (K.ofNat 29))⟩, ⟨none, none, .st 1 (.t (K.ofNat 34)) (.t (K.ofNat 33))⟩]
noncomputable def f20_r9 : List EOper := [⟨(some (K.ofNat 35)), none, .bin .add (.t (K.ofNat 23)) (.c (.i .i64 (.ofNat 1)))⟩, ⟨(some (K.ofNat 23)), none, .mv (.t (K.ofNat 35))⟩]
noncomputable def f20_l0 : EC := (.seq (.reg f20_r6) (.seq (.cond (.t (K.ofNat 24)) .skip (.exit 0)) (.seq (.block 1 (.seq (.reg f20_r7) (.reg f20_r8))) (.reg f20_r9))))
noncomputable def f20_r10 : List EOper := [⟨(some (K.ofNat 36)), none, .mv (.t (K.ofNat 9))⟩, ⟨(some (K.ofNat 6)), none, .as (.t (K.ofNat 36))⟩, ⟨(some (K.ofNat 7)), none, .as (.c (.i .i64 (.ofNat 0)))⟩]
noncomputable def f20_c : EC := (.seq (.reg f20_r0) (.seq (.seq (.reg f20_r1) (.seq (.reg f20_r2) (.cond (.t (K.ofNat 17)) (.seq (.reg f20_r3) .ret) .skip))) (.seq (.reg f20_r4) (.seq (.seq (.reg f20_r5) (.block 0 (.loop f20_l0))) (.seq (.reg f20_r10) .ret)))))
noncomputable def f20 : EF := ⟨37, [.tmp (K.ofNat 6), .tmp (K.ofNat 7)], f20_c, none⟩
theorem f20_rs : f20.rs = [.tmp (K.ofNat 6), .tmp (K.ofNat 7)] := of_eq_true (eq_self _)
noncomputable def f34_r0 : List EOper := [⟨(some (K.ofNat 4)), none, .as (.c .sn)⟩]
noncomputable def f34_r1 : List EOper := [⟨(some (K.ofNat 5)), none, .as (.c .sn)⟩]
noncomputable def f34_r2 : List EOper := [⟨(some (K.ofNat 6)), none, .as (.c (.i .i64 (.ofNat 0)))⟩]
noncomputable def f34_r3 : List EOper := [⟨(some (K.ofNat 7)), none, .mv (.t (K.ofNat 6))⟩, ⟨(some (K.ofNat 8)), none, .mv (.t (K.ofNat 1))⟩, ⟨(some (K.ofNat 9)), none, .len (.t (K.ofNat 8))⟩, ⟨(some (K.ofNat 10)), none, .bin .lss (.t (K.ofNat 7)) (.t (K.ofNat 9))⟩]
noncomputable def f34_r4 : List EOper := [⟨(some (K.ofNat 13)), none, .mv (.t (K.ofNat 5))⟩, ⟨(some (K.ofNat 14)), none, .mv (.t (K.ofNat 0))⟩, ⟨(some (K.ofNat 15)), none, .len (.t (K.ofNat 14))⟩, ⟨(some (K.ofNat 16)), none, .mv (.t (K.ofNat 1))⟩, ⟨(some (K.ofNat 17)), none, .mv (.t (K.ofNat 6))⟩, ⟨(some (K.ofNat 18)), none, .iads 1 (.t (K.ofNat 16)) (.t (K.ofNat 17))⟩, ⟨(some (K.ofNat 19)), none, .ld (.t (K.ofNat 18))⟩, ⟨(some (K.ofNat 20)), none, .bin .sub (.t (K.ofNat 15)) (.t (K.ofNat 19))⟩, ⟨(some (K.ofNat 21)), none, .bslice 1 1 [(.i .i64 (.ofNat 0))] [(0, 1, (.t (K.ofNat 20)))]⟩, ⟨(some (K.ofNat 22)), none, .app 1 (.t (K.ofNat 13)) (.t (K.ofNat 21))⟩, ⟨(some (K.ofNat 5)), none, .as (.t (K.ofNat 22))⟩]
noncomputable def f34_r5 : List EOper := [⟨(some (K.ofNat 11)), none, .mv (.t (K.ofNat 6))⟩, ⟨(some (K.ofNat 12)), none, .bin .add (.t (K.ofNat 11)) (.c (.i .i64 (.ofNat 1)))⟩, ⟨(some (K.ofNat 6)), none, .as (.t (K.ofNat 12))⟩]
noncomputable def f34_l0 : EC := (.seq (.seq (.reg f34_r3) (.cond (.t (K.ofNat 10)) .skip (.exit 0))) (.seq (.block 1 (.reg f34_r4)) (.reg f34_r5)))
noncomputable def f34_r6 : List EOper := [⟨(some (K.ofNat 23)), none, .mv (.t (K.ofNat 5))⟩, ⟨(some (K.ofNat 4)), none, .as (.t (K.ofNat 23))⟩]
noncomputable def f34_c : EC := (.seq (.reg f34_r0) (.seq (.reg f34_r1) (.seq (.seq (.reg f34_r2) (.block 0 (.loop f34_l0))) (.seq (.reg f34_r6) .ret))))
noncomputable def f34 : EF := ⟨24, [.tmp (K.ofNat 4)], f34_c, none⟩
theorem f34_rs : f34.rs = [.tmp (K.ofNat 4)] := of_eq_true (eq_self _)
structure CallsIg (fs : T EF) : Prop extends CallsC fs, CallsGr fs where
  c64 : fs.get (K.ofNat 64) = some f64
section
variable {fs : T EF} {ro : Option K} {h : H} {v w : V} {n : Int} {m : Nat} {E : List (Int × Int)} {L : List Int}
theorem f18_ok (k : CallsIg fs) (hv : Srp h v E) (hw : Sr iE h w L) (hc : HC h) (hL : L.length ≤ 1000000) (hn : chkI (m : Int) E = 0) : Ret fs f18 [.i .i64 (m : Int), v, w] h fun r h' => r = .tup [.b (grB (m : Int) E L), .i .i64 0] ∧ Grow h.nx.nat h h' := by
  obtain ⟨m', hm, _, hE⟩ := chkI_ok hn
  obtain rfl : m = m' := by omega
  apply ret_of rfl
  show W fs none f18_c _ _ _
  unfold f18_c
  have hE6 : E.length ≤ 1000000 := by have := hE.1; omega
  simp (disch := omega) only [f18_r0, f18_r1, w_reg, w_seq, seqK_n, x_nil, x_mv, x_as, x_call, ev_t, ev_c, evs_nil, evs_cons, getV_some, putD_some, frame_3, of0, getK_set, Nat.reduceEqDiff, ↓reduceIte]
  refine (callP_0 (ef := f17) k.c17 rfl (f17_ret (n := (m : Int)) k.toCallsC hv hc hE6)).mono ?_
  rintro r h1 ⟨rfl, hG⟩
  rw [hn]
  have d : decide ((0 : Int) ≠ 0) = false := rfl
  simp (disch := omega) only [f18_r2, f18_r4, w_skip, w_reg, w_seq, w_cond, seqK_n, ckB_b, cbB_b, true_and, x_nil, x_mv, x_as, x_bin, x_call, kx, rvP_ok, okv_some, ev_t, ev_c, evs_nil, evs_cons, getV_some, putD_some, bin_neq, of0, getK_set, Nat.reduceEqDiff, ↓reduceIte, Bool.false_eq_true, d]
  refine (callP_0 (ef := f62) k.c62 rfl (f62_ret k.toCallsGr (hv.grow hc hG) (hw.grow hc hG) (hG.hc hc) hE hL)).mono ?_
  rintro r h2 ⟨rfl, hG2⟩
  simp (disch := omega) only [f18_rs, w_ret, seqK_n, true_and, retK_r, x_nil, x_as, kx, ev_t, ev_c, getV_some, putD_some, oGet_s, readRs_nil, readRs_t, retV_2, Option.some.injEq, exists_eq_left', getK_set, Nat.reduceEqDiff, ↓reduceIte, true_and]
  exact hG.trans (hG2.low hG.nx)
theorem f64_ok (k : CallsIg fs) (hv : Srp h v E) (hw : Sr iE h w L) (hc : HC h) (hL : L.length ≤ 1000000) (hn : chkI (m : Int) E = 0) : Ret fs f64 [.i .i64 (m : Int), v, w] h fun r h' => r = .i .i64 (if grB (m : Int) E L = true then 0 else 1) ∧ Grow h.nx.nat h h' := by
  obtain ⟨m', hm, _, hE⟩ := chkI_ok hn
  obtain rfl : m = m' := by omega
  apply ret_of rfl
  show W fs none f64_c _ _ _
  unfold f64_c
  have hE6 : E.length ≤ 1000000 := by have := hE.1; omega
  simp (disch := omega) only [f64_r0, f64_r1, w_reg, w_seq, seqK_n, x_nil, x_mv, x_as, x_call, ev_t, ev_c, evs_nil, evs_cons, getV_some, putD_some, frame_3, of0, getK_set, Nat.reduceEqDiff, ↓reduceIte]
  refine (callP_0 (ef := f17) k.c17 rfl (f17_ret (n := (m : Int)) k.toCallsC hv hc hE6)).mono ?_
  rintro r h1 ⟨rfl, hG⟩
  rw [hn]
  have d : decide ((0 : Int) ≠ 0) = false := rfl
  simp (disch := omega) only [f64_r2, f64_r4, w_skip, w_reg, w_seq, w_cond, seqK_n, ckB_b, cbB_b, true_and, x_nil, x_mv, x_as, x_bin, x_call, kx, rvP_ok, okv_some, ev_t, ev_c, evs_nil, evs_cons, getV_some, putD_some, bin_neq, of0, getK_set, Nat.reduceEqDiff, ↓reduceIte, Bool.false_eq_true, d]
  refine (callP_0 (ef := f62) k.c62 rfl (f62_ret k.toCallsGr (hv.grow hc hG) (hw.grow hc hG) (hG.hc hc) hE hL)).mono ?_
  rintro r h2 ⟨rfl, hG2⟩
  have hGG := hG.trans (hG2.low hG.nx)
  cases grB (m : Int) E L with
  | true =>
    simp (disch := omega) only [f64_r6, f64_rs, w_skip, w_reg, w_seq, w_cond, w_ret, seqK_n, ckB_b, cbB_b, true_and, retK_r, x_nil, x_as, x_not, kx, rvP_ok, ev_t, ev_c, getV_some, putD_some, onB_b, oGet_s, readRs_nil, readRs_t, retV_1, of0, Option.some.injEq, exists_eq_left', getK_set, ↓reduceIte, Bool.false_eq_true, Bool.not_true, Bool.not_true, true_and]
    exact hGG
  | false =>
    simp (disch := omega) only [f64_r5, f64_rs, w_reg, w_seq, w_cond, w_ret, seqK_n, seqK_r, ckB_b, cbB_b, true_and, retK_r, x_nil, x_as, x_not, kx, rvP_ok, ev_t, ev_c, getV_some, putD_some, onB_b, oGet_s, readRs_nil, readRs_t, retV_1, of1, Option.some.injEq, exists_eq_left', getK_set, ↓reduceIte, Bool.false_eq_true, Bool.not_false, Bool.not_false, true_and]
    exact hGG
theorem gr_labs (hg : grB (m : Int) E L = true) : L.length = m ∧ LabOk E L := by
  unfold grB at hg
  simp only [Bool.and_eq_true, decide_eq_true_eq] at hg
  exact ⟨by omega, labs_in hg.2.1⟩
/-- The turned labels. -/
def turnL (E : List (Int × Int)) (L : List Int) : List Int := L.map fun x => (E.length : Int) - x
theorem f20_no (k : CallsIg fs) (hv : Srp h v E) (hw : Sr iE h w L) (hc : HC h) (hL : L.length ≤ 1000000) (hn : chkI (m : Int) E = 0) (hg : grB (m : Int) E L = false) : Ret fs f20 [.i .i64 (m : Int), v, w] h fun r h' => r = .tup [.sn, .i .i64 1] ∧ Grow h.nx.nat h h' := by
  apply ret_of rfl
  show W fs none f20_c _ _ _
  unfold f20_c
  simp (disch := omega) only [f20_r0, f20_r1, w_reg, w_seq, seqK_n, x_nil, x_mv, x_as, x_call, ev_t, ev_c, evs_nil, evs_cons, getV_some, putD_some, frame_3, of0, getK_set, Nat.reduceEqDiff, ↓reduceIte]
  refine (callP_0 (ef := f64) k.c64 rfl (f64_ok k hv hw hc hL hn)).mono ?_
  rintro r h1 ⟨rfl, hG⟩
  rw [hg]
  have d : decide ((1 : Int) ≠ 0) = true := rfl
  simp (disch := omega) only [f20_r2, f20_r3, f20_rs, w_reg, w_seq, w_cond, w_ret, seqK_n, seqK_r, ckB_b, cbB_b, true_and, retK_r, x_nil, x_mv, x_as, x_bin, kx, rvP_ok, okv_some, ev_t, ev_c, getV_some, putD_some, bin_neq, oGet_s, readRs_nil, readRs_t, retV_2, of0, Option.some.injEq, exists_eq_left', getK_set, Nat.reduceEqDiff, ↓reduceIte, Bool.false_eq_true, d, Bool.false_eq_true, true_and]
  exact hG
def f20_I (h : H) (v w u : V) (E : List (Int × Int)) (L : List Int) (j : Nat) (fr : Fr) (h1 : H) : Prop := j ≤ L.length ∧ Grow h.nx.nat h h1 ∧ (∃ M : List Int, M.length = L.length ∧ (∀ i (hi : i < L.length) (hm : i < M.length), i < j → M[i] = (E.length : Int) - L[i]) ∧ Sl iE h1 u M) ∧ fr.get (K.ofNat 1) = some (v) ∧ fr.get (K.ofNat 2) = some (w) ∧ fr.get (K.ofNat 9) = some (u) ∧ fr.get (K.ofNat 21) = some (w) ∧ fr.get (K.ofNat 22) = some (.i .i64 (L.length : Int)) ∧ fr.get (K.ofNat 23) = some (.i .i64 (j : Int))
theorem f20_ok (k : CallsIg fs) (hv : Srp h v E) (hw : Sr iE h w L) (hc : HC h) (hL : L.length ≤ 1000000) (hn : chkI (m : Int) E = 0) (hg : grB (m : Int) E L = true) : Ret fs f20 [.i .i64 (m : Int), v, w] h fun r h' => ∃ u, r = .tup [u, .i .i64 0] ∧ Sl iE h' u (turnL E L) ∧ Own h.nx.nat u ∧ Grow h.nx.nat h h' := by
  obtain ⟨hLm, hlin⟩ := gr_labs hg
  obtain ⟨m', hm, _, hE⟩ := chkI_ok hn
  have hE10 : E.length ≤ 10 := hE.1
  apply ret_of rfl
  show W fs none f20_c _ _ _
  unfold f20_c
  simp (disch := omega) only [f20_r0, f20_r1, w_reg, w_seq, seqK_n, x_nil, x_mv, x_as, x_call, ev_t, ev_c, evs_nil, evs_cons, getV_some, putD_some, frame_3, of0, getK_set, Nat.reduceEqDiff, ↓reduceIte]
  refine (callP_0 (ef := f64) k.c64 rfl (f64_ok k hv hw hc hL hn)).mono ?_
  rintro r h1 ⟨rfl, hG⟩
  rw [hg]
  have d : decide ((0 : Int) ≠ 0) = false := rfl
  have hmk : ∀ {k : IntKind}, mksV 1 [.i .i64 0] h1 (.i k (m : Int)) = .ok (.sl h1.nx 0 m 1) (h1.new (.cells (m * 1) (rep [.i .i64 0] m))) := mks_ints (by omega)
  have hs0 := mks_sl (h := h1) (n := m)
  have gl := Grow.new hG.nx (.cells (m * 1) (rep [.i .i64 0] m))
  have hG0 := hG.trans gl
  simp (disch := omega) only [f20_r2, f20_r4, f20_r5, w_skip, w_reg, w_seq, w_cond, w_block, seqK_n, ckB_b, cbB_b, true_and, x_nil, x_mv, x_as, x_bin, x_mks, x_len, kx, rvP_ok, okv_some, ev_t, ev_c, getV_some, putD_some, bin_neq, of0, getK_set, Nat.reduceEqDiff, ↓reduceIte, Bool.false_eq_true, d, hmk, hw.len]
  refine W_loop (f20_I h v w (.sl h1.nx 0 m 1) E L) (fun j => L.length - j) ?_ 0 ⟨by omega, hG0, ⟨_, by simp; omega, fun i _ _ h => by omega, hs0⟩, by simp (disch := omega) only [getK_set, Nat.reduceEqDiff, ↓reduceIte, and_self, Int.natCast_zero]⟩
  rintro j fr h2 ⟨hj, hG2, ⟨M, hM, hMe, hS⟩, g1, g2, g9, g21, g22, g23⟩
  have hc2 := hG2.hc hc
  have hv2 := hv.grow hc hG2
  have hw2 := hw.grow hc hG2
  unfold f20_l0
  by_cases hlt : j < L.length
  · have d1 : decide ((j : Int) < (L.length : Int)) = true := by simpa using hlt
    obtain ⟨p, hp1, hp2⟩ := hw2.at j hlt
    obtain ⟨q1, q2⟩ := hlin _ (List.getElem_mem hlt)
    obtain ⟨r', id', m', cs', hst1, hst2, hst3, ⟨off', n', sz', hid⟩, hst5⟩ := hS.st (i := j) (by omega) (x := (E.length : Int) - L[j]) (c := .i .i64 ((E.length : Int) - L[j])) rfl rfl hc2
    injection hid with hid _ _ _
    simp (disch := omega) only [f20_r6, f20_r7, f20_r8, f20_r9, w_skip, w_reg, w_seq, w_cond, w_block, seqK_n, atK_n, loopK_n, ckB_b, cbB_b, true_and, x_nil, x_mv, x_as, x_ld, x_st, x_bin, x_iads, x_len, kx, rvP_ok, okv_some, ev_t, ev_c, getV_some, putD_some, putD_none, bin_add, bin_sub, bin_lss, of1, getK_set, Nat.reduceEqDiff, ↓reduceIte, g1, g9, g21, g22, g23, d1, hp1, hp2, iE, hv2.len, fw64, hst1, hst2]
    refine ⟨j + 1, by omega, by omega, hG2.trans (Grow.put (by rw [← hid]; exact hG.nx) hst5 _), ⟨_, by simpa using hM, fun i hi hi2 hij => ?_, hst3⟩, by simp (disch := omega) only [getK_set, Nat.reduceEqDiff, ↓reduceIte, g1, g2, g9, g21, g22, and_self, Int.natCast_add, Int.natCast_one]⟩
    rw [List.getElem_set]
    by_cases e : j = i
    · subst e; simp
    · rw [if_neg e]; exact hMe i hi (by omega) (by omega)
  · have d1 : decide ((j : Int) < (L.length : Int)) = false := by simpa using hlt
    have hML : M = turnL E L := by
      unfold turnL
      apply List.ext_getElem (by simp; omega)
      intro i h1 h2
      rw [List.getElem_map]
      exact hMe i (by simpa using h2) h1 (by omega)
    rw [hML] at hS
    simp (disch := omega) only [f20_r6, f20_r10, f20_rs, w_reg, w_seq, w_cond, w_exit, w_ret, seqK_n, seqK_e, atK_e, loopK_e, ckB_b, cbB_b, true_and, retK_r, x_nil, x_mv, x_as, x_bin, kx, rvP_ok, okv_some, ev_t, ev_c, getV_some, putD_some, bin_lss, oGet_s, readRs_nil, readRs_t, retV_2, of0, Option.some.injEq, exists_eq_left', getK_set, Nat.reduceEqDiff, ↓reduceIte, Bool.false_eq_true, g9, g22, g23, d1]
    exact ⟨_, rfl, hS, fun _ _ _ _ e => by injection e with e1 _ _ _; rw [← e1]; exact hG.nx, hG2⟩
def f34_I (h : H) (v w : V) (E : List (Int × Int)) (L : List Int) (j : Nat) (fr : Fr) (h1 : H) : Prop := j ≤ L.length ∧ ∃ u, Sl iE h1 u (turnL E (L.take j)) ∧ Own h.nx.nat u ∧ Grow h.nx.nat h h1 ∧ fr.get (K.ofNat 0) = some (v) ∧ fr.get (K.ofNat 1) = some (w) ∧ fr.get (K.ofNat 5) = some (u) ∧ fr.get (K.ofNat 6) = some (.i .i64 (j : Int))
theorem f34_ret (hv : Srp h v E) (hw : Sr iE h w L) (hc : HC h) (hE : E.length ≤ 10) (hlin : LabOk E L) (hL : L.length ≤ 1000000) : Ret fs f34 [v, w] h fun u h' => Sl iE h' u (turnL E L) ∧ Own h.nx.nat u ∧ Grow h.nx.nat h h' := by
  apply ret_of rfl
  show W fs none f34_c _ _ _
  unfold f34_c
  simp (disch := omega) only [f34_r0, f34_r1, f34_r2, w_reg, w_seq, w_block, seqK_n, x_nil, x_as, ev_c, putD_some, frame_2, of0]
  refine W_loop (f34_I h v w E L) (fun j => L.length - j) ?_ 0 ⟨by omega, .sn, Sl.nil, Own.sn, Grow.refl _ _, by simp (disch := omega) only [getK_set, Nat.reduceEqDiff, ↓reduceIte, and_self, Int.natCast_zero]⟩
  rintro j fr h1 ⟨hj, u, hs, ho, hG, g0, g1, g5, g6⟩
  have hc1 := hG.hc hc
  have hv1 := hv.grow hc hG
  have hw1 := hw.grow hc hG
  unfold f34_l0
  by_cases hlt : j < L.length
  · have d1 : decide ((j : Int) < (L.length : Int)) = true := by simpa using hlt
    obtain ⟨p, hp1, hp2⟩ := hw1.at j hlt
    obtain ⟨q1, q2⟩ := hlin _ (List.getElem_mem hlt)
    obtain ⟨u3, h3, a3, s3, o3, gr3, _⟩ := Sl.push (e := iE) (x := (E.length : Int) - L[j]) (c := .i .i64 ((E.length : Int) - L[j])) rfl hs ho hG.nx hc1 (by simp [turnL]; omega)
    simp (disch := omega) only [f34_r3, f34_r4, f34_r5, w_skip, w_reg, w_seq, w_cond, w_block, seqK_n, atK_n, loopK_n, ckB_b, cbB_b, true_and, x_nil, x_mv, x_as, x_bslice, x_ld, x_bin, x_iads, x_len, x_app, kx, rvP_ok, okv_some, ev_t, ev_c, getV_some, putD_some, bin_add, bin_sub, bin_lss, oGet_s, cells1_i, fill_1, set_1, of0, of1, getK_set, Nat.reduceEqDiff, ↓reduceIte, g0, g1, g5, g6, hw1.len, hv1.len, d1, hp1, hp2, iE, fw64, fill_1, set_1, a3]
    have e : turnL E (L.take j) ++ [(E.length : Int) - L[j]] = turnL E (L.take (j + 1)) := by unfold turnL; rw [List.take_succ_eq_append_getElem hlt, List.map_append]; rfl
    rw [e] at s3
    exact ⟨j + 1, by omega, by omega, u3, s3, o3, hG.trans gr3, by simp (disch := omega) only [getK_set, Nat.reduceEqDiff, ↓reduceIte, g0, g1, and_self, Int.natCast_add, Int.natCast_one]⟩
  · have d1 : decide ((j : Int) < (L.length : Int)) = false := by simpa using hlt
    have ej : j = L.length := by omega
    rw [ej, List.take_length] at hs
    simp (disch := omega) only [f34_r3, f34_r6, f34_rs, w_reg, w_seq, w_cond, w_exit, w_ret, seqK_n, seqK_e, atK_e, loopK_e, ckB_b, cbB_b, true_and, retK_r, x_nil, x_mv, x_as, x_bin, x_len, kx, rvP_ok, okv_some, ev_t, getV_some, putD_some, bin_lss, oGet_s, readRs_nil, readRs_t, retV_1, Option.some.injEq, exists_eq_left', getK_set, Nat.reduceEqDiff, ↓reduceIte, Bool.false_eq_true, g1, g5, g6, hw1.len, d1]
    exact ⟨hs, ho, hG⟩
end
end Go.Ev
namespace Go.Ev
open Go Go.RowKit
noncomputable def f109_r0 : List EOper := [⟨(some (K.ofNat 6)), none, .as (.c (.b false))⟩]
noncomputable def f109_r1 : List EOper := [⟨(some (K.ofNat 7)), none, .alloc 11 (List.replicate 11 (.b false))⟩]
noncomputable def f109_r2 : List EOper := [⟨(some (K.ofNat 8)), none, .as (.c (.i .i64 (.ofNat 0)))⟩]
noncomputable def f109_r3 : List EOper := [⟨(some (K.ofNat 14)), none, .mv (.t (K.ofNat 8))⟩, ⟨(some (K.ofNat 15)), none, .mv (.t (K.ofNat 0))⟩, ⟨(some (K.ofNat 16)), none, .len (.t (K.ofNat 15))⟩, ⟨(some (K.ofNat 17)), none, .bin .lss (.t (K.ofNat 14)) (.t (K.ofNat 16))⟩]
noncomputable def f109_r4 : List Stage := [⟨[⟨(some (K.ofNat 20)), none, .mv (.t (K.ofNat 0))⟩, ⟨(some (K.ofNat 21)), none, .mv (.t (K.ofNat 8))⟩, ⟨(some (K.ofNat 22)), none, .iads 2 (.t (K.ofNat 20)) (.t (K.ofNat 21))⟩, ⟨(some (K.ofNat 23)), none, .iadr 2 1 (.t (K.ofNat 22)) (.c (.i .i64 (.ofNat 0)))⟩, ⟨(some (K.ofNat 24)), none, .ld (.t (K.ofNat 23))⟩, ⟨(some (K.ofNat 25)), none, .mv (.t (K.ofNat 0))⟩, ⟨(some (K.ofNat 26)), none, .mv (.t (K.ofNat 8))⟩, ⟨(some (K.ofNat 27)), none, .iads 2 (.t (K.ofNat 25)) (.t (K.ofNat 26))⟩, ⟨(some (K.ofNat 28)), none, .iadr 2 1 (.t (K.ofNat 27)) (.c (.i .i64 (.ofNat 1)))⟩, ⟨(some (K.ofNat 29)), none, .ld (.t (K.ofNat 28))⟩], [], (some ⟨(some (K.ofNat 9)), none, .as (.t (K.ofNat 24))⟩), []⟩, ⟨[], [⟨(some (K.ofNat 25)), none, .mv (.t (K.ofNat 0))⟩, ⟨(some (K.ofNat 26)), none, .mv (.t (K.ofNat 8))⟩, ⟨(some (K.ofNat 27)), none, .iads 2 (.t (K.ofNat 25)) (.t (K.ofNat 26))⟩, ⟨(some (K.ofNat 28)), none, .iadr 2 1 (.t (K.ofNat 27)) (.c (.i .i64 (.ofNat 1)))⟩, ⟨(some (K.ofNat 29)), none, .ld (.t (K.ofNat 28))⟩], (some ⟨(some (K.ofNat 10)), none, .as (.t (K.ofNat 29))⟩), []⟩, ⟨[], [], none, []⟩]
noncomputable def f109_r5 : List EOper := [⟨(some (K.ofNat 30)), none, .mv (.t (K.ofNat 10))⟩, ⟨(some (K.ofNat 31)), none, .mv (.t (K.ofNat 1))⟩, ⟨(some (K.ofNat 32)), none, .len (.t (K.ofNat 31))⟩, ⟨(some (K.ofNat 33)), none, .bin .gtr (.t (K.ofNat 30)) (.t (K.ofNat 32))⟩]
noncomputable def f109_r6 : List EOper := [⟨(some (K.ofNat 34)), none, .mv (.t (K.ofNat 2))⟩, ⟨(some (K.ofNat 11)), none, .as (.t (K.ofNat 34))⟩]
noncomputable def f109_r7 : List EOper := [⟨(some (K.ofNat 35)), none, .mv (.t (K.ofNat 10))⟩, ⟨(some (K.ofNat 36)), none, .mv (.t (K.ofNat 1))⟩, ⟨(some (K.ofNat 37)), none, .len (.t (K.ofNat 36))⟩, ⟨(some (K.ofNat 38)), none, .bin .lss (.t (K.ofNat 35)) (.t (K.ofNat 37))⟩]
noncomputable def f109_r8 : List EOper := [⟨(some (K.ofNat 39)), none, .mv (.t (K.ofNat 1))⟩, ⟨(some (K.ofNat 40)), none, .mv (.t (K.ofNat 10))⟩, ⟨(some (K.ofNat 41)), none, .iads 1 (.t (K.ofNat 39)) (.t (K.ofNat 40))⟩, ⟨(some (K.ofNat 42)), none, .ld (.t (K.ofNat 41))⟩, ⟨(some (K.ofNat 11)), none, .as (.t (K.ofNat 42))⟩]
noncomputable def f109_r9 : List Stage := [⟨[⟨(some (K.ofNat 43)), none, .mv (.t (K.ofNat 1))⟩, ⟨(some (K.ofNat 44)), none, .mv (.t (K.ofNat 9))⟩, ⟨(some (K.ofNat 45)), none, .iads 1 (.t (K.ofNat 43)) (.t (K.ofNat 44))⟩, ⟨(some (K.ofNat 46)), none, .ld (.t (K.ofNat 45))⟩, ⟨(some (K.ofNat 47)), none, .mv (.t (K.ofNat 11))⟩, ⟨(some (K.ofNat 48)), none, .bin .sub (.t (K.ofNat 46)) (.t (K.ofNat 47))⟩, ⟨(some (K.ofNat 49)), none, .mv (.t (K.ofNat 11))⟩, ⟨(some (K.ofNat 50)), none, .mv (.t (K.ofNat 1))⟩, ⟨(some (K.ofNat 51)), none, .mv (.t (K.ofNat 9))⟩, ⟨(some (K.ofNat 52)), none, .iads 1 (.t (K.ofNat 50)) (.t (K.ofNat 51))⟩, ⟨(some (K.ofNat 53)), none, .ld (.t (K.ofNat 52))⟩, ⟨(some (K.ofNat 54)), none, .bin .sub (.t (K.ofNat 49)) (.t (K.ofNat 53))⟩, ⟨(some (K.ofNat 55)), none, .max (.t (K.ofNat 48)) (.t (K.ofNat 54))⟩], [], (some ⟨(some (K.ofNat 12)), none, .as (.t (K.ofNat 55))⟩), []⟩, ⟨[], [], none, []⟩]
noncomputable def f109_r10 : List EOper := [⟨(some (K.ofNat 56)), none, .mv (.t (K.ofNat 12))⟩, ⟨(some (K.ofNat 57)), none, .iadr 11 1 (.t (K.ofNat 7)) (.t (K.ofNat 56))⟩, ⟨(some (K.ofNat 58)), none, .ld (.t (K.ofNat 57))⟩]
noncomputable def f109_r11 : List EOper := [⟨(some (K.ofNat 6)), none, .as (.c (.b false))⟩]
noncomputable def f109_r12 : List EOper := [⟨(some (K.ofNat 59)), none, .mv (.t (K.ofNat 12))⟩, ⟨(some (K.ofNat 60)), none, .iadr 11 1 (.t (K.ofNat 7)) (.t (K.ofNat 59))⟩, ⟨none, none, .st 1 (.t (K.ofNat 60)) (.c (.b true))⟩]
noncomputable def f109_r13 : List EOper := [⟨(some (K.ofNat 18)), none, .mv (.t (K.ofNat 8))⟩, ⟨(some (K.ofNat 19)), none, .bin .add (.t (K.ofNat 18)) (.c (.i .i64 (.ofNat 1)))⟩, ⟨(some (K.ofNat 8)), none, .as (.t (K.ofNat 19))⟩]
noncomputable def f109_l0 : EC := (.seq (.seq (.reg f109_r3) (.cond (.t (K.ofNat 17)) .skip (.exit 0))) (.seq (.block 1 (.seq (.draw f109_r4) (.seq (.seq (.reg f109_r5) (.cond (.t (K.ofNat 33)) (.exit 1) .skip)) (.seq (.reg f109_r6) (.seq (.seq (.reg f109_r7) (.cond (.t (K.ofNat 38)) (.reg f109_r8) .skip)) (.seq (.draw f109_r9) (.seq (.seq (.reg f109_r10) (.cond (.t (K.ofNat 58)) (.seq (.reg f109_r11) .ret) .skip)) (.reg f109_r12)))))))) (.reg f109_r13)))
noncomputable def f109_r14 : List EOper := [⟨(some (K.ofNat 13)), none, .as (.c (.i .i64 (.ofNat 0)))⟩]
noncomputable def f109_r15 : List EOper := [⟨(some (K.ofNat 61)), none, .mv (.t (K.ofNat 13))⟩, ⟨(some (K.ofNat 62)), none, .mv (.t (K.ofNat 1))⟩, ⟨(some (K.ofNat 63)), none, .len (.t (K.ofNat 62))⟩, ⟨(some (K.ofNat 64)), none, .bin .lss (.t (K.ofNat 61)) (.t (K.ofNat 63))⟩]
noncomputable def f109_r16 : List EOper := [⟨(some (K.ofNat 67)), none, .mv (.t (K.ofNat 1))⟩, ⟨(some (K.ofNat 68)), none, .mv (.t (K.ofNat 13))⟩, ⟨(some (K.ofNat 69)), none, .iads 1 (.t (K.ofNat 67)) (.t (K.ofNat 68))⟩, ⟨(some (K.ofNat 70)), none, .ld (.t (K.ofNat 69))⟩, ⟨(some (K.ofNat 71)), none, .mv (.t (K.ofNat 2))⟩, ⟨(some (K.ofNat 72)), none, .bin .eql (.t (K.ofNat 70)) (.t (K.ofNat 71))⟩]
noncomputable def f109_r17 : List EOper := [⟨(some (K.ofNat 6)), none, .as (.c (.b false))⟩]
noncomputable def f109_r18 : List EOper := [⟨(some (K.ofNat 65)), none, .mv (.t (K.ofNat 13))⟩, ⟨(some (K.ofNat 66)), none, .bin .add (.t (K.ofNat 65)) (.c (.i .i64 (.ofNat 1)))⟩, ⟨(some (K.ofNat 13)), none, .as (.t (K.ofNat 66))⟩]
noncomputable def f109_l1 : EC := (.seq (.seq (.reg f109_r15) (.cond (.t (K.ofNat 64)) .skip (.exit 2))) (.seq (.block 3 (.seq (.reg f109_r16) (.cond (.t (K.ofNat 72)) (.seq (.reg f109_r17) .ret) .skip))) (.reg f109_r18)))
noncomputable def f109_r19 : List EOper := [⟨(some (K.ofNat 6)), none, .as (.c (.b true))⟩]
noncomputable def f109_c : EC := (.seq (.reg f109_r0) (.seq (.reg f109_r1) (.seq (.seq (.reg f109_r2) (.block 0 (.loop f109_l0))) (.seq (.seq (.reg f109_r14) (.block 2 (.loop f109_l1))) (.seq (.reg f109_r19) .ret)))))
noncomputable def f109 : EF := ⟨73, [.tmp (K.ofNat 6)], f109_c, none⟩
theorem f109_rs : f109.rs = [.tmp (K.ofNat 6)] := of_eq_true (eq_self _)
section
variable {fs : T EF} {ro : Option K} {h : H} {v w : V} {n : Nat} {E : List (Int × Int)} {L : List Int} {x : Int}
def f109_J (h : H) (v w : V) (x : Int) (E : List (Int × Int)) (j : Nat) (fr : Fr) (h1 : H) : Prop := j ≤ E.length ∧ Grow h.nx.nat h h1 ∧ h.nx.nat < h1.nx.nat ∧ (∃ B : List Bool, B.length = 11 ∧ Ar V.b h1 h.nx B) ∧ fr.get (K.ofNat 0) = some (v) ∧ fr.get (K.ofNat 1) = some (w) ∧ fr.get (K.ofNat 2) = some (.i .i64 x) ∧ fr.get (K.ofNat 7) = some (.p h.nx 0) ∧ fr.get (K.ofNat 8) = some (.i .i64 (j : Int))
def f109_I (h : H) (w : V) (x : Int) (L : List Int) (i : Nat) (fr : Fr) (h1 : H) : Prop := i ≤ L.length ∧ Grow h.nx.nat h h1 ∧ fr.get (K.ofNat 1) = some (w) ∧ fr.get (K.ofNat 2) = some (.i .i64 x) ∧ fr.get (K.ofNat 13) = some (.i .i64 (i : Int))
noncomputable def f109_t : EC := .seq (.draw f109_r9) (.seq (.seq (.reg f109_r10) (.cond (.t (K.ofNat 58)) (.seq (.reg f109_r11) .ret) .skip)) (.reg f109_r12))
theorem f109_any (hv : Srp h v E) (hw : Sr iE h w L) (hc : HC h) (hE : EdgesOk n E) (hlin : LabOk E L) (hL : L.length ≤ 7) (hx : 0 ≤ x ∧ x ≤ (E.length : Int)) : Ret fs f109 [v, w, .i .i64 x] h fun r h' => (∃ b, r = .b b) ∧ Grow h.nx.nat h h' := by
  obtain ⟨hE10, _, hE3⟩ := hE
  apply ret_of rfl
  show W fs none f109_c _ _ _
  unfold f109_c
  have hfl : (List.replicate 11 (V.b false)) = (List.replicate 11 false).map V.b := rfl
  have g0 := Grow.new (Nat.le_refl h.nx.nat) (.cells 11 ((List.replicate 11 false).map V.b))
  have n0 := nx_new h (.cells 11 ((List.replicate 11 false).map V.b))
  have eA : Ar V.b (h.new (.cells 11 ((List.replicate 11 false).map V.b))) h.nx (List.replicate 11 false) := get_new_same
  simp (disch := omega) only [f109_r0, f109_r1, f109_r2, w_reg, w_seq, w_block, seqK_n, x_nil, x_as, x_alloc, ev_c, putD_some, frame_3, of0, hfl]
  refine W_loop (f109_J h v w x E) (fun j => E.length - j) ?_ 0 ⟨by omega, g0, by omega, ⟨_, by simp, eA⟩, by simp (disch := omega) only [getK_set, Nat.reduceEqDiff, ↓reduceIte, and_self, Int.natCast_zero]⟩
  clear g0 n0 eA
  rintro j fr h1 ⟨hj, hG, hnx, ⟨B, hB, hA⟩, g0, g1, g2, g7, g8⟩
  have hc1 := hG.hc hc
  have hv1 := hv.grow hc hG
  have hw1 := hw.grow hc hG
  unfold f109_l0
  by_cases hlt : j < E.length
  · have d0 : decide ((j : Int) < (E.length : Int)) = true := by simpa using hlt
    obtain ⟨ide, q, hp1, _, hp2, hp3⟩ := hv1.at2 hlt
    obtain ⟨e0, e1, e2⟩ := hE3 E[j] (List.getElem_mem hlt)
    have hvb := hv.beq
    have hwb := hw.beq
    obtain ⟨a, ea⟩ : ∃ a : Nat, E[j].1 = (a : Int) := ⟨E[j].1.toNat, by omega⟩
    obtain ⟨b, eb⟩ : ∃ b : Nat, E[j].2 = (b : Int) := ⟨E[j].2.toNat, by omega⟩
    rw [ea] at hp2 e1
    rw [eb] at hp3 e1
    by_cases hbl : b > L.length
    · have d1 : decide ((b : Int) > (L.length : Int)) = true := by simp; omega
      simp (disch := omega) only [f109_r3, f109_r4, f109_r5, f109_r6, w_skip, w_reg, w_draw, w_seq, w_cond, w_block, w_exit, seqK_n, seqK_e, atK_e, ckB_b, cbB_b, true_and, x_nil, x_mv, x_as, x_bin, x_len, kx, kg, xg_nil, xg_mv, xg_ld, xg_iadr, xg_iads, xd_cons, fresh_nil, stK_n, stK_s, stay_nil, stay_cons, again_ok, stay_mv, beq_i, stay_iads, stay_ld, beq_p, rvP_ok, okv_some, ev_t, ev_c, getV_some, putD_some, bin_lss, bin_gtr, onP_p, of0, of1, getK_set, Nat.reduceEqDiff, ↓reduceIte, stay_iadr, ix2_0, ix2_1, g0, g1, g8, hv1.len, d0, hp1, hp2, hp3, hvb, hw1.len, d1]
      simp (disch := omega) only [f109_r13, loopK_n, x_nil, x_mv, x_as, x_bin, kx, rvP_ok, okv_some, ev_t, ev_c, getV_some, putD_some, bin_add, of1, getK_set, Nat.reduceEqDiff, ↓reduceIte, g8, fw64]
      exact ⟨j + 1, by omega, by omega, hG, hnx, ⟨B, hB, hA⟩, by simp (disch := omega) only [getK_set, Nat.reduceEqDiff, ↓reduceIte, g0, g1, g2, g7, and_self, Int.natCast_add, Int.natCast_one]⟩
    · have d1 : decide ((b : Int) > (L.length : Int)) = false := by simp; omega
      simp (disch := omega) only [f109_r3, f109_r4, f109_r5, f109_r6, f109_r7, w_skip, w_reg, w_draw, w_seq, w_cond, w_block, seqK_n, ckB_b, cbB_b, true_and, x_nil, x_mv, x_as, x_bin, x_len, kx, kg, xg_nil, xg_mv, xg_ld, xg_iadr, xg_iads, xd_cons, fresh_nil, stK_n, stK_s, stay_nil, stay_cons, again_ok, stay_mv, beq_i, stay_iads, stay_ld, beq_p, rvP_ok, okv_some, ev_t, ev_c, getV_some, putD_some, bin_lss, bin_gtr, onP_p, of0, of1, getK_set, Nat.reduceEqDiff, ↓reduceIte, Bool.false_eq_true, decide_eq_true_eq, stay_iadr, ix2_0, ix2_1, g0, g1, g2, g8, hv1.len, d0, hp1, hp2, hp3, hvb, hw1.len, d1]
      have tail : ∀ (y : Int) (fr : Fr), 0 ≤ y → y ≤ 10 → fr.get (K.ofNat 0) = some (v) ∧ fr.get (K.ofNat 1) = some (w) ∧ fr.get (K.ofNat 2) = some (.i .i64 x) ∧ fr.get (K.ofNat 7) = some (.p h.nx 0) ∧ fr.get (K.ofNat 8) = some (.i .i64 (j : Int)) ∧ fr.get (K.ofNat 9) = some (.i .i64 (a : Int)) ∧ fr.get (K.ofNat 11) = some (.i .i64 y) → W fs none f109_t (atK 1 (seqK (W fs none (.reg f109_r13)) (loopK (f109_J h v w x E) (fun j => E.length - j) j (atK 0 (seqK (W fs none (.seq (.seq (.reg f109_r14) (.block 2 (.loop f109_l1))) (.seq (.reg f109_r19) .ret))) (retK f109 fun r h' => (∃ b, r = .b b) ∧ Grow h.nx.nat h h')))))) fr h1 := by
        clear g0 g1 g2 g7 g8 fr
        rintro y fr hy0 hy1 ⟨g0, g1, g2, g7, g8, g9, g11⟩
        unfold f109_t
        obtain ⟨s, hs1, hs2, hs3⟩ := hw1.atb a (by omega)
        obtain ⟨q1, q2⟩ := hlin _ (List.getElem_mem (l := L) (n := a) (by omega))
        obtain ⟨d, hd⟩ : ∃ d : Nat, max (L[a] - y) (y - L[a]) = (d : Int) := ⟨(max (L[a] - y) (y - L[a])).toNat, by omega⟩
        have hd11 : d < 11 := by omega
        have ix : ∀ f : Nat → RV, idxV (.i .i64 (d : Int)) 11 f = f d := fun f => idx_n hd11
        have hld := hA.ld (i := d) (by omega)
        have hst := (hA.st (i := d) (x := true) (c := .b true) (by omega) rfl rfl).1
        rw [hB] at hst
        cases hbd : B[d]'(by omega) with
        | true =>
          rw [hbd] at hld
          simp (disch := omega) only [f109_r9, f109_r10, f109_r11, f109_rs, w_reg, w_draw, w_seq, w_cond, w_ret, seqK_n, seqK_r, atK_r, loopK_r, ckB_b, cbB_b, true_and, retK_r, x_nil, x_mv, x_as, x_ld, x_iadr, kx, kg, xg_nil, xg_mv, xg_ld, xg_bin, xg_iads, xg_max, xd_cons, fresh_nil, stK_n, stK_s, stay_nil, rvP_ok, okv_some, ev_t, ev_c, getV_some, putD_some, bin_sub, onP_p, oGet_s, max_ii, readRs_nil, readRs_t, retV_1, Option.some.injEq, exists_eq_left', getK_set, Nat.reduceEqDiff, ↓reduceIte, g1, g7, g9, g11, hs1, hs2, iE, fw64, hd, ix, hld]
          exact ⟨⟨_, rfl⟩, hG⟩
        | false =>
          rw [hbd] at hld
          simp (disch := omega) only [f109_r9, f109_r10, f109_r12, f109_r13, w_skip, w_reg, w_draw, w_seq, w_cond, seqK_n, atK_n, loopK_n, ckB_b, cbB_b, true_and, x_nil, x_mv, x_as, x_ld, x_st, x_bin, x_iadr, kx, kg, xg_nil, xg_mv, xg_ld, xg_bin, xg_iads, xg_max, xd_cons, fresh_nil, stK_n, stK_s, stay_nil, rvP_ok, okv_some, ev_t, ev_c, getV_some, putD_some, putD_none, bin_add, bin_sub, onP_p, max_ii, of1, getK_set, Nat.reduceEqDiff, ↓reduceIte, Bool.false_eq_true, g1, g7, g8, g9, g11, hs1, hs2, iE, fw64, hd, ix, hld, hst]
          refine ⟨j + 1, by omega, by omega, hG.trans (Grow.put (Nat.le_refl _) hnx _), hnx, ⟨B.set d true, by simpa using hB, ?_⟩, by simp (disch := omega) only [getK_set, Nat.reduceEqDiff, ↓reduceIte, g0, g1, g2, g7, and_self, Int.natCast_add, Int.natCast_one]⟩
          show (h1.put _ _).get _ = .cells (B.set d true).length _
          rw [get_put_same, List.length_set, hB]
      by_cases hbl2 : b < L.length
      · have hlt2 : (b : Int) < (L.length : Int) := by omega
        obtain ⟨t, ht1, ht2, ht3⟩ := hw1.atb b hbl2
        obtain ⟨q1, q2⟩ := hlin _ (List.getElem_mem hbl2)
        simp (disch := omega) only [f109_r8, w_draw, w_seq, seqK_n, x_nil, x_mv, x_as, x_ld, x_iads, kx, rvP_ok, ev_t, getV_some, putD_some, getK_set, Nat.reduceEqDiff, ↓reduceIte, g1, hlt2, ht1, ht2, iE]
        show W fs none f109_t _ _ _
        exact tail L[b] _ q1 (by omega) (by simp (disch := omega) only [getK_set, Nat.reduceEqDiff, ↓reduceIte, g0, g1, g2, g7, g8, and_self])
      · have hlt2 : ¬ (b : Int) < (L.length : Int) := by omega
        simp (disch := omega) only [↓reduceIte, hlt2]
        show W fs none f109_t _ _ _
        exact tail x _ hx.1 (by omega) (by simp (disch := omega) only [getK_set, Nat.reduceEqDiff, ↓reduceIte, g0, g1, g2, g7, g8, and_self])
  · have d0 : decide ((j : Int) < (E.length : Int)) = false := by simpa using hlt
    simp (disch := omega) only [f109_r3, f109_r14, w_reg, w_seq, w_cond, w_block, w_exit, seqK_n, seqK_e, atK_e, loopK_e, ckB_b, cbB_b, true_and, x_nil, x_mv, x_as, x_bin, x_len, kx, rvP_ok, okv_some, ev_t, ev_c, getV_some, putD_some, bin_lss, of0, getK_set, Nat.reduceEqDiff, ↓reduceIte, Bool.false_eq_true, g0, g8, hv1.len, d0]
    refine W_loop (f109_I h w x L) (fun i => L.length - i) ?_ 0 ⟨by omega, hG, by simp (disch := omega) only [getK_set, Nat.reduceEqDiff, ↓reduceIte, g1, g2, and_self, Int.natCast_zero]⟩
    clear hG hnx hA hv1 hw1 hc1 g0 g1 g2 g7 g8
    rintro i fr h2 ⟨hi, hG, g1, g2, g13⟩
    have hw2 := hw.grow hc hG
    unfold f109_l1
    by_cases hil : i < L.length
    · have d1 : decide ((i : Int) < (L.length : Int)) = true := by simpa using hil
      obtain ⟨t, ht1, ht2⟩ := hw2.at i hil
      cases d2 : decide (L[i] = x) with
      | true =>
        simp (disch := omega) only [f109_r15, f109_r16, f109_r17, f109_rs, w_skip, w_reg, w_seq, w_cond, w_block, w_ret, seqK_n, seqK_r, atK_r, loopK_r, ckB_b, cbB_b, true_and, retK_r, x_nil, x_mv, x_as, x_ld, x_bin, x_iads, x_len, kx, rvP_ok, okv_some, ev_t, ev_c, getV_some, putD_some, bin_eql, bin_lss, oGet_s, readRs_nil, readRs_t, retV_1, Option.some.injEq, exists_eq_left', getK_set, Nat.reduceEqDiff, ↓reduceIte, g1, g2, g13, hw2.len, d1, ht1, ht2, iE, d2]
        exact ⟨⟨_, rfl⟩, hG⟩
      | false =>
        simp (disch := omega) only [f109_r15, f109_r16, f109_r18, w_skip, w_reg, w_seq, w_cond, w_block, seqK_n, atK_n, loopK_n, ckB_b, cbB_b, true_and, x_nil, x_mv, x_as, x_ld, x_bin, x_iads, x_len, kx, rvP_ok, okv_some, ev_t, ev_c, getV_some, putD_some, bin_add, bin_eql, bin_lss, of1, getK_set, Nat.reduceEqDiff, ↓reduceIte, Bool.false_eq_true, g1, g2, g13, hw2.len, d1, ht1, ht2, iE, d2, fw64]
        exact ⟨i + 1, by omega, by omega, hG, by simp (disch := omega) only [getK_set, Nat.reduceEqDiff, ↓reduceIte, g1, g2, and_self, Int.natCast_add, Int.natCast_one]⟩
    · have d1 : decide ((i : Int) < (L.length : Int)) = false := by simpa using hil
      simp (disch := omega) only [f109_r15, f109_r19, f109_rs, w_reg, w_seq, w_cond, w_exit, w_ret, seqK_n, seqK_e, atK_e, loopK_e, ckB_b, cbB_b, true_and, retK_r, x_nil, x_mv, x_as, x_bin, x_len, kx, rvP_ok, okv_some, ev_t, ev_c, getV_some, putD_some, bin_lss, oGet_s, readRs_nil, readRs_t, retV_1, Option.some.injEq, exists_eq_left', getK_set, Nat.reduceEqDiff, ↓reduceIte, Bool.false_eq_true, g1, g13, hw2.len, d1]
      exact ⟨⟨_, rfl⟩, hG⟩
end
end Go.Ev
namespace Go.Ev
open Go Go.RowKit
noncomputable def f33_r0 : List EOper := [⟨(some (K.ofNat 4)), none, .as (.c (.i .i64 (.ofNat 0)))⟩, ⟨(some (K.ofNat 5)), none, .as (.c (.b false))⟩]
noncomputable def f33_r1 : List EOper := [⟨(some (K.ofNat 6)), none, .as (.c (.i .i64 (.ofNat 0)))⟩]
noncomputable def f33_r2 : List EOper := [⟨(some (K.ofNat 9)), none, .mv (.t (K.ofNat 6))⟩, ⟨(some (K.ofNat 10)), none, .mv (.t (K.ofNat 0))⟩, ⟨(some (K.ofNat 11)), none, .len (.t (K.ofNat 10))⟩, ⟨(some (K.ofNat 12)), none, .bin .lss (.t (K.ofNat 9)) (.t (K.ofNat 11))⟩]
noncomputable def f33_r3 : List EOper := [⟨(some (K.ofNat 7)), none, .as (.c (.b true))⟩]
noncomputable def f33_r4 : List EOper := [⟨(some (K.ofNat 8)), none, .as (.c (.i .i64 (.ofNat 0)))⟩]
noncomputable def f33_r5 : List EOper := [⟨(some (K.ofNat 15)), none, .mv (.t (K.ofNat 8))⟩, ⟨(some (K.ofNat 16)), none, .mv (.t (K.ofNat 0))⟩, ⟨(some (K.ofNat 17)), none, .len (.t (K.ofNat 16))⟩, ⟨(some (K.ofNat 18)), none, .bin .lss (.t (K.ofNat 15)) (.t (K.ofNat 17))⟩]
noncomputable def f33_r6 : List Stage := [⟨[⟨(some (K.ofNat 21)), none, .mv (.t (K.ofNat 7))⟩, ⟨(some (K.ofNat 22)), none, .mv (.t (K.ofNat 21))⟩, ⟨(some (K.ofNat 23)), (some ((K.ofNat 22), true)), .mv (.t (K.ofNat 1))⟩, ⟨(some (K.ofNat 24)), (some ((K.ofNat 22), true)), .mv (.t (K.ofNat 0))⟩, ⟨(some (K.ofNat 25)), (some ((K.ofNat 22), true)), .mv (.t (K.ofNat 8))⟩, ⟨(some (K.ofNat 26)), (some ((K.ofNat 22), true)), .iads 2 (.t (K.ofNat 24)) (.t (K.ofNat 25))⟩, ⟨(some (K.ofNat 27)), (some ((K.ofNat 22), true)), .iadr 2 1 (.t (K.ofNat 26)) (.c (.i .i64 (.ofNat 0)))⟩, ⟨(some (K.ofNat 28)), (some ((K.ofNat 22), true)), .ld (.t (K.ofNat 27))⟩, ⟨(some (K.ofNat 29)), (some ((K.ofNat 22), true)), .iads 1 (.t (K.ofNat 23)) (.t (K.ofNat 28))⟩, ⟨(some (K.ofNat 30)), (some ((K.ofNat 22), true)), .ld (.t (K.ofNat 29))⟩, ⟨(some (K.ofNat 31)), (some ((K.ofNat 22), true)), .mv (.t (K.ofNat 6))⟩, ⟨(some (K.ofNat 32)), (some ((K.ofNat 22), true)), .bin .leq (.t (K.ofNat 30)) (.t (K.ofNat 31))⟩, ⟨(some (K.ofNat 33)), (some ((K.ofNat 22), true)), .mv (.t (K.ofNat 1))⟩, ⟨(some (K.ofNat 34)), (some ((K.ofNat 22), true)), .mv (.t (K.ofNat 0))⟩, ⟨(some (K.ofNat 35)), (some ((K.ofNat 22), true)), .mv (.t (K.ofNat 8))⟩, ⟨(some (K.ofNat 36)), (some ((K.ofNat 22), true)), .iads 2 (.t (K.ofNat 34)) (.t (K.ofNat 35))⟩, ⟨(some (K.ofNat 37)), (some ((K.ofNat 22), true)), .iadr 2 1 (.t (K.ofNat 36)) (.c (.i .i64 (.ofNat 1)))⟩, ⟨(some (K.ofNat 38)), (some ((K.ofNat 22), true)), .ld (.t (K.ofNat 37))⟩, ⟨(some (K.ofNat 39)), (some ((K.ofNat 22), true)), .iads 1 (.t (K.ofNat 33)) (.t (K.ofNat 38))⟩, ⟨(some (K.ofNat 40)), (some ((K.ofNat 22), true)), .ld (.t (K.ofNat 39))⟩, ⟨(some (K.ofNat 41)), (some ((K.ofNat 22), true)), .mv (.t (K.ofNat 6))⟩, ⟨(some (K.ofNat 42)), (some ((K.ofNat 22), true)), .bin .leq (.t (K.ofNat 40)) (.t (K.ofNat 41))⟩, ⟨(some (K.ofNat 43)), (some ((K.ofNat 22), true)), .eqk (.one none) true (.t (K.ofNat 32)) (.t (K.ofNat 42))⟩, ⟨(some (K.ofNat 44)), none, .pick (.t (K.ofNat 22)) (.t (K.ofNat 43)) (.c (.b false))⟩], [], (some ⟨(some (K.ofNat 7)), none, .as (.t (K.ofNat 44))⟩), []⟩, ⟨[], [], none, []⟩]
noncomputable def f33_r7 : List EOper := [⟨(some (K.ofNat 19)), none, .mv (.t (K.ofNat 8))⟩, ⟨(some (K.ofNat 20)), none, .bin .add (.t (K.ofNat 19)) (.c (.i .i64 (.ofNat 1)))⟩, ⟨(some (K.ofNat 8)), none, .as (.t (K.ofNat 20))⟩]
noncomputable def f33_l0 : EC := (.seq (.seq (.reg f33_r5) (.cond (.t (K.ofNat 18)) .skip (.exit 2))) (.seq (.block 3 (.draw f33_r6)) (.reg f33_r7)))
noncomputable def f33_r8 : List EOper := [⟨(some (K.ofNat 45)), none, .mv (.t (K.ofNat 7))⟩]
noncomputable def f33_r9 : List EOper := [⟨(some (K.ofNat 46)), none, .mv (.t (K.ofNat 6))⟩, ⟨(some (K.ofNat 4)), none, .as (.t (K.ofNat 46))⟩, ⟨(some (K.ofNat 5)), none, .as (.c (.b true))⟩]
noncomputable def f33_r10 : List EOper := [⟨(some (K.ofNat 13)), none, .mv (.t (K.ofNat 6))⟩, ⟨(some (K.ofNat 14)), none, .bin .add (.t (K.ofNat 13)) (.c (.i .i64 (.ofNat 1)))⟩, ⟨(some (K.ofNat 6)), none, .as (.t (K.ofNat 14))⟩]
noncomputable def f33_l1 : EC := (.seq (.seq (.reg f33_r2) (.cond (.t (K.ofNat 12)) .skip (.exit 0))) (.seq (.block 1 (.seq (.reg f33_r3) (.seq (.seq (.reg f33_r4) (.block 2 (.loop f33_l0))) (.seq (.reg f33_r8) (.cond (.t (K.ofNat 45)) (.seq (.reg f33_r9) .ret) .skip))))) (.reg f33_r10)))
noncomputable def f33_r11 : List EOper := [⟨(some (K.ofNat 4)), none, .as (.c (.i .i64 (.ofNat 0)))⟩, ⟨(some (K.ofNat 5)), none, .as (.c (.b false))⟩]
noncomputable def f33_c : EC := (.seq (.reg f33_r0) (.seq (.seq (.reg f33_r1) (.block 0 (.loop f33_l1))) (.seq (.reg f33_r11) .ret)))
noncomputable def f33 : EF := ⟨47, [.tmp (K.ofNat 4), .tmp (K.ofNat 5)], f33_c, none⟩
theorem f33_rs : f33.rs = [.tmp (K.ofNat 4), .tmp (K.ofNat 5)] := of_eq_true (eq_self _)
noncomputable def f70_r0 : List EOper := [⟨(some (K.ofNat 10)), none, .as (.c .sn)⟩, ⟨(some (K.ofNat 11)), none, .as (.c (.i .i64 (.ofNat 0)))⟩]
noncomputable def f70_r1 : List EOper := [⟨(some (K.ofNat 20)), none, .mv (.t (K.ofNat 2))⟩, ⟨(some (K.ofNat 21)), none, .len (.t (K.ofNat 20))⟩, ⟨(some (K.ofNat 22)), none, .mv (.t (K.ofNat 0))⟩, ⟨(some (K.ofNat 23)), none, .bin .eql (.t (K.ofNat 21)) (.t (K.ofNat 22))⟩]
noncomputable def f70_r2 : List EOper := [⟨(some (K.ofNat 25)), none, .mv (.t (K.ofNat 1))⟩, ⟨(some (K.ofNat 26)), none, .mv (.t (K.ofNat 2))⟩, ⟨(some (K.ofNat 27)), none, .call (.c (.fn (K.ofNat 33) [])) [(.t (K.ofNat 25)), (.t (K.ofNat 26))]⟩, ⟨(some (K.ofNat 24)), none, .mv (.t (K.ofNat 27))⟩, ⟨(some (K.ofNat 28)), none, .ext (.t (K.ofNat 24)) 0⟩, ⟨(some (K.ofNat 29)), none, .ext (.t (K.ofNat 24)) 1⟩, ⟨(some (K.ofNat 12)), none, .as (.t (K.ofNat 28))⟩, ⟨(some (K.ofNat 13)), none, .as (.t (K.ofNat 29))⟩]
noncomputable def f70_r3 : List EOper := [⟨(some (K.ofNat 30)), none, .mv (.t (K.ofNat 0))⟩, ⟨(some (K.ofNat 31)), none, .mv (.t (K.ofNat 1))⟩, ⟨(some (K.ofNat 32)), none, .mv (.t (K.ofNat 2))⟩, ⟨(some (K.ofNat 33)), none, .call (.c (.fn (K.ofNat 32) [])) [(.t (K.ofNat 30)), (.t (K.ofNat 31)), (.t (K.ofNat 32))]⟩, ⟨(some (K.ofNat 34)), none, .mv (.t (K.ofNat 33))⟩, ⟨(some (K.ofNat 35)), (some ((K.ofNat 34), true)), .mv (.t (K.ofNat 13))⟩, ⟨(some (K.ofNat 36)), (some ((K.ofNat 34), true)), .mv (.t (K.ofNat 35))⟩, ⟨(some (K.ofNat 37)), (some ((K.ofNat 36), false)), .mv (.t (K.ofNat 3))⟩, ⟨(some (K.ofNat 38)), (some ((K.ofNat 36), false)), .not (.t (K.ofNat 37))⟩, ⟨(some (K.ofNat 39)), (some ((K.ofNat 34), true)), .pick (.t (K.ofNat 36)) (.c (.b true)) (.t (K.ofNat 38))⟩, ⟨(some (K.ofNat 40)), none, .pick (.t (K.ofNat 34)) (.t (K.ofNat 39)) (.c (.b false))⟩]
noncomputable def f70_r4 : List EOper := [⟨(some (K.ofNat 41)), none, .mv (.t (K.ofNat 2))⟩, ⟨(some (K.ofNat 10)), none, .as (.t (K.ofNat 41))⟩, ⟨(some (K.ofNat 11)), none, .as (.c (.i .i64 (.ofNat 1)))⟩]
noncomputable def f70_r5 : List EOper := [⟨(some (K.ofNat 10)), none, .as (.c .sn)⟩, ⟨(some (K.ofNat 11)), none, .as (.c (.i .i64 (.ofNat 0)))⟩]
noncomputable def f70_r6 : List EOper := [⟨(some (K.ofNat 14)), none, .as (.c .sn)⟩]
noncomputable def f70_r7 : List EOper := [⟨(some (K.ofNat 15)), none, .as (.c (.i .i64 (.ofNat 0)))⟩]
noncomputable def f70_r8 : List EOper := [⟨(some (K.ofNat 16)), none, .as (.c (.i .i64 (.ofNat 0)))⟩]
noncomputable def f70_r9 : List EOper := [⟨(some (K.ofNat 42)), none, .mv (.t (K.ofNat 16))⟩, ⟨(some (K.ofNat 43)), none, .mv (.t (K.ofNat 1))⟩, ⟨(some (K.ofNat 44)), none, .len (.t (K.ofNat 43))⟩, ⟨(some (K.ofNat 45)), none, .bin .leq (.t (K.ofNat 42)) (.t (K.ofNat 44))⟩]
noncomputable def f70_r10 : List EOper := [⟨(some (K.ofNat 48)), none, .mv (.t (K.ofNat 1))⟩, ⟨(some (K.ofNat 49)), none, .mv (.t (K.ofNat 2))⟩, ⟨(some (K.ofNat 50)), none, .mv (.t (K.ofNat 16))⟩, ⟨(some (K.ofNat 51)), none, .call (.c (.fn (K.ofNat 109) [])) [(.t (K.ofNat 48)), (.t (K.ofNat 49)), (.t (K.ofNat 50))]⟩, ⟨(some (K.ofNat 52)), none, .not (.t (K.ofNat 51))⟩]
noncomputable def f70_r11 : List EOper := [⟨(some (K.ofNat 17)), none, .as (.c .sn)⟩]
noncomputable def f70_r12 : List EOper := [⟨(some (K.ofNat 53)), none, .mv (.t (K.ofNat 17))⟩, ⟨(some (K.ofNat 54)), none, .mv (.t (K.ofNat 2))⟩, ⟨(some (K.ofNat 55)), none, .app 1 (.t (K.ofNat 53)) (.t (K.ofNat 54))⟩, ⟨(some (K.ofNat 17)), none, .as (.t (K.ofNat 55))⟩]
noncomputable def f70_r13 : List EOper := [⟨(some (K.ofNat 56)), none, .mv (.t (K.ofNat 17))⟩, ⟨(some (K.ofNat 57)), none, .mv (.t (K.ofNat 16))⟩, ⟨(some (K.ofNat 58)), none, .bslice 1 1 [(.i .i64 (.ofNat 0))] [(0, 1, (.t (K.ofNat 57)))]⟩, ⟨(some (K.ofNat 59)), none, .app 1 (.t (K.ofNat 56)) (.t (K.ofNat 58))⟩, ⟨(some (K.ofNat 17)), none, .as (.t (K.ofNat 59))⟩]
noncomputable def f70_r14 : List EOper := [⟨(some (K.ofNat 61)), none, .mv (.t (K.ofNat 0))⟩, ⟨(some (K.ofNat 62)), none, .mv (.t (K.ofNat 1))⟩, ⟨(some (K.ofNat 63)), none, .mv (.t (K.ofNat 17))⟩, ⟨(some (K.ofNat 64)), none, .mv (.t (K.ofNat 3))⟩, ⟨(some (K.ofNat 65)), none, .mv (.t (K.ofNat 4))⟩, ⟨(some (K.ofNat 66)), none, .call (.c (.fn (K.ofNat 70) [])) [(.t (K.ofNat 61)), (.t (K.ofNat 62)), (.t (K.ofNat 63)), (.t (K.ofNat 64)), (.t (K.ofNat 65))]⟩, ⟨(some (K.ofNat 60)), none, .mv (.t (K.ofNat 66))⟩, ⟨(some (K.ofNat 67)), none, .ext (.t (K.ofNat 60)) 0⟩, ⟨(some (K.ofNat 68)), none, .ext (.t (K.ofNat 60)) 1⟩, ⟨(some (K.ofNat 18)), none, .as (.t (K.ofNat 67))⟩, ⟨(some (K.ofNat 19)), none, .as (.t (K.ofNat 68))⟩]
noncomputable def f70_r15 : List EOper := [⟨(some (K.ofNat 69)), none, .mv (.t (K.ofNat 14))⟩, ⟨(some (K.ofNat 70)), none, .isnil false (.t (K.ofNat 69))⟩]
noncomputable def f70_r16 : List EOper := [⟨(some (K.ofNat 71)), none, .mv (.t (K.ofNat 18))⟩, ⟨(some (K.ofNat 14)), none, .as (.t (K.ofNat 71))⟩]
noncomputable def f70_r17 : List EOper := [⟨(some (K.ofNat 72)), none, .mv (.t (K.ofNat 15))⟩, ⟨(some (K.ofNat 73)), none, .mv (.t (K.ofNat 19))⟩, ⟨(some (K.ofNat 74)), none, .bin .add (.t (K.ofNat 72)) (.t (K.ofNat 73))⟩, ⟨(some (K.ofNat 15)), none, .as (.t (K.ofNat 74))⟩]
noncomputable def f70_r18 : List EOper := [⟨(some (K.ofNat 75)), none, .mv (.t (K.ofNat 4))⟩, ⟨(some (K.ofNat 76)), none, .mv (.t (K.ofNat 75))⟩, ⟨(some (K.ofNat 77)), (some ((K.ofNat 76), true)), .mv (.t (K.ofNat 15))⟩, ⟨(some (K.ofNat 78)), (some ((K.ofNat 76), true)), .bin .gtr (.t (K.ofNat 77)) (.c (.i .i64 (.ofNat 0)))⟩, ⟨(some (K.ofNat 79)), none, .pick (.t (K.ofNat 76)) (.t (K.ofNat 78)) (.c (.b false))⟩]
noncomputable def f70_r19 : List EOper := [⟨(some (K.ofNat 80)), none, .mv (.t (K.ofNat 14))⟩, ⟨(some (K.ofNat 81)), none, .mv (.t (K.ofNat 15))⟩, ⟨(some (K.ofNat 10)), none, .as (.t (K.ofNat 80))⟩, ⟨(some (K.ofNat 11)), none, .as (.t (K.ofNat 81))⟩]
noncomputable def f70_r20 : List EOper := [⟨(some (K.ofNat 46)), none, .mv (.t (K.ofNat 16))⟩, ⟨(some (K.ofNat 47)), none, .bin .add (.t (K.ofNat 46)) (.c (.i .i64 (.ofNat 1)))⟩, ⟨(some (K.ofNat 16)), none, .as (.t (K.ofNat 47))⟩]
noncomputable def f70_l0 : EC := (.seq (.seq (.reg f70_r9) (.cond (.t (K.ofNat 45)) .skip (.exit 0))) (.seq (.block 1 (.seq (.seq (.reg f70_r10) (.cond (.t (K.ofNat 52)) (.exit 1) .skip)) (.seq (.reg f70_r11) (.seq (.reg f70_r12) (.seq (.reg f70_r13) (.seq (.reg f70_r14) (.seq (.seq (.reg f70_r15) (.cond (.t (K.ofNat 70)) (.reg f70_r16) .skip)) (.seq (.reg f70_r17) (.seq (.reg f70_r18) (.cond (.t (K.ofNat 79)) (.seq (.reg f70_r19) .ret) .skip)))))))))) (.reg f70_r20)))
noncomputable def f70_r21 : List EOper := [⟨(some (K.ofNat 82)), none, .mv (.t (K.ofNat 14))⟩, ⟨(some (K.ofNat 83)), none, .mv (.t (K.ofNat 15))⟩, ⟨(some (K.ofNat 10)), none, .as (.t (K.ofNat 82))⟩, ⟨(some (K.ofNat 11)), none, .as (.t (K.ofNat 83))⟩]
noncomputable def f70_c : EC := (.seq (.reg f70_r0) (.seq (.seq (.reg f70_r1) (.cond (.t (K.ofNat 23)) (.seq (.seq (.reg f70_r2) (.seq (.reg f70_r3) (.cond (.t (K.ofNat 40)) (.seq (.reg f70_r4) .ret) .skip))) (.seq (.reg f70_r5) .ret)) .skip)) (.seq (.reg f70_r6) (.seq (.reg f70_r7) (.seq (.seq (.reg f70_r8) (.block 0 (.loop f70_l0))) (.seq (.reg f70_r21) .ret))))))
noncomputable def f70 : EF := ⟨84, [.tmp (K.ofNat 10), .tmp (K.ofNat 11)], f70_c, none⟩
theorem f70_rs : f70.rs = [.tmp (K.ofNat 10), .tmp (K.ofNat 11)] := of_eq_true (eq_self _)
noncomputable def f29_r0 : List EOper := [⟨(some (K.ofNat 6)), none, .as (.c .sn)⟩]
noncomputable def f29_r1 : List EOper := [⟨(some (K.ofNat 10)), none, .mv (.t (K.ofNat 0))⟩, ⟨(some (K.ofNat 11)), none, .mv (.t (K.ofNat 1))⟩, ⟨(some (K.ofNat 12)), none, .mv (.t (K.ofNat 2))⟩, ⟨(some (K.ofNat 13)), none, .call (.c (.fn (K.ofNat 70) [])) [(.t (K.ofNat 10)), (.t (K.ofNat 11)), (.c .sn), (.t (K.ofNat 12)), (.c (.b true))]⟩, ⟨(some (K.ofNat 9)), none, .mv (.t (K.ofNat 13))⟩, ⟨(some (K.ofNat 14)), none, .ext (.t (K.ofNat 9)) 0⟩, ⟨(some (K.ofNat 15)), none, .ext (.t (K.ofNat 9)) 1⟩, ⟨(some (K.ofNat 7)), none, .as (.t (K.ofNat 14))⟩, ⟨(some (K.ofNat 8)), none, .as (.t (K.ofNat 15))⟩]
noncomputable def f29_r2 : List EOper := [⟨(some (K.ofNat 16)), none, .mv (.t (K.ofNat 7))⟩, ⟨(some (K.ofNat 6)), none, .as (.t (K.ofNat 16))⟩]
noncomputable def f29_c : EC := (.seq (.reg f29_r0) (.seq (.reg f29_r1) (.seq (.reg f29_r2) .ret)))
noncomputable def f29 : EF := ⟨17, [.tmp (K.ofNat 6)], f29_c, none⟩
theorem f29_rs : f29.rs = [.tmp (K.ofNat 6)] := of_eq_true (eq_self _)
def prt1 (L : List Int) (c : Int) (e : Int × Int) : Bool := decide (L.getD e.1.toNat 0 ≤ c) != decide (L.getD e.2.toNat 0 ≤ c)
/-- Do the labels part by c? -/
def prtC (E : List (Int × Int)) (L : List Int) (c : Int) : Bool := E.all (prt1 L c)
/-- The least number by which they part. -/
def prtO (E : List (Int × Int)) (L : List Int) : Option Int := firstF (fun c => if prtC E L c = true then some c else none) 0 E.length
section
variable {fs : T EF} {ro : Option K} {h : H} {v w : V} {n : Nat} {E : List (Int × Int)} {L : List Int}
theorem all_snoc {p : Int × Int → Bool} {j : Nat} (hj : j < E.length) : (E.take (j + 1)).all p = ((E.take j).all p && p E[j]) := by
  rw [List.take_succ_eq_append_getElem hj, List.all_append]; simp
def f33_I (h : H) (v w : V) (E : List (Int × Int)) (L : List Int) (c : Nat) (fr : Fr) (h1 : H) : Prop := c ≤ E.length ∧ h1 = h ∧ prtO E L = firstF (fun c => if prtC E L c = true then some c else none) (c : Int) (E.length - c) ∧ fr.get (K.ofNat 0) = some (v) ∧ fr.get (K.ofNat 1) = some (w) ∧ fr.get (K.ofNat 6) = some (.i .i64 (c : Int))
def f33_J (h : H) (v w : V) (E : List (Int × Int)) (L : List Int) (c : Nat) (j : Nat) (fr : Fr) (h1 : H) : Prop := j ≤ E.length ∧ h1 = h ∧ fr.get (K.ofNat 0) = some (v) ∧ fr.get (K.ofNat 1) = some (w) ∧ fr.get (K.ofNat 6) = some (.i .i64 (c : Int)) ∧ fr.get (K.ofNat 7) = some (.b ((E.take j).all (prt1 L (c : Int)))) ∧ fr.get (K.ofNat 8) = some (.i .i64 (j : Int))
theorem f33_ret (hv : Srp h v E) (hw : Sr iE h w L) (hE : EdgesOk n E) (hn : L.length = n) : Ret fs f33 [v, w] h fun r h' => r = .tup [.i .i64 ((prtO E L).getD 0), .b (prtO E L).isSome] ∧ h' = h := by
  obtain ⟨hE10, _, hE3⟩ := hE
  apply ret_of rfl
  show W fs none f33_c _ _ _
  unfold f33_c
  simp (disch := omega) only [f33_r0, f33_r1, w_reg, w_seq, w_block, seqK_n, x_nil, x_as, ev_c, putD_some, frame_2, of0]
  refine W_loop (f33_I h v w E L) (fun c => E.length - c) ?_ 0 ⟨by omega, rfl, rfl, by simp (disch := omega) only [getK_set, Nat.reduceEqDiff, ↓reduceIte, and_self, Int.natCast_zero]⟩
  rintro c fr h1 ⟨hc, rfl, he, g0, g1, g6⟩
  unfold f33_l1
  by_cases hlt : c < E.length
  · have d0 : decide ((c : Int) < (E.length : Int)) = true := by simpa using hlt
    simp (disch := omega) only [f33_r2, f33_r3, f33_r4, w_skip, w_reg, w_seq, w_cond, w_block, seqK_n, ckB_b, cbB_b, true_and, x_nil, x_mv, x_as, x_bin, x_len, kx, rvP_ok, okv_some, ev_t, ev_c, getV_some, putD_some, bin_lss, of0, getK_set, Nat.reduceEqDiff, ↓reduceIte, g0, g6, hv.len, d0]
    refine W_loop (f33_J h1 v w E L c) (fun j => E.length - j) ?_ 0 ⟨by omega, rfl, by simp (disch := omega) only [getK_set, Nat.reduceEqDiff, ↓reduceIte, g0, g1, g6, and_self, Int.natCast_zero, List.take_zero, List.all_nil]⟩
    clear g0 g1 g6
    rintro j fr h2 ⟨hj, rfl, g0, g1, g6, g7, g8⟩
    unfold f33_l0
    by_cases hlt2 : j < E.length
    · have d1 : decide ((j : Int) < (E.length : Int)) = true := by simpa using hlt2
      obtain ⟨ide, q, hp1, _, hp2, hp3⟩ := hv.at2 hlt2
      obtain ⟨e0, e1, e2⟩ := hE3 E[j] (List.getElem_mem hlt2)
      have hvb := hv.beq
      have hwb := hw.beq
      obtain ⟨a, ea⟩ : ∃ a : Nat, E[j].1 = (a : Int) := ⟨E[j].1.toNat, by omega⟩
      obtain ⟨b, eb⟩ : ∃ b : Nat, E[j].2 = (b : Int) := ⟨E[j].2.toNat, by omega⟩
      obtain ⟨s, hs1, hs2, hs3⟩ := hw.atb a (by omega)
      obtain ⟨t, ht1, ht2, ht3⟩ := hw.atb b (by omega)
      have hpe : prt1 L (c : Int) E[j] = (decide (L[a] ≤ (c : Int)) != decide (L[b] ≤ (c : Int))) := by
        unfold prt1
        rw [ea, eb]
        simp [List.getD_eq_getElem?_getD, show a < L.length by omega, show b < L.length by omega]
      have hall := all_snoc (p := prt1 L (c : Int)) hlt2
      rw [hpe] at hall
      rw [ea] at hp2
      rw [eb] at hp3
      have kb : ∀ a b, keyEq (.one none) (.b a) (.b b) = some (a == b) := fun _ _ => rfl
      cases hb : (E.take j).all (prt1 L (c : Int)) with
      | false =>
        rw [hb] at g7 hall
        simp (disch := omega) only [f33_r5, f33_r6, f33_r7, w_skip, w_reg, w_draw, w_seq, w_cond, w_block, seqK_n, atK_n, loopK_n, ckB_b, cbB_b, okG_b, asG_t, true_and, x_nil, x_mv, x_as, x_bin, x_len, kx, kg, xg_nil, xg_g, xg_mv, xg_pick, xd_cons, fresh_nil, stK_n, stK_s, stay_nil, rvP_ok, okv_some, ev_t, ev_c, getV_some, putD_some, bin_add, bin_lss, pick_b, of0, of1, getK_set, Nat.reduceEqDiff, ↓reduceIte, Bool.false_eq_true, g0, g7, g8, hv.len, d1, fw64]
        refine ⟨j + 1, by omega, by omega, rfl, ?_⟩
        rw [hall]
        simp (disch := omega) only [getK_set, Nat.reduceEqDiff, ↓reduceIte, g0, g1, g6, and_self, Bool.false_and, Int.natCast_add, Int.natCast_one]
      | true =>
        rw [hb] at g7 hall
        simp (disch := omega) only [f33_r5, f33_r6, f33_r7, w_skip, w_reg, w_draw, w_seq, w_cond, w_block, seqK_n, atK_n, loopK_n, ckB_b, cbB_b, okG_b, asG_t, true_and, x_nil, x_mv, x_as, x_bin, x_len, kx, kg, xg_nil, xg_g, xg_mv, xg_pick, xg_ld, xg_bin, xg_eqk, xg_iadr, xg_iads, xd_cons, fresh_nil, stK_n, stK_s, stay_nil, rvP_ok, okv_some, ev_t, ev_c, getV_some, putD_some, bin_add, bin_lss, bin_leq, pick_b, onP_p, oGet_s, of0, of1, getK_set, Nat.reduceEqDiff, ↓reduceIte, ix2_0, ix2_1, g0, g1, g6, g7, g8, hv.len, d1, hp1, hp2, hp3, hs1, hs2, ht1, ht2, iE, kb, fw64]
        refine ⟨j + 1, by omega, by omega, rfl, ?_⟩
        rw [hall, show (true && (decide (L[a] ≤ (c : Int)) != decide (L[b] ≤ (c : Int)))) = (bif true then !(decide (L[a] ≤ (c : Int)) == decide (L[b] ≤ (c : Int))) else (decide (L[a] ≤ (c : Int)) == decide (L[b] ≤ (c : Int)))) from rfl]
        simp (disch := omega) only [getK_set, Nat.reduceEqDiff, ↓reduceIte, g0, g1, g6, and_self, Int.natCast_add, Int.natCast_one]
    · have d1 : decide ((j : Int) < (E.length : Int)) = false := by simpa using hlt2
      have ej : j = E.length := by omega
      have eC : prtC E L (c : Int) = (E.take j).all (prt1 L (c : Int)) := by rw [ej, List.take_length]; rfl
      have en : E.length - c = (E.length - (c + 1)) + 1 := by omega
      rw [en, firstF_succ, eC] at he
      cases hb : (E.take j).all (prt1 L (c : Int)) with
      | true =>
        rw [hb] at g7 he
        simp (disch := omega) only [f33_r5, f33_r8, f33_r9, f33_rs, w_reg, w_seq, w_cond, w_exit, w_ret, seqK_n, seqK_e, seqK_r, atK_r, atK_e, loopK_e, loopK_r, ckB_b, cbB_b, true_and, retK_r, x_nil, x_mv, x_as, x_bin, x_len, kx, rvP_ok, okv_some, ev_t, ev_c, getV_some, putD_some, bin_lss, oGet_s, readRs_nil, readRs_t, retV_2, Option.some.injEq, exists_eq_left', getK_set, Nat.reduceEqDiff, ↓reduceIte, Bool.false_eq_true, g0, g6, g7, g8, hv.len, d1]
        have he2 : prtO E L = some (c : Int) := he
        rw [he2]
        exact ⟨rfl, trivial⟩
      | false =>
        rw [hb] at g7 he
        simp (disch := omega) only [f33_r5, f33_r8, f33_r9, f33_r10, w_skip, w_reg, w_seq, w_cond, w_exit, seqK_n, seqK_e, atK_n, atK_e, loopK_n, loopK_e, ckB_b, cbB_b, true_and, x_nil, x_mv, x_as, x_bin, x_len, kx, rvP_ok, okv_some, ev_t, ev_c, getV_some, putD_some, bin_add, bin_lss, of1, getK_set, Nat.reduceEqDiff, ↓reduceIte, Bool.false_eq_true, g0, g6, g7, g8, hv.len, d1, fw64]
        have he2 : prtO E L = firstF (fun c => if prtC E L c = true then some c else none) ((c : Int) + 1) (E.length - (c + 1)) := he
        exact ⟨c + 1, by omega, by omega, rfl, by rw [he2, Int.natCast_add, Int.natCast_one], by simp (disch := omega) only [getK_set, Nat.reduceEqDiff, ↓reduceIte, g0, g1, and_self, Int.natCast_add, Int.natCast_one]⟩
  · have d0 : decide ((c : Int) < (E.length : Int)) = false := by simpa using hlt
    have en : E.length - c = 0 := by omega
    rw [en] at he
    have he2 : prtO E L = none := he
    simp (disch := omega) only [f33_r2, f33_r11, f33_rs, w_reg, w_seq, w_cond, w_exit, w_ret, seqK_n, seqK_e, atK_e, loopK_e, ckB_b, cbB_b, retK_r, x_nil, x_mv, x_as, x_bin, x_len, kx, rvP_ok, okv_some, ev_t, ev_c, getV_some, putD_some, bin_lss, oGet_s, readRs_nil, readRs_t, retV_2, of0, Option.some.injEq, exists_eq_left', getK_set, Nat.reduceEqDiff, ↓reduceIte, Bool.false_eq_true, g0, g6, hv.len, d0, he2, Option.getD_none, Option.isSome_none, and_self]
theorem frame_5 {v1 v2 v3 v4 v5 : V} : frame .e [v1, v2, v3, v4, v5] .nil = T.set (K.ofNat 4) v5 (T.set (K.ofNat 3) v4 (T.set (K.ofNat 2) v3 (T.set (K.ofNat 1) v2 (T.set (K.ofNat 0) v1 .nil)))) := of_eq_true (eq_self _)
structure CallsSe (fs : T EF) : Prop where
  c32 : fs.get (K.ofNat 32) = some f32
  c33 : fs.get (K.ofNat 33) = some f33
  c70 : fs.get (K.ofNat 70) = some f70
  c109 : fs.get (K.ofNat 109) = some f109
def SeOut (n f : Nat) (_ : List (Int × Int)) (h : H) (r : V) : Prop := ∃ (u : V) (M : List Int) (k : Nat), r = .tup [u, .i .i64 (k : Int)] ∧ Sr iE h u M ∧ M.length ≤ n ∧ k ≤ 11 ^ f
def f70_I (h : H) (n f : Nat) (v w : V) (E : List (Int × Int)) (bp bf : Bool) (x : Nat) (fr : Fr) (h1 : H) : Prop := x ≤ E.length + 1 ∧ Grow h.nx.nat h h1 ∧ ∃ (u : V) (M : List Int) (k : Nat), Sr iE h1 u M ∧ M.length ≤ n ∧ k ≤ x * 11 ^ f ∧ fr.get (K.ofNat 0) = some (.i .i64 (n : Int)) ∧ fr.get (K.ofNat 1) = some (v) ∧ fr.get (K.ofNat 2) = some (w) ∧ fr.get (K.ofNat 3) = some (.b bp) ∧ fr.get (K.ofNat 4) = some (.b bf) ∧ fr.get (K.ofNat 14) = some (u) ∧ fr.get (K.ofNat 15) = some (.i .i64 (k : Int)) ∧ fr.get (K.ofNat 16) = some (.i .i64 (x : Int))
def isnB (u : V) : Bool := match u with | .sn => true | _ => false
theorem isnB_eq {h : H} {u : V} {M : List Int} (hs : Sr iE h u M) (h1 : H) : isnilV false u h1 = .ok (.b (isnB u)) h1 := by
  rcases hs with ⟨rfl, _⟩ | ⟨_, _, _, _, rfl, _⟩ <;> rfl
noncomputable def f70_t : EC := .seq (.reg f70_r17) (.seq (.reg f70_r18) (.cond (.t (K.ofNat 79)) (.seq (.reg f70_r19) .ret) .skip))
theorem f70_any (k : CallsSe fs) (hE : EdgesOk n E) {bp bf : Bool} : ∀ (f : Nat) {h : H} {v w : V} {L : List Int}, HC h → Srp h v E → Sr iE h w L → LabOk E L → L.length + f = n → Ret fs f70 [.i .i64 (n : Int), v, w, .b bp, .b bf] h fun r h' => SeOut n f E h' r ∧ Grow h.nx.nat h h' := by
  intro f
  have hE10 : E.length ≤ 10 := hE.1
  have hn7 : n ≤ 7 := hE.2.1
  induction f with
  | zero =>
    intro h v w L hc hv hw hlin hf
    apply ret_of rfl
    show W fs none f70_c _ _ _
    unfold f70_c
    have d0 : decide ((L.length : Int) = (n : Int)) = true := by simp; omega
    simp (disch := omega) only [f70_r0, f70_r1, f70_r2, w_reg, w_seq, w_cond, seqK_n, ckB_b, cbB_b, true_and, x_nil, x_mv, x_as, x_bin, x_call, x_len, kx, rvP_ok, okv_some, ev_t, ev_c, evs_nil, evs_cons, getV_some, putD_some, bin_eql, of0, getK_set, Nat.reduceEqDiff, ↓reduceIte, frame_5, hw.len, d0]
    refine (callP_0 (ef := f33) k.c33 rfl (f33_ret hv hw hE (by omega))).mono ?_
    rintro r h1 ⟨rfl, rfl⟩
    simp (disch := omega) only [f70_r3, w_reg, w_seq, seqK_n, x_nil, x_mv, x_as, x_ext, x_call, kx, rvP_ok, okv_some, ev_t, ev_c, evs_nil, evs_cons, getV_some, putD_some, onTup_t, nth0, nth1, getK_set, Nat.reduceEqDiff, ↓reduceIte]
    refine (callP_0 (ef := f32) k.c32 rfl (f32_ret hv hw hc hE (by omega))).mono ?_
    rintro r h2 ⟨rfl, hG⟩
    have no : SeOut n 0 E h2 (.tup [.sn, .i .i64 0]) := ⟨.sn, [], 0, rfl, Sr.nil, by simp, by simp⟩
    have yes : SeOut n 0 E h2 (.tup [w, .i .i64 1]) := ⟨w, L, 1, rfl, hw.grow hc hG, by omega, by simp⟩
    cases grB (n : Int) E L <;> cases (prtO E L).isSome <;> cases bp
    all_goals (simp (disch := omega) only [f70_r4, f70_r5, f70_rs, w_skip, w_reg, w_seq, w_cond, w_ret, seqK_n, seqK_r, ckB_b, cbB_b, okG_b, okG_u, asG_t, asG_f, asG_u, true_and, retK_r, x_nil, x_g, x_mv, x_as, x_pick, x_not, kx, rvP_ok, ev_t, ev_c, getV_some, putD_some, pick_b, onB_b, oGet_s, readRs_nil, readRs_t, retV_2, of0, of1, Option.some.injEq, exists_eq_left', getK_set, Nat.reduceEqDiff, ↓reduceIte, Bool.false_eq_true, Bool.not_true, Bool.not_false, Bool.not_true, Bool.not_false]; first | exact ⟨no, hG⟩ | exact ⟨yes, hG⟩)
  | succ f ih =>
    intro h v w L hc hv hw hlin hf
    apply ret_of rfl
    show W fs none f70_c _ _ _
    unfold f70_c
    have d0 : decide ((L.length : Int) = (n : Int)) = false := by simp; omega
    simp (disch := omega) only [f70_r0, f70_r1, f70_r6, f70_r7, f70_r8, w_skip, w_reg, w_seq, w_cond, w_block, seqK_n, ckB_b, cbB_b, true_and, x_nil, x_mv, x_as, x_bin, x_len, kx, rvP_ok, okv_some, ev_t, ev_c, getV_some, putD_some, bin_eql, of0, getK_set, Nat.reduceEqDiff, ↓reduceIte, Bool.false_eq_true, frame_5, hw.len, d0]
    refine W_loop (f70_I h n f v w E bp bf) (fun x => E.length + 1 - x) ?_ 0 ⟨by omega, Grow.refl _ _, .sn, [], 0, Sr.nil, by simp, by simp, by simp (disch := omega) only [getK_set, Nat.reduceEqDiff, ↓reduceIte, and_self, Int.natCast_zero]⟩
    rintro x fr h1 ⟨hx, hG, u, M, q, hsu, hM, hq, g0, g1, g2, g3, g4, g14, g15, g16⟩
    have hc1 := hG.hc hc
    have hv1 := hv.grow hc hG
    have hw1 := hw.grow hc hG
    have hp : 11 ^ f ≤ 11 ^ 7 := Nat.pow_le_pow_right (by omega) (by omega)
    have hp7 : 11 ^ 7 = 19487171 := by decide
    have hpx : x * 11 ^ f ≤ 11 * 11 ^ f := Nat.mul_le_mul_right _ (by omega)
    have hps : 11 ^ (f + 1) = 11 * 11 ^ f := by rw [Nat.pow_succ, Nat.mul_comm]
    unfold f70_l0
    by_cases hlt : x ≤ E.length
    · have d1 : decide ((x : Int) ≤ (E.length : Int)) = true := by simp; omega
      have hpx1 : (x + 1) * 11 ^ f = x * 11 ^ f + 11 ^ f := Nat.succ_mul _ _
      have hpx2 : (x + 1) * 11 ^ f ≤ 11 * 11 ^ f := Nat.mul_le_mul_right _ (by omega)
      simp (disch := omega) only [f70_r9, f70_r10, w_skip, w_reg, w_seq, w_cond, w_block, seqK_n, ckB_b, cbB_b, true_and, x_nil, x_mv, x_bin, x_call, x_len, kx, rvP_ok, okv_some, ev_t, ev_c, evs_nil, evs_cons, getV_some, putD_some, bin_leq, getK_set, Nat.reduceEqDiff, ↓reduceIte, g1, g2, g16, hv1.len, d1]
      refine (callP_0 (ef := f109) k.c109 rfl (f109_any hv1 hw1 hc1 hE hlin (by omega) ⟨by omega, by omega⟩)).mono ?_
      rintro r h2 ⟨⟨b, rfl⟩, hG2⟩
      have hGb := hG.trans (hG2.low hG.nx)
      have hc2 := hG2.hc hc1
      have hv2 := hv1.grow hc1 hG2
      have hw2 := hw1.grow hc1 hG2
      have hsu2 := hsu.grow hc1 hG2
      cases b with
      | false =>
        simp (disch := omega) only [f70_r20, w_reg, w_cond, w_exit, seqK_n, seqK_e, atK_e, loopK_n, ckB_b, cbB_b, true_and, x_nil, x_mv, x_as, x_bin, x_not, kx, rvP_ok, okv_some, ev_t, ev_c, getV_some, putD_some, bin_add, onB_b, of1, getK_set, Nat.reduceEqDiff, ↓reduceIte, Bool.not_false, g16, Bool.not_false, fw64]
        exact ⟨x + 1, by omega, by omega, hGb, u, M, q, hsu2, hM, by omega, by simp (disch := omega) only [getK_set, Nat.reduceEqDiff, ↓reduceIte, g0, g1, g2, g3, g4, g14, g15, and_self, Int.natCast_add, Int.natCast_one]⟩
      | true =>
        obtain ⟨v1, h3, a1, s1, o1, gr1, _⟩ := Sl.appR (e := iE) (b := h2.nx.nat) (h := h2) (v := .sn) (L := []) Sl.nil Own.sn (Nat.le_refl _) hw2 hc2 (by simp; omega)
        rw [List.nil_append] at s1
        have hc3 := gr1.hc hc2
        obtain ⟨v3, h4, a3, s3, o3, gr3, _⟩ := Sl.push (e := iE) (x := (x : Int)) (c := .i .i64 (x : Int)) rfl s1 o1 gr1.nx hc3 (by omega)
        have gg := gr1.trans gr3
        have hc4 := gr3.hc hc3
        have hlin2 : LabOk E (L ++ [(x : Int)]) := fun y hy => by
          rcases List.mem_append.1 hy with hy | hy
          · exact hlin y hy
          · have : y = (x : Int) := by simpa using hy
            omega
        simp (disch := omega) only [f70_r11, f70_r12, f70_r13, f70_r14, w_skip, w_reg, w_seq, w_cond, seqK_n, ckB_b, cbB_b, true_and, x_nil, x_mv, x_as, x_bslice, x_not, x_call, x_app, kx, rvP_ok, ev_t, ev_c, evs_nil, evs_cons, getV_some, putD_some, onB_b, oGet_s, cells1_i, fill_1, set_1, of0, getK_set, Nat.reduceEqDiff, ↓reduceIte, Bool.false_eq_true, Bool.not_true, g0, g1, g2, g3, g4, g16, Bool.not_true, a1, fill_1, set_1, a3]
        refine (callP_0 (ef := f70) k.c70 rfl (ih hc4 (hv2.grow hc2 gg) s3.sr hlin2 (by simp; omega))).mono ?_
        rintro r h5 ⟨⟨u5, M5, k5, rfl, hs5, hM5, hk5⟩, hG5⟩
        have hGe := hGb.trans ((gg.trans (hG5.low gg.nx)).low hGb.nx)
        have hsu5 := (hsu2.grow hc2 gg).grow hc4 hG5
        have isn : ∀ h1, isnilV false u h1 = .ok (.b (isnB u)) h1 := isnB_eq hsu
        have fin : ∀ fr (u6 : V) (M6 : List Int), Sr iE h5 u6 M6 → M6.length ≤ n → fr.get (K.ofNat 0) = some (.i .i64 (n : Int)) ∧ fr.get (K.ofNat 1) = some (v) ∧ fr.get (K.ofNat 2) = some (w) ∧ fr.get (K.ofNat 3) = some (.b bp) ∧ fr.get (K.ofNat 4) = some (.b bf) ∧ fr.get (K.ofNat 14) = some (u6) ∧ fr.get (K.ofNat 15) = some (.i .i64 (q : Int)) ∧ fr.get (K.ofNat 16) = some (.i .i64 (x : Int)) ∧ fr.get (K.ofNat 19) = some (.i .i64 (k5 : Int)) → W fs none f70_t (atK 1 (seqK (W fs none (.reg f70_r20)) (loopK (f70_I h n f v w E bp bf) (fun x => E.length + 1 - x) x (atK 0 (seqK (W fs none (.seq (.reg f70_r21) .ret)) (retK f70 fun r h' => SeOut n (f + 1) E h' r ∧ Grow h.nx.nat h h')))))) fr h5 := by
          clear g0 g1 g2 g3 g4 g14 g15 g16 fr
          rintro fr u6 M6 hs6 hM6 ⟨g0, g1, g2, g3, g4, g14, g15, g16, g19⟩
          unfold f70_t
          have hqk : ((q : Int) + (k5 : Int)) = ((q + k5 : Nat) : Int) := by omega
          have next : ∀ fr, fr.get (K.ofNat 0) = some (.i .i64 (n : Int)) ∧ fr.get (K.ofNat 1) = some (v) ∧ fr.get (K.ofNat 2) = some (w) ∧ fr.get (K.ofNat 3) = some (.b bp) ∧ fr.get (K.ofNat 4) = some (.b bf) ∧ fr.get (K.ofNat 14) = some (u6) ∧ fr.get (K.ofNat 15) = some (.i .i64 ((q + k5 : Nat) : Int)) ∧ fr.get (K.ofNat 16) = some (.i .i64 (x : Int)) → Go.Ev.X fs f70_r20 (loopK (f70_I h n f v w E bp bf) (fun x => E.length + 1 - x) x (atK 0 (seqK (W fs none (.seq (.reg f70_r21) .ret)) (retK f70 fun r h' => SeOut n (f + 1) E h' r ∧ Grow h.nx.nat h h'))) .normal) fr h5 := by
            clear g0 g1 g2 g3 g4 g14 g15 g16 g19 fr
            rintro fr ⟨g0, g1, g2, g3, g4, g14, g15, g16⟩
            simp (disch := omega) only [f70_r20, loopK_n, x_nil, x_mv, x_as, x_bin, kx, rvP_ok, okv_some, ev_t, ev_c, getV_some, putD_some, bin_add, of1, getK_set, ↓reduceIte, g16, fw64]
            exact ⟨x + 1, by omega, by omega, hGe, u6, M6, q + k5, hs6, hM6, by omega, by simp (disch := omega) only [getK_set, Nat.reduceEqDiff, ↓reduceIte, g0, g1, g2, g3, g4, g14, g15, and_self, Int.natCast_add, Int.natCast_one]⟩
          cases bf with
          | false =>
            simp (disch := omega) only [f70_r17, f70_r18, w_skip, w_reg, w_seq, w_cond, seqK_n, atK_n, ckB_b, cbB_b, okG_b, asG_t, true_and, x_nil, x_g, x_mv, x_as, x_pick, x_bin, kx, rvP_ok, okv_some, ev_t, ev_c, getV_some, putD_some, bin_add, pick_b, of0, getK_set, Nat.reduceEqDiff, ↓reduceIte, Bool.false_eq_true, g4, g15, g19, fw64, hqk]
            exact next _ (by simp (disch := omega) only [getK_set, Nat.reduceEqDiff, ↓reduceIte, g0, g1, g2, g3, g4, g14, g16, and_self])
          | true =>
            cases dq : decide (((q + k5 : Nat) : Int) > 0) with
            | false =>
              simp (disch := omega) only [f70_r17, f70_r18, w_skip, w_reg, w_seq, w_cond, seqK_n, atK_n, ckB_b, cbB_b, okG_b, asG_t, true_and, x_nil, x_g, x_mv, x_as, x_pick, x_bin, kx, rvP_ok, okv_some, ev_t, ev_c, getV_some, putD_some, bin_add, bin_gtr, pick_b, of0, getK_set, Nat.reduceEqDiff, ↓reduceIte, Bool.false_eq_true, g4, g15, g19, fw64, hqk, dq]
              exact next _ (by simp (disch := omega) only [getK_set, Nat.reduceEqDiff, ↓reduceIte, g0, g1, g2, g3, g4, g14, g16, and_self])
            | true =>
              simp (disch := omega) only [f70_r17, f70_r18, f70_r19, f70_rs, w_reg, w_seq, w_cond, w_ret, seqK_n, seqK_r, atK_r, loopK_r, ckB_b, cbB_b, okG_b, asG_t, true_and, retK_r, x_nil, x_g, x_mv, x_as, x_pick, x_bin, kx, rvP_ok, okv_some, ev_t, ev_c, getV_some, putD_some, bin_add, bin_gtr, pick_b, oGet_s, readRs_nil, readRs_t, retV_2, of0, Option.some.injEq, exists_eq_left', getK_set, Nat.reduceEqDiff, ↓reduceIte, g4, g14, g15, g19, fw64, hqk, dq]
              exact ⟨⟨u6, M6, q + k5, rfl, hs6, hM6, by omega⟩, hGe⟩
        cases hu : isnB u with
        | true =>
          rw [hu] at isn
          simp (disch := omega) only [f70_r15, f70_r16, w_reg, w_seq, w_cond, seqK_n, ckB_b, cbB_b, true_and, x_nil, x_mv, x_as, x_ext, x_isnil, kx, rvP_ok, okv_some, ev_t, getV_some, putD_some, onTup_t, nth0, nth1, getK_set, Nat.reduceEqDiff, ↓reduceIte, g14, isn]
          show W fs none f70_t _ _ _
          exact fin _ u5 M5 hs5 hM5 (by simp (disch := omega) only [getK_set, Nat.reduceEqDiff, ↓reduceIte, g0, g1, g2, g3, g4, g15, g16, and_self])
        | false =>
          rw [hu] at isn
          simp (disch := omega) only [f70_r15, w_skip, w_reg, w_seq, w_cond, seqK_n, ckB_b, cbB_b, true_and, x_nil, x_mv, x_as, x_ext, x_isnil, kx, rvP_ok, okv_some, ev_t, getV_some, putD_some, onTup_t, nth0, nth1, getK_set, Nat.reduceEqDiff, ↓reduceIte, Bool.false_eq_true, g14, isn]
          show W fs none f70_t _ _ _
          exact fin _ u M hsu5 hM (by simp (disch := omega) only [getK_set, Nat.reduceEqDiff, ↓reduceIte, g0, g1, g2, g3, g4, g14, g15, g16, and_self])
    · have d1 : decide ((x : Int) ≤ (E.length : Int)) = false := by simp; omega
      simp (disch := omega) only [f70_r9, f70_r21, f70_rs, w_reg, w_seq, w_cond, w_exit, w_ret, seqK_n, seqK_e, atK_e, loopK_e, ckB_b, cbB_b, true_and, retK_r, x_nil, x_mv, x_as, x_bin, x_len, kx, rvP_ok, okv_some, ev_t, getV_some, putD_some, bin_leq, oGet_s, readRs_nil, readRs_t, retV_2, Option.some.injEq, exists_eq_left', getK_set, Nat.reduceEqDiff, ↓reduceIte, Bool.false_eq_true, g1, g14, g15, g16, hv1.len, d1]
      exact ⟨⟨u, M, q, rfl, hsu, hM, by omega⟩, hG⟩
/-- The first labels: some list. -/
theorem f29_any (k : CallsSe fs) (hE : EdgesOk n E) {bp : Bool} (hc : HC h) (hv : Srp h v E) : Ret fs f29 [.i .i64 (n : Int), v, .b bp] h fun r h' => (∃ M : List Int, Sr iE h' r M ∧ M.length ≤ n) ∧ Grow h.nx.nat h h' := by
  apply ret_of rfl
  show W fs none f29_c _ _ _
  unfold f29_c
  simp (disch := omega) only [f29_r0, f29_r1, w_reg, w_seq, seqK_n, x_nil, x_mv, x_as, x_call, ev_t, ev_c, evs_nil, evs_cons, getV_some, putD_some, frame_3, getK_set, Nat.reduceEqDiff, ↓reduceIte]
  refine (callP_0 (ef := f70) k.c70 rfl (f70_any k hE n hc hv Sr.nil (fun x hx => by cases hx) (by simp))).mono ?_
  rintro r h1 ⟨⟨u, M, q, rfl, hs, hM, _⟩, hG⟩
  simp (disch := omega) only [f29_r2, f29_rs, w_reg, w_seq, w_ret, seqK_n, retK_r, x_nil, x_mv, x_as, x_ext, kx, rvP_ok, okv_some, ev_t, getV_some, putD_some, onTup_t, oGet_s, nth0, nth1, readRs_nil, readRs_t, retV_1, Option.some.injEq, exists_eq_left', getK_set, Nat.reduceEqDiff, ↓reduceIte]
  exact ⟨⟨M, hs, hM⟩, hG⟩
end
end Go.Ev
