/-
  Rounds: what answers an error where the number is none of teams; the law RoundsMakes, by runs of its loop.
  Rounds: schedules of any numbers.
  Rounds: sets of teams; are they all, each once?
  Rounds: are games a round?
  Rounds: who has met whom.
  Rounds: are rounds a beginning?
  Rounds: are rounds a beginning? The run.
  Rounds: are rounds a schedule?
  Rounds: the schedules that the laws try are schedules.
  Rounds: what tame makes is a schedule.
  Rounds: a team's opponent; who is at home.
  Rounds: where the teams are at home.
-/
import Derived.Test.YthememdeglgnpaaPd
namespace Go.Ev
open Go Go.RowKit
noncomputable def f65_r0 : List EOper := [⟨(some (K.ofNat 2)), none, .as (.c (.b false))⟩]
noncomputable def f65_r1 : List EOper := [⟨(some (K.ofNat 3)), none, .mv (.t (K.ofNat 0))⟩, ⟨(some (K.ofNat 4)), none, .bin .geq (.t (K.ofNat 3)) (.c (.i .i64 (.ofNat 2)))⟩, ⟨(some (K.ofNat 5)), none, .mv (.t (K.ofNat 4))⟩, ⟨(some (K.ofNat 6)), (some ((K.ofNat 5), true)), .mv (.t (K.ofNat 0))⟩, ⟨(some (K.ofNat 7)), (some ((K.ofNat 5), true)), .bin .leq (.t (K.ofNat 6)) (.c (.i .i64 (.ofNat 10)))⟩, ⟨(some (K.ofNat 8)), none, .pick (.t (K.ofNat 5)) (.t (K.ofNat 7)) (.c (.b false))⟩, ⟨(some (K.ofNat 9)), none, .mv (.t (K.ofNat 8))⟩, ⟨(some (K.ofNat 10)), (some ((K.ofNat 9), true)), .mv (.t (K.ofNat 0))⟩, ⟨(some (K.ofNat 11)), (some ((K.ofNat 9), true)), .bin .rem (.t (K.ofNat 10)) (.c (.i .i64 (.ofNat 2)))⟩, ⟨(some (K.ofNat 12)), (some ((K.ofNat 9), true)), .bin .eql (.t (K.ofNat 11)) (.c (.i .i64 (.ofNat 0)))⟩, ⟨(some (K.ofNat 13)), none, .pick (.t (K.ofNat 9)) (.t (K.ofNat 12)) (.c (.b false))⟩, ⟨(some (K.ofNat 2)), none, .as (.t (K.ofNat 13))⟩]
noncomputable def f65_c : EC := (.seq (.reg f65_r0) (.seq (.reg f65_r1) .ret))
noncomputable def f65 : EF := ⟨14, [.tmp (K.ofNat 2)], f65_c, none⟩
theorem f65_rs : f65.rs = [.tmp (K.ofNat 2)] := of_eq_true (eq_self _)
noncomputable def f37_r0 : List EOper := [⟨(some (K.ofNat 2)), none, .as (.c (.b false))⟩]
noncomputable def f37_r1 : List EOper := [⟨(some (K.ofNat 3)), none, .mv (.t (K.ofNat 0))⟩, ⟨(some (K.ofNat 4)), none, .bin .geq (.t (K.ofNat 3)) (.c (.i .i64 (.ofNat 2)))⟩, ⟨(some (K.ofNat 5)), none, .mv (.t (K.ofNat 4))⟩, ⟨(some (K.ofNat 6)), (some ((K.ofNat 5), true)), .mv (.t (K.ofNat 0))⟩, ⟨(some (K.ofNat 7)), (some ((K.ofNat 5), true)), .bin .leq (.t (K.ofNat 6)) (.c (.i .i64 (.ofNat 10)))⟩, ⟨(some (K.ofNat 8)), none, .pick (.t (K.ofNat 5)) (.t (K.ofNat 7)) (.c (.b false))⟩, ⟨(some (K.ofNat 9)), none, .mv (.t (K.ofNat 8))⟩, ⟨(some (K.ofNat 10)), (some ((K.ofNat 9), true)), .mv (.t (K.ofNat 0))⟩, ⟨(some (K.ofNat 11)), (some ((K.ofNat 9), true)), .bin .rem (.t (K.ofNat 10)) (.c (.i .i64 (.ofNat 2)))⟩, ⟨(some (K.ofNat 12)), (some ((K.ofNat 9), true)), .bin .eql (.t (K.ofNat 11)) (.c (.i .i64 (.ofNat 0)))⟩, ⟨(some (K.ofNat 13)), none, .pick (.t (K.ofNat 9)) (.t (K.ofNat 12)) (.c (.b false))⟩, ⟨(some (K.ofNat 2)), none, .as (.t (K.ofNat 13))⟩]
noncomputable def f37_c : EC := (.seq (.reg f37_r0) (.seq (.reg f37_r1) .ret))
noncomputable def f37 : EF := ⟨14, [.tmp (K.ofNat 2)], f37_c, none⟩
theorem f37_rs : f37.rs = [.tmp (K.ofNat 2)] := of_eq_true (eq_self _)
noncomputable def f41_r0 : List EOper := [⟨(some (K.ofNat 4)), none, .as (.c (.i .i64 (.ofNat 0)))⟩]
noncomputable def f41_r1 : List EOper := [⟨(some (K.ofNat 5)), none, .mv (.t (K.ofNat 0))⟩, ⟨(some (K.ofNat 6)), none, .conv .u64 (.t (K.ofNat 5))⟩, ⟨(some (K.ofNat 7)), none, .mv (.t (K.ofNat 1))⟩, ⟨(some (K.ofNat 8)), none, .bin .quo (.t (K.ofNat 7)) (.c (.i .i64 (.ofNat 2)))⟩, ⟨(some (K.ofNat 9)), none, .conv .u64 (.t (K.ofNat 8))⟩, ⟨(some (K.ofNat 10)), none, .bin .rem (.t (K.ofNat 6)) (.t (K.ofNat 9))⟩, ⟨(some (K.ofNat 11)), none, .conv .i64 (.t (K.ofNat 10))⟩, ⟨(some (K.ofNat 12)), none, .bin .mul (.c (.i .i64 (.ofNat 2))) (.t (K.ofNat 11))⟩, ⟨(some (K.ofNat 13)), none, .bin .add (.c (.i .i64 (.ofNat 2))) (.t (K.ofNat 12))⟩, ⟨(some (K.ofNat 4)), none, .as (.t (K.ofNat 13))⟩]
noncomputable def f41_c : EC := (.seq (.reg f41_r0) (.seq (.reg f41_r1) .ret))
noncomputable def f41 : EF := ⟨14, [.tmp (K.ofNat 4)], f41_c, none⟩
theorem f41_rs : f41.rs = [.tmp (K.ofNat 4)] := of_eq_true (eq_self _)
/-- A number of teams. -/
def ok5 (n : Int) : Prop := n = 2 ∨ n = 4 ∨ n = 6 ∨ n = 8 ∨ n = 10
section
variable {fs : T EF} {ro : Option K}
theorem tmod2 {n : Int} (h1 : 2 ≤ n) (h2 : n ≤ 10) (hn : ¬ ok5 n) : n.tmod 2 ≠ 0 := by
  obtain ⟨m, rfl⟩ : ∃ m : Nat, n = m := ⟨n.toNat, by omega⟩
  have : m = 2 ∨ m = 3 ∨ m = 4 ∨ m = 5 ∨ m = 6 ∨ m = 7 ∨ m = 8 ∨ m = 9 ∨ m = 10 := by omega
  unfold ok5 at hn
  rcases this with rfl | rfl | rfl | rfl | rfl | rfl | rfl | rfl | rfl <;> first | (exfalso; apply hn; simp; done) | (intro h; revert h; decide)
theorem f65_no {h : H} {n : Int} (hn : ¬ ok5 n) : Ret fs f65 [.i .i64 n] h fun r h' => r = .b false ∧ h' = h := by
  apply ret_of rfl
  show W fs none f65_c _ _ _
  unfold f65_c
  by_cases h1 : 2 ≤ n
  · have d1 : decide (n ≥ 2) = true := by simpa using h1
    by_cases h2 : n ≤ 10
    · have d2 : decide (n ≤ 10) = true := by simpa using h2
      have d3 : decide (n.tmod 2 = 0) = false := by simpa using tmod2 h1 h2 hn
      simp (disch := omega) only [f65_r0, f65_r1, f65_rs, w_reg, w_seq, w_ret, seqK_n, okG_b, asG_t, retK_r, x_nil, x_g, x_mv, x_as, x_pick, x_bin, kx, rvP_ok, okv_some, ev_t, ev_c, getV_some, putD_some, bin_eql, bin_leq, bin_geq, bin_rem, pick_b, oGet_s, readRs_nil, readRs_t, retV_1, frame_1, of0, of2, of10, Option.some.injEq, exists_eq_left', getK_set, Nat.reduceEqDiff, ↓reduceIte, d1, d2, d3, and_self]
    · have d2 : decide (n ≤ 10) = false := by simpa using h2
      simp (disch := omega) only [f65_r0, f65_r1, f65_rs, w_reg, w_seq, w_ret, seqK_n, okG_b, asG_t, retK_r, x_nil, x_g, x_mv, x_as, x_pick, x_bin, kx, rvP_ok, okv_some, ev_t, ev_c, getV_some, putD_some, bin_leq, bin_geq, pick_b, oGet_s, readRs_nil, readRs_t, retV_1, frame_1, of0, of2, of10, Option.some.injEq, exists_eq_left', getK_set, Nat.reduceEqDiff, ↓reduceIte, Bool.false_eq_true, d1, d2, and_self]
  · have d1 : decide (n ≥ 2) = false := by simpa using h1
    simp (disch := omega) only [f65_r0, f65_r1, f65_rs, w_reg, w_seq, w_ret, seqK_n, okG_b, asG_t, retK_r, x_nil, x_g, x_mv, x_as, x_pick, x_bin, kx, rvP_ok, okv_some, ev_t, ev_c, getV_some, putD_some, bin_geq, pick_b, oGet_s, readRs_nil, readRs_t, retV_1, frame_1, of0, of2, of10, Option.some.injEq, exists_eq_left', getK_set, Nat.reduceEqDiff, ↓reduceIte, Bool.false_eq_true, d1, and_self]
noncomputable def teamsN (n : Int) : Int := 2 + 2 * ((IntKind.u64.wrap n).tmod 5)
theorem teamsN_ok (n : Int) : ok5 (teamsN n) := by
  unfold teamsN ok5
  have h0 : 0 ≤ IntKind.u64.wrap n := Int.emod_nonneg _ (by decide)
  obtain ⟨m, hm⟩ := Int.eq_ofNat_of_zero_le h0
  rw [hm]
  have : ((m : Int).tmod 5) = ((m % 5 : Nat) : Int) := rfl
  rw [this]
  omega
theorem f41_ret {h : H} {n : Int} : Ret fs f41 [.i .i64 n, .i .i64 10] h fun r h' => r = .i .i64 (teamsN n) ∧ h' = h := by
  apply ret_of rfl
  show W fs none f41_c _ _ _
  unfold f41_c
  have e1 : fw .u64 (fw .i64 (Int.tdiv 10 2)) = 5 := rfl
  have h5 := teamsN_ok n
  have hr : 0 ≤ (IntKind.u64.wrap n).tmod 5 ∧ (IntKind.u64.wrap n).tmod 5 < 5 := by unfold ok5 teamsN at h5; omega
  have e2 : fw .i64 ((IntKind.u64.wrap n).tmod 5) = (IntKind.u64.wrap n).tmod 5 := by rw [fw_eq]; exact wrap_in .i64 _ (by simp only [kmin]; omega) (by simp only [kmax]; omega)
  have e3 : fw .i64 (2 * ((IntKind.u64.wrap n).tmod 5)) = 2 * ((IntKind.u64.wrap n).tmod 5) := by rw [fw_eq]; exact wrap_in .i64 _ (by simp only [kmin]; omega) (by simp only [kmax]; omega)
  have e4 : fw .i64 (2 + 2 * ((IntKind.u64.wrap n).tmod 5)) = 2 + 2 * ((IntKind.u64.wrap n).tmod 5) := by rw [fw_eq]; exact wrap_in .i64 _ (by simp only [kmin]; omega) (by simp only [kmax]; omega)
  have e5 : fw .u64 n = IntKind.u64.wrap n := fw_eq _ _
  simp (disch := omega) only [f41_r0, f41_r1, f41_rs, w_reg, w_seq, w_ret, seqK_n, retK_r, x_nil, x_mv, x_as, x_bin, x_conv, kx, rvP_ok, okv_some, ev_t, ev_c, getV_some, putD_some, bin_add, bin_mul, bin_rem, bin_quo, onI_i, oGet_s, readRs_nil, readRs_t, retV_1, frame_2, of0, of2, Option.some.injEq, exists_eq_left', getK_set, Nat.reduceEqDiff, ↓reduceIte, e1, e2, e3, e4, e5, teamsN, and_self]
end
end Go.Ev
namespace Go.Ev
open Go Go.RowKit
noncomputable def f25_r0 : List EOper := [⟨(some (K.ofNat 4)), none, .as (.c (.i .i64 (.ofNat 0)))⟩, ⟨(some (K.ofNat 5)), none, .as (.c .sn)⟩]
noncomputable def f25_r1 : List EOper := [⟨(some (K.ofNat 12)), none, .mv (.t (K.ofNat 0))⟩, ⟨(some (K.ofNat 13)), none, .call (.c (.fn (K.ofNat 41) [])) [(.t (K.ofNat 12)), (.c (.i .i64 (.ofNat 10)))]⟩, ⟨(some (K.ofNat 0)), none, .as (.t (K.ofNat 13))⟩]
noncomputable def f25_r2 : List EOper := [⟨(some (K.ofNat 14)), none, .mv (.t (K.ofNat 0))⟩, ⟨(some (K.ofNat 15)), none, .call (.c (.fn (K.ofNat 63) [])) [(.t (K.ofNat 14))]⟩, ⟨(some (K.ofNat 16)), none, .mv (.t (K.ofNat 0))⟩, ⟨(some (K.ofNat 17)), none, .mv (.t (K.ofNat 1))⟩, ⟨(some (K.ofNat 18)), none, .call (.c (.fn (K.ofNat 33) [])) [(.t (K.ofNat 16)), (.t (K.ofNat 17))]⟩, ⟨(some (K.ofNat 19)), none, .call (.c (.fn (K.ofNat 32) [])) [(.t (K.ofNat 15)), (.t (K.ofNat 18))]⟩, ⟨(some (K.ofNat 6)), none, .as (.t (K.ofNat 19))⟩]
noncomputable def f25_r3 : List EOper := [⟨(some (K.ofNat 7)), none, .as (.c .sn)⟩]
noncomputable def f25_r4 : List EOper := [⟨(some (K.ofNat 20)), none, .mv (.t (K.ofNat 1))⟩, ⟨(some (K.ofNat 21)), none, .len (.t (K.ofNat 20))⟩, ⟨(some (K.ofNat 22)), none, .mv (.t (K.ofNat 0))⟩, ⟨(some (K.ofNat 23)), none, .bin .sub (.t (K.ofNat 22)) (.c (.i .i64 (.ofNat 1)))⟩, ⟨(some (K.ofNat 24)), none, .bin .rem (.t (K.ofNat 21)) (.t (K.ofNat 23))⟩, ⟨(some (K.ofNat 8)), none, .as (.t (K.ofNat 24))⟩]
noncomputable def f25_r5 : List EOper := [⟨(some (K.ofNat 9)), none, .as (.c (.i .i64 (.ofNat 0)))⟩]
noncomputable def f25_r6 : List EOper := [⟨(some (K.ofNat 25)), none, .mv (.t (K.ofNat 9))⟩, ⟨(some (K.ofNat 26)), none, .mv (.t (K.ofNat 6))⟩, ⟨(some (K.ofNat 27)), none, .len (.t (K.ofNat 26))⟩, ⟨(some (K.ofNat 28)), none, .bin .lss (.t (K.ofNat 25)) (.t (K.ofNat 27))⟩]
noncomputable def f25_r7 : List EOper := [⟨(some (K.ofNat 31)), none, .mv (.t (K.ofNat 6))⟩, ⟨(some (K.ofNat 32)), none, .mv (.t (K.ofNat 9))⟩, ⟨(some (K.ofNat 33)), none, .mv (.t (K.ofNat 8))⟩, ⟨(some (K.ofNat 34)), none, .bin .add (.t (K.ofNat 32)) (.t (K.ofNat 33))⟩, ⟨(some (K.ofNat 35)), none, .mv (.t (K.ofNat 6))⟩, ⟨(some (K.ofNat 36)), none, .len (.t (K.ofNat 35))⟩, ⟨(some (K.ofNat 37)), none, .bin .rem (.t (K.ofNat 34)) (.t (K.ofNat 36))⟩, ⟨(some (K.ofNat 38)), none, .iads 1 (.t (K.ofNat 31)) (.t (K.ofNat 37))⟩, ⟨(some (K.ofNat 39)), none, .ld (.t (K.ofNat 38))⟩, ⟨(some (K.ofNat 10)), none, .as (.t (K.ofNat 39))⟩]
noncomputable def f25_r8 : List EOper := [⟨(some (K.ofNat 11)), none, .as (.c (.i .i64 (.ofNat 0)))⟩]
noncomputable def f25_r9 : List EOper := [⟨(some (K.ofNat 40)), none, .mv (.t (K.ofNat 11))⟩, ⟨(some (K.ofNat 41)), none, .mv (.t (K.ofNat 10))⟩, ⟨(some (K.ofNat 42)), none, .len (.t (K.ofNat 41))⟩, ⟨(some (K.ofNat 43)), none, .bin .lss (.t (K.ofNat 40)) (.t (K.ofNat 42))⟩]
noncomputable def f25_r10 : List EOper := [⟨(some (K.ofNat 46)), none, .mv (.t (K.ofNat 1))⟩, ⟨(some (K.ofNat 47)), none, .len (.t (K.ofNat 46))⟩, ⟨(some (K.ofNat 48)), none, .bin .gtr (.t (K.ofNat 47)) (.c (.i .i64 (.ofNat 0)))⟩, ⟨(some (K.ofNat 49)), none, .mv (.t (K.ofNat 48))⟩, ⟨(some (K.ofNat 50)), (some ((K.ofNat 49), true)), .mv (.t (K.ofNat 1))⟩, ⟨(some (K.ofNat 51)), (some ((K.ofNat 49), true)), .mv (.t (K.ofNat 9))⟩, ⟨(some (K.ofNat 52)), (some ((K.ofNat 49), true)), .mv (.t (K.ofNat 10))⟩, ⟨(some (K.ofNat 53)), (some ((K.ofNat 49), true)), .len (.t (K.ofNat 52))⟩, ⟨(some (K.ofNat 54)), (some ((K.ofNat 49), true)), .bin .mul (.t (K.ofNat 51)) (.t (K.ofNat 53))⟩, ⟨(some (K.ofNat 55)), (some ((K.ofNat 49), true)), .mv (.t (K.ofNat 11))⟩, ⟨(some (K.ofNat 56)), (some ((K.ofNat 49), true)), .bin .add (.t (K.ofNat 54)) (.t (K.ofNat 55))⟩, ⟨(some (K.ofNat 57)), (some ((K.ofNat 49), true)), .mv (.t (K.ofNat 1))⟩, ⟨(some (K.ofNat 58)), (some ((K.ofNat 49), true)), .len (.t (K.ofNat 57))⟩, ⟨(some (K.ofNat 59)), (some ((K.ofNat 49), true)), .bin .rem (.t (K.ofNat 56)) (.t (K.ofNat 58))⟩, ⟨(some (K.ofNat 60)), (some ((K.ofNat 49), true)), .iads 1 (.t (K.ofNat 50)) (.t (K.ofNat 59))⟩, ⟨(some (K.ofNat 61)), (some ((K.ofNat 49), true)), .ld (.t (K.ofNat 60))⟩, ⟨(some (K.ofNat 62)), (some ((K.ofNat 49), true)), .conv .u64 (.t (K.ofNat 61))⟩, ⟨(some (K.ofNat 63)), (some ((K.ofNat 49), true)), .bin .rem (.t (K.ofNat 62)) (.c (.i .u64 (.ofNat 2)))⟩, ⟨(some (K.ofNat 64)), (some ((K.ofNat 49), true)), .bin .eql (.t (K.ofNat 63)) (.c (.i .u64 (.ofNat 1)))⟩, ⟨(some (K.ofNat 65)), none, .pick (.t (K.ofNat 49)) (.t (K.ofNat 64)) (.c (.b false))⟩]
noncomputable def f25_r11 : List Stage := [⟨[⟨(some (K.ofNat 66)), none, .mv (.t (K.ofNat 10))⟩, ⟨(some (K.ofNat 67)), none, .mv (.t (K.ofNat 11))⟩, ⟨(some (K.ofNat 68)), none, .mv (.t (K.ofNat 10))⟩, ⟨(some (K.ofNat 69)), none, .mv (.t (K.ofNat 11))⟩, ⟨(some (K.ofNat 70)), none, .iads 2 (.t (K.ofNat 68)) (.t (K.ofNat 69))⟩, ⟨(some (K.ofNat 71)), none, .iadr 2 1 (.t (K.ofNat 70)) (.c (.i .i64 (.ofNat 1)))⟩, ⟨(some (K.ofNat 72)), none, .ld (.t (K.ofNat 71))⟩, ⟨(some (K.ofNat 73)), none, .mv (.t (K.ofNat 10))⟩, ⟨(some (K.ofNat 74)), none, .mv (.t (K.ofNat 11))⟩, ⟨(some (K.ofNat 75)), none, .iads 2 (.t (K.ofNat 73)) (.t (K.ofNat 74))⟩, ⟨(some (K.ofNat 76)), none, .iadr 2 1 (.t (K.ofNat 75)) (.c (.i .i64 (.ofNat 0)))⟩, ⟨(some (K.ofNat 77)), none, .ld (.t (K.ofNat 76))⟩, ⟨(some (K.ofNat 78)), none, .build [(.i .i64 (.ofNat 0)), (.i .i64 (.ofNat 0))] [(0, 1, (.t (K.ofNat 72))), (1, 1, (.t (K.ofNat 77)))]⟩, ⟨(some (K.ofNat 79)), none, .iads 2 (.t (K.ofNat 66)) (.t (K.ofNat 67))⟩], [], (some ⟨none, none, .st 2 (.t (K.ofNat 79)) (.t (K.ofNat 78))⟩), []⟩, ⟨[], [], none, []⟩]
noncomputable def f25_r12 : List EOper := [⟨(some (K.ofNat 44)), none, .mv (.t (K.ofNat 11))⟩, ⟨(some (K.ofNat 45)), none, .bin .add (.t (K.ofNat 44)) (.c (.i .i64 (.ofNat 1)))⟩, ⟨(some (K.ofNat 11)), none, .as (.t (K.ofNat 45))⟩]
noncomputable def f25_l0 : EC := (.seq (.seq (.reg f25_r9) (.cond (.t (K.ofNat 43)) .skip (.exit 2))) (.seq (.block 3 (.seq (.reg f25_r10) (.cond (.t (K.ofNat 65)) (.draw f25_r11) .skip))) (.reg f25_r12)))
noncomputable def f25_r13 : List EOper := [⟨(some (K.ofNat 80)), none, .mv (.t (K.ofNat 7))⟩, ⟨(some (K.ofNat 81)), none, .mv (.t (K.ofNat 10))⟩, ⟨(some (K.ofNat 82)), none, .bslice 1 1 [.sn] [(0, 1, (.t (K.ofNat 81)))]⟩, ⟨(some (K.ofNat 83)), none, .app 1 (.t (K.ofNat 80)) (.t (K.ofNat 82))⟩, ⟨(some (K.ofNat 7)), none, .as (.t (K.ofNat 83))⟩]
noncomputable def f25_r14 : List EOper := [⟨(some (K.ofNat 29)), none, .mv (.t (K.ofNat 9))⟩, ⟨(some (K.ofNat 30)), none, .bin .add (.t (K.ofNat 29)) (.c (.i .i64 (.ofNat 1)))⟩, ⟨(some (K.ofNat 9)), none, .as (.t (K.ofNat 30))⟩]
noncomputable def f25_l1 : EC := (.seq (.seq (.reg f25_r6) (.cond (.t (K.ofNat 28)) .skip (.exit 0))) (.seq (.block 1 (.seq (.reg f25_r7) (.seq (.seq (.reg f25_r8) (.block 2 (.loop f25_l0))) (.reg f25_r13)))) (.reg f25_r14)))
noncomputable def f25_r15 : List EOper := [⟨(some (K.ofNat 84)), none, .mv (.t (K.ofNat 0))⟩, ⟨(some (K.ofNat 85)), none, .mv (.t (K.ofNat 7))⟩, ⟨(some (K.ofNat 4)), none, .as (.t (K.ofNat 84))⟩, ⟨(some (K.ofNat 5)), none, .as (.t (K.ofNat 85))⟩]
noncomputable def f25_c : EC := (.seq (.reg f25_r0) (.seq (.reg f25_r1) (.seq (.reg f25_r2) (.seq (.reg f25_r3) (.seq (.reg f25_r4) (.seq (.seq (.reg f25_r5) (.block 0 (.loop f25_l1))) (.seq (.reg f25_r15) .ret)))))))
noncomputable def f25 : EF := ⟨86, [.tmp (K.ofNat 4), .tmp (K.ofNat 5)], f25_c, none⟩
theorem f25_rs : f25.rs = [.tmp (K.ofNat 4), .tmp (K.ofNat 5)] := of_eq_true (eq_self _)
section
variable {h : H} {v : V} {us : List V} {Ls : List (List (Int × Int))}
/-- A store into one of the slices. -/
theorem Sld.st (s : Sld h v us Ls) (hc : HC h) {r k : Nat} (hr : r < us.length) (hr2 : r < Ls.length) (hk : k < Ls[r].length) {x : Int × Int} :
    ∃ p id m cs', (∀ kk h1, iadsV 2 us[r] (.i kk (k : Int)) h1 = .ok p h1) ∧ storeV h 2 p (.agg [.i .i64 x.1, .i .i64 x.2]) = .ok undefV (h.put id (.cells m cs')) ∧ Sld (h.put id (.cells m cs')) v us (Ls.set r (Ls[r].set k x)) ∧ (∃ off n sz, us[r] = .sl id off n sz) ∧ id.nat < h.nx.nat := by
  obtain ⟨p, id, m, cs', a1, a2, a3, ⟨off, n, sz, a4⟩, a5⟩ := (s.sk r hr hr2).st2 hk (x := x) hc
  have sk : ∀ i (h1 : i < us.length) (h2 : i < (Ls.set r (Ls[r].set k x)).length), Sk 2 qE (h.put id (.cells m cs')) us[i] (Ls.set r (Ls[r].set k x))[i] := fun i h1 h2 => by
    rw [List.getElem_set]
    split
    · rename_i e; subst e; exact a3
    · rename_i e
      exact (s.sk i h1 (by rw [← s.len]; exact h1)).put (s.dis r i hr h1 e _ _ _ _ a4) _
  refine ⟨p, id, m, cs', a1, a2, ⟨⟨by rw [List.length_set]; exact s.len, s.out.put (s.sep _ (List.getElem_mem hr) _ _ _ _ a4) _, fun i h1 h2 => (sk i h1 h2).srp, s.sep⟩, sk, s.dis⟩, ⟨off, n, sz, a4⟩, a5⟩
theorem Sld.kept {h' : H} {b : Nat} (s : Sld h v us Ls) (hg : ∀ id : K, id.nat < b → h'.get id = h.get id) (h1 : ∀ id off n sz, v = .sl id off n sz → id.nat < b) (h2 : ∀ x ∈ us, ∀ id off n sz, x = .sl id off n sz → id.nat < b) : Sld h' v us Ls := by
  have sk : ∀ i (h1 : i < us.length) (h2 : i < Ls.length), Sk 2 qE h' us[i] Ls[i] := fun i hi hj => (s.sk i hi hj).same fun id off n sz e => hg id (h2 _ (List.getElem_mem hi) _ _ _ _ e)
  exact ⟨⟨s.len, s.out.same fun id off n sz e => hg id (h1 _ _ _ _ e), fun i hi hj => (sk i hi hj).srp, s.sep⟩, sk, s.dis⟩
end
/-- Is a game's home turned? -/
def flB (B : List Int) (j : Nat) : Bool := decide ((B.length : Int) > 0) && decide ((fw .u64 (B.getD (j % B.length) 0)).tmod 2 = 1)
/-- A round with the homes turned, so far. -/
def flR (B : List Int) (i : Nat) (l : List (Int × Int)) : Nat → List (Int × Int)
  | 0 => l
  | k + 1 => if flB B (i * l.length + k) = true then (flR B i l k).set k ((l.getD k (0, 0)).2, (l.getD k (0, 0)).1) else flR B i l k
theorem flR_len {B : List Int} {i : Nat} {l : List (Int × Int)} : ∀ {k : Nat}, (flR B i l k).length = l.length
  | 0 => rfl
  | k + 1 => by
    show (if _ then _ else _ : List (Int × Int)).length = _
    split
    · rw [List.length_set, flR_len]
    · exact flR_len
theorem flR_at {B : List Int} {i : Nat} {l : List (Int × Int)} {j : Nat} : ∀ {k : Nat}, k ≤ j → (flR B i l k)[j]? = l[j]?
  | 0, _ => rfl
  | k + 1, h => by
    show (if _ then _ else _ : List (Int × Int))[j]? = _
    split
    · rw [List.getElem?_set, if_neg (by omega), flR_at (by omega)]
    · exact flR_at (by omega)
/-- The rounds, when some are done. -/
def tmS (S : List (List (Int × Int))) (B : List Int) (f : Nat) : Nat → List (List (Int × Int))
  | 0 => S
  | i + 1 => (tmS S B f i).set ((i + f) % S.length) (flR B i ((tmS S B f i).getD ((i + f) % S.length) []) ((tmS S B f i).getD ((i + f) % S.length) []).length)
theorem tmS_len {S : List (List (Int × Int))} {B : List Int} {f : Nat} : ∀ {i : Nat}, (tmS S B f i).length = S.length
  | 0 => rfl
  | i + 1 => by show (List.set _ _ _).length = _; rw [List.length_set, tmS_len]
theorem tmS_row {S : List (List (Int × Int))} {B : List Int} {f m : Nat} (hm : ∀ l ∈ S, l.length ≤ m) : ∀ {i : Nat}, ∀ l ∈ tmS S B f i, l.length ≤ m
  | 0 => hm
  | i + 1 => fun l hl => by
    have hl : l ∈ (tmS S B f i).set _ _ := hl
    rcases List.mem_or_eq_of_mem_set hl with h | h
    · exact tmS_row hm l h
    · rw [h, flR_len, List.getD_eq_getElem?_getD]
      cases hq : (tmS S B f i)[(i + f) % S.length]? with
      | none => simp
      | some l' => exact tmS_row hm l' (List.mem_of_getElem? hq)
/-- The names' schedule. -/
def nmS (n : Nat) (B : List Int) : List (List (Int × Int)) := renS (nmL B n) (turnS n (n - 1))
theorem nmS_len {n : Nat} {B : List Int} : (nmS n B).length = n - 1 := by simp [nmS, renS, turnS]
theorem nmS_row {n : Nat} {B : List Int} : ∀ l ∈ nmS n B, l.length ≤ n := fun l hl => by
  unfold nmS renS turnS at hl
  obtain ⟨l', h1, rfl⟩ := List.mem_map.1 hl
  obtain ⟨i, h2, rfl⟩ := List.mem_map.1 h1
  unfold renR
  rw [List.length_map, turnR_len]
  have : i < n - 1 := by simpa using h2
  omega
theorem turn_in {n : Nat} (hn : 2 ≤ n) : InN n (turnS n (n - 1)) := fun l hl e he => by
  unfold turnS at hl
  obtain ⟨i, hi, rfl⟩ := List.mem_map.1 hl
  have hi : i < n - 1 := by simpa using hi
  unfold turnR at he
  rcases List.mem_cons.1 he with rfl | he
  · simp only; omega
  · obtain ⟨k, _, rfl⟩ := List.mem_map.1 he
    have h1 := Nat.mod_lt (i + (k + 1)) (show 0 < n - 1 by omega)
    have h2 := Nat.mod_lt (i + n - 1 - (k + 1)) (show 0 < n - 1 by omega)
    simp only; omega
def tameF (n : Nat) (B : List Int) : Nat := B.length % (n - 1)
def tameW (n : Nat) (B : List Int) (us : List V) (i : Nat) : List V := (List.range i).map fun i => us.getD ((i + tameF n B) % (n - 1)) .sn
/-- The schedule. -/
def tameL (n : Nat) (B : List Int) : List (List (Int × Int)) := (List.range (n - 1)).map fun i => (tmS (nmS n B) B (tameF n B) (n - 1)).getD ((i + tameF n B) % (n - 1)) []
structure CallsTm (fs : T EF) : Prop where
  c32 : fs.get (K.ofNat 32) = some f32
  c33 : fs.get (K.ofNat 33) = some f33
  c41 : fs.get (K.ofNat 41) = some f41
  c63 : fs.get (K.ofNat 63) = some f63
section
variable {fs : T EF} {h : H} {w : V} {B : List Int}
def f25_I (h : H) (hb : H) (n : Nat) (w v : V) (us : List V) (B : List Int) (i : Nat) (fr : Fr) (h1 : H) : Prop := i ≤ n - 1 ∧ Grow h.nx.nat h h1 ∧ hb.nx.nat ≤ h1.nx.nat ∧ Sld h1 v us (tmS (nmS n B) B (tameF n B) i) ∧ (∃ c, Sl vE h1 c (tameW n B us i) ∧ Own hb.nx.nat c ∧ fr.get (K.ofNat 0) = some (.i .i64 (n : Int)) ∧ fr.get (K.ofNat 1) = some (w) ∧ fr.get (K.ofNat 6) = some (v) ∧ fr.get (K.ofNat 7) = some (c) ∧ fr.get (K.ofNat 8) = some (.i .i64 (tameF n B : Int)) ∧ fr.get (K.ofNat 9) = some (.i .i64 (i : Int)))
def f25_J (h : H) (hb : H) (n : Nat) (w v c u : V) (us : List V) (B : List Int) (ws : List V) (S : List (List (Int × Int))) (r : Nat) (l : List (Int × Int)) (i : Nat) (k : Nat) (fr : Fr) (h1 : H) : Prop := k ≤ l.length ∧ Grow h.nx.nat h h1 ∧ hb.nx.nat ≤ h1.nx.nat ∧ Sld h1 v us (S.set r (flR B i l k)) ∧ Sl vE h1 c ws ∧ fr.get (K.ofNat 0) = some (.i .i64 (n : Int)) ∧ fr.get (K.ofNat 1) = some (w) ∧ fr.get (K.ofNat 6) = some (v) ∧ fr.get (K.ofNat 7) = some (c) ∧ fr.get (K.ofNat 8) = some (.i .i64 (tameF n B : Int)) ∧ fr.get (K.ofNat 9) = some (.i .i64 (i : Int)) ∧ fr.get (K.ofNat 10) = some (u) ∧ fr.get (K.ofNat 11) = some (.i .i64 (k : Int))
theorem f25_ret {n : Int} (k : CallsTm fs) (hw : Sr iE h w B) (hB : B.length ≤ 9223372036854775807) (hc : HC h) : Ret fs f25 [.i .i64 n, w] h fun r h' => ∃ (m : Nat) (c : V) (ws : List V), r = .tup [.i .i64 (m : Int), c] ∧ (m : Int) = teamsN n ∧ Nrp h' c ws (tameL m B) ∧ Grow h.nx.nat h h' := by
  obtain ⟨m, hm⟩ : ∃ m : Nat, teamsN n = (m : Int) := ⟨(teamsN n).toNat, by have := teamsN_ok n; unfold ok5 at this; omega⟩
  have hm10 : 2 ≤ m ∧ m ≤ 10 := by have := teamsN_ok n; unfold ok5 at this; omega
  have en1 : (m : Int) - 1 = ((m - 1 : Nat) : Int) := by omega
  have hlenB := hw.len
  apply ret_of rfl
  show W fs none f25_c _ _ _
  unfold f25_c
  simp (disch := omega) only [f25_r0, f25_r1, w_reg, w_seq, seqK_n, x_nil, x_mv, x_as, x_call, ev_t, ev_c, evs_nil, evs_cons, getV_some, putD_some, frame_2, of0, of10, getK_set, Nat.reduceEqDiff, ↓reduceIte]
  refine (callP_0 (ef := f41) k.c41 rfl f41_ret).mono ?_
  rintro r h0 ⟨rfl, e0⟩
  rw [hm, e0]
  clear e0 h0
  simp (disch := omega) only [f25_r2, w_reg, w_seq, seqK_n, x_nil, x_mv, x_as, x_call, kx, ev_t, ev_c, evs_nil, evs_cons, getV_some, putD_some, getK_set, ↓reduceIte]
  refine (callP_0 (ef := f63) k.c63 rfl (f63_ret (n := m) (by omega) hc)).mono ?_
  rintro v1 h1 ⟨us1, hs1, _, hG1⟩
  have hc1 := hG1.hc hc
  have hw1 := hw.grow hc hG1
  simp (disch := omega) only [x_mv, x_call, kx, ev_t, ev_c, evs_nil, evs_cons, getV_some, putD_some, getK_set, Nat.reduceEqDiff, ↓reduceIte]
  refine (callP_0 (ef := f33) k.c33 rfl (f33_ret (n := m) (by omega) hw1 hB hc1)).mono ?_
  rintro v2 h2 ⟨hs2, _, hG2⟩
  have hc2 := hG2.hc hc1
  have hGa := hG1.trans (hG2.low hG1.nx)
  simp (disch := omega) only [x_call, kx, ev_t, ev_c, evs_nil, evs_cons, getV_some, putD_some, getK_set, Nat.reduceEqDiff, ↓reduceIte]
  refine (callP_0 (ef := f32) k.c32 rfl (f32_ret (hs1.grow hc1 hG2).nrp hs2.sr.rd (by rw [nmL_len]; exact turn_in (by omega)) (by rw [turnS_len]; omega) (fun l hl => by
    unfold turnS at hl
    obtain ⟨i, _, rfl⟩ := List.mem_map.1 hl
    rw [turnR_len]; omega) hc2)).mono ?_
  rintro v h3 ⟨us, hs, hov, hus, hG3⟩
  have hc3 := hG3.hc hc2
  have hGb := hGa.trans (hG3.low hGa.nx)
  have hlow := hGb.nx
  have hrem : ∀ a, binV .rem (.i .i64 a) (.i .i64 ((m - 1 : Nat) : Int)) = some (.i .i64 (a.tmod ((m - 1 : Nat) : Int))) := fun a => bin_rem (by omega)
  have tf : (B.length : Int).tmod ((m - 1 : Nat) : Int) = (tameF m B : Int) := rfl
  have hfl : tameF m B < m - 1 := Nat.mod_lt _ (by omega)
  have hvlt : ∀ id off n sz, v = .sl id off n sz → id.nat < h3.nx.nat := hs.out.lt hc3
  have hult : ∀ x ∈ us, ∀ id off n sz, x = .sl id off n sz → id.nat < h3.nx.nat := fun x hx => by
    obtain ⟨i, hi, rfl⟩ := List.getElem_of_mem hx
    exact (hs.sk i hi (by rw [← hs.len]; exact hi)).lt hc3
  have hul : us.length = m - 1 := by rw [hs.len]; exact nmS_len
  have huo : ∀ x ∈ us, ∀ id off n sz, x = .sl id off n sz → h.nx.nat ≤ id.nat := fun x hx id off n sz e => Nat.le_trans hGa.nx (hus x hx id off n sz e)
  have hlv : ∀ h1, lenV v h1 = .ok (.i .i64 ((m - 1 : Nat) : Int)) h1 := fun h1 => by rw [hs.out.len, hul]
  simp (disch := omega) only [f25_r3, f25_r4, f25_r5, w_reg, w_seq, w_block, seqK_n, x_nil, x_mv, x_as, x_bin, x_len, kx, rvP_ok, okv_some, ev_t, ev_c, getV_some, putD_some, bin_sub, of0, of1, getK_set, Nat.reduceEqDiff, ↓reduceIte, hlenB, en1, fw64, hrem, tf]
  refine W_loop (f25_I h h3 m w v us B) (fun i => m - 1 - i) ?_ 0 ⟨by omega, hGb, Nat.le_refl _, hs, .sn, Sl.nil, Own.sn, by simp (disch := omega) only [getK_set, Nat.reduceEqDiff, ↓reduceIte, and_self, Int.natCast_zero]⟩
  clear hs hG3 hGb hs1 hs2 hG1 hG2 hGa hov hus hw1
  rintro i fr h4 ⟨hi, hG, hnx, hs, c, hcs, hoc, g0, g1, g6, g7, g8, g9⟩
  have hc4 := hG.hc hc
  unfold f25_l1
  by_cases hlt : i < m - 1
  · have d0 : decide ((i : Int) < ((m - 1 : Nat) : Int)) = true := by simp; omega
    have e1 : (i : Int) + (tameF m B : Int) = ((i + tameF m B : Nat) : Int) := by omega
    have t1 : ((i + tameF m B : Nat) : Int).tmod ((m - 1 : Nat) : Int) = (((i + tameF m B) % (m - 1) : Nat) : Int) := rfl
    have hr : (i + tameF m B) % (m - 1) < m - 1 := Nat.mod_lt _ (by omega)
    obtain ⟨r, hrr⟩ : ∃ r, r = (i + tameF m B) % (m - 1) := ⟨_, rfl⟩
    have hSl : (tmS (nmS m B) B (tameF m B) i).length = m - 1 := by rw [tmS_len, nmS_len]
    have hnext : tmS (nmS m B) B (tameF m B) (i + 1) = (tmS (nmS m B) B (tameF m B) i).set r (flR B i ((tmS (nmS m B) B (tameF m B) i).getD r []) ((tmS (nmS m B) B (tameF m B) i).getD r []).length) := by
      show (tmS (nmS m B) B (tameF m B) i).set ((i + tameF m B) % (nmS m B).length) (flR B i ((tmS (nmS m B) B (tameF m B) i).getD ((i + tameF m B) % (nmS m B).length) []) ((tmS (nmS m B) B (tameF m B) i).getD ((i + tameF m B) % (nmS m B).length) []).length) = _
      rw [nmS_len, ← hrr]
    have hrow := tmS_row (S := nmS m B) (B := B) (f := tameF m B) nmS_row (i := i)
    have hwx : tameW m B us (i + 1) = tameW m B us i ++ [us.getD r .sn] := by unfold tameW; rw [List.range_succ, List.map_append, hrr]; rfl
    have hwl : (tameW m B us i).length = i := by simp [tameW]
    rw [← hrr] at t1 hr
    generalize tmS (nmS m B) B (tameF m B) i = S at *
    have hg : S.getD r [] = S[r]'(by omega) := by rw [List.getD_eq_getElem?_getD, List.getElem?_eq_getElem (by omega)]; rfl
    have hgu : us.getD r .sn = us[r]'(by omega) := by rw [List.getD_eq_getElem?_getD, List.getElem?_eq_getElem (by omega)]; rfl
    rw [hg] at hnext
    rw [hgu] at hwx
    have hll := hrow S[r] (List.getElem_mem _)
    have hset : S.set r S[r] = S := List.set_getElem_self _
    obtain ⟨p, hp1, hp2'⟩ := hs.out.at r (by omega)
    have hp2 : loadV h4 p one? = .ok us[r] h4 := hp2'
    clear hp2'
    generalize tameW m B us i = ws at *
    obtain ⟨l, hl⟩ : ∃ l, l = S[r]'(by omega) := ⟨_, rfl⟩
    rw [← hl] at hnext hll hset
    simp (disch := omega) only [f25_r6, f25_r7, f25_r8, w_skip, w_reg, w_seq, w_cond, w_block, seqK_n, ckB_b, cbB_b, true_and, x_nil, x_mv, x_as, x_ld, x_bin, x_iads, x_len, kx, rvP_ok, okv_some, ev_t, ev_c, getV_some, putD_some, bin_add, bin_lss, of0, getK_set, Nat.reduceEqDiff, ↓reduceIte, g6, g8, g9, hlv, d0, e1, fw64, hrem, t1, hp1, hp2]
    refine W_loop (f25_J h h3 m w v c us[r] us B ws S r l i) (fun k => l.length - k) ?_ 0 ⟨by omega, hG, hnx, by rw [show flR B i l 0 = l from rfl, hset]; exact hs, hcs, by simp (disch := omega) only [getK_set, Nat.reduceEqDiff, ↓reduceIte, g0, g1, g6, g7, g8, g9, and_self, Int.natCast_zero]⟩
    clear hs hcs hG hnx hc4 hp1 hp2 g0 g1 g6 g7 g8 g9 fr
    rintro j fr h4 ⟨hj, hG, hnx, hs, hcs, g0, g1, g6, g7, g8, g9, g10, g11⟩
    have hc4 := hG.hc hc
    have hw4 := hw.grow hc hG
    have hlB := hw4.len
    have hrl : r < (S.set r (flR B i l j)).length := by rw [List.length_set]; omega
    have hrg : (S.set r (flR B i l j))[r] = flR B i l j := List.getElem_set_self _
    have hsk := hs.sk r (by omega) hrl
    rw [hrg] at hsk
    have hlr : ∀ h1, lenV us[r] h1 = .ok (.i .i64 (l.length : Int)) h1 := fun h1 => by rw [hsk.len, flR_len]
    unfold f25_l0
    by_cases hlt2 : j < l.length
    · have d1 : decide ((j : Int) < (l.length : Int)) = true := by simpa using hlt2
      have eij : (i : Int) * (l.length : Int) = ((i * l.length : Nat) : Int) := (Int.natCast_mul _ _).symm
      have eij2 : ((i * l.length : Nat) : Int) + (j : Int) = ((i * l.length + j : Nat) : Int) := by omega
      have hib : i * l.length ≤ 10 * 10 := Nat.mul_le_mul (by omega) (by omega)
      have hstep : flR B i l (j + 1) = if flB B (i * l.length + j) = true then (flR B i l j).set j ((l.getD j (0, 0)).2, (l.getD j (0, 0)).1) else flR B i l j := rfl
      have hjl : j < (flR B i l j).length := by rw [flR_len]; exact hlt2
      have hlj : (flR B i l j)[j] = l[j] := by
        have := flR_at (B := B) (i := i) (l := l) (Nat.le_refl j)
        rw [List.getElem?_eq_getElem hjl, List.getElem?_eq_getElem hlt2] at this
        exact Option.some.inj this
      have hgj : l.getD j (0, 0) = l[j] := by rw [List.getD_eq_getElem?_getD, List.getElem?_eq_getElem hlt2]; rfl
      rw [hgj] at hstep
      cases hfb : flB B (i * l.length + j) with
      | false =>
        rw [hfb, if_neg (by simp)] at hstep
        by_cases hBn : B.length = 0
        · have d2 : decide ((B.length : Int) > 0) = false := decide_eq_false (by omega)
          simp (disch := omega) only [f25_r9, f25_r10, f25_r12, w_skip, w_reg, w_seq, w_cond, w_block, seqK_n, atK_n, loopK_n, ckB_b, cbB_b, okG_b, asG_t, true_and, x_nil, x_g, x_mv, x_as, x_pick, x_bin, x_len, kx, rvP_ok, okv_some, ev_t, ev_c, getV_some, putD_some, bin_add, bin_lss, bin_gtr, pick_b, of0, of1, of2, getK_set, Nat.reduceEqDiff, ↓reduceIte, Bool.false_eq_true, g1, g10, g11, hlr, d1, hlB, d2, fw64]
          exact ⟨j + 1, by omega, by omega, hG, hnx, by rw [hstep]; exact hs, hcs, by simp (disch := omega) only [getK_set, Nat.reduceEqDiff, ↓reduceIte, g0, g1, g6, g7, g8, g9, g10, and_self, Int.natCast_add, Int.natCast_one]⟩
        · have d2 : decide ((B.length : Int) > 0) = true := decide_eq_true (by omega)
          have hremB : ∀ a, binV .rem (.i .i64 a) (.i .i64 (B.length : Int)) = some (.i .i64 (a.tmod (B.length : Int))) := fun a => bin_rem (by omega)
          have tB : ((i * l.length + j : Nat) : Int).tmod (B.length : Int) = (((i * l.length + j) % B.length : Nat) : Int) := rfl
          have hbl : (i * l.length + j) % B.length < B.length := Nat.mod_lt _ (by omega)
          obtain ⟨q, hq1, hq2⟩ := hw4.at _ hbl
          have d3 : decide ((fw .u64 (B[(i * l.length + j) % B.length]'hbl)).tmod 2 = 1) = false := by
            unfold flB at hfb
            rw [d2, Bool.true_and, List.getD_eq_getElem?_getD, List.getElem?_eq_getElem hbl] at hfb
            exact hfb
          simp (disch := omega) only [f25_r9, f25_r10, f25_r12, w_skip, w_reg, w_seq, w_cond, w_block, seqK_n, atK_n, loopK_n, ckB_b, cbB_b, okG_b, asG_t, true_and, x_nil, x_g, x_mv, x_as, x_pick, x_ld, x_bin, x_conv, x_iads, x_len, kx, rvP_ok, okv_some, ev_t, ev_c, getV_some, putD_some, bin_add, bin_mul, bin_eql, bin_lss, bin_gtr, bin_rem, pick_b, onI_i, of0, of1, of2, getK_set, Nat.reduceEqDiff, ↓reduceIte, Bool.false_eq_true, g1, g9, g10, g11, hlr, d1, hlB, d2, fw64, eij, eij2, hremB, tB, hq1, hq2, iE, d3]
          exact ⟨j + 1, by omega, by omega, hG, hnx, by rw [hstep]; exact hs, hcs, by simp (disch := omega) only [getK_set, Nat.reduceEqDiff, ↓reduceIte, g0, g1, g6, g7, g8, g9, g10, and_self, Int.natCast_add, Int.natCast_one]⟩
      | true =>
        rw [hfb, if_pos rfl] at hstep
        have hBn : ¬ B.length = 0 := fun e => by
          unfold flB at hfb
          rw [e] at hfb
          simp at hfb
        have d2 : decide ((B.length : Int) > 0) = true := decide_eq_true (by omega)
        have hremB : ∀ a, binV .rem (.i .i64 a) (.i .i64 (B.length : Int)) = some (.i .i64 (a.tmod (B.length : Int))) := fun a => bin_rem (by omega)
        have tB : ((i * l.length + j : Nat) : Int).tmod (B.length : Int) = (((i * l.length + j) % B.length : Nat) : Int) := rfl
        have hbl : (i * l.length + j) % B.length < B.length := Nat.mod_lt _ (by omega)
        obtain ⟨q, hq1, hq2⟩ := hw4.at _ hbl
        have d3 : decide ((fw .u64 (B[(i * l.length + j) % B.length]'hbl)).tmod 2 = 1) = true := by
          unfold flB at hfb
          rw [d2, Bool.true_and, List.getD_eq_getElem?_getD, List.getElem?_eq_getElem hbl] at hfb
          exact hfb
        obtain ⟨ide, qq, ha1, _, ha2, ha3⟩ := hsk.srp.at2 hjl
        rw [hlj] at ha2 ha3
        have hjl2 : j < (S.set r (flR B i l j))[r].length := by rw [hrg]; exact hjl
        obtain ⟨p', id', m', cs', s1, s2, s3, ⟨off', n', sz', s4⟩, s5⟩ := hs.st hc4 (r := r) (k := j) (by omega) hrl hjl2 (x := (l[j].2, l[j].1))
        obtain rfl : V.p ide qq = p' := by have := (ha1 .i64 h4).symm.trans (s1 .i64 h4); injection this
        have hid := huo _ (List.getElem_mem (show r < us.length by omega)) _ _ _ _ s4
        have hid2 := hult _ (List.getElem_mem (show r < us.length by omega)) _ _ _ _ s4
        have gP := Grow.put hid s5 (.cells m' cs')
        have hcs' : Sl vE (h4.put id' (.cells m' cs')) c ws := hcs.same fun id off n sz e => get_put_other (kNe (Nat.lt_of_lt_of_le hid2 (hoc _ _ _ _ e))).symm
        rw [hrg, List.set_set, ← hstep] at s3
        have hub := hsk.srp.beq
        have s2 : storeV h4 2 (.p ide qq) (.agg [.i .i64 l[j].2, .i .i64 l[j].1]) = .ok undefV (h4.put id' (.cells m' cs')) := s2
        simp (disch := omega) only [f25_r9, f25_r10, f25_r11, f25_r12, w_skip, w_reg, w_draw, w_seq, w_cond, w_block, seqK_n, atK_n, loopK_n, ckB_b, cbB_b, okG_b, asG_t, true_and, x_nil, x_g, x_mv, x_as, x_pick, x_ld, x_st, x_bin, x_conv, x_iads, x_len, kx, kg, xg_nil, xg_mv, xg_build, xg_ld, xg_iadr, xg_iads, xd_cons, fresh_nil, stK_n, stK_s, stay_nil, rvP_ok, okv_some, ev_t, ev_c, getV_some, putD_some, putD_none, bin_add, bin_mul, bin_eql, bin_lss, bin_gtr, bin_rem, pick_b, onI_i, onP_p, oGet_s, cells1_i, of0, of1, of2, getK_set, Nat.reduceEqDiff, ↓reduceIte, fill_2, set_2, ix2_0, ix2_1, g1, g9, g10, g11, hlr, d1, hlB, d2, fw64, eij, eij2, hremB, tB, hq1, hq2, iE, d3, ha1, ha2, ha3, fill_2, set_2, s2]
        exact ⟨j + 1, by omega, by omega, hG.trans gP, hnx, s3, hcs', by simp (disch := omega) only [getK_set, Nat.reduceEqDiff, ↓reduceIte, g0, g1, g6, g7, g8, g9, g10, and_self, Int.natCast_add, Int.natCast_one]⟩
    · have d1 : decide ((j : Int) < (l.length : Int)) = false := by simpa using hlt2
      have ej : j = l.length := by omega
      subst ej
      rw [← hnext] at hs
      obtain ⟨c', h5, a1, s1, o1, gr1, _⟩ := Sl.push (e := vE) (x := us[r]) (c := us[r]) rfl hcs hoc hnx hc4 (by omega)
      have hs5 := hs.kept (h' := h5) (b := h3.nx.nat) (fun id hid => gr1.old id hid) hvlt hult
      rw [← hwx] at s1
      have hcell := hsk.srp.cell
      simp (disch := omega) only [f25_r9, f25_r13, f25_r14, w_reg, w_seq, w_cond, w_exit, seqK_n, seqK_e, atK_n, atK_e, loopK_n, loopK_e, ckB_b, cbB_b, true_and, x_nil, x_mv, x_as, x_bslice, x_bin, x_len, x_app, kx, rvP_ok, okv_some, ev_t, ev_c, getV_some, putD_some, bin_add, bin_lss, oGet_s, fill_1, set_1, of1, getK_set, Nat.reduceEqDiff, ↓reduceIte, Bool.false_eq_true, g7, g9, g10, g11, hlr, d1, fill_1, hcell, set_1, a1, fw64]
      exact ⟨i + 1, by omega, by omega, hG.trans (gr1.low hlow), by have := gr1.nx; omega, hs5, c', s1, o1, by simp (disch := omega) only [getK_set, Nat.reduceEqDiff, ↓reduceIte, g0, g1, g6, g8, and_self, Int.natCast_add, Int.natCast_one]⟩
  · have d0 : decide ((i : Int) < ((m - 1 : Nat) : Int)) = false := by simp; omega
    have ei : i = m - 1 := by omega
    subst ei
    simp (disch := omega) only [f25_r6, f25_r15, f25_rs, w_reg, w_seq, w_cond, w_exit, w_ret, seqK_n, seqK_e, atK_e, loopK_e, ckB_b, cbB_b, true_and, retK_r, x_nil, x_mv, x_as, x_bin, x_len, kx, rvP_ok, okv_some, ev_t, getV_some, putD_some, bin_lss, oGet_s, readRs_nil, readRs_t, retV_2, Option.some.injEq, exists_eq_left', getK_set, Nat.reduceEqDiff, ↓reduceIte, Bool.false_eq_true, g0, g6, g7, g9, hlv, d0]
    refine ⟨m, c, _, rfl, rfl, ⟨by simp [tameW, tameL], hcs.sr, fun i h1 h2 => ?_⟩, hG⟩
    have hi' : i < m - 1 := by simpa [tameW] using h1
    have hr : (i + tameF m B) % (m - 1) < m - 1 := Nat.mod_lt _ (by omega)
    have := hs.inn _ (show (i + tameF m B) % (m - 1) < us.length by omega) (by rw [tmS_len, nmS_len]; exact hr)
    unfold tameW tameL
    simp only [List.getElem_map, List.getElem_range, List.getD_eq_getElem?_getD]
    rw [List.getElem?_eq_getElem (by omega), List.getElem?_eq_getElem (by rw [tmS_len, nmS_len]; exact hr)]
    exact this
end
end Go.Ev
namespace Go.Ev
open Go Go.RowKit
noncomputable def f57_r0 : List EOper := [⟨(some (K.ofNat 4)), none, .as (.c (.b false))⟩]
noncomputable def f57_r1 : List EOper := [⟨(some (K.ofNat 5)), none, .mv (.t (K.ofNat 1))⟩, ⟨(some (K.ofNat 6)), none, .bin .geq (.t (K.ofNat 5)) (.c (.i .i64 (.ofNat 0)))⟩, ⟨(some (K.ofNat 7)), none, .mv (.t (K.ofNat 6))⟩, ⟨(some (K.ofNat 8)), (some ((K.ofNat 7), true)), .mv (.t (K.ofNat 1))⟩, ⟨(some (K.ofNat 9)), (some ((K.ofNat 7), true)), .mv (.t (K.ofNat 0))⟩, ⟨(some (K.ofNat 10)), (some ((K.ofNat 7), true)), .bin .lss (.t (K.ofNat 8)) (.t (K.ofNat 9))⟩, ⟨(some (K.ofNat 11)), none, .pick (.t (K.ofNat 7)) (.t (K.ofNat 10)) (.c (.b false))⟩, ⟨(some (K.ofNat 4)), none, .as (.t (K.ofNat 11))⟩]
noncomputable def f57_c : EC := (.seq (.reg f57_r0) (.seq (.reg f57_r1) .ret))
noncomputable def f57 : EF := ⟨12, [.tmp (K.ofNat 4)], f57_c, none⟩
theorem f57_rs : f57.rs = [.tmp (K.ofNat 4)] := of_eq_true (eq_self _)
noncomputable def f76_r0 : List EOper := [⟨(some (K.ofNat 4)), none, .as (.c (.b false))⟩]
noncomputable def f76_r1 : List EOper := [⟨(some (K.ofNat 5)), none, .mv (.t (K.ofNat 0))⟩, ⟨(some (K.ofNat 6)), none, .mv (.t (K.ofNat 1))⟩, ⟨(some (K.ofNat 7)), none, .bin .shr (.t (K.ofNat 5)) (.t (K.ofNat 6))⟩, ⟨(some (K.ofNat 8)), none, .bin .and (.t (K.ofNat 7)) (.c (.i .u16 (.ofNat 1)))⟩, ⟨(some (K.ofNat 9)), none, .bin .eql (.t (K.ofNat 8)) (.c (.i .u16 (.ofNat 1)))⟩, ⟨(some (K.ofNat 4)), none, .as (.t (K.ofNat 9))⟩]
noncomputable def f76_c : EC := (.seq (.reg f76_r0) (.seq (.reg f76_r1) .ret))
noncomputable def f76 : EF := ⟨10, [.tmp (K.ofNat 4)], f76_c, none⟩
theorem f76_rs : f76.rs = [.tmp (K.ofNat 4)] := of_eq_true (eq_self _)
noncomputable def f83_r0 : List EOper := [⟨(some (K.ofNat 4)), none, .as (.c (.i .u16 (.ofNat 0)))⟩]
noncomputable def f83_r1 : List EOper := [⟨(some (K.ofNat 5)), none, .mv (.t (K.ofNat 0))⟩, ⟨(some (K.ofNat 6)), none, .mv (.t (K.ofNat 1))⟩, ⟨(some (K.ofNat 7)), none, .bin .shl (.c (.i .u16 (.ofNat 1))) (.t (K.ofNat 6))⟩, ⟨(some (K.ofNat 8)), none, .bin .or (.t (K.ofNat 5)) (.t (K.ofNat 7))⟩, ⟨(some (K.ofNat 4)), none, .as (.t (K.ofNat 8))⟩]
noncomputable def f83_c : EC := (.seq (.reg f83_r0) (.seq (.reg f83_r1) .ret))
noncomputable def f83 : EF := ⟨9, [.tmp (K.ofNat 4)], f83_c, none⟩
theorem f83_rs : f83.rs = [.tmp (K.ofNat 4)] := of_eq_true (eq_self _)
noncomputable def f61_r0 : List EOper := [⟨(some (K.ofNat 4)), none, .as (.c (.b false))⟩]
noncomputable def f61_r1 : List EOper := [⟨(some (K.ofNat 8)), none, .mv (.t (K.ofNat 1))⟩, ⟨(some (K.ofNat 9)), none, .len (.t (K.ofNat 8))⟩, ⟨(some (K.ofNat 10)), none, .mv (.t (K.ofNat 0))⟩, ⟨(some (K.ofNat 11)), none, .bin .neq (.t (K.ofNat 9)) (.t (K.ofNat 10))⟩]
noncomputable def f61_r2 : List EOper := [⟨(some (K.ofNat 4)), none, .as (.c (.b false))⟩]
noncomputable def f61_r3 : List EOper := [⟨(some (K.ofNat 5)), none, .as (.c (.i .u16 (.ofNat 0)))⟩]
noncomputable def f61_r4 : List EOper := [⟨(some (K.ofNat 12)), none, .mv (.t (K.ofNat 1))⟩, ⟨(some (K.ofNat 13)), none, .len (.t (K.ofNat 12))⟩, ⟨(some (K.ofNat 14)), none, .mv (.c (.i .i64 (.ofNat 0)))⟩]
noncomputable def f61_r5 : List EOper := [⟨(some (K.ofNat 15)), none, .bin .lss (.t (K.ofNat 14)) (.t (K.ofNat 13))⟩]
noncomputable def f61_r6 : List EOper := [⟨(some (K.ofNat 16)), none, .iads 1 (.t (K.ofNat 12)) (.t (K.ofNat 14))⟩, ⟨(some (K.ofNat 17)), none, .ld (.t (K.ofNat 16))⟩, ⟨(some (K.ofNat 7)), none, .as (.t (K.ofNat 17))⟩]
noncomputable def f61_r7 : List EOper := [⟨(some (K.ofNat 18)), none, .mv (.t (K.ofNat 0))⟩, ⟨(some (K.ofNat 19)), none, .mv (.t (K.ofNat 7))⟩, ⟨(some (K.ofNat 20)), none, .call (.c (.fn (K.ofNat 57) [])) [(.t (K.ofNat 18)), (.t (K.ofNat 19))]⟩, ⟨(some (K.ofNat 21)), none, .not (.t (K.ofNat 20))⟩, ⟨(some (K.ofNat 22)), none, .mv (.t (K.ofNat 21))⟩, ⟨(some (K.ofNat 23)), (some ((K.ofNat 22), false)), .mv (.t (K.ofNat 5))⟩, ⟨(some (K.ofNat 24)), (some ((K.ofNat 22), false)), .mv (.t (K.ofNat 7))⟩, ⟨(some (K.ofNat 25)), (some ((K.ofNat 22), false)), .call (.c (.fn (K.ofNat 76) [])) [(.t (K.ofNat 23)), (.t (K.ofNat 24))]⟩, ⟨(some (K.ofNat 26)), none, .pick (.t (K.ofNat 22)) (.c (.b true)) (.t (K.ofNat 25))⟩]
noncomputable def f61_r8 : List EOper := [⟨(some (K.ofNat 4)), none, .as (.c (.b false))⟩]
noncomputable def f61_r9 : List EOper := [⟨(some (K.ofNat 27)), none, .mv (.t (K.ofNat 5))⟩, ⟨(some (K.ofNat 28)), none, .mv (.t (K.ofNat 7))⟩, ⟨(some (K.ofNat 29)), none, .call (.c (.fn (K.ofNat 83) [])) [(.t (K.ofNat 27)), (.t (K.ofNat 28))]⟩, ⟨(some (K.ofNat 5)), none, .as (.t (K.ofNat 29))⟩]
noncomputable def f61_r10 : List EOper := [⟨(some (K.ofNat 30)), none, .bin .add (.t (K.ofNat 14)) (.c (.i .i64 (.ofNat 1)))⟩, ⟨(some (K.ofNat 14)), none, .mv (.t (K.ofNat 30))⟩]
noncomputable def f61_l0 : EC := (.seq (.reg f61_r5) (.seq (.cond (.t (K.ofNat 15)) .skip (.exit 0)) (.seq (.block 1 (.seq (.reg f61_r6) (.seq (.seq (.reg f61_r7) (.cond (.t (K.ofNat 26)) (.seq (.reg f61_r8) .ret) .skip)) (.reg f61_r9)))) (.reg f61_r10))))
noncomputable def f61_r11 : List EOper := [⟨(some (K.ofNat 4)), none, .as (.c (.b true))⟩]
noncomputable def f61_c : EC := (.seq (.reg f61_r0) (.seq (.seq (.reg f61_r1) (.cond (.t (K.ofNat 11)) (.seq (.reg f61_r2) .ret) .skip)) (.seq (.reg f61_r3) (.seq (.seq (.reg f61_r4) (.block 0 (.loop f61_l0))) (.seq (.reg f61_r11) .ret)))))
noncomputable def f61 : EF := ⟨31, [.tmp (K.ofNat 4)], f61_c, none⟩
theorem f61_rs : f61.rs = [.tmp (K.ofNat 4)] := of_eq_true (eq_self _)
section
variable {fs : T EF} {h : H} {v : V}
theorem f57_ret {n x : Int} : Ret fs f57 [.i .i64 n, .i .i64 x] h fun r h' => r = .b (decide (0 ≤ x ∧ x < n)) ∧ h' = h := by
  apply ret_of rfl
  show W fs none f57_c _ _ _
  unfold f57_c
  by_cases h1 : 0 ≤ x
  · have d1 : decide (x ≥ 0) = true := by simpa using h1
    by_cases h2 : x < n
    · have d2 : decide (x < n) = true := by simpa using h2
      have d3 : decide (0 ≤ x ∧ x < n) = true := by simp; omega
      simp (disch := omega) only [f57_r0, f57_r1, f57_rs, w_reg, w_seq, w_ret, seqK_n, okG_b, asG_t, retK_r, x_nil, x_g, x_mv, x_as, x_pick, x_bin, kx, rvP_ok, okv_some, ev_t, ev_c, getV_some, putD_some, bin_lss, bin_geq, pick_b, oGet_s, readRs_nil, readRs_t, retV_1, frame_2, of0, Option.some.injEq, exists_eq_left', getK_set, Nat.reduceEqDiff, ↓reduceIte, d1, d2, d3, and_self]
    · have d2 : decide (x < n) = false := by simpa using h2
      have d3 : decide (0 ≤ x ∧ x < n) = false := by simp; omega
      simp (disch := omega) only [f57_r0, f57_r1, f57_rs, w_reg, w_seq, w_ret, seqK_n, okG_b, asG_t, retK_r, x_nil, x_g, x_mv, x_as, x_pick, x_bin, kx, rvP_ok, okv_some, ev_t, ev_c, getV_some, putD_some, bin_lss, bin_geq, pick_b, oGet_s, readRs_nil, readRs_t, retV_1, frame_2, of0, Option.some.injEq, exists_eq_left', getK_set, Nat.reduceEqDiff, ↓reduceIte, d1, d2, d3, and_self]
  · have d1 : decide (x ≥ 0) = false := by simpa using h1
    have d3 : decide (0 ≤ x ∧ x < n) = false := by simp; omega
    simp (disch := omega) only [f57_r0, f57_r1, f57_rs, w_reg, w_seq, w_ret, seqK_n, okG_b, asG_t, retK_r, x_nil, x_g, x_mv, x_as, x_pick, x_bin, kx, rvP_ok, okv_some, ev_t, ev_c, getV_some, putD_some, bin_geq, pick_b, oGet_s, readRs_nil, readRs_t, retV_1, frame_2, of0, Option.some.injEq, exists_eq_left', getK_set, Nat.reduceEqDiff, ↓reduceIte, Bool.false_eq_true, d1, d3, and_self]
theorem f76_ret {t x : Nat} (ht : t ≤ 65535) (hx : x ≤ 15) : Ret fs f76 [.i .u16 (t : Int), .i .i64 (x : Int)] h fun r h' => r = .b (t.testBit x) ∧ h' = h := by
  have hk : kmax .u16 = 65535 := rfl
  have hle : t / 2 ^ x ≤ t := Nat.div_le_self _ _
  have h1 : binV .shr (.i .u16 (t : Int)) (.i .i64 (x : Int)) = some (.i .u16 ((t / 2 ^ x : Nat) : Int)) := by
    rw [bin_shr, show min x (IntKind.bits .u16) = x by show min x 16 = x; omega]
  have h2 : binV .and (.i .u16 ((t / 2 ^ x : Nat) : Int)) (.i .u16 1) = some (.i .u16 ((t / 2 ^ x % 2 : Nat) : Int)) := by
    have := bin_and (k := .u16) (m := t / 2 ^ x) (n := 1) (by omega) (by omega)
    rw [Nat.and_one_is_mod] at this
    exact this
  have h3 : decide (((t / 2 ^ x % 2 : Nat) : Int) = 1) = t.testBit x := by
    rw [Nat.testBit_eq_decide_div_mod_eq]
    congr 1
    apply propext
    omega
  apply ret_of rfl
  show W fs none f76_c _ _ _
  unfold f76_c
  simp (disch := omega) only [f76_r0, f76_r1, f76_rs, w_reg, w_seq, w_ret, seqK_n, retK_r, x_nil, x_mv, x_as, x_bin, kx, rvP_ok, okv_some, ev_t, ev_c, getV_some, putD_some, bin_eql, oGet_s, readRs_nil, readRs_t, retV_1, frame_2, of1, Option.some.injEq, exists_eq_left', getK_set, Nat.reduceEqDiff, ↓reduceIte, h1, h2, h3, and_self]
theorem f83_ret {t x : Nat} (ht : t ≤ 65535) (hx : x ≤ 15) : Ret fs f83 [.i .u16 (t : Int), .i .i64 (x : Int)] h fun r h' => r = .i .u16 ((t ||| 2 ^ x : Nat) : Int) ∧ h' = h := by
  have hk : kmax .u16 = 65535 := rfl
  have hp : 2 ^ x ≤ 2 ^ 15 := Nat.pow_le_pow_right (by omega) hx
  have hp2 : 2 ^ 15 = 32768 := by decide
  have h1 : binV .shl (.i .u16 1) (.i .i64 (x : Int)) = some (.i .u16 ((2 ^ x : Nat) : Int)) := by
    rw [bin_shl (by omega), show min ((x : Int).toNat) (IntKind.bits .u16) = x by show min ((x : Int).toNat) 16 = x; omega, Int.one_mul]
    have hz : (2 : Int) ^ x = ((2 ^ x : Nat) : Int) := by rw [Int.natCast_pow]; rfl
    rw [hz, fw_in (by have : (0 : Int) ≤ ((2 ^ x : Nat) : Int) := Int.natCast_nonneg _; omega) (by omega)]
  have h2 : binV .or (.i .u16 (t : Int)) (.i .u16 ((2 ^ x : Nat) : Int)) = some (.i .u16 ((t ||| 2 ^ x : Nat) : Int)) := bin_or (by omega) (by omega)
  apply ret_of rfl
  show W fs none f83_c _ _ _
  unfold f83_c
  simp (disch := omega) only [f83_r0, f83_r1, f83_rs, w_reg, w_seq, w_ret, seqK_n, retK_r, x_nil, x_mv, x_as, x_bin, kx, rvP_ok, okv_some, ev_t, ev_c, getV_some, putD_some, oGet_s, readRs_nil, readRs_t, retV_1, frame_2, of0, of1, Option.some.injEq, exists_eq_left', getK_set, Nat.reduceEqDiff, ↓reduceIte, h1, h2, and_self]
/-- A set of teams. -/
def Msk (t : Nat) (L : List Int) : Prop := t ≤ 65535 ∧ ∀ y : Nat, y ≤ 15 → t.testBit y = decide ((y : Int) ∈ L)
theorem Msk.nil : Msk 0 [] := ⟨by omega, fun y _ => by simp⟩
theorem Msk.snoc {t x : Nat} {L : List Int} (hm : Msk t L) (hx : x ≤ 15) : Msk (t ||| 2 ^ x) (L ++ [(x : Int)]) := by
  obtain ⟨h1, h2⟩ := hm
  refine ⟨?_, fun y hy => ?_⟩
  · have hp : 2 ^ x ≤ 2 ^ 15 := Nat.pow_le_pow_right (by omega) hx
    have hp2 : 2 ^ 15 = 32768 := by decide
    have := Nat.or_lt_two_pow (x := t) (y := 2 ^ x) (n := 16) (by show t < 65536; omega) (by show 2 ^ x < 65536; omega)
    have e : 2 ^ 16 = 65536 := by decide
    omega
  · rw [Nat.testBit_or, h2 y hy, Nat.testBit_two_pow]
    rw [Bool.eq_iff_iff]
    simp only [Bool.or_eq_true, decide_eq_true_eq, List.mem_append, List.mem_singleton]
    exact or_congr Iff.rfl ⟨fun e => by omega, fun e => by omega⟩
/-- All teams, each once. -/
def aaB (n : Int) (L : List Int) : Bool := decide ((L.length : Int) = n) && (decide (∀ x ∈ L, 0 ≤ x ∧ x < n) && decide L.Nodup)
structure CallsAa (fs : T EF) : Prop where
  c57 : fs.get (K.ofNat 57) = some f57
  c76 : fs.get (K.ofNat 76) = some f76
  c83 : fs.get (K.ofNat 83) = some f83
def f61_I (h : H) (n : Int) (v : V) (L : List Int) (i : Nat) (fr : Fr) (h1 : H) : Prop := i ≤ L.length ∧ h1 = h ∧ (∀ x ∈ L.take i, 0 ≤ x ∧ x < n) ∧ (L.take i).Nodup ∧ ∃ t, Msk t (L.take i) ∧ fr.get (K.ofNat 0) = some (.i .i64 n) ∧ fr.get (K.ofNat 5) = some (.i .u16 (t : Int)) ∧ fr.get (K.ofNat 12) = some (v) ∧ fr.get (K.ofNat 13) = some (.i .i64 (L.length : Int)) ∧ fr.get (K.ofNat 14) = some (.i .i64 (i : Int))
theorem f61_ret {n : Int} {L : List Int} (k : CallsAa fs) (hn : n ≤ 16) (hv : Rd h v L) (hL : L.length ≤ 1000000) : Ret fs f61 [.i .i64 n, v] h fun r h' => r = .b (aaB n L) ∧ h' = h := by
  apply ret_of rfl
  show W fs none f61_c _ _ _
  unfold f61_c
  have hlen := hv.len
  by_cases hl : (L.length : Int) = n
  · have d0 : decide ((L.length : Int) ≠ n) = false := by simpa using hl
    simp (disch := omega) only [f61_r0, f61_r1, f61_r3, f61_r4, w_skip, w_reg, w_seq, w_cond, w_block, seqK_n, ckB_b, cbB_b, true_and, x_nil, x_mv, x_as, x_bin, x_len, kx, rvP_ok, okv_some, ev_t, ev_c, getV_some, putD_some, bin_neq, frame_2, of0, getK_set, Nat.reduceEqDiff, ↓reduceIte, Bool.false_eq_true, hlen, d0]
    refine W_loop (f61_I h n v L) (fun i => L.length - i) ?_ 0 ⟨by omega, rfl, by simp, by simp, 0, Msk.nil, by simp (disch := omega) only [getK_set, Nat.reduceEqDiff, ↓reduceIte, and_self, Int.natCast_zero]⟩
    rintro i fr h1 ⟨hi, rfl, hin, hnd, t, hm, g0, g5, g12, g13, g14⟩
    unfold f61_l0
    by_cases hlt : i < L.length
    · have d1 : decide ((i : Int) < (L.length : Int)) = true := by simpa using hlt
      obtain ⟨p, hp1, hp2⟩ := hv.at i hlt
      have htk := List.take_succ_eq_append_getElem hlt
      have hmem : L[i] ∈ L := List.getElem_mem hlt
      simp (disch := omega) only [f61_r5, f61_r6, f61_r7, w_skip, w_reg, w_seq, w_cond, w_block, seqK_n, ckB_b, cbB_b, true_and, x_nil, x_mv, x_as, x_ld, x_bin, x_iads, x_call, kx, rvP_ok, okv_some, ev_t, ev_c, evs_nil, evs_cons, getV_some, putD_some, bin_lss, getK_set, Nat.reduceEqDiff, ↓reduceIte, g0, g12, g13, g14, d1, hp1, hp2, iE]
      refine (callP_0 (ef := f57) k.c57 rfl f57_ret).mono ?_
      rintro r h2 ⟨rfl, rfl⟩
      by_cases hr : 0 ≤ L[i] ∧ L[i] < n
      · have d2 : decide (0 ≤ L[i] ∧ L[i] < n) = true := by simpa using hr
        obtain ⟨x, hx⟩ : ∃ x : Nat, L[i] = (x : Int) := ⟨L[i].toNat, by omega⟩
        have hx15 : x ≤ 15 := by omega
        have hbit := hm.2 x hx15
        rw [d2]
        rw [hx] at hr htk hmem ⊢
        simp (disch := omega) only [okG_b, asG_f, true_and, x_g, x_mv, x_not, x_call, kx, rvP_ok, ev_t, ev_c, evs_nil, evs_cons, getV_some, putD_some, onB_b, getK_set, Nat.reduceEqDiff, ↓reduceIte, Bool.not_true, Bool.not_false, g5, Bool.not_true, Bool.not_false]
        refine (callP_0 (ef := f76) k.c76 rfl (f76_ret hm.1 hx15)).mono ?_
        rintro r h3 ⟨rfl, rfl⟩
        by_cases hd : (x : Int) ∈ L.take i
        · rw [decide_eq_true hd] at hbit
          rw [hbit]
          have hno : aaB n L = false := by
            unfold aaB
            have : ¬ L.Nodup := fun hN => by
              have h1 : (L.take (i + 1)).Nodup := List.Pairwise.sublist (List.take_sublist _ _) hN
              rw [htk, List.nodup_append] at h1
              exact h1.2.2 _ hd _ (by simp) rfl
            rw [decide_eq_false this, Bool.and_false, Bool.and_false]
          simp (disch := omega) only [f61_r8, f61_rs, w_reg, w_seq, w_cond, w_ret, seqK_n, seqK_r, atK_r, loopK_r, ckB_b, cbB_b, retK_r, x_nil, x_as, x_pick, kx, rvP_ok, ev_t, ev_c, getV_some, putD_some, pick_b, oGet_s, readRs_nil, readRs_t, retV_1, Option.some.injEq, exists_eq_left', getK_set, Nat.reduceEqDiff, ↓reduceIte, Bool.false_eq_true, hno, and_self]
        · rw [decide_eq_false hd] at hbit
          rw [hbit]
          simp (disch := omega) only [f61_r9, w_skip, w_reg, w_cond, seqK_n, ckB_b, cbB_b, true_and, x_nil, x_mv, x_pick, x_call, kx, rvP_ok, ev_t, ev_c, evs_nil, evs_cons, getV_some, putD_some, pick_b, getK_set, Nat.reduceEqDiff, ↓reduceIte, Bool.false_eq_true, g5]
          refine (callP_0 (ef := f83) k.c83 rfl (f83_ret hm.1 hx15)).mono ?_
          rintro r h4 ⟨rfl, rfl⟩
          simp (disch := omega) only [f61_r10, w_reg, seqK_n, atK_n, loopK_n, x_nil, x_mv, x_as, x_bin, kx, rvP_ok, okv_some, ev_t, ev_c, getV_some, putD_some, bin_add, of1, getK_set, Nat.reduceEqDiff, ↓reduceIte, g14, fw64]
          refine ⟨i + 1, by omega, by omega, rfl, ?_, ?_, _, by rw [htk]; exact hm.snoc hx15, by simp (disch := omega) only [getK_set, Nat.reduceEqDiff, ↓reduceIte, g0, g12, g13, and_self, Int.natCast_add, Int.natCast_one]⟩
          · rw [htk]
            intro y hy
            rcases List.mem_append.1 hy with hy | hy
            · exact hin y hy
            · rw [List.mem_singleton.1 hy]; exact hr
          · rw [htk, List.nodup_append]
            refine ⟨hnd, by simp, fun a ha b hb e => ?_⟩
            rw [List.mem_singleton.1 hb] at e
            exact hd (e ▸ ha)
      · have d2 : decide (0 ≤ L[i] ∧ L[i] < n) = false := by simpa using hr
        rw [d2]
        have hno : aaB n L = false := by
          unfold aaB
          have : ¬ ∀ x ∈ L, 0 ≤ x ∧ x < n := fun hh => hr (hh _ hmem)
          rw [decide_eq_false this, Bool.false_and, Bool.and_false]
        simp (disch := omega) only [f61_r8, f61_rs, w_reg, w_seq, w_cond, w_ret, seqK_n, seqK_r, atK_r, loopK_r, ckB_b, cbB_b, okG_b, asG_f, retK_r, x_nil, x_g, x_mv, x_as, x_pick, x_not, kx, rvP_ok, ev_t, ev_c, getV_some, putD_some, pick_b, onB_b, oGet_s, readRs_nil, readRs_t, retV_1, Option.some.injEq, exists_eq_left', getK_set, Nat.reduceEqDiff, ↓reduceIte, Bool.false_eq_true, Bool.not_true, Bool.not_false, hno, and_self, Bool.not_true, Bool.not_false]
    · have d1 : decide ((i : Int) < (L.length : Int)) = false := by simpa using hlt
      have ei : i = L.length := by omega
      rw [ei, List.take_length] at hin hnd
      have hyes : aaB n L = true := by
        unfold aaB
        rw [decide_eq_true hl, decide_eq_true hin, decide_eq_true hnd]; rfl
      simp (disch := omega) only [f61_r5, f61_r11, f61_rs, w_reg, w_seq, w_cond, w_exit, w_ret, seqK_n, seqK_e, atK_e, loopK_e, ckB_b, cbB_b, retK_r, x_nil, x_as, x_bin, kx, rvP_ok, okv_some, ev_t, ev_c, getV_some, putD_some, bin_lss, oGet_s, readRs_nil, readRs_t, retV_1, Option.some.injEq, exists_eq_left', getK_set, ↓reduceIte, Bool.false_eq_true, g13, g14, d1, hyes, and_self]
  · have d0 : decide ((L.length : Int) ≠ n) = true := by simpa using hl
    have hno : aaB n L = false := by unfold aaB; rw [decide_eq_false hl, Bool.false_and]
    simp (disch := omega) only [f61_r0, f61_r1, f61_r2, f61_rs, w_reg, w_seq, w_cond, w_ret, seqK_n, seqK_r, ckB_b, cbB_b, retK_r, x_nil, x_mv, x_as, x_bin, x_len, kx, rvP_ok, okv_some, ev_t, ev_c, getV_some, putD_some, bin_neq, oGet_s, readRs_nil, readRs_t, retV_1, frame_2, Option.some.injEq, exists_eq_left', getK_set, Nat.reduceEqDiff, ↓reduceIte, hlen, d0, hno, and_self]
end
end Go.Ev
namespace Go.Ev
open Go Go.RowKit
noncomputable def f68_r0 : List EOper := [⟨(some (K.ofNat 4)), none, .as (.c .sn)⟩, ⟨(some (K.ofNat 5)), none, .as (.c (.b false))⟩]
noncomputable def f68_r1 : List EOper := [⟨(some (K.ofNat 10)), none, .mv (.t (K.ofNat 1))⟩, ⟨(some (K.ofNat 11)), none, .len (.t (K.ofNat 10))⟩, ⟨(some (K.ofNat 12)), none, .mv (.t (K.ofNat 0))⟩, ⟨(some (K.ofNat 13)), none, .bin .quo (.t (K.ofNat 12)) (.c (.i .i64 (.ofNat 2)))⟩, ⟨(some (K.ofNat 14)), none, .bin .neq (.t (K.ofNat 11)) (.t (K.ofNat 13))⟩]
noncomputable def f68_r2 : List EOper := [⟨(some (K.ofNat 4)), none, .as (.c .sn)⟩, ⟨(some (K.ofNat 5)), none, .as (.c (.b false))⟩]
noncomputable def f68_r3 : List EOper := [⟨(some (K.ofNat 6)), none, .as (.c .sn)⟩]
noncomputable def f68_r4 : List EOper := [⟨(some (K.ofNat 7)), none, .as (.c .sn)⟩]
noncomputable def f68_r5 : List EOper := [⟨(some (K.ofNat 15)), none, .mv (.t (K.ofNat 1))⟩, ⟨(some (K.ofNat 16)), none, .len (.t (K.ofNat 15))⟩, ⟨(some (K.ofNat 17)), none, .mv (.c (.i .i64 (.ofNat 0)))⟩]
noncomputable def f68_r6 : List EOper := [⟨(some (K.ofNat 18)), none, .bin .lss (.t (K.ofNat 17)) (.t (K.ofNat 16))⟩]
noncomputable def f68_r7 : List EOper := [⟨(some (K.ofNat 19)), none, .iads 2 (.t (K.ofNat 15)) (.t (K.ofNat 17))⟩, ⟨(some (K.ofNat 20)), none, .ldn 2 (.t (K.ofNat 19))⟩, ⟨(some (K.ofNat 9)), none, .alloc 2 [(.i .i64 (.ofNat 0)), (.i .i64 (.ofNat 0))]⟩, ⟨none, none, .st 2 (.t (K.ofNat 9)) (.t (K.ofNat 20))⟩]
noncomputable def f68_r8 : List EOper := [⟨(some (K.ofNat 21)), none, .mv (.t (K.ofNat 6))⟩, ⟨(some (K.ofNat 22)), none, .iadr 2 1 (.t (K.ofNat 9)) (.c (.i .i64 (.ofNat 0)))⟩, ⟨(some (K.ofNat 23)), none, .ld (.t (K.ofNat 22))⟩, ⟨(some (K.ofNat 24)), none, .iadr 2 1 (.t (K.ofNat 9)) (.c (.i .i64 (.ofNat 1)))⟩, ⟨(some (K.ofNat 25)), none, .ld (.t (K.ofNat 24))⟩, ⟨(some (K.ofNat 26)), none, .build [(.i .i64 (.ofNat 0)), (.i .i64 (.ofNat 0))] [(0, 1, (.t (K.ofNat 23))), (1, 1, (.t (K.ofNat 25)))]⟩, ⟨(some (K.ofNat 27)), none, .bslice 1 2 [(.i .i64 (.ofNat 0)), (.i .i64 (.ofNat 0))] [(0, 2, (.t (K.ofNat 26)))]⟩, ⟨(some (K.ofNat 28)), none, .app 2 (.t (K.ofNat 21)) (.t (K.ofNat 27))⟩, ⟨(some (K.ofNat 6)), none, .as (.t (K.ofNat 28))⟩]
noncomputable def f68_r9 : List EOper := [⟨(some (K.ofNat 29)), none, .mv (.t (K.ofNat 7))⟩, ⟨(some (K.ofNat 30)), none, .iadr 2 1 (.t (K.ofNat 9)) (.c (.i .i64 (.ofNat 0)))⟩, ⟨(some (K.ofNat 31)), none, .ld (.t (K.ofNat 30))⟩, ⟨(some (K.ofNat 32)), none, .iadr 2 1 (.t (K.ofNat 9)) (.c (.i .i64 (.ofNat 1)))⟩, ⟨(some (K.ofNat 33)), none, .ld (.t (K.ofNat 32))⟩, ⟨(some (K.ofNat 34)), none, .bslice 2 1 [(.i .i64 (.ofNat 0)), (.i .i64 (.ofNat 0))] [(0, 1, (.t (K.ofNat 31))), (1, 1, (.t (K.ofNat 33)))]⟩, ⟨(some (K.ofNat 35)), none, .app 1 (.t (K.ofNat 29)) (.t (K.ofNat 34))⟩, ⟨(some (K.ofNat 7)), none, .as (.t (K.ofNat 35))⟩]
noncomputable def f68_r10 : List EOper := [⟨(some (K.ofNat 36)), none, .bin .add (.t (K.ofNat 17)) (.c (.i .i64 (.ofNat 1)))⟩, ⟨(some (K.ofNat 17)), none, .mv (.t (K.ofNat 36))⟩]
noncomputable def f68_l0 : EC := (.seq (.reg f68_r6) (.seq (.cond (.t (K.ofNat 18)) .skip (.exit 0)) (.seq (.block 1 (.seq (.reg f68_r7) (.seq (.reg f68_r8) (.reg f68_r9)))) (.reg f68_r10))))
noncomputable def f68_r11 : List EOper := [⟨(some (K.ofNat 37)), none, .mv (.t (K.ofNat 6))⟩, ⟨(some (K.ofNat 38)), none, .mv (.t (K.ofNat 0))⟩, ⟨(some (K.ofNat 39)), none, .mv (.t (K.ofNat 7))⟩, ⟨(some (K.ofNat 40)), none, .call (.c (.fn (K.ofNat 61) [])) [(.t (K.ofNat 38)), (.t (K.ofNat 39))]⟩, ⟨(some (K.ofNat 4)), none, .as (.t (K.ofNat 37))⟩, ⟨(some (K.ofNat 5)), none, .as (.t (K.ofNat 40))⟩]
noncomputable def f68_c : EC := (.seq (.reg f68_r0) (.seq (.seq (.reg f68_r1) (.cond (.t (K.ofNat 14)) (.seq (.reg f68_r2) .ret) .skip)) (.seq (.reg f68_r3) (.seq (.reg f68_r4) (.seq (.seq (.reg f68_r5) (.block 0 (.loop f68_l0))) (.seq (.reg f68_r11) .ret))))))
noncomputable def f68 : EF := ⟨41, [.tmp (K.ofNat 4), .tmp (K.ofNat 5)], f68_c, none⟩
theorem f68_rs : f68.rs = [.tmp (K.ofNat 4), .tmp (K.ofNat 5)] := of_eq_true (eq_self _)
/-- The teams that play, game by game. -/
def plL (l : List (Int × Int)) : List Int := l.flatMap fun e => [e.1, e.2]
theorem plL_snoc {l : List (Int × Int)} {j : Nat} (hj : j < l.length) : plL (l.take (j + 1)) = plL (l.take j) ++ [l[j].1, l[j].2] := by
  unfold plL; rw [List.take_succ_eq_append_getElem hj, List.flatMap_append]; rfl
theorem plL_len : ∀ {l : List (Int × Int)}, (plL l).length = 2 * l.length
  | [] => rfl
  | e :: l => by
    show (e.1 :: e.2 :: plL l).length = _
    rw [List.length_cons, List.length_cons, plL_len, List.length_cons]; omega
/-- A round of n teams. -/
def rndB (n : Nat) (l : List (Int × Int)) : Bool := decide (l.length = n / 2) && aaB (n : Int) (plL l)
section
variable {fs : T EF} {h : H} {v : V} {l : List (Int × Int)}
theorem lit2_sr {a b : Int} : Sr iE (h.new (.cells (2 * 1) [.i .i64 a, .i .i64 b])) (.sl h.nx 0 2 1) [a, b] :=
  .inr ⟨h.nx, 0, 2 * 1, _, rfl, .inl get_new_same, rfl, by simp, fun i hi => by
    have hi : i < 2 := by simpa using hi
    match i, hi with
    | 0, _ => rfl
    | 1, _ => rfl⟩
def f68_J (h : H) (n : Nat) (v : V) (l : List (Int × Int)) (j : Nat) (fr : Fr) (h1 : H) : Prop := j ≤ l.length ∧ Grow h.nx.nat h h1 ∧ ∃ u w, Sk 2 qE h1 u (l.take j) ∧ Own h.nx.nat u ∧ Sl iE h1 w (plL (l.take j)) ∧ Own h.nx.nat w ∧ (∀ id off n sz, u = .sl id off n sz → NotIn id w) ∧ fr.get (K.ofNat 0) = some (.i .i64 (n : Int)) ∧ fr.get (K.ofNat 1) = some (v) ∧ fr.get (K.ofNat 6) = some (u) ∧ fr.get (K.ofNat 7) = some (w) ∧ fr.get (K.ofNat 15) = some (v) ∧ fr.get (K.ofNat 16) = some (.i .i64 (l.length : Int)) ∧ fr.get (K.ofNat 17) = some (.i .i64 (j : Int))
theorem f68_ret {n : Nat} (k : CallsAa fs) (h61 : fs.get (K.ofNat 61) = some f61) (hn : n ≤ 16) (hv : Srp h v l) (hL : l.length ≤ 9223372036854775807) (hc : HC h) : Ret fs f68 [.i .i64 (n : Int), v] h fun r h' => ∃ u, r = .tup [u, .b (rndB n l)] ∧ (rndB n l = true → Sk 2 qE h' u l ∧ Own h.nx.nat u) ∧ Grow h.nx.nat h h' := by
  have hq2 : (n : Int).tdiv 2 = ((n / 2 : Nat) : Int) := rfl
  apply ret_of rfl
  show W fs none f68_c _ _ _
  unfold f68_c
  have hlen := hv.len
  by_cases hl : l.length = n / 2
  · have d0 : decide ((l.length : Int) ≠ ((n / 2 : Nat) : Int)) = false := by simp; omega
    have hrnd : rndB n l = aaB (n : Int) (plL l) := by unfold rndB; rw [decide_eq_true hl, Bool.true_and]
    simp (disch := omega) only [f68_r0, f68_r1, f68_r3, f68_r4, f68_r5, w_skip, w_reg, w_seq, w_cond, w_block, seqK_n, ckB_b, cbB_b, true_and, x_nil, x_mv, x_as, x_bin, x_len, kx, rvP_ok, okv_some, ev_t, ev_c, getV_some, putD_some, bin_neq, bin_quo, frame_2, of0, of2, getK_set, Nat.reduceEqDiff, ↓reduceIte, Bool.false_eq_true, hlen, hq2, fw64, d0]
    refine W_loop (f68_J h n v l) (fun j => l.length - j) ?_ 0 ⟨by omega, Grow.refl _ _, .sn, .sn, Sk.nil, Own.sn, Sl.nil, Own.sn, (fun _ _ _ _ e => (by cases e)), by simp (disch := omega) only [getK_set, Nat.reduceEqDiff, ↓reduceIte, and_self, Int.natCast_zero]⟩
    rintro j fr h1 ⟨hj, hG, u, w, hu, hou, hw, how, hsep, g0, g1, g6, g7, g15, g16, g17⟩
    have hc1 := hG.hc hc
    have hv1 := hv.grow hc hG
    unfold f68_l0
    by_cases hlt : j < l.length
    · have d1 : decide ((j : Int) < (l.length : Int)) = true := by simpa using hlt
      obtain ⟨ida, q, hp1, hp2, _, _⟩ := hv1.at2 hlt
      have hpl := plL_snoc hlt
      have htk := List.take_succ_eq_append_getElem hlt
      have hll : (plL (l.take j)).length ≤ 16 := by rw [plL_len, List.length_take]; omega
      generalize l[j] = e at *
      have hst2 : storeV (h1.new (.cells 2 zz)) 2 (.p h1.nx 0) (.agg [.i .i64 e.1, .i .i64 e.2]) = .ok undefV ((h1.new (.cells 2 zz)).put h1.nx (.cells 2 [.i .i64 e.1, .i .i64 e.2])) := st2 (a := .i .i64 (.ofNat 0)) (b := .i .i64 (.ofNat 0)) get_new_same
      have nx1 := nx_new h1 (.cells 2 zz)
      have gB : Grow h1.nx.nat h1 ((h1.new (.cells 2 zz)).put h1.nx (.cells 2 [.i .i64 e.1, .i .i64 e.2])) := (Grow.new (Nat.le_refl _) _).trans (Grow.put (Nat.le_refl _) (by omega) _)
      have c7 : ((h1.new (.cells 2 zz)).put h1.nx (.cells 2 [.i .i64 e.1, .i .i64 e.2])).get h1.nx = .cells 2 [.i .i64 e.1, .i .i64 e.2] := get_put_same
      have nx2 : h1.nx.nat < ((h1.new (.cells 2 zz)).put h1.nx (.cells 2 [.i .i64 e.1, .i .i64 e.2])).nx.nat := by show _ < (h1.new (.cells 2 zz)).nx.nat; omega
      have hzz : ([.i .i64 0, .i .i64 0] : List V) = zz := rfl
      generalize (h1.new (.cells 2 zz)).put h1.nx (.cells 2 [.i .i64 e.1, .i .i64 e.2]) = ha at *
      have hca := gB.hc hc1
      have hGa := hG.trans (gB.low hG.nx)
      have l0 : loadV ha (.p h1.nx (0 + 0 * 1)) one? = .ok (.i .i64 e.1) ha := load_p c7 rfl
      have l1 : loadV ha (.p h1.nx (0 + 1 * 1)) one? = .ok (.i .i64 e.2) ha := load_p c7 rfl
      have hua := hu.grow hc1 gB
      have hwa := hw.grow hc1 gB
      have hult := hu.lt hc1
      have hwlt := hw.lt hc1
      obtain ⟨u', hb, a1, s1, o1, gr1, k1⟩ := Sk.push qE_len (by omega) (x := e) hua hou hGa.nx hca (by simp; omega)
      rw [← htk] at s1
      have a1' : appV 2 (ha.new (.cells (1 * 2) [.i .i64 e.1, .i .i64 e.2])) u (.sl ha.nx 0 1 2) = .ok u' hb := a1
      have hsep2 : ∀ id off n sz, w = .sl id off n sz → NotIn id u := fun id off n sz e off' n' sz' e' => hsep _ _ _ _ e' _ _ _ e
      have hcb := gr1.hc hca
      have hwb : Sl iE hb w (plL (l.take j)) := hwa.same fun id off n sz e => (k1 id (by have := hwlt _ _ _ _ e; omega) (hsep2 _ _ _ _ e)).1
      have c7b : hb.get h1.nx = .cells 2 [.i .i64 e.1, .i .i64 e.2] := by
        rw [(k1 h1.nx nx2 fun off n sz e => by have := hult _ _ _ _ e; omega).1]; exact c7
      have m0 : loadV hb (.p h1.nx (0 + 0 * 1)) one? = .ok (.i .i64 e.1) hb := load_p c7b rfl
      have m1 : loadV hb (.p h1.nx (0 + 1 * 1)) one? = .ok (.i .i64 e.2) hb := load_p c7b rfl
      have gL := Grow.new (Nat.le_refl hb.nx.nat) (.cells (2 * 1) [.i .i64 e.1, .i .i64 e.2])
      have hGb := hGa.trans gr1
      have hGl := hGb.trans (gL.low hGb.nx)
      obtain ⟨w', hd, a2, s2, o2, gr2, k2⟩ := Sl.appR (hwb.grow hcb gL) how hGl.nx (lit2_sr (a := e.1) (b := e.2)) (gL.hc hcb) (by simp; omega)
      rw [← hpl] at s2
      have hsep3 : ∀ id off n sz, u' = .sl id off n sz → NotIn id w := fun id off n sz e off' n' sz' e' => (k1 id (by have := hwlt _ _ _ _ e'; omega) (hsep2 _ _ _ _ e')).2 _ _ _ e
      have hul := s1.grow hcb gL
      have hud : Sk 2 qE hd u' (l.take (j + 1)) := hul.same fun id off n sz e => (k2 id (hul.lt (gL.hc hcb) _ _ _ _ e) (hsep3 _ _ _ _ e)).1
      have hsep4 : ∀ id off n sz, u' = .sl id off n sz → NotIn id w' := fun id off n sz e => (k2 id (hul.lt (gL.hc hcb) _ _ _ _ e) (hsep3 _ _ _ _ e)).2
      simp (disch := omega) only [f68_r6, f68_r7, f68_r8, w_skip, w_reg, w_seq, w_cond, w_block, seqK_n, ckB_b, cbB_b, true_and, x_nil, x_mv, x_alloc, x_build, x_ld, x_ldn, x_st, x_bin, x_iadr, x_iads, kx, rvP_ok, okv_some, ev_t, ev_c, getV_some, putD_some, putD_none, bin_lss, onP_p, of0, of1, getK_set, Nat.reduceEqDiff, ↓reduceIte, ix2_0, ix2_1, g6, g15, g16, g17, d1, hp1, hp2, hzz, hst2, l0, l1]
      rw [← hzz]
      simp (disch := omega) only [w_reg, seqK_n, x_nil, x_as, x_bslice, x_app, kx, rvP_ok, ev_t, getV_some, putD_some, oGet_s, cells1_i, getK_set, Nat.reduceEqDiff, ↓reduceIte, fill_2, set_2, cells2, fill_2, set_2, cells2, fill_p2, set_p2, a1']
      simp (disch := omega) only [f68_r9, f68_r10, w_reg, seqK_n, atK_n, loopK_n, x_nil, x_mv, x_as, x_bslice, x_ld, x_bin, x_iadr, x_app, kx, rvP_ok, okv_some, ev_t, ev_c, getV_some, putD_some, bin_add, onP_p, oGet_s, cells1_i, of0, of1, getK_set, Nat.reduceEqDiff, ↓reduceIte, fill_2, set_2, ix2_0, ix2_1, g7, g17, m0, m1, fill_2, set_2, a2, fw64]
      exact ⟨j + 1, by omega, by omega, hGl.trans gr2, u', w', hud, o1, s2, o2, hsep4, by simp (disch := omega) only [getK_set, Nat.reduceEqDiff, ↓reduceIte, g0, g1, g15, g16, and_self, Int.natCast_add, Int.natCast_one]⟩
    · have d1 : decide ((j : Int) < (l.length : Int)) = false := by simpa using hlt
      have ej : j = l.length := by omega
      rw [ej, List.take_length] at hu hw
      simp (disch := omega) only [f68_r6, f68_r11, w_reg, w_seq, w_cond, w_exit, seqK_n, seqK_e, atK_e, loopK_e, ckB_b, cbB_b, true_and, x_nil, x_mv, x_bin, x_call, kx, rvP_ok, okv_some, ev_t, ev_c, evs_nil, evs_cons, getV_some, putD_some, bin_lss, getK_set, Nat.reduceEqDiff, ↓reduceIte, Bool.false_eq_true, g0, g6, g7, g16, g17, d1]
      refine (callP_0 (ef := f61) h61 rfl (f61_ret k (by omega) hw.sr.rd (by rw [plL_len]; omega))).mono ?_
      rintro r h2 ⟨rfl, rfl⟩
      simp (disch := omega) only [f68_rs, w_ret, seqK_n, retK_r, x_nil, x_as, kx, ev_t, getV_some, putD_some, oGet_s, readRs_nil, readRs_t, retV_2, Option.some.injEq, exists_eq_left', getK_set, Nat.reduceEqDiff, ↓reduceIte]
      exact ⟨u, by rw [hrnd], fun _ => ⟨hu, hou⟩, hG⟩
  · have d0 : decide ((l.length : Int) ≠ ((n / 2 : Nat) : Int)) = true := by simp; omega
    have hrnd : rndB n l = false := by unfold rndB; rw [decide_eq_false hl, Bool.false_and]
    simp (disch := omega) only [f68_r0, f68_r1, f68_r2, f68_rs, w_reg, w_seq, w_cond, w_ret, seqK_n, seqK_r, ckB_b, cbB_b, true_and, retK_r, x_nil, x_mv, x_as, x_bin, x_len, kx, rvP_ok, okv_some, ev_t, ev_c, getV_some, putD_some, bin_neq, bin_quo, oGet_s, readRs_nil, readRs_t, retV_2, frame_2, of2, Option.some.injEq, exists_eq_left', getK_set, Nat.reduceEqDiff, ↓reduceIte, hlen, hq2, fw64, d0]
    exact ⟨.sn, by rw [hrnd], (fun e => (by rw [hrnd] at e; cases e)), Grow.refl _ _⟩
end
end Go.Ev
namespace Go.Ev
open Go Go.RowKit
noncomputable def f87_r0 : List EOper := [⟨(some (K.ofNat 3)), none, .box 2 (.t (K.ofNat 1))⟩, ⟨(some (K.ofNat 4)), none, .as (.c (.b false))⟩]
noncomputable def f87_r1 : List Stage := [⟨[⟨(some (K.ofNat 5)), none, .mv (.t (K.ofNat 0))⟩, ⟨(some (K.ofNat 6)), none, .fadr 0 (.t (K.ofNat 3))⟩, ⟨(some (K.ofNat 7)), none, .ld (.t (K.ofNat 6))⟩, ⟨(some (K.ofNat 8)), none, .nilck (.t (K.ofNat 5))⟩, ⟨(some (K.ofNat 9)), none, .iadr 10 1 (.t (K.ofNat 8)) (.t (K.ofNat 7))⟩, ⟨(some (K.ofNat 10)), none, .ld (.t (K.ofNat 9))⟩, ⟨(some (K.ofNat 11)), none, .fadr 1 (.t (K.ofNat 3))⟩, ⟨(some (K.ofNat 12)), none, .ld (.t (K.ofNat 11))⟩], [], (some ⟨(some (K.ofNat 13)), none, .call (.c (.fn (K.ofNat 76) [])) [(.t (K.ofNat 10)), (.t (K.ofNat 12))]⟩), []⟩, ⟨[], [], none, []⟩]
noncomputable def f87_r2 : List EOper := [⟨(some (K.ofNat 4)), none, .as (.c (.b false))⟩]
noncomputable def f87_r3 : List Stage := [⟨[⟨(some (K.ofNat 14)), none, .mv (.t (K.ofNat 0))⟩, ⟨(some (K.ofNat 15)), none, .fadr 0 (.t (K.ofNat 3))⟩, ⟨(some (K.ofNat 16)), none, .ld (.t (K.ofNat 15))⟩, ⟨(some (K.ofNat 17)), none, .mv (.t (K.ofNat 0))⟩, ⟨(some (K.ofNat 18)), none, .fadr 0 (.t (K.ofNat 3))⟩, ⟨(some (K.ofNat 19)), none, .ld (.t (K.ofNat 18))⟩, ⟨(some (K.ofNat 20)), none, .nilck (.t (K.ofNat 17))⟩, ⟨(some (K.ofNat 21)), none, .iadr 10 1 (.t (K.ofNat 20)) (.t (K.ofNat 19))⟩, ⟨(some (K.ofNat 22)), none, .ld (.t (K.ofNat 21))⟩, ⟨(some (K.ofNat 23)), none, .fadr 1 (.t (K.ofNat 3))⟩, ⟨(some (K.ofNat 24)), none, .ld (.t (K.ofNat 23))⟩, ⟨(some (K.ofNat 26)), none, .nilck (.t (K.ofNat 14))⟩], [], (some ⟨(some (K.ofNat 25)), none, .call (.c (.fn (K.ofNat 83) [])) [(.t (K.ofNat 22)), (.t (K.ofNat 24))]⟩), []⟩, ⟨[⟨(some (K.ofNat 27)), none, .iadr 10 1 (.t (K.ofNat 26)) (.t (K.ofNat 16))⟩], [⟨(some (K.ofNat 14)), none, .mv (.t (K.ofNat 0))⟩, ⟨(some (K.ofNat 15)), none, .fadr 0 (.t (K.ofNat 3))⟩, ⟨(some (K.ofNat 16)), none, .ld (.t (K.ofNat 15))⟩, ⟨(some (K.ofNat 26)), none, .nilck (.t (K.ofNat 14))⟩], (some ⟨none, none, .st 1 (.t (K.ofNat 27)) (.t (K.ofNat 25))⟩), []⟩, ⟨[], [], none, []⟩]
noncomputable def f87_r4 : List Stage := [⟨[⟨(some (K.ofNat 28)), none, .mv (.t (K.ofNat 0))⟩, ⟨(some (K.ofNat 29)), none, .fadr 1 (.t (K.ofNat 3))⟩, ⟨(some (K.ofNat 30)), none, .ld (.t (K.ofNat 29))⟩, ⟨(some (K.ofNat 31)), none, .mv (.t (K.ofNat 0))⟩, ⟨(some (K.ofNat 32)), none, .fadr 1 (.t (K.ofNat 3))⟩, ⟨(some (K.ofNat 33)), none, .ld (.t (K.ofNat 32))⟩, ⟨(some (K.ofNat 34)), none, .nilck (.t (K.ofNat 31))⟩, ⟨(some (K.ofNat 35)), none, .iadr 10 1 (.t (K.ofNat 34)) (.t (K.ofNat 33))⟩, ⟨(some (K.ofNat 36)), none, .ld (.t (K.ofNat 35))⟩, ⟨(some (K.ofNat 37)), none, .fadr 0 (.t (K.ofNat 3))⟩, ⟨(some (K.ofNat 38)), none, .ld (.t (K.ofNat 37))⟩, ⟨(some (K.ofNat 40)), none, .nilck (.t (K.ofNat 28))⟩], [], (some ⟨(some (K.ofNat 39)), none, .call (.c (.fn (K.ofNat 83) [])) [(.t (K.ofNat 36)), (.t (K.ofNat 38))]⟩), []⟩, ⟨[⟨(some (K.ofNat 41)), none, .iadr 10 1 (.t (K.ofNat 40)) (.t (K.ofNat 30))⟩], [⟨(some (K.ofNat 28)), none, .mv (.t (K.ofNat 0))⟩, ⟨(some (K.ofNat 29)), none, .fadr 1 (.t (K.ofNat 3))⟩, ⟨(some (K.ofNat 30)), none, .ld (.t (K.ofNat 29))⟩, ⟨(some (K.ofNat 40)), none, .nilck (.t (K.ofNat 28))⟩], (some ⟨none, none, .st 1 (.t (K.ofNat 41)) (.t (K.ofNat 39))⟩), []⟩, ⟨[], [], none, []⟩]
noncomputable def f87_r5 : List EOper := [⟨(some (K.ofNat 4)), none, .as (.c (.b true))⟩]
noncomputable def f87_c : EC := (.seq (.reg f87_r0) (.seq (.seq (.draw f87_r1) (.cond (.t (K.ofNat 13)) (.seq (.reg f87_r2) .ret) .skip)) (.seq (.draw f87_r3) (.seq (.draw f87_r4) (.seq (.reg f87_r5) .ret)))))
noncomputable def f87 : EF := ⟨42, [.tmp (K.ofNat 4)], f87_c, none⟩
theorem f87_rs : f87.rs = [.tmp (K.ofNat 4)] := of_eq_true (eq_self _)
def uE (t : Nat) : V := .i .u16 (t : Int)
/-- The table with one game more. -/
def metT (T : List Nat) (a b : Nat) : List Nat := (T.set a (T.getD a 0 ||| 2 ^ b)).set b (T.getD b 0 ||| 2 ^ a)
theorem metT_len {T : List Nat} {a b : Nat} : (metT T a b).length = T.length := by unfold metT; simp
theorem or_le {t x : Nat} (ht : t ≤ 65535) (hx : x ≤ 15) : t ||| 2 ^ x ≤ 65535 := by
  have hp : 2 ^ x ≤ 2 ^ 15 := Nat.pow_le_pow_right (by omega) hx
  have hp2 : 2 ^ 15 = 32768 := by decide
  have := Nat.or_lt_two_pow (x := t) (y := 2 ^ x) (n := 16) (by show t < 65536; omega) (by show 2 ^ x < 65536; omega)
  have e : 2 ^ 16 = 65536 := by decide
  omega
section
variable {fs : T EF} {h : H} {T : List Nat} {idm : K}
theorem f87_ret {a b : Nat} (k : CallsAa fs) (hA : Ar uE h idm T) (hT : T.length = 10) (hT2 : ∀ t ∈ T, t ≤ 65535) (ha : a < 10) (hb : b < 10) (hab : a ≠ b) (hc : HC h) :
    Ret fs f87 [.p idm 0, .agg [.i .i64 (a : Int), .i .i64 (b : Int)]] h fun r h' => r = .b (!(T.getD a 0).testBit b) ∧ Ar uE h' idm (if (T.getD a 0).testBit b = true then T else metT T a b) ∧ h.nx.nat ≤ h'.nx.nat ∧ (∀ id : K, id.nat < h.nx.nat → id ≠ idm → h'.get id = h.get id) ∧ HC h' := by
  have hidm : idm.nat < h.nx.nat := hc.cells hA
  have n1 := nx_new h (.cells 2 [.i .i64 (a : Int), .i .i64 (b : Int)])
  have gB : Grow h.nx.nat h (h.new (.cells 2 [.i .i64 (a : Int), .i .i64 (b : Int)])) := Grow.new (Nat.le_refl _) _
  have c7 : (h.new (.cells 2 [.i .i64 (a : Int), .i .i64 (b : Int)])).get h.nx = .cells 2 [.i .i64 (a : Int), .i .i64 (b : Int)] := get_new_same
  have gT : ∀ i (hi : i < T.length), T.getD i 0 = T[i] := fun i hi => by rw [List.getD_eq_getElem?_getD, List.getElem?_eq_getElem hi]; rfl
  apply ret_of rfl
  show W fs none f87_c _ _ _
  unfold f87_c
  have ixa : ∀ f : Nat → RV, idxV (.i .i64 (a : Int)) 10 f = f a := fun f => idx_n ha
  have ixb : ∀ f : Nat → RV, idxV (.i .i64 (b : Int)) 10 f = f b := fun f => idx_n hb
  generalize hh : h.new (.cells 2 [.i .i64 (a : Int), .i .i64 (b : Int)]) = h1 at *
  have hc1 := gB.hc hc
  have hA1 := hA.same (gB.old _ hidm)
  have l0 : loadV h1 (.p h.nx (0 + 0)) one? = .ok (.i .i64 (a : Int)) h1 := load_p c7 rfl
  have l1 : loadV h1 (.p h.nx (0 + 1)) one? = .ok (.i .i64 (b : Int)) h1 := load_p c7 rfl
  have ld1 := hA1.ld (i := a) (by omega)
  simp (disch := omega) only [f87_r0, f87_r1, w_reg, w_draw, w_seq, seqK_n, true_and, x_nil, x_as, x_box, x_call, kx, kg, xg_nil, xg_mv, xg_ld, xg_fadr, xg_iadr, xg_nilck, xd_cons, fresh_nil, stK_s, stay_nil, rvP_ok, ev_t, ev_c, evs_nil, evs_cons, getV_some, putD_some, onP_p, oGet_s, frame_2, getK_set, Nat.reduceEqDiff, ↓reduceIte, nn_p, cells2, cells2, hh, l0, l1, ixa, ld1, uE]
  refine (callP_0 (ef := f76) k.c76 rfl (f76_ret (hT2 _ (List.getElem_mem _)) (by omega))).mono ?_
  rintro r h2 ⟨rfl, e2⟩
  rw [e2]
  clear e2 h2
  have ga := gT a (by omega)
  have gb := gT b (by omega)
  rw [ga]
  have hta := hT2 _ (List.getElem_mem (show a < T.length by omega))
  have htb := hT2 _ (List.getElem_mem (show b < T.length by omega))
  cases hbit : (T[a]'(by omega)).testBit b with
  | true =>
    simp (disch := omega) only [f87_r2, f87_rs, w_reg, w_seq, w_cond, w_ret, seqK_n, seqK_r, ckB_b, cbB_b, true_and, retK_r, x_nil, x_as, kx, xg_nil, xd_cons, fresh_nil, stK_n, stay_nil, ev_t, ev_c, getV_some, putD_some, oGet_s, readRs_nil, readRs_t, retV_1, Option.some.injEq, exists_eq_left', getK_set, ↓reduceIte, Bool.not_true]
    exact ⟨hA1, by omega, fun id hid _ => gB.old _ hid, hc1⟩
  | false =>
    obtain ⟨sa1, sa2⟩ := hA1.st (i := a) (by omega) (x := T[a] ||| 2 ^ b) (c := .i .u16 ((T[a] ||| 2 ^ b : Nat) : Int)) rfl rfl
    simp (disch := omega) only [f87_r3, w_skip, w_draw, w_seq, w_cond, seqK_n, ckB_b, cbB_b, true_and, x_nil, x_call, kx, kg, xg_nil, xg_mv, xg_ld, xg_fadr, xg_iadr, xg_nilck, xd_cons, fresh_nil, stK_n, stK_s, stay_nil, rvP_ok, ev_t, ev_c, evs_nil, evs_cons, getV_some, putD_some, onP_p, getK_set, Nat.reduceEqDiff, ↓reduceIte, Bool.false_eq_true, Bool.not_false, nn_p, l0, l1, ixa, ld1, uE]
    refine (callP_0 (ef := f83) k.c83 rfl (f83_ret (x := b) hta (by omega))).mono ?_
    rintro r h2 ⟨rfl, e2⟩
    rw [e2]
    clear e2 h2
    have nx4 : (h1.put idm (.cells T.length ((T.set a (T[a] ||| 2 ^ b)).map uE))).nx.nat = h1.nx.nat := rfl
    have c74 : (h1.put idm (.cells T.length ((T.set a (T[a] ||| 2 ^ b)).map uE))).get h.nx = .cells 2 [.i .i64 (a : Int), .i .i64 (b : Int)] := by rw [get_put_other (kNe hidm).symm]; exact c7
    have k4 : ∀ id : K, id.nat < h.nx.nat → id ≠ idm → (h1.put idm (.cells T.length ((T.set a (T[a] ||| 2 ^ b)).map uE))).get id = h.get id := fun id h1 h2 => by rw [get_put_other h2]; exact gB.old _ h1
    have hc4 : HC (h1.put idm (.cells T.length ((T.set a (T[a] ||| 2 ^ b)).map uE))) := (Grow.put (b := 0) (Nat.zero_le _) (by omega) _).hc hc1
    simp (disch := omega) only [w_draw, w_seq, seqK_n, true_and, x_nil, x_st, kx, kg, xg_nil, xg_iadr, xd_cons, fresh_nil, stK_n, stK_s, stay_nil, stay_cons, again_ok, stay_mv, beq_i, stay_ld, beq_p, rvP_ok, ev_t, getV_some, putD_some, putD_none, onP_p, getK_set, Nat.reduceEqDiff, ↓reduceIte, nn_p, stay_fadr, l0, ixa, stay_fadr, stay_nilck, nn_p, again_ok, beq_p, beq_i, sa1]
    generalize h1.put idm (.cells T.length ((T.set a (T[a] ||| 2 ^ b)).map uE)) = h4 at *
    have m0 : loadV h4 (.p h.nx (0 + 0)) one? = .ok (.i .i64 (a : Int)) h4 := load_p c74 rfl
    have m1 : loadV h4 (.p h.nx (0 + 1)) one? = .ok (.i .i64 (b : Int)) h4 := load_p c74 rfl
    have hTb : (T.set a (T[a] ||| 2 ^ b))[b]'(by simp; omega) = T[b] := List.getElem_set_ne hab _
    have ld2 := sa2.ld (i := b) (by simp; omega)
    rw [hTb] at ld2
    obtain ⟨sb1, sb2⟩ := sa2.st (i := b) (by simp; omega) (x := T[b] ||| 2 ^ a) (c := .i .u16 ((T[b] ||| 2 ^ a : Nat) : Int)) rfl rfl
    simp (disch := omega) only [f87_r4, true_and, x_call, kg, xg_nil, xg_mv, xg_ld, xg_fadr, xg_iadr, xg_nilck, xd_cons, fresh_nil, stK_s, stay_nil, rvP_ok, ev_t, ev_c, evs_nil, evs_cons, getV_some, putD_some, onP_p, getK_set, Nat.reduceEqDiff, ↓reduceIte, nn_p, m0, m1, ixb, ld2, uE]
    refine (callP_0 (ef := f83) k.c83 rfl (f83_ret (x := a) htb (by omega))).mono ?_
    rintro r h5 ⟨rfl, e5⟩
    rw [e5]
    clear e5 h5
    simp (disch := omega) only [w_reg, w_seq, seqK_n, true_and, x_nil, x_st, kx, kg, xg_nil, xg_iadr, xd_cons, fresh_nil, stK_n, stK_s, stay_nil, stay_cons, again_ok, stay_mv, beq_i, stay_ld, beq_p, rvP_ok, ev_t, getV_some, putD_some, putD_none, onP_p, getK_set, Nat.reduceEqDiff, ↓reduceIte, nn_p, stay_fadr, m1, ixb, stay_fadr, stay_nilck, nn_p, again_ok, beq_p, beq_i, sb1]
    have hmet : metT T a b = (T.set a (T[a] ||| 2 ^ b)).set b (T[b] ||| 2 ^ a) := by unfold metT; rw [ga, gb]
    simp (disch := omega) only [f87_r5, f87_rs, w_ret, seqK_n, true_and, retK_r, x_nil, x_as, ev_c, getV_some, putD_some, oGet_s, readRs_nil, readRs_t, retV_1, Option.some.injEq, exists_eq_left', getK_set, ↓reduceIte]
    rw [hmet]
    exact ⟨sb2, by show h.nx.nat ≤ h4.nx.nat; omega, fun id h1 h2 => by rw [get_put_other h2]; exact k4 id h1 h2, (Grow.put (b := 0) (Nat.zero_le _) (by omega) _).hc hc4⟩
end
end Go.Ev
namespace Go.Ev
open Go Go.RowKit
noncomputable def f70_r0 : List EOper := [⟨(some (K.ofNat 4)), none, .as (.c .sn)⟩, ⟨(some (K.ofNat 5)), none, .as (.c (.b false))⟩]
noncomputable def f70_r1 : List EOper := [⟨(some (K.ofNat 14)), none, .mv (.t (K.ofNat 1))⟩, ⟨(some (K.ofNat 15)), none, .len (.t (K.ofNat 14))⟩, ⟨(some (K.ofNat 16)), none, .mv (.t (K.ofNat 0))⟩, ⟨(some (K.ofNat 17)), none, .bin .sub (.t (K.ofNat 16)) (.c (.i .i64 (.ofNat 1)))⟩, ⟨(some (K.ofNat 18)), none, .bin .gtr (.t (K.ofNat 15)) (.t (K.ofNat 17))⟩]
noncomputable def f70_r2 : List EOper := [⟨(some (K.ofNat 4)), none, .as (.c .sn)⟩, ⟨(some (K.ofNat 5)), none, .as (.c (.b false))⟩]
noncomputable def f70_r3 : List EOper := [⟨(some (K.ofNat 6)), none, .as (.c .sn)⟩]
noncomputable def f70_r4 : List EOper := [⟨(some (K.ofNat 7)), none, .alloc 10 (List.replicate 10 (.i .u16 (.ofNat 0)))⟩]
noncomputable def f70_r5 : List EOper := [⟨(some (K.ofNat 19)), none, .mv (.t (K.ofNat 1))⟩, ⟨(some (K.ofNat 20)), none, .len (.t (K.ofNat 19))⟩, ⟨(some (K.ofNat 21)), none, .mv (.c (.i .i64 (.ofNat 0)))⟩]
noncomputable def f70_r6 : List EOper := [⟨(some (K.ofNat 22)), none, .bin .lss (.t (K.ofNat 21)) (.t (K.ofNat 20))⟩]
noncomputable def f70_r7 : List EOper := [⟨(some (K.ofNat 23)), none, .iads 1 (.t (K.ofNat 19)) (.t (K.ofNat 21))⟩, ⟨(some (K.ofNat 24)), none, .ld (.t (K.ofNat 23))⟩, ⟨(some (K.ofNat 9)), none, .as (.t (K.ofNat 24))⟩]
noncomputable def f70_r8 : List EOper := [⟨(some (K.ofNat 26)), none, .mv (.t (K.ofNat 0))⟩, ⟨(some (K.ofNat 27)), none, .mv (.t (K.ofNat 9))⟩, ⟨(some (K.ofNat 28)), none, .call (.c (.fn (K.ofNat 68) [])) [(.t (K.ofNat 26)), (.t (K.ofNat 27))]⟩, ⟨(some (K.ofNat 25)), none, .mv (.t (K.ofNat 28))⟩, ⟨(some (K.ofNat 29)), none, .ext (.t (K.ofNat 25)) 0⟩, ⟨(some (K.ofNat 30)), none, .ext (.t (K.ofNat 25)) 1⟩, ⟨(some (K.ofNat 10)), none, .as (.t (K.ofNat 29))⟩, ⟨(some (K.ofNat 11)), none, .as (.t (K.ofNat 30))⟩]
noncomputable def f70_r9 : List EOper := [⟨(some (K.ofNat 31)), none, .mv (.t (K.ofNat 11))⟩, ⟨(some (K.ofNat 32)), none, .not (.t (K.ofNat 31))⟩]
noncomputable def f70_r10 : List EOper := [⟨(some (K.ofNat 4)), none, .as (.c .sn)⟩, ⟨(some (K.ofNat 5)), none, .as (.c (.b false))⟩]
noncomputable def f70_r11 : List EOper := [⟨(some (K.ofNat 33)), none, .mv (.t (K.ofNat 10))⟩, ⟨(some (K.ofNat 34)), none, .len (.t (K.ofNat 33))⟩, ⟨(some (K.ofNat 35)), none, .mv (.c (.i .i64 (.ofNat 0)))⟩]
noncomputable def f70_r12 : List EOper := [⟨(some (K.ofNat 36)), none, .bin .lss (.t (K.ofNat 35)) (.t (K.ofNat 34))⟩]
noncomputable def f70_r13 : List EOper := [⟨(some (K.ofNat 37)), none, .iads 2 (.t (K.ofNat 33)) (.t (K.ofNat 35))⟩, ⟨(some (K.ofNat 38)), none, .ldn 2 (.t (K.ofNat 37))⟩, ⟨(some (K.ofNat 13)), none, .alloc 2 [(.i .i64 (.ofNat 0)), (.i .i64 (.ofNat 0))]⟩, ⟨none, none, .st 2 (.t (K.ofNat 13)) (.t (K.ofNat 38))⟩]
noncomputable def f70_r14 : List EOper := [⟨(some (K.ofNat 39)), none, .ldn 2 (.t (K.ofNat 13))⟩, ⟨(some (K.ofNat 40)), none, .call (.c (.fn (K.ofNat 87) [])) [(.t (K.ofNat 7)), (.t (K.ofNat 39))]⟩, ⟨(some (K.ofNat 41)), none, .not (.t (K.ofNat 40))⟩]
noncomputable def f70_r15 : List EOper := [⟨(some (K.ofNat 4)), none, .as (.c .sn)⟩, ⟨(some (K.ofNat 5)), none, .as (.c (.b false))⟩]
noncomputable def f70_r16 : List EOper := [⟨(some (K.ofNat 42)), none, .bin .add (.t (K.ofNat 35)) (.c (.i .i64 (.ofNat 1)))⟩, ⟨(some (K.ofNat 35)), none, .mv (.t (K.ofNat 42))⟩]
noncomputable def f70_l0 : EC := (.seq (.reg f70_r12) (.seq (.cond (.t (K.ofNat 36)) .skip (.exit 2)) (.seq (.block 3 (.seq (.reg f70_r13) (.seq (.reg f70_r14) (.cond (.t (K.ofNat 41)) (.seq (.reg f70_r15) .ret) .skip)))) (.reg f70_r16))))
noncomputable def f70_r17 : List EOper := [⟨(some (K.ofNat 43)), none, .mv (.t (K.ofNat 6))⟩, ⟨(some (K.ofNat 44)), none, .mv (.t (K.ofNat 10))⟩, ⟨(some (K.ofNat 45)), none, .bslice 1 1 [.sn] [(0, 1, (.t (K.ofNat 44)))]⟩, ⟨(some (K.ofNat 46)), none, .app 1 (.t (K.ofNat 43)) (.t (K.ofNat 45))⟩, ⟨(some (K.ofNat 6)), none, .as (.t (K.ofNat 46))⟩]
noncomputable def f70_r18 : List EOper := [⟨(some (K.ofNat 47)), none, .bin .add (.t (K.ofNat 21)) (.c (.i .i64 (.ofNat 1)))⟩, ⟨(some (K.ofNat 21)), none, .mv (.t (K.ofNat 47))⟩]
noncomputable def f70_l1 : EC := (.seq (.reg f70_r6) (.seq (.cond (.t (K.ofNat 22)) .skip (.exit 0)) (.seq (.block 1 (.seq (.reg f70_r7) (.seq (.reg f70_r8) (.seq (.seq (.reg f70_r9) (.cond (.t (K.ofNat 32)) (.seq (.reg f70_r10) .ret) .skip)) (.seq (.seq (.reg f70_r11) (.block 2 (.loop f70_l0))) (.reg f70_r17)))))) (.reg f70_r18))))
noncomputable def f70_r19 : List EOper := [⟨(some (K.ofNat 48)), none, .mv (.t (K.ofNat 6))⟩, ⟨(some (K.ofNat 4)), none, .as (.t (K.ofNat 48))⟩, ⟨(some (K.ofNat 5)), none, .as (.c (.b true))⟩]
noncomputable def f70_c : EC := (.seq (.reg f70_r0) (.seq (.seq (.reg f70_r1) (.cond (.t (K.ofNat 18)) (.seq (.reg f70_r2) .ret) .skip)) (.seq (.reg f70_r3) (.seq (.reg f70_r4) (.seq (.seq (.reg f70_r5) (.block 0 (.loop f70_l1))) (.seq (.reg f70_r19) .ret))))))
noncomputable def f70 : EF := ⟨49, [.tmp (K.ofNat 4), .tmp (K.ofNat 5)], f70_c, none⟩
theorem f70_rs : f70.rs = [.tmp (K.ofNat 4), .tmp (K.ofNat 5)] := of_eq_true (eq_self _)
/-- Two games of different pairs. -/
def dsR (e e' : Int × Int) : Prop := e ≠ e' ∧ e ≠ (e'.2, e'.1)
instance (e e' : Int × Int) : Decidable (dsR e e') := inferInstanceAs (Decidable (_ ∧ _))
/-- A beginning of n teams. -/
def bgB (n : Nat) (Ls : List (List (Int × Int))) : Bool := decide (Ls.length ≤ n - 1) && (Ls.all (rndB n) && decide (Ls.flatten.Pairwise dsR))
structure Met (T : List Nat) (P : List (Int × Int)) : Prop where
  len : T.length = 10
  le : ∀ t ∈ T, t ≤ 65535
  bit : ∀ x y : Nat, x < 10 → y ≤ 15 → ((T.getD x 0).testBit y = true ↔ ((x : Int), (y : Int)) ∈ P ∨ ((y : Int), (x : Int)) ∈ P)
theorem Met.nil : Met (List.replicate 10 0) [] where
  len := by simp
  le := fun t ht => by rw [(List.mem_replicate.1 ht).2]; omega
  bit := fun x y hx hy => by
    rw [List.getD_eq_getElem?_getD, List.getElem?_replicate, if_pos hx]
    simp
theorem metT_get {T : List Nat} {a b x : Nat} (hT : T.length = 10) (ha : a < 10) (hb : b < 10) : (metT T a b).getD x 0 = if b = x then T.getD b 0 ||| 2 ^ a else if a = x then T.getD a 0 ||| 2 ^ b else T.getD x 0 := by
  unfold metT
  rw [List.getD_eq_getElem?_getD (l := List.set _ _ _), List.getElem?_set, List.getElem?_set]
  by_cases h1 : b = x
  · rw [if_pos h1, if_pos h1, if_pos (by simp; omega)]; rfl
  · rw [if_neg h1, if_neg h1]
    by_cases h2 : a = x
    · rw [if_pos h2, if_pos h2, if_pos (by omega)]; rfl
    · rw [if_neg h2, if_neg h2, ← List.getD_eq_getElem?_getD]
theorem Met.add {T : List Nat} {P : List (Int × Int)} {a b : Nat} (m : Met T P) (ha : a < 10) (hb : b < 10) (hab : a ≠ b) : Met (metT T a b) (P ++ [((a : Int), (b : Int))]) where
  len := by rw [metT_len]; exact m.len
  le := fun t ht => by
    have hm := m.len
    have g : ∀ i, i < 10 → T.getD i 0 ≤ 65535 := fun i hi => by
      rw [List.getD_eq_getElem?_getD, List.getElem?_eq_getElem (by omega)]
      exact m.le _ (List.getElem_mem _)
    unfold metT at ht
    rcases List.mem_or_eq_of_mem_set ht with h | h
    · rcases List.mem_or_eq_of_mem_set h with h | h
      · exact m.le t h
      · rw [h]; exact or_le (g a ha) (by omega)
    · rw [h]; exact or_le (g b hb) (by omega)
  bit := fun x y hx hy => by
    have key : ∀ c d : Nat, ((c : Int), (d : Int)) ∈ P ++ [((a : Int), (b : Int))] ↔ ((c : Int), (d : Int)) ∈ P ∨ (c = a ∧ d = b) := fun c d => by
      rw [List.mem_append, List.mem_singleton, Prod.mk.injEq]
      exact or_congr Iff.rfl ⟨fun h => ⟨by omega, by omega⟩, fun h => ⟨by omega, by omega⟩⟩
    rw [metT_get m.len ha hb, key, key]
    by_cases h1 : b = x
    · subst h1
      rw [if_pos rfl, Nat.testBit_or, Bool.or_eq_true, m.bit b y hx hy, Nat.testBit_two_pow, decide_eq_true_iff]
      constructor
      · rintro ((h | h) | h)
        · exact .inl (.inl h)
        · exact .inr (.inl h)
        · exact .inr (.inr ⟨h.symm, rfl⟩)
      · rintro ((h | h) | (h | h))
        · exact .inl (.inl h)
        · exact absurd h.1.symm hab
        · exact .inl (.inr h)
        · exact .inr h.1.symm
    · rw [if_neg h1]
      by_cases h2 : a = x
      · subst h2
        rw [if_pos rfl, Nat.testBit_or, Bool.or_eq_true, m.bit a y hx hy, Nat.testBit_two_pow, decide_eq_true_iff]
        constructor
        · rintro ((h | h) | h)
          · exact .inl (.inl h)
          · exact .inr (.inl h)
          · exact .inl (.inr ⟨rfl, h.symm⟩)
        · rintro ((h | h) | (h | h))
          · exact .inl (.inl h)
          · exact .inr h.2.symm
          · exact .inl (.inr h)
          · exact absurd h.2 hab
      · rw [if_neg h2, m.bit x y hx hy]
        constructor
        · rintro (h | h)
          · exact .inl (.inl h)
          · exact .inr (.inl h)
        · rintro ((h | h) | (h | h))
          · exact .inl h
          · exact absurd h.1.symm h2
          · exact .inr h
          · exact absurd h.2.symm h1
theorem pl_sub {e : Int × Int} : ∀ {l : List (Int × Int)}, e ∈ l → [e.1, e.2].Sublist (plL l)
  | [], h => absurd h (by simp)
  | x :: l, h => by
    show [e.1, e.2].Sublist ([x.1, x.2] ++ plL l)
    rcases List.mem_cons.1 h with rfl | h
    · exact List.sublist_append_left _ _
    · exact (pl_sub h).trans (List.sublist_append_right _ _)
theorem rnd_e {n : Nat} {l : List (Int × Int)} (h : rndB n l = true) : ∀ e ∈ l, (0 ≤ e.1 ∧ e.1 < (n : Int)) ∧ (0 ≤ e.2 ∧ e.2 < (n : Int)) ∧ e.1 ≠ e.2 := fun e he => by
  unfold rndB aaB at h
  simp only [Bool.and_eq_true, decide_eq_true_iff] at h
  obtain ⟨_, _, h2, h3⟩ := h
  have hs := pl_sub he
  refine ⟨h2 _ (hs.subset (by simp)), h2 _ (hs.subset (by simp)), fun e1 => ?_⟩
  have := hs.nodup h3
  rw [e1] at this
  simp at this
/-- One game more: is its pair new? -/
theorem ds_snoc {P : List (Int × Int)} {e : Int × Int} (hp : P.Pairwise dsR) : (P ++ [e]).Pairwise dsR ↔ ¬ (e ∈ P ∨ (e.2, e.1) ∈ P) := by
  rw [List.pairwise_append]
  constructor
  · rintro ⟨_, _, h⟩ (h1 | h1)
    · exact (h e h1 e (by simp)).1 rfl
    · exact (h _ h1 e (by simp)).2 rfl
  · intro h
    refine ⟨hp, List.pairwise_singleton _ _, fun x hx b hb => ?_⟩
    rw [List.mem_singleton.1 hb]
    exact ⟨fun e1 => h (.inl (e1 ▸ hx)), fun e1 => h (.inr (e1 ▸ hx))⟩
end Go.Ev
namespace Go.Ev
open Go Go.RowKit
structure CallsBg (fs : T EF) : Prop extends CallsAa fs where
  c61 : fs.get (K.ofNat 61) = some f61
  c68 : fs.get (K.ofNat 68) = some f68
  c87 : fs.get (K.ofNat 87) = some f87
theorem rep10 : List.replicate 10 (V.i .u16 0) = (List.replicate 10 0).map uE := rfl
/-- What the loops keep: the table in its block, the rounds so far. -/
structure BgI (h : H) (n : Nat) (Ls : List (List (Int × Int))) (i : Nat) (h1 : H) (c : V) (ws : List V) : Prop where
  gr : Grow h.nx.nat h h1
  nx : h.nx.nat + 1 ≤ h1.nx.nat
  sl : Sll h1 c ws (Ls.take i)
  oc : Own (h.nx.nat + 1) c
  ow : ∀ x ∈ ws, Own (h.nx.nat + 1) x
  all : (Ls.take i).all (rndB n) = true
  pw : (Ls.take i).flatten.Pairwise dsR
section
variable {fs : T EF} {h : H} {v : V} {us : List V} {Ls : List (List (Int × Int))}
def f70_I (h : H) (n : Nat) (v : V) (Ls : List (List (Int × Int))) (i : Nat) (fr : Fr) (h1 : H) : Prop := i ≤ Ls.length ∧ ∃ c ws T, BgI h n Ls i h1 c ws ∧ Ar uE h1 h.nx T ∧ Met T (Ls.take i).flatten ∧ fr.get (K.ofNat 0) = some (.i .i64 (n : Int)) ∧ fr.get (K.ofNat 1) = some (v) ∧ fr.get (K.ofNat 6) = some (c) ∧ fr.get (K.ofNat 7) = some (.p h.nx 0) ∧ fr.get (K.ofNat 19) = some (v) ∧ fr.get (K.ofNat 20) = some (.i .i64 (Ls.length : Int)) ∧ fr.get (K.ofNat 21) = some (.i .i64 (i : Int))
def f70_J (h h2 : H) (n : Nat) (v c u : V) (Ls : List (List (Int × Int))) (P l : List (Int × Int)) (i j : Nat) (fr : Fr) (h1 : H) : Prop := j ≤ l.length ∧ h2.nx.nat ≤ h1.nx.nat ∧ HC h1 ∧ (∀ id : K, id.nat < h2.nx.nat → id ≠ h.nx → h1.get id = h2.get id) ∧ (P ++ l.take j).Pairwise dsR ∧ ∃ T, Ar uE h1 h.nx T ∧ Met T (P ++ l.take j) ∧ fr.get (K.ofNat 0) = some (.i .i64 (n : Int)) ∧ fr.get (K.ofNat 1) = some (v) ∧ fr.get (K.ofNat 6) = some (c) ∧ fr.get (K.ofNat 7) = some (.p h.nx 0) ∧ fr.get (K.ofNat 10) = some (u) ∧ fr.get (K.ofNat 19) = some (v) ∧ fr.get (K.ofNat 20) = some (.i .i64 (Ls.length : Int)) ∧ fr.get (K.ofNat 21) = some (.i .i64 (i : Int)) ∧ fr.get (K.ofNat 33) = some (u) ∧ fr.get (K.ofNat 34) = some (.i .i64 (l.length : Int)) ∧ fr.get (K.ofNat 35) = some (.i .i64 (j : Int))
theorem f70_ret {n : Nat} (k : CallsBg fs) (hn : 1 ≤ n ∧ n ≤ 10) (hv : Nrp h v us Ls) (hL2 : ∀ l ∈ Ls, l.length ≤ 9223372036854775807) (hc : HC h) : Ret fs f70 [.i .i64 (n : Int), v] h fun r h' => ∃ c ws, r = .tup [c, .b (bgB n Ls)] ∧ (bgB n Ls = true → Sll h' c ws Ls ∧ Own h.nx.nat c) ∧ Grow h.nx.nat h h' := by
  have en1 : (n : Int) - 1 = ((n - 1 : Nat) : Int) := by omega
  have hlen : ∀ h1, lenV v h1 = .ok (.i .i64 (Ls.length : Int)) h1 := fun h1 => by rw [hv.out.len, hv.len]
  apply ret_of rfl
  show W fs none f70_c _ _ _
  unfold f70_c
  by_cases hl : Ls.length ≤ n - 1
  · have d0 : decide ((Ls.length : Int) > ((n - 1 : Nat) : Int)) = false := by simp; omega
    have hbg : bgB n Ls = (Ls.all (rndB n) && decide (Ls.flatten.Pairwise dsR)) := by unfold bgB; rw [decide_eq_true hl, Bool.true_and]
    have gA : Grow h.nx.nat h (h.new (.cells 10 ((List.replicate 10 0).map uE))) := Grow.new (Nat.le_refl _) _
    have n1 := nx_new h (.cells 10 ((List.replicate 10 0).map uE))
    have hA : Ar uE (h.new (.cells 10 ((List.replicate 10 0).map uE))) h.nx (List.replicate 10 0) := get_new_same
    simp (disch := omega) only [f70_r0, f70_r1, f70_r3, f70_r4, f70_r5, w_skip, w_reg, w_seq, w_cond, w_block, seqK_n, ckB_b, cbB_b, true_and, x_nil, x_mv, x_as, x_alloc, x_bin, x_len, kx, rvP_ok, okv_some, ev_t, ev_c, getV_some, putD_some, bin_sub, bin_gtr, frame_2, of0, of1, getK_set, Nat.reduceEqDiff, ↓reduceIte, Bool.false_eq_true, hlen, en1, fw64, d0, rep10]
    generalize h.new (.cells 10 ((List.replicate 10 0).map uE)) = h0 at *
    refine W_loop (f70_I h n v Ls) (fun i => Ls.length - i) ?_ 0 ⟨by omega, .sn, [], _, ⟨gA, by omega, Sll.nil, Own.sn, fun x hx => absurd hx (by simp), rfl, List.Pairwise.nil⟩, hA, Met.nil, by simp (disch := omega) only [getK_set, Nat.reduceEqDiff, ↓reduceIte, and_self, Int.natCast_zero]⟩
    clear gA n1 hA h0
    rintro i fr h1 ⟨hi, c, ws, T, hB, hA, hM, g0, g1, g6, g7, g19, g20, g21⟩
    have hc1 := hB.gr.hc hc
    have hv1 := hv.grow hc hB.gr
    unfold f70_l1
    by_cases hlt : i < Ls.length
    · have d1 : decide ((i : Int) < (Ls.length : Int)) = true := by simpa using hlt
      have hiu : i < us.length := by rw [hv.len]; exact hlt
      obtain ⟨p, hp1, hp2'⟩ := hv1.out.at i hiu
      have hp2 : loadV h1 p one? = .ok us[i] h1 := hp2'
      clear hp2'
      have hui := hv1.inn i hiu hlt
      have htk := List.take_succ_eq_append_getElem hlt
      have hmem : Ls[i] ∈ Ls := List.getElem_mem hlt
      have hL := hL2 _ hmem
      have hflat : (Ls.take (i + 1)).flatten = (Ls.take i).flatten ++ Ls[i] := by rw [htk, List.flatten_append]; simp
      have hsubl : ((Ls.take (i + 1)).flatten).Sublist Ls.flatten := by
        have e : Ls.flatten = (Ls.take (i + 1)).flatten ++ (Ls.drop (i + 1)).flatten := by rw [← List.flatten_append, List.take_append_drop]
        rw [e]
        exact List.sublist_append_left _ _
      generalize us[i] = w at *
      generalize Ls[i] = l at *
      simp (disch := omega) only [f70_r6, f70_r7, f70_r8, w_skip, w_reg, w_seq, w_cond, w_block, seqK_n, ckB_b, cbB_b, true_and, x_nil, x_mv, x_as, x_ld, x_bin, x_iads, x_call, kx, rvP_ok, okv_some, ev_t, ev_c, evs_nil, evs_cons, getV_some, putD_some, bin_lss, getK_set, Nat.reduceEqDiff, ↓reduceIte, g0, g19, g20, g21, d1, hp1, hp2]
      refine (callP_0 (ef := f68) k.c68 rfl (f68_ret k.toCallsAa k.c61 (by omega) hui hL hc1)).mono ?_
      rintro r h2 ⟨u, rfl, hu, hG2⟩
      cases hrnd : rndB n l with
      | false =>
        have hno : bgB n Ls = false := by
          rw [hbg]
          have : Ls.all (rndB n) = false := by
            rw [Bool.eq_false_iff]
            intro hh
            have := List.all_eq_true.1 hh l hmem
            rw [hrnd] at this; cases this
          rw [this, Bool.false_and]
        simp (disch := omega) only [f70_r9, f70_r10, f70_rs, w_reg, w_seq, w_cond, w_ret, seqK_n, seqK_r, atK_r, loopK_r, ckB_b, cbB_b, true_and, retK_r, x_nil, x_mv, x_as, x_not, x_ext, kx, rvP_ok, okv_some, ev_t, ev_c, getV_some, putD_some, onB_b, onTup_t, oGet_s, nth0, nth1, readRs_nil, readRs_t, retV_2, Option.some.injEq, exists_eq_left', getK_set, Nat.reduceEqDiff, ↓reduceIte, Bool.not_false, Bool.not_false]
        exact ⟨.sn, [], by rw [hno], (fun e => (by rw [hno] at e; cases e)), hB.gr.trans (hG2.low hB.gr.nx)⟩
      | true =>
        obtain ⟨hu, hou⟩ := hu hrnd
        have hc2 := hG2.hc hc1
        have hGa := hB.gr.trans (hG2.low hB.gr.nx)
        have hre := rnd_e hrnd
        have hll : l.length ≤ 5 := by
          unfold rndB at hrnd
          rw [Bool.and_eq_true, decide_eq_true_iff] at hrnd
          omega
        have hlu : ∀ h1, lenV u h1 = .ok (.i .i64 (l.length : Int)) h1 := fun h1 => by rw [hu.len]
        have hnn : h.nx.nat < h1.nx.nat := by have := hB.nx; omega
        have hA2 := hA.same (hG2.old _ hnn)
        simp (disch := omega) only [f70_r9, f70_r11, w_skip, w_reg, w_seq, w_cond, w_block, seqK_n, ckB_b, cbB_b, true_and, x_nil, x_mv, x_as, x_not, x_ext, x_len, kx, rvP_ok, okv_some, ev_t, ev_c, getV_some, putD_some, onB_b, onTup_t, nth0, nth1, of0, getK_set, Nat.reduceEqDiff, ↓reduceIte, Bool.false_eq_true, Bool.not_true, Bool.not_true, hlu]
        refine W_loop (f70_J h h2 n v c u Ls (Ls.take i).flatten l i) (fun j => l.length - j) ?_ 0 ⟨by omega, Nat.le_refl _, hc2, fun _ _ _ => rfl, by rw [List.take_zero, List.append_nil]; exact hB.pw, T, hA2, by rw [List.take_zero, List.append_nil]; exact hM, by simp (disch := omega) only [getK_set, Nat.reduceEqDiff, ↓reduceIte, g0, g1, g6, g7, g19, g20, g21, and_self, Int.natCast_zero]⟩
        clear g0 g1 g6 g7 g19 g20 g21 fr hA hA2 hM hp1 hp2
        clear T p
        rintro j fr h3 ⟨hj, hnx3, hc3, hold, hpw, T, hA, hM, g0, g1, g6, g7, g10, g19, g20, g21, g33, g34, g35⟩
        have hult := hu.lt hc2
        have hune : ∀ id off n sz, u = .sl id off n sz → id ≠ h.nx := fun id off n sz e e2 => by have := hou _ _ _ _ e; rw [e2] at this; omega
        have hu3 : Sk 2 qE h3 u l := hu.same fun id off n sz e => hold id (hult _ _ _ _ e) (hune _ _ _ _ e)
        have hgr3 : Grow h.nx.nat h h3 := ⟨Nat.le_trans hGa.nx hnx3, fun id hid => by
          rw [hold id (by have := hGa.nx; omega) (fun e => by rw [e] at hid; omega)]; exact hGa.old id hid, fun _ => hc3⟩
        unfold f70_l0
        by_cases hlt2 : j < l.length
        · have d2 : decide ((j : Int) < (l.length : Int)) = true := by simpa using hlt2
          obtain ⟨ida, q, hq1, hq2, _, _⟩ := hu3.srp.at2 hlt2
          have htk2 := List.take_succ_eq_append_getElem hlt2
          have hme : l[j] ∈ l := List.getElem_mem hlt2
          obtain ⟨b1, b2, b3⟩ := hre _ hme
          obtain ⟨a, ea⟩ : ∃ a : Nat, l[j].1 = (a : Int) := ⟨l[j].1.toNat, by omega⟩
          obtain ⟨b, eb⟩ : ∃ b : Nat, l[j].2 = (b : Int) := ⟨l[j].2.toNat, by omega⟩
          have hej : l[j] = ((a : Int), (b : Int)) := Prod.ext ea eb
          rw [hej] at htk2
          have hsub2 : ((Ls.take i).flatten ++ l.take (j + 1)).Sublist (Ls.take (i + 1)).flatten := by
            rw [hflat]; exact (List.Sublist.refl _).append (List.take_sublist _ _)
          have hsnoc : (Ls.take i).flatten ++ l.take (j + 1) = ((Ls.take i).flatten ++ l.take j) ++ [((a : Int), (b : Int))] := by rw [htk2, List.append_assoc]
          have hst2 : storeV (h3.new (.cells 2 zz)) 2 (.p h3.nx 0) (.agg [.i .i64 l[j].1, .i .i64 l[j].2]) = .ok undefV ((h3.new (.cells 2 zz)).put h3.nx (.cells 2 [.i .i64 l[j].1, .i .i64 l[j].2])) := st2 (a := .i .i64 (.ofNat 0)) (b := .i .i64 (.ofNat 0)) get_new_same
          have nx1 := nx_new h3 (.cells 2 zz)
          have gB : Grow h3.nx.nat h3 ((h3.new (.cells 2 zz)).put h3.nx (.cells 2 [.i .i64 l[j].1, .i .i64 l[j].2])) := (Grow.new (Nat.le_refl _) _).trans (Grow.put (Nat.le_refl _) (by omega) _)
          have c7 : ((h3.new (.cells 2 zz)).put h3.nx (.cells 2 [.i .i64 l[j].1, .i .i64 l[j].2])).get h3.nx = .cells 2 [.i .i64 l[j].1, .i .i64 l[j].2] := get_put_same
          have hzz : ([.i .i64 0, .i .i64 0] : List V) = zz := rfl
          rw [ea, eb] at hst2 gB c7 hq2
          generalize (h3.new (.cells 2 zz)).put h3.nx (.cells 2 [.i .i64 (a : Int), .i .i64 (b : Int)]) = h4 at *
          have hc4 := gB.hc hc3
          have hl4 : loadV h4 (.p h3.nx 0) (many? 2) = .ok (.agg [.i .i64 (a : Int), .i .i64 (b : Int)]) h4 := ldn2 c7
          have hA4 := hA.same (gB.old _ (by have := hG2.nx; omega))
          simp (disch := omega) only [f70_r12, f70_r13, f70_r14, w_skip, w_reg, w_seq, w_cond, w_block, seqK_n, ckB_b, cbB_b, true_and, x_nil, x_alloc, x_ldn, x_st, x_bin, x_iads, x_call, kx, rvP_ok, okv_some, ev_t, ev_c, evs_nil, evs_cons, getV_some, putD_some, putD_none, bin_lss, of0, getK_set, Nat.reduceEqDiff, ↓reduceIte, g7, g33, g34, g35, d2, hq1, hq2, hzz, hst2, hl4]
          refine (callP_0 (ef := f87) k.c87 rfl (f87_ret k.toCallsAa hA4 hM.len hM.le (by omega) (by omega) (by omega) hc4)).mono ?_
          rintro r h5 ⟨rfl, hA5, hnx5, hold5, hc5⟩
          have hbit := hM.bit a b (by omega) (by omega)
          have hgr5 : Grow h.nx.nat h h5 := ⟨by have := hgr3.nx; have := gB.nx; omega, fun id hid => by
            rw [hold5 id (by have := hgr3.nx; have := gB.nx; omega) (fun e => by rw [e] at hid; omega), gB.old id (by have := hgr3.nx; omega)]; exact hgr3.old id hid, fun _ => hc5⟩
          cases hb : (T.getD a 0).testBit b with
          | true =>
            have hin := hbit.1 hb
            have hno : bgB n Ls = false := by
              rw [hbg]
              have : ¬ Ls.flatten.Pairwise dsR := fun hh => by
                have h1 := List.Pairwise.sublist (hsub2.trans hsubl) hh
                rw [hsnoc, ds_snoc hpw] at h1
                exact h1 hin
              rw [decide_eq_false this, Bool.and_false]
            simp (disch := omega) only [f70_r15, f70_rs, w_reg, w_seq, w_cond, w_ret, seqK_n, seqK_r, atK_r, loopK_r, ckB_b, cbB_b, true_and, retK_r, x_nil, x_as, x_not, kx, rvP_ok, ev_t, ev_c, getV_some, putD_some, onB_b, oGet_s, readRs_nil, readRs_t, retV_2, Option.some.injEq, exists_eq_left', getK_set, Nat.reduceEqDiff, ↓reduceIte, Bool.not_true, Bool.not_false, Bool.not_false, Bool.not_true]
            exact ⟨.sn, [], by rw [hno], (fun e => (by rw [hno] at e; cases e)), hgr5⟩
          | false =>
            rw [hb, if_neg (by simp)] at hA5
            have hnin : ¬ (((a : Int), (b : Int)) ∈ (Ls.take i).flatten ++ l.take j ∨ ((b : Int), (a : Int)) ∈ (Ls.take i).flatten ++ l.take j) := fun hh => by
              have := hbit.2 hh
              rw [hb] at this; cases this
            simp (disch := omega) only [f70_r16, w_skip, w_reg, w_cond, seqK_n, atK_n, loopK_n, ckB_b, cbB_b, true_and, x_nil, x_mv, x_bin, x_not, kx, rvP_ok, okv_some, ev_t, ev_c, getV_some, putD_some, bin_add, onB_b, of1, getK_set, Nat.reduceEqDiff, ↓reduceIte, Bool.false_eq_true, Bool.not_true, Bool.not_false, g35, Bool.not_false, Bool.not_true, fw64]
            refine ⟨j + 1, by omega, by omega, by have := gB.nx; omega, hc5, fun id h6 h7 => ?_, ?_, metT T a b, hA5, ?_, by simp (disch := omega) only [getK_set, Nat.reduceEqDiff, ↓reduceIte, g0, g1, g6, g7, g10, g19, g20, g21, g33, g34, and_self, Int.natCast_add, Int.natCast_one]⟩
            · rw [hold5 id (by have := gB.nx; omega) h7, gB.old id (by omega)]; exact hold id h6 h7
            · rw [hsnoc, ds_snoc hpw]; exact hnin
            · rw [hsnoc]; exact hM.add (by omega) (by omega) (by omega)
        · have d2 : decide ((j : Int) < (l.length : Int)) = false := by simpa using hlt2
          have ej : j = l.length := by omega
          rw [ej, List.take_length, ← hflat] at hpw hM
          have hs2 := hB.sl.grow hc1 hG2
          have hclt := hs2.out.lt hc2
          have hs3 : Sll h3 c ws (Ls.take i) := ⟨hs2.len, hs2.out.same fun id off n sz e => hold id (hclt _ _ _ _ e) (fun e2 => by have := hB.oc _ _ _ _ e; rw [e2] at this; omega), fun x h4 h5 => (hs2.inn x h4 h5).old fun id off n sz e => hold id (Srk.lt (hs2.inn x h4 h5) hc2 _ _ _ _ e) (fun e2 => by have := hB.ow _ (List.getElem_mem h4) _ _ _ _ e; rw [e2] at this; omega), hs2.sep⟩
          have hc1lt := hB.sl.out.lt hc1
          obtain ⟨c', h4, a1, s1, o1, gr1, k1⟩ := hs3.push (b := h.nx.nat + 1) hB.oc (by have := hB.nx; have := hG2.nx; omega) hc3 (by simp; omega) hu3.srp (fun id off n sz e off' n' sz' e' => by
            have q1 := hou _ _ _ _ e
            have q2 := hc1lt _ _ _ _ e'
            omega)
          rw [← htk] at s1
          have hcell := hu3.srp.cell
          have hA4 := hA.same ((k1 h.nx (by have := hG2.nx; omega) (fun off n sz e => by have := hB.oc _ _ _ _ e; omega)).1)
          simp (disch := omega) only [f70_r12, f70_r17, f70_r18, w_reg, w_seq, w_cond, w_exit, seqK_n, seqK_e, atK_n, atK_e, loopK_n, loopK_e, ckB_b, cbB_b, true_and, x_nil, x_mv, x_as, x_bslice, x_bin, x_app, kx, rvP_ok, okv_some, ev_t, ev_c, getV_some, putD_some, bin_add, bin_lss, oGet_s, fill_1, set_1, of1, getK_set, Nat.reduceEqDiff, ↓reduceIte, Bool.false_eq_true, g6, g10, g21, g34, g35, d2, fill_1, hcell, set_1, a1, fw64]
          refine ⟨i + 1, by omega, by omega, c', _, T, ⟨hgr3.trans (gr1.low (by omega)), by have := gr1.nx; have := hB.nx; have := hG2.nx; omega, s1, o1, fun x hx => ?_, ?_, hpw⟩, hA4, hM, by simp (disch := omega) only [getK_set, Nat.reduceEqDiff, ↓reduceIte, g0, g1, g7, g19, g20, and_self, Int.natCast_add, Int.natCast_one]⟩
          · rcases List.mem_append.1 hx with hx | hx
            · exact hB.ow x hx
            · rw [List.mem_singleton.1 hx]
              exact fun id off n sz e => by have := hou _ _ _ _ e; omega
          · rw [htk, List.all_append, hB.all]
            simp [hrnd]
    · have d1 : decide ((i : Int) < (Ls.length : Int)) = false := by simpa using hlt
      have ei : i = Ls.length := by omega
      have hall := hB.all
      have hpw := hB.pw
      have hsl := hB.sl
      rw [ei, List.take_length] at hall hpw hsl
      have hyes : bgB n Ls = true := by rw [hbg, hall, decide_eq_true hpw]; rfl
      simp (disch := omega) only [f70_r6, f70_r19, f70_rs, w_reg, w_seq, w_cond, w_exit, w_ret, seqK_n, seqK_e, atK_e, loopK_e, ckB_b, cbB_b, true_and, retK_r, x_nil, x_mv, x_as, x_bin, kx, rvP_ok, okv_some, ev_t, ev_c, getV_some, putD_some, bin_lss, oGet_s, readRs_nil, readRs_t, retV_2, Option.some.injEq, exists_eq_left', getK_set, Nat.reduceEqDiff, ↓reduceIte, Bool.false_eq_true, g6, g20, g21, d1]
      exact ⟨c, ws, by rw [hyes], fun _ => ⟨hsl, fun id off n sz e => by have := hB.oc _ _ _ _ e; omega⟩, hB.gr⟩
  · have d0 : decide ((Ls.length : Int) > ((n - 1 : Nat) : Int)) = true := by simp; omega
    have hno : bgB n Ls = false := by unfold bgB; rw [decide_eq_false hl, Bool.false_and]
    simp (disch := omega) only [f70_r0, f70_r1, f70_r2, f70_rs, w_reg, w_seq, w_cond, w_ret, seqK_n, seqK_r, ckB_b, cbB_b, true_and, retK_r, x_nil, x_mv, x_as, x_bin, x_len, kx, rvP_ok, okv_some, ev_t, ev_c, getV_some, putD_some, bin_sub, bin_gtr, oGet_s, readRs_nil, readRs_t, retV_2, frame_2, of1, Option.some.injEq, exists_eq_left', getK_set, Nat.reduceEqDiff, ↓reduceIte, hlen, en1, fw64, d0]
    exact ⟨.sn, [], by rw [hno], (fun e => (by rw [hno] at e; cases e)), Grow.refl _ _⟩
end
end Go.Ev
namespace Go.Ev
open Go Go.RowKit
noncomputable def f51_r0 : List EOper := [⟨(some (K.ofNat 4)), none, .as (.c .sn)⟩, ⟨(some (K.ofNat 5)), none, .as (.c (.i .i64 (.ofNat 0)))⟩]
noncomputable def f51_r1 : List EOper := [⟨(some (K.ofNat 8)), none, .mv (.t (K.ofNat 0))⟩, ⟨(some (K.ofNat 9)), none, .call (.c (.fn (K.ofNat 65) [])) [(.t (K.ofNat 8))]⟩, ⟨(some (K.ofNat 10)), none, .not (.t (K.ofNat 9))⟩]
noncomputable def f51_r2 : List EOper := [⟨(some (K.ofNat 4)), none, .as (.c .sn)⟩, ⟨(some (K.ofNat 5)), none, .as (.c (.i .i64 (.ofNat 1)))⟩]
noncomputable def f51_r3 : List EOper := [⟨(some (K.ofNat 12)), none, .mv (.t (K.ofNat 0))⟩, ⟨(some (K.ofNat 13)), none, .mv (.t (K.ofNat 1))⟩, ⟨(some (K.ofNat 14)), none, .call (.c (.fn (K.ofNat 70) [])) [(.t (K.ofNat 12)), (.t (K.ofNat 13))]⟩, ⟨(some (K.ofNat 11)), none, .mv (.t (K.ofNat 14))⟩, ⟨(some (K.ofNat 15)), none, .ext (.t (K.ofNat 11)) 0⟩, ⟨(some (K.ofNat 16)), none, .ext (.t (K.ofNat 11)) 1⟩, ⟨(some (K.ofNat 6)), none, .as (.t (K.ofNat 15))⟩, ⟨(some (K.ofNat 7)), none, .as (.t (K.ofNat 16))⟩]
noncomputable def f51_r4 : List EOper := [⟨(some (K.ofNat 17)), none, .mv (.t (K.ofNat 7))⟩, ⟨(some (K.ofNat 18)), none, .not (.t (K.ofNat 17))⟩, ⟨(some (K.ofNat 19)), none, .mv (.t (K.ofNat 18))⟩, ⟨(some (K.ofNat 20)), (some ((K.ofNat 19), false)), .mv (.t (K.ofNat 6))⟩, ⟨(some (K.ofNat 21)), (some ((K.ofNat 19), false)), .len (.t (K.ofNat 20))⟩, ⟨(some (K.ofNat 22)), (some ((K.ofNat 19), false)), .mv (.t (K.ofNat 0))⟩, ⟨(some (K.ofNat 23)), (some ((K.ofNat 19), false)), .bin .sub (.t (K.ofNat 22)) (.c (.i .i64 (.ofNat 1)))⟩, ⟨(some (K.ofNat 24)), (some ((K.ofNat 19), false)), .bin .neq (.t (K.ofNat 21)) (.t (K.ofNat 23))⟩, ⟨(some (K.ofNat 25)), none, .pick (.t (K.ofNat 19)) (.c (.b true)) (.t (K.ofNat 24))⟩]
noncomputable def f51_r5 : List EOper := [⟨(some (K.ofNat 4)), none, .as (.c .sn)⟩, ⟨(some (K.ofNat 5)), none, .as (.c (.i .i64 (.ofNat 40)))⟩]
noncomputable def f51_r6 : List EOper := [⟨(some (K.ofNat 26)), none, .mv (.t (K.ofNat 6))⟩, ⟨(some (K.ofNat 4)), none, .as (.t (K.ofNat 26))⟩, ⟨(some (K.ofNat 5)), none, .as (.c (.i .i64 (.ofNat 0)))⟩]
noncomputable def f51_c : EC := (.seq (.reg f51_r0) (.seq (.seq (.reg f51_r1) (.cond (.t (K.ofNat 10)) (.seq (.reg f51_r2) .ret) .skip)) (.seq (.reg f51_r3) (.seq (.seq (.reg f51_r4) (.cond (.t (K.ofNat 25)) (.seq (.reg f51_r5) .ret) .skip)) (.seq (.reg f51_r6) .ret)))))
noncomputable def f51 : EF := ⟨27, [.tmp (K.ofNat 4), .tmp (K.ofNat 5)], f51_c, none⟩
def shB (n : Nat) (Ls : List (List (Int × Int))) : Bool := bgB n Ls && decide (Ls.length = n - 1)
structure CallsCh (fs : T EF) : Prop extends CallsBg fs where
  c51 : fs.get (K.ofNat 51) = some f51
  c65 : fs.get (K.ofNat 65) = some f65
  c70 : fs.get (K.ofNat 70) = some f70
section
variable {fs : T EF} {h : H} {v : V} {us : List V} {Ls : List (List (Int × Int))}
theorem f65_ok {n : Int} (hn : ok5 n) : Ret fs f65 [.i .i64 n] h fun r h' => r = .b true ∧ h' = h := by
  have d1 : decide (n ≥ 2) = true := by unfold ok5 at hn; simp; omega
  have d2 : decide (n ≤ 10) = true := by unfold ok5 at hn; simp; omega
  have d3 : decide (n.tmod 2 = 0) = true := by
    rcases hn with rfl | rfl | rfl | rfl | rfl <;> rfl
  apply ret_of rfl
  show W fs none f65_c _ _ _
  unfold f65_c
  simp (disch := omega) only [f65_r0, f65_r1, f65_rs, w_reg, w_seq, w_ret, seqK_n, okG_b, asG_t, retK_r, x_nil, x_g, x_mv, x_as, x_pick, x_bin, kx, rvP_ok, okv_some, ev_t, ev_c, getV_some, putD_some, bin_eql, bin_leq, bin_geq, bin_rem, pick_b, oGet_s, readRs_nil, readRs_t, retV_1, frame_1, of0, of2, of10, Option.some.injEq, exists_eq_left', getK_set, Nat.reduceEqDiff, ↓reduceIte, d1, d2, d3, and_self]
end
end Go.Ev
namespace Go.Ev
open Go Go.RowKit
/-- The game, or with its home turned. -/
def FlE (e e' : Int × Int) : Prop := e' = e ∨ e' = (e.2, e.1)
def FlL : List (Int × Int) → List (Int × Int) → Prop
  | [], [] => True
  | e :: l, e' :: l' => FlE e e' ∧ FlL l l'
  | _, _ => False
def FlQ : List (List (Int × Int)) → List (List (Int × Int)) → Prop
  | [], [] => True
  | l :: S, l' :: Q => FlL l l' ∧ FlQ S Q
  | _, _ => False
theorem FlE.trans {a b c : Int × Int} (h : FlE a b) (k : FlE b c) : FlE a c := by
  rcases h with rfl | rfl <;> rcases k with rfl | rfl
  · exact .inl rfl
  · exact .inr rfl
  · exact .inr rfl
  · exact .inl rfl
theorem FlL.of : ∀ {l l' : List (Int × Int)}, l'.length = l.length → (∀ j (h1 : j < l.length) (h2 : j < l'.length), FlE l[j] l'[j]) → FlL l l'
  | [], [], _, _ => trivial
  | [], _ :: _, h, _ => by simp at h
  | _ :: _, [], h, _ => by simp at h
  | e :: l, e' :: l', h, k => ⟨k 0 (by simp) (by simp), FlL.of (by simpa using h) fun j h1 h2 => k (j + 1) (by simpa using h1) (by simpa using h2)⟩
theorem FlQ.of : ∀ {l l' : List (List (Int × Int))}, l'.length = l.length → (∀ j (h1 : j < l.length) (h2 : j < l'.length), FlL l[j] l'[j]) → FlQ l l'
  | [], [], _, _ => trivial
  | [], _ :: _, h, _ => by simp at h
  | _ :: _, [], h, _ => by simp at h
  | e :: l, e' :: l', h, k => ⟨k 0 (by simp) (by simp), FlQ.of (by simpa using h) fun j h1 h2 => k (j + 1) (by simpa using h1) (by simpa using h2)⟩
theorem FlL.refl : ∀ {l : List (Int × Int)}, FlL l l
  | [] => trivial
  | _ :: _ => ⟨.inl rfl, FlL.refl⟩
theorem FlL.trans : ∀ {a b c : List (Int × Int)}, FlL a b → FlL b c → FlL a c
  | [], [], [], _, _ => trivial
  | _ :: _, _ :: _, _ :: _, h, k => ⟨h.1.trans k.1, h.2.trans k.2⟩
  | [], [], _ :: _, _, k => k.elim
  | [], _ :: _, _, h, _ => h.elim
  | _ :: _, [], _, h, _ => h.elim
  | _ :: _, _ :: _, [], _, k => k.elim
theorem FlL.app : ∀ {a b c d : List (Int × Int)}, FlL a b → FlL c d → FlL (a ++ c) (b ++ d)
  | [], [], _, _, _, k => k
  | _ :: _, _ :: _, _, _, h, k => ⟨h.1, h.2.app k⟩
  | [], _ :: _, _, _, h, _ => h.elim
  | _ :: _, [], _, _, h, _ => h.elim
theorem FlQ.flat : ∀ {S Q : List (List (Int × Int))}, FlQ S Q → FlL S.flatten Q.flatten
  | [], [], _ => trivial
  | _ :: _, _ :: _, h => h.1.app h.2.flat
  | [], _ :: _, h => h.elim
  | _ :: _, [], h => h.elim
theorem FlL.len : ∀ {l l' : List (Int × Int)}, FlL l l' → l'.length = l.length
  | [], [], _ => rfl
  | _ :: _, _ :: _, h => by rw [List.length_cons, List.length_cons, h.2.len]
  | [], _ :: _, h => h.elim
  | _ :: _, [], h => h.elim
theorem FlL.perm : ∀ {l l' : List (Int × Int)}, FlL l l' → List.Perm (plL l') (plL l)
  | [], [], _ => List.Perm.refl _
  | e :: l, e' :: l', h => by
    have ih := h.2.perm
    show List.Perm ([e'.1, e'.2] ++ plL l') ([e.1, e.2] ++ plL l)
    refine List.Perm.append ?_ ih
    rcases h.1 with rfl | rfl
    · exact List.Perm.refl _
    · exact List.Perm.swap _ _ _
  | [], _ :: _, h => h.elim
  | _ :: _, [], h => h.elim
theorem FlL.mem : ∀ {l l' : List (Int × Int)}, FlL l l' → ∀ x ∈ l', ∃ y ∈ l, FlE y x
  | [], [], _, x, hx => absurd hx (by simp)
  | e :: l, e' :: l', h, x, hx => by
    rcases List.mem_cons.1 hx with rfl | hx
    · exact ⟨e, by simp, h.1⟩
    · obtain ⟨y, hy, k⟩ := h.2.mem x hx
      exact ⟨y, by simp [hy], k⟩
  | [], _ :: _, h, _, _ => h.elim
  | _ :: _, [], h, _, _ => h.elim
theorem ds_fl {x y x' y' : Int × Int} (h : dsR x y) (hx : FlE x x') (hy : FlE y y') : dsR x' y' := by
  obtain ⟨a, b⟩ := x
  obtain ⟨c, d⟩ := y
  obtain ⟨h1, h2⟩ := h
  rw [Ne, Prod.mk.injEq] at h1 h2
  rcases hx with rfl | rfl <;> rcases hy with rfl | rfl <;> refine ⟨?_, ?_⟩ <;> rw [Ne, Prod.mk.injEq] <;> simp only at * <;> omega
theorem FlL.pw : ∀ {l l' : List (Int × Int)}, FlL l l' → l.Pairwise dsR → l'.Pairwise dsR
  | [], [], _, _ => List.Pairwise.nil
  | e :: l, e' :: l', h, k => by
    rw [List.pairwise_cons] at k ⊢
    refine ⟨fun x hx => ?_, h.2.pw k.2⟩
    obtain ⟨y, hy, hf⟩ := h.2.mem x hx
    exact ds_fl (k.1 y hy) h.1 hf
  | [], _ :: _, h, _ => h.elim
  | _ :: _, [], h, _ => h.elim
theorem aa_perm {n : Int} {L M : List Int} (h : List.Perm L M) (k : aaB n M = true) : aaB n L = true := by
  unfold aaB at k ⊢
  simp only [Bool.and_eq_true, decide_eq_true_iff] at k ⊢
  exact ⟨by rw [h.length_eq]; exact k.1, fun x hx => k.2.1 x (h.mem_iff.1 hx), h.nodup_iff.2 k.2.2⟩
theorem rnd_fl {n : Nat} {l l' : List (Int × Int)} (h : FlL l l') (k : rndB n l = true) : rndB n l' = true := by
  unfold rndB at k ⊢
  rw [Bool.and_eq_true, decide_eq_true_iff] at k ⊢
  exact ⟨by rw [h.len]; exact k.1, aa_perm h.perm k.2⟩
/-- A schedule's rounds, in any order. -/
structure Vld (n : Nat) (Q : List (List (Int × Int))) : Prop where
  rnd : ∀ l ∈ Q, rndB n l = true
  pw : Q.flatten.Pairwise dsR
theorem ds_symm {x y : Int × Int} (h : dsR x y) : dsR y x := by
  obtain ⟨a, b⟩ := x
  obtain ⟨c, d⟩ := y
  obtain ⟨h1, h2⟩ := h
  rw [Ne, Prod.mk.injEq] at h1 h2
  refine ⟨?_, ?_⟩ <;> rw [Ne, Prod.mk.injEq] <;> simp only at * <;> omega
theorem FlQ.mem : ∀ {S Q : List (List (Int × Int))}, FlQ S Q → ∀ x ∈ Q, ∃ y ∈ S, FlL y x
  | [], [], _, x, hx => absurd hx (by simp)
  | e :: l, e' :: l', h, x, hx => by
    rcases List.mem_cons.1 hx with rfl | hx
    · exact ⟨e, by simp, h.1⟩
    · obtain ⟨y, hy, k⟩ := h.2.mem x hx
      exact ⟨y, by simp [hy], k⟩
  | [], _ :: _, h, _, _ => h.elim
  | _ :: _, [], h, _, _ => h.elim
theorem Vld.fl {n : Nat} {S Q : List (List (Int × Int))} (v : Vld n S) (h : FlQ S Q) : Vld n Q :=
  ⟨fun l hl => by obtain ⟨y, hy, k⟩ := h.mem l hl; exact rnd_fl k (v.rnd y hy), h.flat.pw v.pw⟩
theorem Vld.perm {n : Nat} {S Q : List (List (Int × Int))} (v : Vld n S) (h : List.Perm Q S) : Vld n Q :=
  ⟨fun l hl => v.rnd l (h.mem_iff.1 hl), (h.flatten.pairwise_iff fun h => ds_symm h).2 v.pw⟩
/-! ### Other names -/
theorem renR_pl {M : List Int} : ∀ {l : List (Int × Int)}, plL (renR M l) = (plL l).map fun x => M.getD x.toNat 0
  | [] => rfl
  | e :: l => by
    show [M.getD e.1.toNat 0, M.getD e.2.toNat 0] ++ plL (renR M l) = ([e.1, e.2] ++ plL l).map _
    rw [renR_pl, List.map_append]; rfl
theorem getD_inj {M : List Int} (hM : M.Nodup) {x y : Int} (hx : 0 ≤ x ∧ x < (M.length : Int)) (hy : 0 ≤ y ∧ y < (M.length : Int)) (h : M.getD x.toNat 0 = M.getD y.toNat 0) : x = y := by
  rw [List.getD_eq_getElem?_getD, List.getD_eq_getElem?_getD, List.getElem?_eq_getElem (by omega), List.getElem?_eq_getElem (by omega)] at h
  have h : M[x.toNat]'(by omega) = M[y.toNat]'(by omega) := h
  have := (List.nodup_iff_pairwise_ne.1 hM)
  rw [List.pairwise_iff_getElem] at this
  rcases Nat.lt_trichotomy x.toNat y.toNat with h1 | h1 | h1
  · exact absurd h (this _ _ (by omega) (by omega) h1)
  · omega
  · exact absurd h.symm (this _ _ (by omega) (by omega) h1)
theorem aa_ren {n : Nat} {M L : List Int} (hM : M.Nodup) (hl : M.length = n) (hr : ∀ x ∈ M, 0 ≤ x ∧ x < (n : Int)) (k : aaB (n : Int) L = true) : aaB (n : Int) (L.map fun x => M.getD x.toNat 0) = true := by
  unfold aaB at k ⊢
  simp only [Bool.and_eq_true, decide_eq_true_iff] at k ⊢
  obtain ⟨k1, k2, k3⟩ := k
  refine ⟨by rw [List.length_map]; exact k1, fun x hx => ?_, ?_⟩
  · obtain ⟨y, hy, rfl⟩ := List.mem_map.1 hx
    have := k2 y hy
    rw [List.getD_eq_getElem?_getD, List.getElem?_eq_getElem (by omega)]
    exact hr _ (List.getElem_mem _)
  · unfold List.Nodup
    rw [List.pairwise_map]
    refine List.Pairwise.imp_of_mem (fun {a b} ha hb h e => h ?_) k3
    exact getD_inj hM (by rw [hl]; exact k2 a ha) (by rw [hl]; exact k2 b hb) e
theorem Vld.ren {n : Nat} {M : List Int} {S : List (List (Int × Int))} (v : Vld n S) (hM : M.Nodup) (hl : M.length = n) (hr : ∀ x ∈ M, 0 ≤ x ∧ x < (n : Int)) : Vld n (renS M S) := by
  refine ⟨fun l hl' => ?_, ?_⟩
  · obtain ⟨l0, h0, rfl⟩ := List.mem_map.1 hl'
    have := v.rnd l0 h0
    unfold rndB at this ⊢
    rw [Bool.and_eq_true, decide_eq_true_iff] at this ⊢
    refine ⟨by unfold renR; rw [List.length_map]; exact this.1, ?_⟩
    rw [renR_pl]
    exact aa_ren hM hl hr this.2
  · have e : (renS M S).flatten = renR M S.flatten := by unfold renS renR; rw [List.map_flatten]
    rw [e]
    unfold renR
    rw [List.pairwise_map]
    have hin : ∀ e ∈ S.flatten, (0 ≤ e.1 ∧ e.1 < (n : Int)) ∧ (0 ≤ e.2 ∧ e.2 < (n : Int)) := fun e he => by
      obtain ⟨l, hl1, hl2⟩ := List.mem_flatten.1 he
      have := rnd_e (v.rnd l hl1) e hl2
      exact ⟨this.1, this.2.1⟩
    refine List.Pairwise.imp_of_mem (fun {a b} ha hb h => ?_) v.pw
    have h1 := hin a ha
    have h2 := hin b hb
    refine ⟨fun e => h.1 ?_, fun e => h.2 ?_⟩
    · rw [Prod.mk.injEq] at e
      exact Prod.ext (getD_inj hM (by rw [hl]; exact h1.1) (by rw [hl]; exact h2.1) e.1) (getD_inj hM (by rw [hl]; exact h1.2) (by rw [hl]; exact h2.2) e.2)
    · rw [Prod.mk.injEq] at e
      exact Prod.ext (getD_inj hM (by rw [hl]; exact h1.1) (by rw [hl]; exact h2.2) e.1) (getD_inj hM (by rw [hl]; exact h1.2) (by rw [hl]; exact h2.1) e.2)
/-! ### The one that goes round -/
def vldB (n : Nat) (Q : List (List (Int × Int))) : Bool := Q.all (rndB n) && decide (Q.flatten.Pairwise dsR)
theorem vld_of {n : Nat} {Q : List (List (Int × Int))} (h : vldB n Q = true) : Vld n Q := by
  unfold vldB at h
  rw [Bool.and_eq_true, decide_eq_true_iff] at h
  exact ⟨fun l hl => List.all_eq_true.1 h.1 l hl, h.2⟩
theorem turn2 : vldB 2 (turnS 2 1) = true := by decide +kernel
theorem turn4 : vldB 4 (turnS 4 3) = true := by decide +kernel
theorem turn6 : vldB 6 (turnS 6 5) = true := by decide +kernel
theorem turn8 : vldB 8 (turnS 8 7) = true := by decide +kernel
theorem turn10 : vldB 10 (turnS 10 9) = true := by decide +kernel
theorem turn_ok {n : Nat} (hn : ok5 (n : Int)) : Vld n (turnS n (n - 1)) := by
  have : n = 2 ∨ n = 4 ∨ n = 6 ∨ n = 8 ∨ n = 10 := by unfold ok5 at hn; omega
  rcases this with rfl | rfl | rfl | rfl | rfl
  · exact vld_of turn2
  · exact vld_of turn4
  · exact vld_of turn6
  · exact vld_of turn8
  · exact vld_of turn10
end Go.Ev
namespace Go.Ev
open Go Go.RowKit
theorem flR_fl {B : List Int} {i : Nat} {l : List (Int × Int)} : ∀ {k : Nat}, ∀ j (h1 : j < l.length) (h2 : j < (flR B i l k).length), FlE l[j] (flR B i l k)[j]
  | 0, j, h1, h2 => .inl rfl
  | k + 1, j, h1, h2 => by
    have e : flR B i l (k + 1) = if flB B (i * l.length + k) = true then (flR B i l k).set k ((l.getD k (0, 0)).2, (l.getD k (0, 0)).1) else flR B i l k := rfl
    simp only [e]
    split
    · rw [List.getElem_set]
      split
      · rename_i hk
        subst hk
        rw [List.getD_eq_getElem?_getD, List.getElem?_eq_getElem h1]
        exact .inr rfl
      · exact flR_fl j h1 _
    · exact flR_fl j h1 _
theorem flR_L {B : List Int} {i k : Nat} {l : List (Int × Int)} : FlL l (flR B i l k) := FlL.of flR_len flR_fl
theorem tmS_fl {S : List (List (Int × Int))} {B : List Int} {f : Nat} : ∀ {i : Nat}, ∀ j (h1 : j < S.length) (h2 : j < (tmS S B f i).length), FlL S[j] (tmS S B f i)[j]
  | 0, j, _, _ => FlL.refl
  | i + 1, j, h1, h2 => by
    have e : tmS S B f (i + 1) = (tmS S B f i).set ((i + f) % S.length) (flR B i ((tmS S B f i).getD ((i + f) % S.length) []) ((tmS S B f i).getD ((i + f) % S.length) []).length) := rfl
    have hj : j < (tmS S B f i).length := by rw [tmS_len]; exact h1
    simp only [e]
    rw [List.getElem_set]
    split
    · rename_i hk
      rw [hk, List.getD_eq_getElem?_getD, List.getElem?_eq_getElem hj]
      exact (tmS_fl j h1 hj).trans flR_L
    · exact tmS_fl j h1 hj
theorem tmS_Q {S : List (List (Int × Int))} {B : List Int} {f i : Nat} : FlQ S (tmS S B f i) := FlQ.of tmS_len tmS_fl
/-- Beginning with another one. -/
theorem rot_perm {α : Type} {d : α} {Q : List α} {f : Nat} (hf : f < Q.length) : List.Perm ((List.range Q.length).map fun i => Q.getD ((i + f) % Q.length) d) Q := by
  have h1 : ((List.range Q.length).map fun i => Q.getD ((i + f) % Q.length) d) = Q.drop f ++ Q.take f := by
    apply List.ext_getElem
    · simp; omega
    · intro i h1 h2
      have hi : i < Q.length := by simpa using h1
      rw [List.getElem_map, List.getElem_range, List.getElem_append]
      have hm : (i + f) % Q.length < Q.length := Nat.mod_lt _ (by omega)
      rw [List.getD_eq_getElem?_getD, List.getElem?_eq_getElem hm]
      split
      · rename_i h3
        have h3 : i < Q.length - f := by simpa using h3
        rw [List.getElem_drop]
        simp only [Option.getD_some, Nat.mod_eq_of_lt (show i + f < Q.length by omega), Nat.add_comm f i]
      · rename_i h3
        have h3 : ¬ i < Q.length - f := by simpa using h3
        rw [List.getElem_take]
        have e : (i + f) % Q.length = i - (Q.drop f).length := by
          rw [List.length_drop, Nat.mod_eq_sub_mod (by omega), Nat.mod_eq_of_lt (by omega)]; omega
        simp only [Option.getD_some, e]
  rw [h1]
  exact List.perm_append_comm.trans (by rw [List.take_append_drop])
theorem tame_vld {n : Nat} {B : List Int} (hn : ok5 (n : Int)) : Vld n (tameL n B) := by
  have hn' := hn
  unfold ok5 at hn'
  have v1 : Vld n (nmS n B) := (turn_ok hn).ren nmL_nodup nmL_len fun x hx => nmL_mem.1 hx
  have v2 : Vld n (tmS (nmS n B) B (tameF n B) (n - 1)) := v1.fl tmS_Q
  refine v2.perm ?_
  have hl : (tmS (nmS n B) B (tameF n B) (n - 1)).length = n - 1 := by rw [tmS_len, nmS_len]
  have := rot_perm (d := []) (Q := tmS (nmS n B) B (tameF n B) (n - 1)) (f := tameF n B) (by rw [hl]; exact Nat.mod_lt _ (by omega))
  rw [hl] at this
  exact this
theorem tameL_len {n : Nat} {B : List Int} : (tameL n B).length = n - 1 := by simp [tameL]
theorem Vld.sh {n : Nat} {Q : List (List (Int × Int))} (v : Vld n Q) (hl : Q.length = n - 1) : shB n Q = true := by
  unfold shB bgB
  rw [decide_eq_true (by omega), decide_eq_true hl, decide_eq_true v.pw, List.all_eq_true.2 v.rnd]; rfl
theorem tame_sh {n : Nat} {B : List Int} (hn : ok5 (n : Int)) : shB n (tameL n B) = true := (tame_vld hn).sh tameL_len
end Go.Ev
namespace Go.Ev
open Go Go.RowKit
noncomputable def f58_r0 : List EOper := [⟨(some (K.ofNat 4)), none, .as (.c (.i .i64 (.ofNat 0)))⟩]
noncomputable def f58_r1 : List EOper := [⟨(some (K.ofNat 7)), none, .mv (.t (K.ofNat 0))⟩, ⟨(some (K.ofNat 8)), none, .len (.t (K.ofNat 7))⟩, ⟨(some (K.ofNat 9)), none, .mv (.c (.i .i64 (.ofNat 0)))⟩]
noncomputable def f58_r2 : List EOper := [⟨(some (K.ofNat 10)), none, .bin .lss (.t (K.ofNat 9)) (.t (K.ofNat 8))⟩]
noncomputable def f58_r3 : List EOper := [⟨(some (K.ofNat 11)), none, .iads 2 (.t (K.ofNat 7)) (.t (K.ofNat 9))⟩, ⟨(some (K.ofNat 12)), none, .ldn 2 (.t (K.ofNat 11))⟩, ⟨(some (K.ofNat 6)), none, .alloc 2 [(.i .i64 (.ofNat 0)), (.i .i64 (.ofNat 0))]⟩, ⟨none, none, .st 2 (.t (K.ofNat 6)) (.t (K.ofNat 12))⟩]
noncomputable def f58_r4 : List EOper := [⟨(some (K.ofNat 13)), none, .mv (.t (K.ofNat 1))⟩]
noncomputable def f58_r5 : List EOper := [⟨(some (K.ofNat 15)), none, .fadr 0 (.t (K.ofNat 6))⟩, ⟨(some (K.ofNat 16)), none, .ld (.t (K.ofNat 15))⟩, ⟨(some (K.ofNat 17)), none, .bin .eql (.t (K.ofNat 13)) (.t (K.ofNat 16))⟩, ⟨(some (K.ofNat 14)), none, .as (.t (K.ofNat 17))⟩]
noncomputable def f58_r6 : List EOper := [⟨(some (K.ofNat 18)), none, .fadr 1 (.t (K.ofNat 6))⟩, ⟨(some (K.ofNat 19)), none, .ld (.t (K.ofNat 18))⟩, ⟨(some (K.ofNat 4)), none, .as (.t (K.ofNat 19))⟩]
noncomputable def f58_r7 : List EOper := [⟨(some (K.ofNat 21)), none, .fadr 1 (.t (K.ofNat 6))⟩, ⟨(some (K.ofNat 22)), none, .ld (.t (K.ofNat 21))⟩, ⟨(some (K.ofNat 23)), none, .bin .eql (.t (K.ofNat 13)) (.t (K.ofNat 22))⟩, ⟨(some (K.ofNat 20)), none, .as (.t (K.ofNat 23))⟩]
noncomputable def f58_r8 : List EOper := [⟨(some (K.ofNat 24)), none, .fadr 0 (.t (K.ofNat 6))⟩, ⟨(some (K.ofNat 25)), none, .ld (.t (K.ofNat 24))⟩, ⟨(some (K.ofNat 4)), none, .as (.t (K.ofNat 25))⟩]
noncomputable def f58_r9 : List EOper := [⟨(some (K.ofNat 26)), none, .bin .add (.t (K.ofNat 9)) (.c (.i .i64 (.ofNat 1)))⟩, ⟨(some (K.ofNat 9)), none, .mv (.t (K.ofNat 26))⟩]
noncomputable def f58_l0 : EC := (.seq (.reg f58_r2) (.seq (.cond (.t (K.ofNat 10)) .skip (.exit 0)) (.seq (.block 1 (.seq (.reg f58_r3) (.seq (.reg f58_r4) (.block 2 (.seq (.reg f58_r5) (.cond (.t (K.ofNat 14)) (.seq (.reg f58_r6) .ret) (.seq (.reg f58_r7) (.cond (.t (K.ofNat 20)) (.seq (.reg f58_r8) .ret) .skip)))))))) (.reg f58_r9))))
noncomputable def f58_r10 : List EOper := [⟨(some (K.ofNat 27)), none, .mv (.t (K.ofNat 1))⟩, ⟨(some (K.ofNat 4)), none, .as (.t (K.ofNat 27))⟩]
noncomputable def f58_c : EC := (.seq (.reg f58_r0) (.seq (.seq (.reg f58_r1) (.block 0 (.loop f58_l0))) (.seq (.reg f58_r10) .ret)))
noncomputable def f58 : EF := ⟨28, [.tmp (K.ofNat 4)], f58_c, none⟩
noncomputable def f73_r0 : List EOper := [⟨(some (K.ofNat 2)), none, .as (.c (.i .u16 (.ofNat 0)))⟩]
noncomputable def f73_r1 : List EOper := [⟨(some (K.ofNat 3)), none, .as (.c (.i .u16 (.ofNat 0)))⟩]
noncomputable def f73_r2 : List EOper := [⟨(some (K.ofNat 6)), none, .mv (.t (K.ofNat 0))⟩, ⟨(some (K.ofNat 7)), none, .len (.t (K.ofNat 6))⟩, ⟨(some (K.ofNat 8)), none, .mv (.c (.i .i64 (.ofNat 0)))⟩]
noncomputable def f73_r3 : List EOper := [⟨(some (K.ofNat 9)), none, .bin .lss (.t (K.ofNat 8)) (.t (K.ofNat 7))⟩]
noncomputable def f73_r4 : List EOper := [⟨(some (K.ofNat 10)), none, .iads 2 (.t (K.ofNat 6)) (.t (K.ofNat 8))⟩, ⟨(some (K.ofNat 11)), none, .ldn 2 (.t (K.ofNat 10))⟩, ⟨(some (K.ofNat 5)), none, .alloc 2 [(.i .i64 (.ofNat 0)), (.i .i64 (.ofNat 0))]⟩, ⟨none, none, .st 2 (.t (K.ofNat 5)) (.t (K.ofNat 11))⟩]
noncomputable def f73_r5 : List EOper := [⟨(some (K.ofNat 12)), none, .mv (.t (K.ofNat 3))⟩, ⟨(some (K.ofNat 13)), none, .fadr 0 (.t (K.ofNat 5))⟩, ⟨(some (K.ofNat 14)), none, .ld (.t (K.ofNat 13))⟩, ⟨(some (K.ofNat 15)), none, .call (.c (.fn (K.ofNat 83) [])) [(.t (K.ofNat 12)), (.t (K.ofNat 14))]⟩, ⟨(some (K.ofNat 3)), none, .as (.t (K.ofNat 15))⟩]
noncomputable def f73_r6 : List EOper := [⟨(some (K.ofNat 16)), none, .bin .add (.t (K.ofNat 8)) (.c (.i .i64 (.ofNat 1)))⟩, ⟨(some (K.ofNat 8)), none, .mv (.t (K.ofNat 16))⟩]
noncomputable def f73_l0 : EC := (.seq (.reg f73_r3) (.seq (.cond (.t (K.ofNat 9)) .skip (.exit 0)) (.seq (.block 1 (.seq (.reg f73_r4) (.reg f73_r5))) (.reg f73_r6))))
noncomputable def f73_r7 : List EOper := [⟨(some (K.ofNat 17)), none, .mv (.t (K.ofNat 3))⟩, ⟨(some (K.ofNat 2)), none, .as (.t (K.ofNat 17))⟩]
noncomputable def f73_c : EC := (.seq (.reg f73_r0) (.seq (.reg f73_r1) (.seq (.seq (.reg f73_r2) (.block 0 (.loop f73_l0))) (.seq (.reg f73_r7) .ret))))
noncomputable def f73 : EF := ⟨18, [.tmp (K.ofNat 2)], f73_c, none⟩
def opF : List (Int × Int) → Int → Int
  | [], t => t
  | x :: L, t => if t = x.1 then x.2 else if t = x.2 then x.1 else opF L t
section
variable {fs : T EF} {h : H} {v : V} {l : List (Int × Int)}
/-- The teams at home. -/
def hmL (l : List (Int × Int)) : List Int := l.map (·.1)
end
end Go.Ev
namespace Go.Ev
open Go Go.RowKit
noncomputable def f77_r0 : List EOper := [⟨(some (K.ofNat 2)), none, .as (.c (.s ⟨#[]⟩))⟩]
noncomputable def f77_r1 : List EOper := [⟨(some (K.ofNat 3)), none, .as (.c (.s ⟨#[]⟩))⟩]
noncomputable def f77_r2 : List EOper := [⟨(some (K.ofNat 6)), none, .mv (.t (K.ofNat 0))⟩, ⟨(some (K.ofNat 7)), none, .len (.t (K.ofNat 6))⟩, ⟨(some (K.ofNat 8)), none, .mv (.c (.i .i64 (.ofNat 0)))⟩]
noncomputable def f77_r3 : List EOper := [⟨(some (K.ofNat 9)), none, .bin .lss (.t (K.ofNat 8)) (.t (K.ofNat 7))⟩]
noncomputable def f77_r4 : List EOper := [⟨(some (K.ofNat 10)), none, .iads 1 (.t (K.ofNat 6)) (.t (K.ofNat 8))⟩, ⟨(some (K.ofNat 11)), none, .ld (.t (K.ofNat 10))⟩, ⟨(some (K.ofNat 5)), none, .as (.t (K.ofNat 11))⟩]
noncomputable def f77_r5 : List EOper := [⟨(some (K.ofNat 12)), none, .mv (.t (K.ofNat 3))⟩, ⟨(some (K.ofNat 13)), none, .mv (.t (K.ofNat 5))⟩, ⟨(some (K.ofNat 14)), none, .pr .sadd (.t (K.ofNat 12)) (.t (K.ofNat 13))⟩, ⟨(some (K.ofNat 3)), none, .as (.t (K.ofNat 14))⟩]
noncomputable def f77_r6 : List EOper := [⟨(some (K.ofNat 15)), none, .bin .add (.t (K.ofNat 8)) (.c (.i .i64 (.ofNat 1)))⟩, ⟨(some (K.ofNat 8)), none, .mv (.t (K.ofNat 15))⟩]
noncomputable def f77_l0 : EC := (.seq (.reg f77_r3) (.seq (.cond (.t (K.ofNat 9)) .skip (.exit 0)) (.seq (.block 1 (.seq (.reg f77_r4) (.reg f77_r5))) (.reg f77_r6))))
noncomputable def f77_r7 : List EOper := [⟨(some (K.ofNat 16)), none, .mv (.t (K.ofNat 3))⟩, ⟨(some (K.ofNat 2)), none, .as (.t (K.ofNat 16))⟩]
noncomputable def f77_c : EC := (.seq (.reg f77_r0) (.seq (.reg f77_r1) (.seq (.seq (.reg f77_r2) (.block 0 (.loop f77_l0))) (.seq (.reg f77_r7) .ret))))
noncomputable def f77 : EF := ⟨17, [.tmp (K.ofNat 2)], f77_c, none⟩
noncomputable def f53_r0 : List EOper := [⟨(some (K.ofNat 4)), none, .as (.c (.s ⟨#[]⟩))⟩]
noncomputable def f53_r1 : List EOper := [⟨(some (K.ofNat 5)), none, .as (.c .sn)⟩]
noncomputable def f53_r2 : List EOper := [⟨(some (K.ofNat 9)), none, .mv (.t (K.ofNat 0))⟩, ⟨(some (K.ofNat 10)), none, .len (.t (K.ofNat 9))⟩, ⟨(some (K.ofNat 11)), none, .mv (.c (.i .i64 (.ofNat 0)))⟩]
noncomputable def f53_r3 : List EOper := [⟨(some (K.ofNat 12)), none, .bin .lss (.t (K.ofNat 11)) (.t (K.ofNat 10))⟩]
noncomputable def f53_r4 : List EOper := [⟨(some (K.ofNat 13)), none, .iads 1 (.t (K.ofNat 9)) (.t (K.ofNat 11))⟩, ⟨(some (K.ofNat 14)), none, .ld (.t (K.ofNat 13))⟩, ⟨(some (K.ofNat 7)), none, .as (.t (K.ofNat 14))⟩]
noncomputable def f53_r5 : List EOper := [⟨(some (K.ofNat 8)), none, .as (.c (.s ⟨#[65]⟩))⟩]
noncomputable def f53_r6 : List EOper := [⟨(some (K.ofNat 15)), none, .mv (.t (K.ofNat 7))⟩, ⟨(some (K.ofNat 16)), none, .call (.c (.fn (K.ofNat 73) [])) [(.t (K.ofNat 15))]⟩, ⟨(some (K.ofNat 17)), none, .mv (.t (K.ofNat 1))⟩, ⟨(some (K.ofNat 18)), none, .call (.c (.fn (K.ofNat 76) [])) [(.t (K.ofNat 16)), (.t (K.ofNat 17))]⟩]
noncomputable def f53_r7 : List EOper := [⟨(some (K.ofNat 8)), none, .as (.c (.s ⟨#[72]⟩))⟩]
noncomputable def f53_r8 : List EOper := [⟨(some (K.ofNat 19)), none, .mv (.t (K.ofNat 5))⟩, ⟨(some (K.ofNat 20)), none, .mv (.t (K.ofNat 8))⟩, ⟨(some (K.ofNat 21)), none, .bslice 1 1 [(.s ⟨#[]⟩)] [(0, 1, (.t (K.ofNat 20)))]⟩, ⟨(some (K.ofNat 22)), none, .app 1 (.t (K.ofNat 19)) (.t (K.ofNat 21))⟩, ⟨(some (K.ofNat 5)), none, .as (.t (K.ofNat 22))⟩]
noncomputable def f53_r9 : List EOper := [⟨(some (K.ofNat 23)), none, .bin .add (.t (K.ofNat 11)) (.c (.i .i64 (.ofNat 1)))⟩, ⟨(some (K.ofNat 11)), none, .mv (.t (K.ofNat 23))⟩]
noncomputable def f53_l0 : EC := (.seq (.reg f53_r3) (.seq (.cond (.t (K.ofNat 12)) .skip (.exit 0)) (.seq (.block 1 (.seq (.reg f53_r4) (.seq (.reg f53_r5) (.seq (.seq (.reg f53_r6) (.cond (.t (K.ofNat 18)) (.reg f53_r7) .skip)) (.reg f53_r8))))) (.reg f53_r9))))
noncomputable def f53_r10 : List EOper := [⟨(some (K.ofNat 24)), none, .mv (.t (K.ofNat 5))⟩, ⟨(some (K.ofNat 25)), none, .call (.c (.fn (K.ofNat 77) [])) [(.t (K.ofNat 24))]⟩, ⟨(some (K.ofNat 4)), none, .as (.t (K.ofNat 25))⟩]
noncomputable def f53_c : EC := (.seq (.reg f53_r0) (.seq (.reg f53_r1) (.seq (.seq (.reg f53_r2) (.block 0 (.loop f53_l0))) (.seq (.reg f53_r10) .ret))))
noncomputable def f53 : EF := ⟨26, [.tmp (K.ofNat 4)], f53_c, none⟩
/-- Is the team at home? -/
def hoB (l : List (Int × Int)) (t : Nat) : Bool := decide ((t : Int) ∈ hmL l)
section
variable {fs : T EF} {h : H} {v : V} {us : List V} {Ls : List (List (Int × Int))}
structure CallsHo (fs : T EF) : Prop extends CallsAa fs where
  c53 : fs.get (K.ofNat 53) = some f53
  c73 : fs.get (K.ofNat 73) = some f73
  c77 : fs.get (K.ofNat 77) = some f77
/-- Rounds whose teams are few. -/
def Few (Ls : List (List (Int × Int))) : Prop := Ls.length ≤ 100 ∧ ∀ l ∈ Ls, l.length ≤ 100 ∧ ∀ e ∈ l, 0 ≤ e.1 ∧ e.1 ≤ 15
end
end Go.Ev
