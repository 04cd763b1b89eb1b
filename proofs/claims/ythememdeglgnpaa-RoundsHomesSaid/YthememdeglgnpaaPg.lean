/-
  Rounds: names, and the same schedules, for the reference.
  Rounds: a slice of slices, filled row by row.
  Rounds: lists; schedules with other names, of the program.
  Rounds: schedules with other names, of the program.
  Rounds: Renamed, of the program.
  Rounds: the law RoundsHomes.
-/
import Derived.Test.YthememdeglgnpaaPf
namespace Go.Ev
open Go Go.RowKit
noncomputable def f30_r0 : List EOper := [⟨(some (K.ofNat 4)), none, .as (.c (.b false))⟩]
noncomputable def f30_r1 : List EOper := [⟨(some (K.ofNat 5)), none, .as (.c (.i .i64 (.ofNat 0)))⟩]
noncomputable def f30_r2 : List EOper := [⟨(some (K.ofNat 6)), none, .as (.c (.i .i64 (.ofNat 0)))⟩]
noncomputable def f30_r3 : List EOper := [⟨(some (K.ofNat 7)), none, .mv (.t (K.ofNat 6))⟩, ⟨(some (K.ofNat 8)), none, .mv (.t (K.ofNat 1))⟩, ⟨(some (K.ofNat 9)), none, .len (.t (K.ofNat 8))⟩, ⟨(some (K.ofNat 10)), none, .bin .lss (.t (K.ofNat 7)) (.t (K.ofNat 9))⟩]
noncomputable def f30_r4 : List EOper := [⟨(some (K.ofNat 13)), none, .mv (.t (K.ofNat 1))⟩, ⟨(some (K.ofNat 14)), none, .mv (.t (K.ofNat 6))⟩, ⟨(some (K.ofNat 15)), none, .iads 1 (.t (K.ofNat 13)) (.t (K.ofNat 14))⟩, ⟨(some (K.ofNat 16)), none, .ld (.t (K.ofNat 15))⟩, ⟨(some (K.ofNat 17)), none, .bin .lss (.t (K.ofNat 16)) (.c (.i .i64 (.ofNat 0)))⟩, ⟨(some (K.ofNat 18)), none, .mv (.t (K.ofNat 17))⟩, ⟨(some (K.ofNat 19)), (some ((K.ofNat 18), false)), .mv (.t (K.ofNat 1))⟩, ⟨(some (K.ofNat 20)), (some ((K.ofNat 18), false)), .mv (.t (K.ofNat 6))⟩, ⟨(some (K.ofNat 21)), (some ((K.ofNat 18), false)), .iads 1 (.t (K.ofNat 19)) (.t (K.ofNat 20))⟩, ⟨(some (K.ofNat 22)), (some ((K.ofNat 18), false)), .ld (.t (K.ofNat 21))⟩, ⟨(some (K.ofNat 23)), (some ((K.ofNat 18), false)), .mv (.t (K.ofNat 0))⟩, ⟨(some (K.ofNat 24)), (some ((K.ofNat 18), false)), .bin .geq (.t (K.ofNat 22)) (.t (K.ofNat 23))⟩, ⟨(some (K.ofNat 25)), none, .pick (.t (K.ofNat 18)) (.c (.b true)) (.t (K.ofNat 24))⟩, ⟨(some (K.ofNat 26)), none, .mv (.t (K.ofNat 25))⟩, ⟨(some (K.ofNat 27)), (some ((K.ofNat 26), false)), .mv (.t (K.ofNat 5))⟩, ⟨(some (K.ofNat 28)), (some ((K.ofNat 26), false)), .mv (.t (K.ofNat 1))⟩, ⟨(some (K.ofNat 29)), (some ((K.ofNat 26), false)), .mv (.t (K.ofNat 6))⟩, ⟨(some (K.ofNat 30)), (some ((K.ofNat 26), false)), .iads 1 (.t (K.ofNat 28)) (.t (K.ofNat 29))⟩, ⟨(some (K.ofNat 31)), (some ((K.ofNat 26), false)), .ld (.t (K.ofNat 30))⟩, ⟨(some (K.ofNat 32)), (some ((K.ofNat 26), false)), .bin .shr (.t (K.ofNat 27)) (.t (K.ofNat 31))⟩, ⟨(some (K.ofNat 33)), (some ((K.ofNat 26), false)), .bin .rem (.t (K.ofNat 32)) (.c (.i .i64 (.ofNat 2)))⟩, ⟨(some (K.ofNat 34)), (some ((K.ofNat 26), false)), .bin .eql (.t (K.ofNat 33)) (.c (.i .i64 (.ofNat 1)))⟩, ⟨(some (K.ofNat 35)), none, .pick (.t (K.ofNat 26)) (.c (.b true)) (.t (K.ofNat 34))⟩]
noncomputable def f30_r5 : List EOper := [⟨(some (K.ofNat 4)), none, .as (.c (.b false))⟩]
noncomputable def f30_r6 : List EOper := [⟨(some (K.ofNat 36)), none, .mv (.t (K.ofNat 5))⟩, ⟨(some (K.ofNat 37)), none, .mv (.t (K.ofNat 1))⟩, ⟨(some (K.ofNat 38)), none, .mv (.t (K.ofNat 6))⟩, ⟨(some (K.ofNat 39)), none, .iads 1 (.t (K.ofNat 37)) (.t (K.ofNat 38))⟩, ⟨(some (K.ofNat 40)), none, .ld (.t (K.ofNat 39))⟩, ⟨(some (K.ofNat 41)), none, .bin .shl (.c (.i .i64 (.ofNat 1))) (.t (K.ofNat 40))⟩, ⟨(some (K.ofNat 42)), none, .bin .or (.t (K.ofNat 36)) (.t (K.ofNat 41))⟩, ⟨(some (K.ofNat 5)), none, .as (.t (K.ofNat 42))⟩]
noncomputable def f30_r7 : List EOper := [⟨(some (K.ofNat 11)), none, .mv (.t (K.ofNat 6))⟩, ⟨(some (K.ofNat 12)), none, .bin .add (.t (K.ofNat 11)) (.c (.i .i64 (.ofNat 1)))⟩, ⟨(some (K.ofNat 6)), none, .as (.t (K.ofNat 12))⟩]
noncomputable def f30_l0 : EC := (.seq (.seq (.reg f30_r3) (.cond (.t (K.ofNat 10)) .skip (.exit 0))) (.seq (.block 1 (.seq (.seq (.reg f30_r4) (.cond (.t (K.ofNat 35)) (.seq (.reg f30_r5) .ret) .skip)) (.reg f30_r6))) (.reg f30_r7)))
noncomputable def f30_r8 : List EOper := [⟨(some (K.ofNat 43)), none, .mv (.t (K.ofNat 1))⟩, ⟨(some (K.ofNat 44)), none, .len (.t (K.ofNat 43))⟩, ⟨(some (K.ofNat 45)), none, .mv (.t (K.ofNat 0))⟩, ⟨(some (K.ofNat 46)), none, .bin .eql (.t (K.ofNat 44)) (.t (K.ofNat 45))⟩, ⟨(some (K.ofNat 4)), none, .as (.t (K.ofNat 46))⟩]
noncomputable def f30_c : EC := (.seq (.reg f30_r0) (.seq (.reg f30_r1) (.seq (.seq (.reg f30_r2) (.block 0 (.loop f30_l0))) (.seq (.reg f30_r8) .ret))))
noncomputable def f30 : EF := ⟨47, [.tmp (K.ofNat 4)], f30_c, none⟩
theorem f30_rs : f30.rs = [.tmp (K.ofNat 4)] := of_eq_true (eq_self _)
noncomputable def f31_r0 : List EOper := [⟨(some (K.ofNat 4)), none, .as (.c (.b false))⟩]
noncomputable def f31_r1 : List EOper := [⟨(some (K.ofNat 7)), none, .mv (.t (K.ofNat 0))⟩, ⟨(some (K.ofNat 8)), none, .len (.t (K.ofNat 7))⟩, ⟨(some (K.ofNat 9)), none, .mv (.t (K.ofNat 1))⟩, ⟨(some (K.ofNat 10)), none, .len (.t (K.ofNat 9))⟩, ⟨(some (K.ofNat 11)), none, .bin .neq (.t (K.ofNat 8)) (.t (K.ofNat 10))⟩]
noncomputable def f31_r2 : List EOper := [⟨(some (K.ofNat 4)), none, .as (.c (.b false))⟩]
noncomputable def f31_r3 : List EOper := [⟨(some (K.ofNat 5)), none, .as (.c (.i .i64 (.ofNat 0)))⟩]
noncomputable def f31_r4 : List EOper := [⟨(some (K.ofNat 12)), none, .mv (.t (K.ofNat 5))⟩, ⟨(some (K.ofNat 13)), none, .mv (.t (K.ofNat 0))⟩, ⟨(some (K.ofNat 14)), none, .len (.t (K.ofNat 13))⟩, ⟨(some (K.ofNat 15)), none, .bin .lss (.t (K.ofNat 12)) (.t (K.ofNat 14))⟩]
noncomputable def f31_r5 : List Stage := [⟨[⟨(some (K.ofNat 18)), none, .mv (.t (K.ofNat 0))⟩, ⟨(some (K.ofNat 19)), none, .mv (.t (K.ofNat 5))⟩, ⟨(some (K.ofNat 20)), none, .iads 1 (.t (K.ofNat 18)) (.t (K.ofNat 19))⟩, ⟨(some (K.ofNat 21)), none, .ld (.t (K.ofNat 20))⟩, ⟨(some (K.ofNat 22)), none, .len (.t (K.ofNat 21))⟩, ⟨(some (K.ofNat 23)), none, .mv (.t (K.ofNat 1))⟩, ⟨(some (K.ofNat 24)), none, .mv (.t (K.ofNat 5))⟩, ⟨(some (K.ofNat 25)), none, .iads 1 (.t (K.ofNat 23)) (.t (K.ofNat 24))⟩, ⟨(some (K.ofNat 26)), none, .ld (.t (K.ofNat 25))⟩, ⟨(some (K.ofNat 27)), none, .len (.t (K.ofNat 26))⟩, ⟨(some (K.ofNat 28)), none, .bin .neq (.t (K.ofNat 22)) (.t (K.ofNat 27))⟩], [], none, []⟩]
noncomputable def f31_r6 : List EOper := [⟨(some (K.ofNat 4)), none, .as (.c (.b false))⟩]
noncomputable def f31_r7 : List EOper := [⟨(some (K.ofNat 6)), none, .as (.c (.i .i64 (.ofNat 0)))⟩]
noncomputable def f31_r8 : List EOper := [⟨(some (K.ofNat 29)), none, .mv (.t (K.ofNat 6))⟩, ⟨(some (K.ofNat 30)), none, .mv (.t (K.ofNat 0))⟩, ⟨(some (K.ofNat 31)), none, .mv (.t (K.ofNat 5))⟩, ⟨(some (K.ofNat 32)), none, .iads 1 (.t (K.ofNat 30)) (.t (K.ofNat 31))⟩, ⟨(some (K.ofNat 33)), none, .ld (.t (K.ofNat 32))⟩, ⟨(some (K.ofNat 34)), none, .len (.t (K.ofNat 33))⟩, ⟨(some (K.ofNat 35)), none, .bin .lss (.t (K.ofNat 29)) (.t (K.ofNat 34))⟩]
noncomputable def f31_r9 : List Stage := [⟨[⟨(some (K.ofNat 38)), none, .mv (.t (K.ofNat 0))⟩, ⟨(some (K.ofNat 39)), none, .mv (.t (K.ofNat 5))⟩, ⟨(some (K.ofNat 40)), none, .iads 1 (.t (K.ofNat 38)) (.t (K.ofNat 39))⟩, ⟨(some (K.ofNat 41)), none, .ld (.t (K.ofNat 40))⟩, ⟨(some (K.ofNat 42)), none, .mv (.t (K.ofNat 6))⟩, ⟨(some (K.ofNat 43)), none, .iads 2 (.t (K.ofNat 41)) (.t (K.ofNat 42))⟩, ⟨(some (K.ofNat 44)), none, .ldn 2 (.t (K.ofNat 43))⟩, ⟨(some (K.ofNat 45)), none, .mv (.t (K.ofNat 1))⟩, ⟨(some (K.ofNat 46)), none, .mv (.t (K.ofNat 5))⟩, ⟨(some (K.ofNat 47)), none, .iads 1 (.t (K.ofNat 45)) (.t (K.ofNat 46))⟩, ⟨(some (K.ofNat 48)), none, .ld (.t (K.ofNat 47))⟩, ⟨(some (K.ofNat 49)), none, .mv (.t (K.ofNat 6))⟩, ⟨(some (K.ofNat 50)), none, .iads 2 (.t (K.ofNat 48)) (.t (K.ofNat 49))⟩, ⟨(some (K.ofNat 51)), none, .ldn 2 (.t (K.ofNat 50))⟩, ⟨(some (K.ofNat 52)), none, .eqk (.many [(some .i64), (some .i64)]) true (.t (K.ofNat 44)) (.t (K.ofNat 51))⟩], [], none, []⟩]
noncomputable def f31_r10 : List EOper := [⟨(some (K.ofNat 4)), none, .as (.c (.b false))⟩]
noncomputable def f31_r11 : List EOper := [⟨(some (K.ofNat 36)), none, .mv (.t (K.ofNat 6))⟩, ⟨(some (K.ofNat 37)), none, .bin .add (.t (K.ofNat 36)) (.c (.i .i64 (.ofNat 1)))⟩, ⟨(some (K.ofNat 6)), none, .as (.t (K.ofNat 37))⟩]
noncomputable def f31_l0 : EC := (.seq (.seq (.reg f31_r8) (.cond (.t (K.ofNat 35)) .skip (.exit 2))) (.seq (.block 3 (.seq (.draw f31_r9) (.cond (.t (K.ofNat 52)) (.seq (.reg f31_r10) .ret) .skip))) (.reg f31_r11)))
noncomputable def f31_r12 : List EOper := [⟨(some (K.ofNat 16)), none, .mv (.t (K.ofNat 5))⟩, ⟨(some (K.ofNat 17)), none, .bin .add (.t (K.ofNat 16)) (.c (.i .i64 (.ofNat 1)))⟩, ⟨(some (K.ofNat 5)), none, .as (.t (K.ofNat 17))⟩]
noncomputable def f31_l1 : EC := (.seq (.seq (.reg f31_r4) (.cond (.t (K.ofNat 15)) .skip (.exit 0))) (.seq (.block 1 (.seq (.seq (.draw f31_r5) (.cond (.t (K.ofNat 28)) (.seq (.reg f31_r6) .ret) .skip)) (.seq (.reg f31_r7) (.block 2 (.loop f31_l0))))) (.reg f31_r12)))
noncomputable def f31_r13 : List EOper := [⟨(some (K.ofNat 4)), none, .as (.c (.b true))⟩]
noncomputable def f31_c : EC := (.seq (.reg f31_r0) (.seq (.seq (.reg f31_r1) (.cond (.t (K.ofNat 11)) (.seq (.reg f31_r2) .ret) .skip)) (.seq (.seq (.reg f31_r3) (.block 0 (.loop f31_l1))) (.seq (.reg f31_r13) .ret))))
noncomputable def f31 : EF := ⟨53, [.tmp (K.ofNat 4)], f31_c, none⟩
theorem f31_rs : f31.rs = [.tmp (K.ofNat 4)] := of_eq_true (eq_self _)
section
variable {fs : T EF} {h : H} {v w : V} {us ws : List V} {Ls : List (List (Int × Int))} {L : List Int}
def f30_I (h : H) (n : Nat) (v : V) (L : List Int) (i : Nat) (fr : Fr) (h1 : H) : Prop := i ≤ L.length ∧ h1 = h ∧ (∀ x ∈ L.take i, 0 ≤ x ∧ x < (n : Int)) ∧ (L.take i).Nodup ∧ ∃ m, Msk m (L.take i) ∧ fr.get (K.ofNat 0) = some (.i .i64 (n : Int)) ∧ fr.get (K.ofNat 1) = some (v) ∧ fr.get (K.ofNat 5) = some (.i .i64 (m : Int)) ∧ fr.get (K.ofNat 6) = some (.i .i64 (i : Int))
theorem f30_ret {n : Nat} (hn : n ≤ 16) (hv : Rd h v L) (hL : L.length ≤ 1000000) : Ret fs f30 [.i .i64 (n : Int), v] h fun r h' => r = .b (aaB (n : Int) L) ∧ h' = h := by
  apply ret_of rfl
  show W fs none f30_c _ _ _
  unfold f30_c
  have hlen := hv.len
  have hk : kmax .i64 = 9223372036854775807 := rfl
  simp (disch := omega) only [f30_r0, f30_r1, f30_r2, w_reg, w_seq, w_block, seqK_n, x_nil, x_as, ev_c, putD_some, frame_2, of0]
  refine W_loop (f30_I h n v L) (fun i => L.length - i) ?_ 0 ⟨by omega, rfl, by simp, by simp, 0, Msk.nil, by simp (disch := omega) only [getK_set, Nat.reduceEqDiff, ↓reduceIte, and_self, Int.natCast_zero]⟩
  rintro i fr h1 ⟨hi, rfl, hin, hnd, m, hm, g0, g1, g5, g6⟩
  unfold f30_l0
  by_cases hlt : i < L.length
  · have d0 : decide ((i : Int) < (L.length : Int)) = true := by simpa using hlt
    obtain ⟨p, hp1, hp2⟩ := hv.at i hlt
    have htk := List.take_succ_eq_append_getElem hlt
    have hmem : L[i] ∈ L := List.getElem_mem hlt
    have bad : ¬ (0 ≤ L[i] ∧ L[i] < (n : Int)) → aaB (n : Int) L = false := fun hr => by
      unfold aaB
      have : ¬ ∀ x ∈ L, 0 ≤ x ∧ x < (n : Int) := fun hh => hr (hh _ hmem)
      rw [decide_eq_false this, Bool.false_and, Bool.and_false]
    by_cases h1 : L[i] < 0
    · have d1 : decide (L[i] < 0) = true := by simpa using h1
      have hno := bad (by omega)
      simp (disch := omega) only [f30_r3, f30_r4, f30_r5, f30_rs, w_skip, w_reg, w_seq, w_cond, w_block, w_ret, seqK_n, seqK_r, atK_r, loopK_r, ckB_b, cbB_b, okG_b, asG_f, retK_r, x_nil, x_g, x_mv, x_as, x_pick, x_ld, x_bin, x_iads, x_len, kx, rvP_ok, okv_some, ev_t, ev_c, getV_some, putD_some, bin_lss, pick_b, oGet_s, readRs_nil, readRs_t, retV_1, of0, of1, of2, Option.some.injEq, exists_eq_left', getK_set, Nat.reduceEqDiff, ↓reduceIte, Bool.false_eq_true, Bool.not_true, g1, g6, hlen, d0, hp1, hp2, iE, d1, hno, and_self]
    · have d1 : decide (L[i] < 0) = false := by simpa using h1
      by_cases h2 : L[i] ≥ (n : Int)
      · have d2 : decide (L[i] ≥ (n : Int)) = true := by simpa using h2
        have hno := bad (by omega)
        simp (disch := omega) only [f30_r3, f30_r4, f30_r5, f30_rs, w_skip, w_reg, w_seq, w_cond, w_block, w_ret, seqK_n, seqK_r, atK_r, loopK_r, ckB_b, cbB_b, okG_b, asG_f, retK_r, x_nil, x_g, x_mv, x_as, x_pick, x_ld, x_bin, x_iads, x_len, kx, rvP_ok, okv_some, ev_t, ev_c, getV_some, putD_some, bin_lss, bin_geq, pick_b, oGet_s, readRs_nil, readRs_t, retV_1, of0, of1, of2, Option.some.injEq, exists_eq_left', getK_set, Nat.reduceEqDiff, ↓reduceIte, Bool.false_eq_true, Bool.not_true, Bool.not_false, g0, g1, g6, hlen, d0, hp1, hp2, iE, d1, d2, hno, and_self, Bool.not_false, Bool.not_true]
      · have d2 : decide (L[i] ≥ (n : Int)) = false := by simpa using h2
        obtain ⟨x, hx⟩ : ∃ x : Nat, L[i] = (x : Int) := ⟨L[i].toNat, by omega⟩
        have hx15 : x ≤ 15 := by omega
        have hbit := hm.2 x hx15
        have hm1 := hm.1
        have hr : 0 ≤ L[i] ∧ L[i] < (n : Int) := by omega
        rw [hx] at htk d1 d2 hp2 hr
        have s1 : binV .shr (.i .i64 (m : Int)) (.i .i64 (x : Int)) = some (.i .i64 ((m / 2 ^ x : Nat) : Int)) := by
          rw [bin_shr, show min x (IntKind.bits .i64) = x by show min x 64 = x; omega]
        have s2 : ((m / 2 ^ x : Nat) : Int).tmod 2 = ((m / 2 ^ x % 2 : Nat) : Int) := rfl
        have s3 : decide (((m / 2 ^ x % 2 : Nat) : Int) = 1) = m.testBit x := by
          rw [Nat.testBit_eq_decide_div_mod_eq]
          congr 1
          apply propext
          omega
        by_cases hd : (x : Int) ∈ L.take i
        · rw [decide_eq_true hd] at hbit
          rw [hbit] at s3
          have hno : aaB (n : Int) L = false := by
            unfold aaB
            have : ¬ L.Nodup := fun hN => by
              have h1 : (L.take (i + 1)).Nodup := List.Pairwise.sublist (List.take_sublist _ _) hN
              rw [htk, List.nodup_append] at h1
              exact h1.2.2 _ hd _ (by simp) rfl
            rw [decide_eq_false this, Bool.and_false, Bool.and_false]
          simp (disch := omega) only [f30_r3, f30_r4, f30_r5, f30_rs, w_skip, w_reg, w_seq, w_cond, w_block, w_ret, seqK_n, seqK_r, atK_r, loopK_r, ckB_b, cbB_b, okG_b, asG_f, retK_r, x_nil, x_g, x_mv, x_as, x_pick, x_ld, x_bin, x_iads, x_len, kx, rvP_ok, okv_some, ev_t, ev_c, getV_some, putD_some, bin_eql, bin_lss, bin_geq, bin_rem, pick_b, oGet_s, readRs_nil, readRs_t, retV_1, of0, of1, of2, Option.some.injEq, exists_eq_left', getK_set, Nat.reduceEqDiff, ↓reduceIte, Bool.false_eq_true, Bool.not_false, g0, g1, g5, g6, hlen, d0, hp1, hp2, iE, d1, d2, s1, s2, s3, hno, and_self, Bool.not_false]
        · rw [decide_eq_false hd] at hbit
          rw [hbit] at s3
          have hp : 2 ^ x ≤ 2 ^ 15 := Nat.pow_le_pow_right (by omega) hx15
          have hp2' : 2 ^ 15 = 32768 := by decide
          have q1 : binV .shl (.i .i64 1) (.i .i64 (x : Int)) = some (.i .i64 ((2 ^ x : Nat) : Int)) := by
            rw [bin_shl (by omega), show min ((x : Int).toNat) (IntKind.bits .i64) = x by show min ((x : Int).toNat) 64 = x; omega, Int.one_mul]
            have hz : (2 : Int) ^ x = ((2 ^ x : Nat) : Int) := by rw [Int.natCast_pow]; rfl
            rw [hz, fw64 (by have : (0 : Int) ≤ ((2 ^ x : Nat) : Int) := Int.natCast_nonneg _; omega) (by omega)]
          have q2 : binV .or (.i .i64 (m : Int)) (.i .i64 ((2 ^ x : Nat) : Int)) = some (.i .i64 ((m ||| 2 ^ x : Nat) : Int)) := bin_or (by omega) (by omega)
          simp (disch := omega) only [f30_r3, f30_r4, w_skip, w_reg, w_seq, w_cond, w_block, seqK_n, ckB_b, cbB_b, okG_b, asG_f, true_and, x_nil, x_g, x_mv, x_pick, x_ld, x_bin, x_iads, x_len, kx, rvP_ok, okv_some, ev_t, ev_c, getV_some, putD_some, bin_eql, bin_lss, bin_geq, bin_rem, pick_b, of0, of1, of2, getK_set, Nat.reduceEqDiff, ↓reduceIte, Bool.false_eq_true, Bool.not_false, g0, g1, g5, g6, hlen, d0, hp1, hp2, iE, d1, d2, s1, s2, s3, Bool.not_false]
          simp (disch := omega) only [f30_r6, f30_r7, w_reg, seqK_n, atK_n, loopK_n, x_nil, x_mv, x_as, x_ld, x_bin, x_iads, kx, rvP_ok, okv_some, ev_t, ev_c, getV_some, putD_some, bin_add, of1, getK_set, Nat.reduceEqDiff, ↓reduceIte, g1, g5, g6, hp1, hp2, iE, q1, q2, fw64]
          refine ⟨i + 1, by omega, by omega, rfl, ?_, ?_, _, by rw [htk]; exact hm.snoc hx15, by simp (disch := omega) only [getK_set, Nat.reduceEqDiff, ↓reduceIte, g0, g1, and_self, Int.natCast_add, Int.natCast_one]⟩
          · rw [htk]
            intro y hy
            rcases List.mem_append.1 hy with hy | hy
            · exact hin y hy
            · rw [List.mem_singleton.1 hy]; exact hr
          · rw [htk, List.nodup_append]
            refine ⟨hnd, by simp, fun a ha b hb e => ?_⟩
            rw [List.mem_singleton.1 hb] at e
            exact hd (e ▸ ha)
  · have d0 : decide ((i : Int) < (L.length : Int)) = false := by simpa using hlt
    have ei : i = L.length := by omega
    rw [ei, List.take_length] at hin hnd
    have hyes : aaB (n : Int) L = decide ((L.length : Int) = (n : Int)) := by
      unfold aaB
      rw [decide_eq_true hin, decide_eq_true hnd, Bool.and_true, Bool.and_true]
    simp (disch := omega) only [f30_r3, f30_r8, f30_rs, w_reg, w_seq, w_cond, w_exit, w_ret, seqK_n, seqK_e, atK_e, loopK_e, ckB_b, cbB_b, retK_r, x_nil, x_mv, x_as, x_bin, x_len, kx, rvP_ok, okv_some, ev_t, getV_some, putD_some, bin_eql, bin_lss, oGet_s, readRs_nil, readRs_t, retV_1, Option.some.injEq, exists_eq_left', getK_set, Nat.reduceEqDiff, ↓reduceIte, Bool.false_eq_true, g0, g1, g6, hlen, d0, hyes, and_self]
def f31_I (h : H) (v w : V) (Ls : List (List (Int × Int))) (i : Nat) (fr : Fr) (h1 : H) : Prop := i ≤ Ls.length ∧ h1 = h ∧ fr.get (K.ofNat 0) = some (v) ∧ fr.get (K.ofNat 1) = some (w) ∧ fr.get (K.ofNat 5) = some (.i .i64 (i : Int))
def f31_J (h : H) (v w : V) (l : List (Int × Int)) (i j : Nat) (fr : Fr) (h1 : H) : Prop := j ≤ l.length ∧ h1 = h ∧ fr.get (K.ofNat 0) = some (v) ∧ fr.get (K.ofNat 1) = some (w) ∧ fr.get (K.ofNat 5) = some (.i .i64 (i : Int)) ∧ fr.get (K.ofNat 6) = some (.i .i64 (j : Int))
theorem f31_same (hv : Nrp h v us Ls) (hw : Nrp h w ws Ls) (hF : Ls.length ≤ 1000 ∧ ∀ l ∈ Ls, l.length ≤ 1000) (hI : ∀ l ∈ Ls, ∀ e ∈ l, inR .i64 e.1 = true ∧ inR .i64 e.2 = true) : Ret fs f31 [v, w] h fun r h' => r = .b true ∧ h' = h := by
  have hl1 : ∀ h1, lenV v h1 = .ok (.i .i64 (Ls.length : Int)) h1 := fun h1 => by rw [hv.out.len, hv.len]
  have hl2 : ∀ h1, lenV w h1 = .ok (.i .i64 (Ls.length : Int)) h1 := fun h1 => by rw [hw.out.len, hw.len]
  have d : decide ((Ls.length : Int) ≠ (Ls.length : Int)) = false := by simp
  apply ret_of rfl
  show W fs none f31_c _ _ _
  unfold f31_c
  simp (disch := omega) only [f31_r0, f31_r1, f31_r3, w_skip, w_reg, w_seq, w_cond, w_block, seqK_n, ckB_b, cbB_b, true_and, x_nil, x_mv, x_as, x_bin, x_len, kx, rvP_ok, okv_some, ev_t, ev_c, getV_some, putD_some, bin_neq, frame_2, of0, getK_set, Nat.reduceEqDiff, ↓reduceIte, Bool.false_eq_true, hl1, hl2, d]
  refine W_loop (f31_I h v w Ls) (fun i => Ls.length - i) ?_ 0 ⟨by omega, rfl, by simp (disch := omega) only [getK_set, Nat.reduceEqDiff, ↓reduceIte, and_self, Int.natCast_zero]⟩
  rintro i fr h1 ⟨hi, rfl, g0, g1, g5⟩
  unfold f31_l1
  by_cases hlt : i < Ls.length
  · have d0 : decide ((i : Int) < (Ls.length : Int)) = true := by simpa using hlt
    have hL := hF.1
    have hiu : i < us.length := by rw [hv.len]; exact hlt
    have hiw : i < ws.length := by rw [hw.len]; exact hlt
    obtain ⟨p, hp1, hp2'⟩ := hv.out.at i hiu
    have hp2 : loadV h1 p one? = .ok us[i] h1 := hp2'
    clear hp2'
    obtain ⟨q, hq1, hq2'⟩ := hw.out.at i hiw
    have hq2 : loadV h1 q one? = .ok ws[i] h1 := hq2'
    clear hq2'
    have hu := hv.inn i hiu hlt
    have hx := hw.inn i hiw hlt
    have hl := hF.2 Ls[i] (List.getElem_mem hlt)
    have hIl := hI Ls[i] (List.getElem_mem hlt)
    generalize us[i] = u at *
    generalize ws[i] = x at *
    generalize Ls[i] = l at *
    have lu := hu.len
    have lx := hx.len
    have d1 : decide ((l.length : Int) ≠ (l.length : Int)) = false := by simp
    simp (disch := omega) only [f31_r4, f31_r5, f31_r7, w_skip, w_reg, w_draw, w_seq, w_cond, w_block, seqK_n, ckB_b, cbB_b, true_and, x_nil, x_mv, x_as, x_bin, x_len, kx, kg, xg_nil, xg_mv, xg_ld, xg_bin, xg_iads, xg_len, xd_cons, fresh_nil, stK_n, stay_nil, rvP_ok, okv_some, ev_t, ev_c, getV_some, putD_some, bin_neq, bin_lss, of0, getK_set, Nat.reduceEqDiff, ↓reduceIte, Bool.false_eq_true, g0, g1, g5, hl1, d0, hp1, hp2, hq1, hq2, lu, lx, d1]
    refine W_loop (f31_J h1 v w l i) (fun j => l.length - j) ?_ 0 ⟨by omega, rfl, by simp (disch := omega) only [getK_set, Nat.reduceEqDiff, ↓reduceIte, g0, g1, g5, and_self, Int.natCast_zero]⟩
    clear g0 g1 g5 fr
    rintro j fr h2 ⟨hj, rfl, g0, g1, g5, g6⟩
    unfold f31_l0
    by_cases hlt2 : j < l.length
    · have d2 : decide ((j : Int) < (l.length : Int)) = true := by simpa using hlt2
      obtain ⟨ida, a, ha1, ha2, _, _⟩ := hu.at2 hlt2
      obtain ⟨idb, b, hb1, hb2, _, _⟩ := hx.at2 hlt2
      obtain ⟨r1, r2⟩ := hIl l[j] (List.getElem_mem hlt2)
      have hke : keyEq (.many [some .i64, some .i64]) (.agg [.i .i64 l[j].1, .i .i64 l[j].2]) (.agg [.i .i64 l[j].1, .i .i64 l[j].2]) = some true := by rw [keyEq_2 r1 r2 r1 r2]; simp
      simp (disch := omega) only [f31_r8, f31_r9, f31_r11, w_skip, w_reg, w_draw, w_seq, w_cond, w_block, seqK_n, atK_n, loopK_n, ckB_b, cbB_b, true_and, x_nil, x_mv, x_as, x_ld, x_bin, x_iads, x_len, kx, kg, xg_nil, xg_mv, xg_ld, xg_ldn, xg_eqk, xg_iads, xd_cons, fresh_nil, stK_n, stay_nil, rvP_ok, okv_some, ev_t, ev_c, getV_some, putD_some, bin_add, bin_lss, oGet_s, of1, getK_set, Nat.reduceEqDiff, ↓reduceIte, Bool.not_true, g0, g1, g5, g6, hp1, hp2, lu, d2, ha1, ha2, hq1, hq2, hb1, hb2, hke, fw64, Bool.not_true]
      exact ⟨j + 1, by omega, by omega, rfl, by simp (disch := omega) only [getK_set, Nat.reduceEqDiff, ↓reduceIte, g0, g1, g5, and_self, Int.natCast_add, Int.natCast_one]⟩
    · have d2 : decide ((j : Int) < (l.length : Int)) = false := by simpa using hlt2
      simp (disch := omega) only [f31_r8, f31_r12, w_reg, w_seq, w_cond, w_exit, seqK_n, seqK_e, atK_n, atK_e, loopK_n, loopK_e, ckB_b, cbB_b, true_and, x_nil, x_mv, x_as, x_ld, x_bin, x_iads, x_len, kx, rvP_ok, okv_some, ev_t, ev_c, getV_some, putD_some, bin_add, bin_lss, of1, getK_set, Nat.reduceEqDiff, ↓reduceIte, Bool.false_eq_true, g0, g5, g6, hp1, hp2, lu, d2, fw64]
      exact ⟨i + 1, by omega, by omega, rfl, by simp (disch := omega) only [getK_set, Nat.reduceEqDiff, ↓reduceIte, g0, g1, and_self, Int.natCast_add, Int.natCast_one]⟩
  · have d0 : decide ((i : Int) < (Ls.length : Int)) = false := by simpa using hlt
    simp (disch := omega) only [f31_r4, f31_r13, f31_rs, w_reg, w_seq, w_cond, w_exit, w_ret, seqK_n, seqK_e, atK_e, loopK_e, ckB_b, cbB_b, retK_r, x_nil, x_mv, x_as, x_bin, x_len, kx, rvP_ok, okv_some, ev_t, ev_c, getV_some, putD_some, bin_lss, oGet_s, readRs_nil, readRs_t, retV_1, Option.some.injEq, exists_eq_left', getK_set, Nat.reduceEqDiff, ↓reduceIte, Bool.false_eq_true, g0, g5, hl1, d0, and_self]
end
end Go.Ev
namespace Go.Ev
open Go Go.RowKit
section
variable {h : H} {w : V} {xs : List V} {Q : List (List (Int × Int))} {b : Nat}
theorem mks_sn {k : IntKind} {n : Nat} (hn : n ≤ 1000000) : mksV 1 [.sn] h (.i k (n : Int)) = .ok (.sl h.nx 0 n 1) (h.new (.cells (n * 1) (rep [.sn] n))) := by
  show (bif Nat.ble n 1000000 then RV.ok (.sl h.nx 0 n 1) (h.new (.cells (n * 1) (rep [.sn] n))) else .no) = _
  rw [Nat.ble_eq_true_of_le hn]; rfl
theorem mkssn_sl {n : Nat} : Sl vE (h.new (.cells (n * 1) (rep [.sn] n))) (.sl h.nx 0 n 1) (List.replicate n .sn) :=
  .inr ⟨h.nx, 0, n * 1, rep [.sn] n, by rw [List.length_replicate], get_new_same, by rw [rep_cell, List.length_replicate, Nat.mul_one], by rw [List.length_replicate]; omega, fun i hi => by
    have hi : i < n := by simpa using hi
    rw [rep_cell, Nat.zero_add, List.getElem?_replicate, if_pos hi, List.getElem_replicate]; rfl⟩
theorem Sld.empty {n : Nat} : Sld (h.new (.cells (n * 1) (rep [.sn] n))) (.sl h.nx 0 n 1) (List.replicate n .sn) (List.replicate n []) := by
  have sk : ∀ i (h1 : i < (List.replicate n V.sn).length) (h2 : i < (List.replicate n ([] : List (Int × Int))).length), Sk 2 qE (h.new (.cells (n * 1) (rep [.sn] n))) (List.replicate n V.sn)[i] (List.replicate n ([] : List (Int × Int)))[i] := fun i h1 h2 => by
    rw [List.getElem_replicate, List.getElem_replicate]; exact Sk.nil
  exact ⟨⟨by simp, mkssn_sl, fun i h1 h2 => (sk i h1 h2).srp, fun u hu id off n' sz e => by rw [(List.mem_replicate.1 hu).2] at e; cases e⟩, sk, fun i j hi hj _ id off n' sz e => by rw [List.getElem_replicate] at e; cases e⟩
/-- One game more in a row. -/
theorem Sld.row (s : Sld h w xs Q) (how : Own b w) (hox : ∀ x ∈ xs, Own b x) (hb : b ≤ h.nx.nat) (hc : HC h) {i : Nat} (hi : i < xs.length) (hi2 : i < Q.length) {x : Int × Int} (hn : Q[i].length < 16777216) :
    ∃ u' h' p id m cs', appV 2 (h.new (.cells (1 * 2) [.i .i64 x.1, .i .i64 x.2])) xs[i] (.sl h.nx 0 1 2) = .ok u' h' ∧ (∀ k h1, iadsV 1 w (.i k (i : Int)) h1 = .ok p h1) ∧ loadV h p one? = .ok xs[i] h ∧ storeV h' 1 p u' = .ok undefV (h'.put id (.cells m cs')) ∧ Sld (h'.put id (.cells m cs')) w (xs.set i u') (Q.set i (Q[i] ++ [x])) ∧ (∀ y ∈ xs.set i u', Own b y) ∧ Grow b h (h'.put id (.cells m cs')) ∧ (∀ k : K, k.nat < h.nx.nat → (∀ off n sz, w ≠ .sl k off n sz) → (∀ y ∈ xs, NotIn k y) → (h'.put id (.cells m cs')).get k = h.get k) := by
  have hbw : ∀ id off n sz, w = .sl id off n sz → id.nat < h.nx.nat := s.out.lt hc
  have hbx : ∀ j (hj : j < xs.length), ∀ id off n sz, xs[j] = .sl id off n sz → id.nat < h.nx.nat := fun j hj => (s.sk j hj (by rw [← s.len]; exact hj)).lt hc
  obtain ⟨u', h', a1, s1, o1, gr1, k1⟩ := Sk.push qE_len (by omega) (x := x) (s.sk i hi hi2) (hox _ (List.getElem_mem hi)) hb hc hn
  have hc' := gr1.hc hc
  have nw : ∀ id off n sz, w = .sl id off n sz → NotIn id xs[i] := fun id off n sz e off' n' sz' e' => s.sep _ (List.getElem_mem hi) _ _ _ _ e' _ _ _ e
  have hout : Sl vE h' w xs := s.out.same fun id off n sz e => (k1 id (hbw _ _ _ _ e) (nw _ _ _ _ e)).1
  obtain ⟨p0, q1, q2⟩ := s.out.at i hi
  obtain ⟨p, id, m, cs', b1, b2, b3, ⟨off, n, sz, b4⟩, b5⟩ := hout.st hi (x := u') (c := u') rfl s1.one hc'
  obtain rfl : p0 = p := by have := (q1 .i64 h').symm.trans (b1 .i64 h'); injection this
  have hidb := how _ _ _ _ b4
  have nwu : NotIn id u' := (k1 id (hbw _ _ _ _ b4) (nw _ _ _ _ b4)).2
  have sk : ∀ j (h1 : j < (xs.set i u').length) (h2 : j < (Q.set i (Q[i] ++ [x])).length), Sk 2 qE (h'.put id (.cells m cs')) (xs.set i u')[j] (Q.set i (Q[i] ++ [x]))[j] := fun j h1 h2 => by
    have hj : j < xs.length := by simpa using h1
    have hj2 : j < Q.length := by simpa using h2
    rw [List.getElem_set, List.getElem_set]
    by_cases e : i = j
    · rw [if_pos e, if_pos e]; exact s1.put nwu _
    · rw [if_neg e, if_neg e]
      refine ((s.sk j hj hj2).same fun id' off' n' sz' e' => (k1 id' (hbx j hj _ _ _ _ e') (s.dis j i hj hi (Ne.symm e) _ _ _ _ e')).1).put (fun off' n' sz' e' => s.sep _ (List.getElem_mem hj) _ _ _ _ e' _ _ _ b4) _
  refine ⟨u', h', p0, id, m, cs', a1, b1, q2, b2, ⟨⟨by simp [s.len], b3, fun j h1 h2 => (sk j h1 h2).srp, fun y hy id' off' n' sz' e' => ?_⟩, sk, fun j j' hj hj' hjj id' off' n' sz' e' => ?_⟩, fun y hy => ?_, gr1.trans (Grow.put hidb b5 _), fun k2 hk hw hx => ?_⟩
  · rcases List.mem_or_eq_of_mem_set hy with hy | hy
    · exact s.sep y hy _ _ _ _ e'
    · rw [hy] at e'
      intro off2 n2 sz2 e2
      exact (k1 id' (hbw _ _ _ _ e2) (nw _ _ _ _ e2)).2 _ _ _ e'
  · have hj1 : j < xs.length := by simpa using hj
    have hj2 : j' < xs.length := by simpa using hj'
    rw [List.getElem_set] at e' ⊢
    by_cases e : i = j
    · rw [if_pos e] at e'
      have e3 : ¬ i = j' := fun e3 => hjj (e.symm.trans e3)
      rw [if_neg e3]
      intro off2 n2 sz2 e2
      exact (k1 id' (hbx j' hj2 _ _ _ _ e2) (s.dis j' i hj2 hi (fun q => e3 q.symm) _ _ _ _ e2)).2 _ _ _ e'
    · rw [if_neg e] at e'
      by_cases e3 : i = j'
      · rw [if_pos e3]
        exact (k1 id' (hbx j hj1 _ _ _ _ e') (s.dis j i hj1 hi (fun q => e q.symm) _ _ _ _ e')).2
      · rw [if_neg e3]
        exact s.dis j j' hj1 hj2 hjj _ _ _ _ e'
  · rcases List.mem_or_eq_of_mem_set hy with hy | hy
    · exact hox y hy
    · rw [hy]; exact o1
  · rw [get_put_other (fun e => hw off n sz (by rw [e]; exact b4))]
    exact (k1 k2 hk (hx _ (List.getElem_mem hi))).1
end
end Go.Ev
namespace Go.Ev
open Go Go.RowKit
noncomputable def f60_r0 : List EOper := [⟨(some (K.ofNat 2)), none, .as (.c .sn)⟩]
noncomputable def f60_r1 : List EOper := [⟨(some (K.ofNat 8)), none, .mv (.t (K.ofNat 0))⟩, ⟨(some (K.ofNat 9)), none, .len (.t (K.ofNat 8))⟩, ⟨(some (K.ofNat 10)), none, .mkslice 1 [.sn] (.t (K.ofNat 9))⟩, ⟨(some (K.ofNat 3)), none, .as (.t (K.ofNat 10))⟩]
noncomputable def f60_r2 : List EOper := [⟨(some (K.ofNat 11)), none, .mv (.t (K.ofNat 0))⟩, ⟨(some (K.ofNat 12)), none, .len (.t (K.ofNat 11))⟩, ⟨(some (K.ofNat 13)), none, .mv (.c (.i .i64 (.ofNat 0)))⟩]
noncomputable def f60_r3 : List EOper := [⟨(some (K.ofNat 14)), none, .bin .lss (.t (K.ofNat 13)) (.t (K.ofNat 12))⟩]
noncomputable def f60_r4 : List EOper := [⟨(some (K.ofNat 15)), none, .mv (.t (K.ofNat 13))⟩, ⟨(some (K.ofNat 16)), none, .iads 1 (.t (K.ofNat 11)) (.t (K.ofNat 13))⟩, ⟨(some (K.ofNat 17)), none, .ld (.t (K.ofNat 16))⟩, ⟨(some (K.ofNat 4)), none, .as (.t (K.ofNat 15))⟩, ⟨(some (K.ofNat 5)), none, .as (.t (K.ofNat 17))⟩]
noncomputable def f60_r5 : List EOper := [⟨(some (K.ofNat 18)), none, .mv (.t (K.ofNat 5))⟩, ⟨(some (K.ofNat 19)), none, .len (.t (K.ofNat 18))⟩, ⟨(some (K.ofNat 20)), none, .mv (.c (.i .i64 (.ofNat 0)))⟩]
noncomputable def f60_r6 : List EOper := [⟨(some (K.ofNat 21)), none, .bin .lss (.t (K.ofNat 20)) (.t (K.ofNat 19))⟩]
noncomputable def f60_r7 : List EOper := [⟨(some (K.ofNat 22)), none, .iads 2 (.t (K.ofNat 18)) (.t (K.ofNat 20))⟩, ⟨(some (K.ofNat 23)), none, .ldn 2 (.t (K.ofNat 22))⟩, ⟨(some (K.ofNat 7)), none, .alloc 2 [(.i .i64 (.ofNat 0)), (.i .i64 (.ofNat 0))]⟩, ⟨none, none, .st 2 (.t (K.ofNat 7)) (.t (K.ofNat 23))⟩]
noncomputable def f60_r8 : List Stage := [⟨[⟨(some (K.ofNat 24)), none, .mv (.t (K.ofNat 3))⟩, ⟨(some (K.ofNat 25)), none, .mv (.t (K.ofNat 4))⟩, ⟨(some (K.ofNat 26)), none, .mv (.t (K.ofNat 3))⟩, ⟨(some (K.ofNat 27)), none, .mv (.t (K.ofNat 4))⟩, ⟨(some (K.ofNat 28)), none, .iads 1 (.t (K.ofNat 26)) (.t (K.ofNat 27))⟩, ⟨(some (K.ofNat 29)), none, .ld (.t (K.ofNat 28))⟩, ⟨(some (K.ofNat 30)), none, .fadr 0 (.t (K.ofNat 7))⟩, ⟨(some (K.ofNat 31)), none, .ld (.t (K.ofNat 30))⟩, ⟨(some (K.ofNat 32)), none, .fadr 1 (.t (K.ofNat 7))⟩, ⟨(some (K.ofNat 33)), none, .ld (.t (K.ofNat 32))⟩, ⟨(some (K.ofNat 34)), none, .build [(.i .i64 (.ofNat 0)), (.i .i64 (.ofNat 0))] [(0, 1, (.t (K.ofNat 31))), (1, 1, (.t (K.ofNat 33)))]⟩, ⟨(some (K.ofNat 35)), none, .bslice 1 2 [(.i .i64 (.ofNat 0)), (.i .i64 (.ofNat 0))] [(0, 2, (.t (K.ofNat 34)))]⟩], [], (some ⟨(some (K.ofNat 36)), none, .app 2 (.t (K.ofNat 29)) (.t (K.ofNat 35))⟩), [(K.ofNat 35)]⟩, ⟨[⟨(some (K.ofNat 37)), none, .iads 1 (.t (K.ofNat 24)) (.t (K.ofNat 25))⟩], [⟨(some (K.ofNat 24)), none, .mv (.t (K.ofNat 3))⟩, ⟨(some (K.ofNat 25)), none, .mv (.t (K.ofNat 4))⟩], (some ⟨none, none, .st 1 (.t (K.ofNat 37)) (.t (K.ofNat 36))⟩), []⟩, ⟨[], [], none, []⟩]
noncomputable def f60_r9 : List EOper := [⟨(some (K.ofNat 38)), none, .bin .add (.t (K.ofNat 20)) (.c (.i .i64 (.ofNat 1)))⟩, ⟨(some (K.ofNat 20)), none, .mv (.t (K.ofNat 38))⟩]
noncomputable def f60_l0 : EC := (.seq (.reg f60_r6) (.seq (.cond (.t (K.ofNat 21)) .skip (.exit 2)) (.seq (.block 3 (.seq (.reg f60_r7) (.draw f60_r8))) (.reg f60_r9))))
noncomputable def f60_r10 : List EOper := [⟨(some (K.ofNat 39)), none, .bin .add (.t (K.ofNat 13)) (.c (.i .i64 (.ofNat 1)))⟩, ⟨(some (K.ofNat 13)), none, .mv (.t (K.ofNat 39))⟩]
noncomputable def f60_l1 : EC := (.seq (.reg f60_r3) (.seq (.cond (.t (K.ofNat 14)) .skip (.exit 0)) (.seq (.block 1 (.seq (.reg f60_r4) (.seq (.reg f60_r5) (.block 2 (.loop f60_l0))))) (.reg f60_r10))))
noncomputable def f60_r11 : List EOper := [⟨(some (K.ofNat 40)), none, .mv (.t (K.ofNat 3))⟩, ⟨(some (K.ofNat 2)), none, .as (.t (K.ofNat 40))⟩]
noncomputable def f60_c : EC := (.seq (.reg f60_r0) (.seq (.reg f60_r1) (.seq (.seq (.reg f60_r2) (.block 0 (.loop f60_l1))) (.seq (.reg f60_r11) .ret))))
noncomputable def f60 : EF := ⟨41, [.tmp (K.ofNat 2)], f60_c, none⟩
theorem f60_rs : f60.rs = [.tmp (K.ofNat 2)] := of_eq_true (eq_self _)
section
variable {fs : T EF} {h : H} {v w : V} {us : List V} {Ls : List (List (Int × Int))} {M : List Int}
theorem tb_len {α : Type} {f : Nat → α} {d : α} {n i : Nat} : (tbL f d n i).length = n := by simp [tbL]
theorem tb_first {α : Type} {f : Nat → α} {d : α} {n i : Nat} (hi : i < n) : (tbL f d n i).set i d = tbL f d n i := by
  have : (tbL f d n i)[i]'(by rw [tb_len]; exact hi) = d := by rw [tb_at, if_neg (by omega)]
  apply List.ext_getElem
  · simp
  · intro x h1 h2
    rw [List.getElem_set]
    split
    · rename_i e; subst e; exact this.symm
    · rfl
structure Rows (h : H) (h1 : H) (w : V) (xs : List V) (Q : List (List (Int × Int))) : Prop where
  sd : Sld h1 w xs Q
  ow : Own h.nx.nat w
  ox : ∀ x ∈ xs, Own h.nx.nat x
  gr : Grow h.nx.nat h h1
def rwF (Ls : List (List (Int × Int))) (x : Nat) : List (Int × Int) := Ls.getD x []
def f60_I (h : H) (v : V) (Ls : List (List (Int × Int))) (i : Nat) (fr : Fr) (h1 : H) : Prop := i ≤ Ls.length ∧ ∃ w xs, Rows h h1 w xs (tbL (rwF Ls) [] Ls.length i) ∧ fr.get (K.ofNat 3) = some (w) ∧ fr.get (K.ofNat 11) = some (v) ∧ fr.get (K.ofNat 12) = some (.i .i64 (Ls.length : Int)) ∧ fr.get (K.ofNat 13) = some (.i .i64 (i : Int))
def f60_J (h : H) (v u : V) (Ls : List (List (Int × Int))) (l : List (Int × Int)) (i j : Nat) (fr : Fr) (h1 : H) : Prop := j ≤ l.length ∧ ∃ w xs, Rows h h1 w xs ((tbL (rwF Ls) [] Ls.length i).set i (l.take j)) ∧ fr.get (K.ofNat 3) = some (w) ∧ fr.get (K.ofNat 4) = some (.i .i64 (i : Int)) ∧ fr.get (K.ofNat 11) = some (v) ∧ fr.get (K.ofNat 12) = some (.i .i64 (Ls.length : Int)) ∧ fr.get (K.ofNat 13) = some (.i .i64 (i : Int)) ∧ fr.get (K.ofNat 18) = some (u) ∧ fr.get (K.ofNat 19) = some (.i .i64 (l.length : Int)) ∧ fr.get (K.ofNat 20) = some (.i .i64 (j : Int))
theorem f60_ret (hv : Nrp h v us Ls) (hF : Ls.length ≤ 1000 ∧ ∀ l ∈ Ls, l.length ≤ 1000) (hc : HC h) : Ret fs f60 [v] h fun r h' => ∃ xs, Nrp h' r xs Ls ∧ Grow h.nx.nat h h' := by
  have hlen : ∀ h1, lenV v h1 = .ok (.i .i64 (Ls.length : Int)) h1 := fun h1 => by rw [hv.out.len, hv.len]
  have hL := hF.1
  apply ret_of rfl
  show W fs none f60_c _ _ _
  unfold f60_c
  have hmk := mks_sn (h := h) (k := .i64) (n := Ls.length) (by omega)
  have hs0 := Sld.empty (h := h) (n := Ls.length)
  have gD := Grow.new (Nat.le_refl h.nx.nat) (.cells (Ls.length * 1) (rep [.sn] Ls.length))
  rw [← tb_nil (f := rwF Ls)] at hs0
  simp (disch := omega) only [f60_r0, f60_r1, f60_r2, w_reg, w_seq, w_block, seqK_n, x_nil, x_mv, x_as, x_mks, x_len, kx, rvP_ok, ev_t, ev_c, getV_some, putD_some, frame_1, of0, getK_set, Nat.reduceEqDiff, ↓reduceIte, hlen, hmk]
  refine W_loop (f60_I h v Ls) (fun i => Ls.length - i) ?_ 0 ⟨by omega, .sl h.nx 0 Ls.length 1, _, ⟨hs0, (fun _ _ _ _ e => (by cases e; exact Nat.le_refl _)), (fun x hx id off n sz e => (by rw [(List.mem_replicate.1 hx).2] at e; cases e)), gD⟩, by simp (disch := omega) only [getK_set, Nat.reduceEqDiff, ↓reduceIte, and_self, Int.natCast_zero]⟩
  clear hmk hs0 gD
  rintro i fr h1 ⟨hi, w, xs, hR, g3, g11, g12, g13⟩
  have hv1 := hv.grow hc hR.gr
  unfold f60_l1
  by_cases hlt : i < Ls.length
  · have d0 : decide ((i : Int) < (Ls.length : Int)) = true := by simpa using hlt
    have hiu : i < us.length := by rw [hv.len]; exact hlt
    obtain ⟨p, hp1, hp2'⟩ := hv1.out.at i hiu
    have hp2 : loadV h1 p one? = .ok us[i] h1 := hp2'
    clear hp2'
    have hui := hv.inn i hiu hlt
    have hl := hF.2 Ls[i] (List.getElem_mem hlt)
    have hFi : rwF Ls i = Ls[i] := by unfold rwF; rw [List.getD_eq_getElem?_getD, List.getElem?_eq_getElem hlt]; rfl
    generalize us[i] = u at *
    generalize Ls[i] = l at *
    have hlu := hui.len
    simp (disch := omega) only [f60_r3, f60_r4, f60_r5, w_skip, w_reg, w_seq, w_cond, w_block, seqK_n, ckB_b, cbB_b, true_and, x_nil, x_mv, x_as, x_ld, x_bin, x_iads, x_len, kx, rvP_ok, okv_some, ev_t, ev_c, getV_some, putD_some, bin_lss, of0, getK_set, Nat.reduceEqDiff, ↓reduceIte, g11, g12, g13, d0, hp1, hp2, hlu]
    refine W_loop (f60_J h v u Ls l i) (fun j => l.length - j) ?_ 0 ⟨by omega, w, xs, by rw [List.take_zero, tb_first hlt]; exact hR, by simp (disch := omega) only [getK_set, Nat.reduceEqDiff, ↓reduceIte, g3, g11, g12, g13, and_self, Int.natCast_zero]⟩
    clear hR g3 g11 g12 g13 fr hp1 hp2 hv1
    clear w xs
    rintro j fr h2 ⟨hj, w, xs, hR, g3, g4, g11, g12, g13, g18, g19, g20⟩
    have hc2 := hR.gr.hc hc
    unfold f60_l0
    by_cases hlt2 : j < l.length
    · have d1 : decide ((j : Int) < (l.length : Int)) = true := by simpa using hlt2
      have hu2 := hui.grow hc hR.gr
      obtain ⟨ida, a, ha1, ha2, _, _⟩ := hu2.at2 hlt2
      have htk := List.take_succ_eq_append_getElem hlt2
      generalize l[j] = e at *
      have hst2 : storeV (h2.new (.cells 2 zz)) 2 (.p h2.nx 0) (.agg [.i .i64 e.1, .i .i64 e.2]) = .ok undefV ((h2.new (.cells 2 zz)).put h2.nx (.cells 2 [.i .i64 e.1, .i .i64 e.2])) := st2 (a := .i .i64 (.ofNat 0)) (b := .i .i64 (.ofNat 0)) get_new_same
      have nx1 := nx_new h2 (.cells 2 zz)
      have gB : Grow h2.nx.nat h2 ((h2.new (.cells 2 zz)).put h2.nx (.cells 2 [.i .i64 e.1, .i .i64 e.2])) := (Grow.new (Nat.le_refl _) _).trans (Grow.put (Nat.le_refl _) (by omega) _)
      have c7 : ((h2.new (.cells 2 zz)).put h2.nx (.cells 2 [.i .i64 e.1, .i .i64 e.2])).get h2.nx = .cells 2 [.i .i64 e.1, .i .i64 e.2] := get_put_same
      have hzz : ([.i .i64 0, .i .i64 0] : List V) = zz := rfl
      generalize (h2.new (.cells 2 zz)).put h2.nx (.cells 2 [.i .i64 e.1, .i .i64 e.2]) = h3 at *
      have hc3 := gB.hc hc2
      have l0 : loadV h3 (.p h2.nx (0 + 0)) one? = .ok (.i .i64 e.1) h3 := load_p c7 rfl
      have l1 : loadV h3 (.p h2.nx (0 + 1)) one? = .ok (.i .i64 e.2) h3 := load_p c7 rfl
      have hs3 := hR.sd.grow hc2 gB
      have hgr3 := hR.gr.trans (gB.low hR.gr.nx)
      have hQl : ((tbL (rwF Ls) [] Ls.length i).set i (l.take j)).length = Ls.length := by rw [List.length_set, tb_len]
      have hQi : ((tbL (rwF Ls) [] Ls.length i).set i (l.take j))[i]'(by rw [hQl]; exact hlt) = l.take j := List.getElem_set_self _
      obtain ⟨u', h4, p, id, m, cs', a1, b1, b2, b3, b4, b5, b6, _⟩ := hs3.row hR.ow hR.ox hgr3.nx hc3 (i := i) (by rw [hs3.len, hQl]; exact hlt) (by rw [hQl]; exact hlt) (x := e) (by rw [hQi]; simp; omega)
      rw [hQi, List.set_set, ← htk] at b4
      have hwb := hs3.out.sr.beq
      have ha2 : loadV h2 (.p ida a) (many? 2) = .ok (.agg [.i .i64 e.1, .i .i64 e.2]) h2 := ha2
      simp (disch := omega) only [f60_r6, f60_r7, f60_r8, w_skip, w_reg, w_draw, w_seq, w_cond, w_block, seqK_n, ckB_b, cbB_b, true_and, x_nil, x_alloc, x_ldn, x_st, x_bin, x_iads, kx, kg, xg_mv, xg_build, xg_ld, xg_fadr, xg_iads, xd_cons, rvP_ok, okv_some, ev_t, getV_some, putD_some, putD_none, bin_lss, onP_p, of0, getK_set, Nat.reduceEqDiff, ↓reduceIte, g3, g4, g18, g19, g20, d1, ha1, ha2, hzz, hst2, b1, b2, l0, l1]
      rw [← hzz]
      simp (disch := omega) only [true_and, x_app, kg, xg_nil, xg_bslice, stK_s, stay_nil, rvP_ok, ev_t, getV_some, putD_some, oGet_s, cells1_i, Option.some.injEq, exists_eq_left', getK_set, Nat.reduceEqDiff, ↓reduceIte, fill_2, set_2, cells2, fill_2, set_2, cells2, fill_p2, set_p2, hc3.dead]
      refine ⟨fresh_one (n := 1) (sz := 2) (by simp (disch := omega) only [getK_set, ↓reduceIte]), ?_⟩
      simp (disch := omega) only [f60_r9, w_reg, seqK_n, atK_n, loopK_n, true_and, x_nil, x_mv, x_st, x_bin, kx, kg, xg_nil, xg_iads, xd_cons, fresh_nil, stK_n, stK_s, stay_nil, stay_cons, stay_mv, beq_i, rvP_ok, okv_some, ev_t, ev_c, getV_some, putD_some, putD_none, bin_add, of1, getK_set, Nat.reduceEqDiff, ↓reduceIte, g3, g4, g20, a1, b1, b3, hwb, beq_i, fw64]
      exact ⟨j + 1, by omega, by omega, w, _, ⟨b4, hR.ow, b5, hgr3.trans b6⟩, by simp (disch := omega) only [getK_set, Nat.reduceEqDiff, ↓reduceIte, g3, g4, g11, g12, g13, g18, g19, and_self, Int.natCast_add, Int.natCast_one]⟩
    · have d1 : decide ((j : Int) < (l.length : Int)) = false := by simpa using hlt2
      have ej : j = l.length := by omega
      rw [ej, List.take_length, ← hFi, tb_set] at hR
      simp (disch := omega) only [f60_r6, f60_r10, w_reg, w_seq, w_cond, w_exit, seqK_n, seqK_e, atK_n, atK_e, loopK_n, loopK_e, ckB_b, cbB_b, true_and, x_nil, x_mv, x_bin, kx, rvP_ok, okv_some, ev_t, ev_c, getV_some, putD_some, bin_add, bin_lss, of1, getK_set, Nat.reduceEqDiff, ↓reduceIte, Bool.false_eq_true, g13, g19, g20, d1, fw64]
      exact ⟨i + 1, by omega, by omega, w, xs, hR, by simp (disch := omega) only [getK_set, Nat.reduceEqDiff, ↓reduceIte, g3, g11, g12, and_self, Int.natCast_add, Int.natCast_one]⟩
  · have d0 : decide ((i : Int) < (Ls.length : Int)) = false := by simpa using hlt
    have ei : i = Ls.length := by omega
    have hall : tbL (rwF Ls) [] Ls.length Ls.length = Ls := by
      rw [tb_all]
      apply List.ext_getElem
      · simp
      · intro x h1 h2
        simp only [List.getElem_map, List.getElem_range, rwF, List.getD_eq_getElem?_getD, List.getElem?_eq_getElem h2, Option.getD_some]
    rw [ei, hall] at hR
    simp (disch := omega) only [f60_r3, f60_r11, f60_rs, w_reg, w_seq, w_cond, w_exit, w_ret, seqK_n, seqK_e, atK_e, loopK_e, ckB_b, cbB_b, true_and, retK_r, x_nil, x_mv, x_as, x_bin, kx, rvP_ok, okv_some, ev_t, getV_some, putD_some, bin_lss, oGet_s, readRs_nil, readRs_t, retV_1, Option.some.injEq, exists_eq_left', getK_set, Nat.reduceEqDiff, ↓reduceIte, Bool.false_eq_true, g3, g12, g13, d0]
    exact ⟨xs, hR.sd.nrp, hR.gr⟩
end
end Go.Ev
namespace Go.Ev
open Go Go.RowKit
noncomputable def f62_r0 : List EOper := [⟨(some (K.ofNat 4)), none, .as (.c .sn)⟩]
noncomputable def f62_r1 : List EOper := [⟨(some (K.ofNat 10)), none, .mv (.t (K.ofNat 0))⟩, ⟨(some (K.ofNat 11)), none, .len (.t (K.ofNat 10))⟩, ⟨(some (K.ofNat 12)), none, .mkslice 1 [.sn] (.t (K.ofNat 11))⟩, ⟨(some (K.ofNat 5)), none, .as (.t (K.ofNat 12))⟩]
noncomputable def f62_r2 : List EOper := [⟨(some (K.ofNat 13)), none, .mv (.t (K.ofNat 0))⟩, ⟨(some (K.ofNat 14)), none, .len (.t (K.ofNat 13))⟩, ⟨(some (K.ofNat 15)), none, .mv (.c (.i .i64 (.ofNat 0)))⟩]
noncomputable def f62_r3 : List EOper := [⟨(some (K.ofNat 16)), none, .bin .lss (.t (K.ofNat 15)) (.t (K.ofNat 14))⟩]
noncomputable def f62_r4 : List EOper := [⟨(some (K.ofNat 17)), none, .mv (.t (K.ofNat 15))⟩, ⟨(some (K.ofNat 18)), none, .iads 1 (.t (K.ofNat 13)) (.t (K.ofNat 15))⟩, ⟨(some (K.ofNat 19)), none, .ld (.t (K.ofNat 18))⟩, ⟨(some (K.ofNat 6)), none, .as (.t (K.ofNat 17))⟩, ⟨(some (K.ofNat 7)), none, .as (.t (K.ofNat 19))⟩]
noncomputable def f62_r5 : List EOper := [⟨(some (K.ofNat 20)), none, .mv (.t (K.ofNat 7))⟩, ⟨(some (K.ofNat 21)), none, .len (.t (K.ofNat 20))⟩, ⟨(some (K.ofNat 22)), none, .mv (.c (.i .i64 (.ofNat 0)))⟩]
noncomputable def f62_r6 : List EOper := [⟨(some (K.ofNat 23)), none, .bin .lss (.t (K.ofNat 22)) (.t (K.ofNat 21))⟩]
noncomputable def f62_r7 : List EOper := [⟨(some (K.ofNat 24)), none, .iads 2 (.t (K.ofNat 20)) (.t (K.ofNat 22))⟩, ⟨(some (K.ofNat 25)), none, .ldn 2 (.t (K.ofNat 24))⟩, ⟨(some (K.ofNat 9)), none, .alloc 2 [(.i .i64 (.ofNat 0)), (.i .i64 (.ofNat 0))]⟩, ⟨none, none, .st 2 (.t (K.ofNat 9)) (.t (K.ofNat 25))⟩]
noncomputable def f62_r8 : List Stage := [⟨[⟨(some (K.ofNat 26)), none, .mv (.t (K.ofNat 5))⟩, ⟨(some (K.ofNat 27)), none, .mv (.t (K.ofNat 6))⟩, ⟨(some (K.ofNat 28)), none, .mv (.t (K.ofNat 5))⟩, ⟨(some (K.ofNat 29)), none, .mv (.t (K.ofNat 6))⟩, ⟨(some (K.ofNat 30)), none, .iads 1 (.t (K.ofNat 28)) (.t (K.ofNat 29))⟩, ⟨(some (K.ofNat 31)), none, .ld (.t (K.ofNat 30))⟩, ⟨(some (K.ofNat 32)), none, .mv (.t (K.ofNat 1))⟩, ⟨(some (K.ofNat 33)), none, .fadr 0 (.t (K.ofNat 9))⟩, ⟨(some (K.ofNat 34)), none, .ld (.t (K.ofNat 33))⟩, ⟨(some (K.ofNat 35)), none, .iads 1 (.t (K.ofNat 32)) (.t (K.ofNat 34))⟩, ⟨(some (K.ofNat 36)), none, .ld (.t (K.ofNat 35))⟩, ⟨(some (K.ofNat 37)), none, .mv (.t (K.ofNat 1))⟩, ⟨(some (K.ofNat 38)), none, .fadr 1 (.t (K.ofNat 9))⟩, ⟨(some (K.ofNat 39)), none, .ld (.t (K.ofNat 38))⟩, ⟨(some (K.ofNat 40)), none, .iads 1 (.t (K.ofNat 37)) (.t (K.ofNat 39))⟩, ⟨(some (K.ofNat 41)), none, .ld (.t (K.ofNat 40))⟩, ⟨(some (K.ofNat 42)), none, .build [(.i .i64 (.ofNat 0)), (.i .i64 (.ofNat 0))] [(0, 1, (.t (K.ofNat 36))), (1, 1, (.t (K.ofNat 41)))]⟩, ⟨(some (K.ofNat 43)), none, .bslice 1 2 [(.i .i64 (.ofNat 0)), (.i .i64 (.ofNat 0))] [(0, 2, (.t (K.ofNat 42)))]⟩], [], (some ⟨(some (K.ofNat 44)), none, .app 2 (.t (K.ofNat 31)) (.t (K.ofNat 43))⟩), [(K.ofNat 43)]⟩, ⟨[⟨(some (K.ofNat 45)), none, .iads 1 (.t (K.ofNat 26)) (.t (K.ofNat 27))⟩], [⟨(some (K.ofNat 26)), none, .mv (.t (K.ofNat 5))⟩, ⟨(some (K.ofNat 27)), none, .mv (.t (K.ofNat 6))⟩], (some ⟨none, none, .st 1 (.t (K.ofNat 45)) (.t (K.ofNat 44))⟩), []⟩, ⟨[], [], none, []⟩]
noncomputable def f62_r9 : List EOper := [⟨(some (K.ofNat 46)), none, .bin .add (.t (K.ofNat 22)) (.c (.i .i64 (.ofNat 1)))⟩, ⟨(some (K.ofNat 22)), none, .mv (.t (K.ofNat 46))⟩]
noncomputable def f62_l0 : EC := (.seq (.reg f62_r6) (.seq (.cond (.t (K.ofNat 23)) .skip (.exit 2)) (.seq (.block 3 (.seq (.reg f62_r7) (.draw f62_r8))) (.reg f62_r9))))
noncomputable def f62_r10 : List EOper := [⟨(some (K.ofNat 47)), none, .bin .add (.t (K.ofNat 15)) (.c (.i .i64 (.ofNat 1)))⟩, ⟨(some (K.ofNat 15)), none, .mv (.t (K.ofNat 47))⟩]
noncomputable def f62_l1 : EC := (.seq (.reg f62_r3) (.seq (.cond (.t (K.ofNat 16)) .skip (.exit 0)) (.seq (.block 1 (.seq (.reg f62_r4) (.seq (.reg f62_r5) (.block 2 (.loop f62_l0))))) (.reg f62_r10))))
noncomputable def f62_r11 : List EOper := [⟨(some (K.ofNat 48)), none, .mv (.t (K.ofNat 5))⟩, ⟨(some (K.ofNat 4)), none, .as (.t (K.ofNat 48))⟩]
noncomputable def f62_c : EC := (.seq (.reg f62_r0) (.seq (.reg f62_r1) (.seq (.seq (.reg f62_r2) (.block 0 (.loop f62_l1))) (.seq (.reg f62_r11) .ret))))
noncomputable def f62 : EF := ⟨49, [.tmp (K.ofNat 4)], f62_c, none⟩
theorem f62_rs : f62.rs = [.tmp (K.ofNat 4)] := of_eq_true (eq_self _)
section
variable {fs : T EF} {h : H} {v w : V} {us : List V} {Ls : List (List (Int × Int))} {M : List Int}
def rnF (M : List Int) (Ls : List (List (Int × Int))) (x : Nat) : List (Int × Int) := renR M (Ls.getD x [])
def f62_I (h : H) (v wm : V) (M : List Int) (Ls : List (List (Int × Int))) (i : Nat) (fr : Fr) (h1 : H) : Prop := i ≤ Ls.length ∧ ∃ w xs, Rows h h1 w xs (tbL (rnF M Ls) [] Ls.length i) ∧ fr.get (K.ofNat 1) = some (wm) ∧ fr.get (K.ofNat 5) = some (w) ∧ fr.get (K.ofNat 13) = some (v) ∧ fr.get (K.ofNat 14) = some (.i .i64 (Ls.length : Int)) ∧ fr.get (K.ofNat 15) = some (.i .i64 (i : Int))
def f62_J (h : H) (v wm u : V) (M : List Int) (Ls : List (List (Int × Int))) (l : List (Int × Int)) (i j : Nat) (fr : Fr) (h1 : H) : Prop := j ≤ l.length ∧ ∃ w xs, Rows h h1 w xs ((tbL (rnF M Ls) [] Ls.length i).set i (renR M (l.take j))) ∧ fr.get (K.ofNat 1) = some (wm) ∧ fr.get (K.ofNat 5) = some (w) ∧ fr.get (K.ofNat 6) = some (.i .i64 (i : Int)) ∧ fr.get (K.ofNat 13) = some (v) ∧ fr.get (K.ofNat 14) = some (.i .i64 (Ls.length : Int)) ∧ fr.get (K.ofNat 15) = some (.i .i64 (i : Int)) ∧ fr.get (K.ofNat 20) = some (u) ∧ fr.get (K.ofNat 21) = some (.i .i64 (l.length : Int)) ∧ fr.get (K.ofNat 22) = some (.i .i64 (j : Int))
theorem f62_ret {wm : V} (hv : Nrp h v us Ls) (hw : Rd h wm M) (hI : InN M.length Ls) (hF : Ls.length ≤ 1000 ∧ ∀ l ∈ Ls, l.length ≤ 1000) (hc : HC h) : Ret fs f62 [v, wm] h fun r h' => ∃ xs, Nrp h' r xs (renS M Ls) ∧ Grow h.nx.nat h h' := by
  have hlen : ∀ h1, lenV v h1 = .ok (.i .i64 (Ls.length : Int)) h1 := fun h1 => by rw [hv.out.len, hv.len]
  have hL := hF.1
  apply ret_of rfl
  show W fs none f62_c _ _ _
  unfold f62_c
  have hmk := mks_sn (h := h) (k := .i64) (n := Ls.length) (by omega)
  have hs0 := Sld.empty (h := h) (n := Ls.length)
  have gD := Grow.new (Nat.le_refl h.nx.nat) (.cells (Ls.length * 1) (rep [.sn] Ls.length))
  rw [← tb_nil (f := rnF M Ls)] at hs0
  simp (disch := omega) only [f62_r0, f62_r1, f62_r2, w_reg, w_seq, w_block, seqK_n, x_nil, x_mv, x_as, x_mks, x_len, kx, rvP_ok, ev_t, ev_c, getV_some, putD_some, frame_2, of0, getK_set, Nat.reduceEqDiff, ↓reduceIte, hlen, hmk]
  refine W_loop (f62_I h v wm M Ls) (fun i => Ls.length - i) ?_ 0 ⟨by omega, .sl h.nx 0 Ls.length 1, _, ⟨hs0, (fun _ _ _ _ e => (by cases e; exact Nat.le_refl _)), (fun x hx id off n sz e => (by rw [(List.mem_replicate.1 hx).2] at e; cases e)), gD⟩, by simp (disch := omega) only [getK_set, Nat.reduceEqDiff, ↓reduceIte, and_self, Int.natCast_zero]⟩
  clear hmk hs0 gD
  rintro i fr h1 ⟨hi, w, xs, hR, g1, g5, g13, g14, g15⟩
  have hv1 := hv.grow hc hR.gr
  unfold f62_l1
  by_cases hlt : i < Ls.length
  · have d0 : decide ((i : Int) < (Ls.length : Int)) = true := by simpa using hlt
    have hiu : i < us.length := by rw [hv.len]; exact hlt
    obtain ⟨p, hp1, hp2'⟩ := hv1.out.at i hiu
    have hp2 : loadV h1 p one? = .ok us[i] h1 := hp2'
    clear hp2'
    have hui := hv.inn i hiu hlt
    have hl := hF.2 Ls[i] (List.getElem_mem hlt)
    have hIi := hI Ls[i] (List.getElem_mem hlt)
    have hFi : rnF M Ls i = renR M Ls[i] := by unfold rnF; rw [List.getD_eq_getElem?_getD, List.getElem?_eq_getElem hlt]; rfl
    generalize us[i] = u at *
    generalize Ls[i] = l at *
    have hlu := hui.len
    simp (disch := omega) only [f62_r3, f62_r4, f62_r5, w_skip, w_reg, w_seq, w_cond, w_block, seqK_n, ckB_b, cbB_b, true_and, x_nil, x_mv, x_as, x_ld, x_bin, x_iads, x_len, kx, rvP_ok, okv_some, ev_t, ev_c, getV_some, putD_some, bin_lss, of0, getK_set, Nat.reduceEqDiff, ↓reduceIte, g13, g14, g15, d0, hp1, hp2, hlu]
    refine W_loop (f62_J h v wm u M Ls l i) (fun j => l.length - j) ?_ 0 ⟨by omega, w, xs, by rw [List.take_zero, show renR M [] = [] from rfl, tb_first hlt]; exact hR, by simp (disch := omega) only [getK_set, Nat.reduceEqDiff, ↓reduceIte, g1, g5, g13, g14, g15, and_self, Int.natCast_zero]⟩
    clear hR g1 g5 g13 g14 g15 fr hp1 hp2 hv1
    clear w xs
    rintro j fr h2 ⟨hj, w, xs, hR, g1, g5, g6, g13, g14, g15, g20, g21, g22⟩
    have hc2 := hR.gr.hc hc
    unfold f62_l0
    by_cases hlt2 : j < l.length
    · have d1 : decide ((j : Int) < (l.length : Int)) = true := by simpa using hlt2
      have hu2 := hui.grow hc hR.gr
      obtain ⟨ida, a, ha1, ha2, _, _⟩ := hu2.at2 hlt2
      obtain ⟨r1, r2, r3, r4⟩ := hIi l[j] (List.getElem_mem hlt2)
      have htk : renR M (l.take (j + 1)) = renR M (l.take j) ++ [(M.getD l[j].1.toNat 0, M.getD l[j].2.toNat 0)] := by unfold renR; rw [List.take_succ_eq_append_getElem hlt2, List.map_append]; rfl
      generalize l[j] = e at *
      have w1 : e.1.toNat < M.length := by omega
      have w2 : e.2.toNat < M.length := by omega
      have hst2 : storeV (h2.new (.cells 2 zz)) 2 (.p h2.nx 0) (.agg [.i .i64 e.1, .i .i64 e.2]) = .ok undefV ((h2.new (.cells 2 zz)).put h2.nx (.cells 2 [.i .i64 e.1, .i .i64 e.2])) := st2 (a := .i .i64 (.ofNat 0)) (b := .i .i64 (.ofNat 0)) get_new_same
      have nx1 := nx_new h2 (.cells 2 zz)
      have gB : Grow h2.nx.nat h2 ((h2.new (.cells 2 zz)).put h2.nx (.cells 2 [.i .i64 e.1, .i .i64 e.2])) := (Grow.new (Nat.le_refl _) _).trans (Grow.put (Nat.le_refl _) (by omega) _)
      have c7 : ((h2.new (.cells 2 zz)).put h2.nx (.cells 2 [.i .i64 e.1, .i .i64 e.2])).get h2.nx = .cells 2 [.i .i64 e.1, .i .i64 e.2] := get_put_same
      have hzz : ([.i .i64 0, .i .i64 0] : List V) = zz := rfl
      generalize (h2.new (.cells 2 zz)).put h2.nx (.cells 2 [.i .i64 e.1, .i .i64 e.2]) = h3 at *
      have hc3 := gB.hc hc2
      have l0 : loadV h3 (.p h2.nx (0 + 0)) one? = .ok (.i .i64 e.1) h3 := load_p c7 rfl
      have l1 : loadV h3 (.p h2.nx (0 + 1)) one? = .ok (.i .i64 e.2) h3 := load_p c7 rfl
      have hs3 := hR.sd.grow hc2 gB
      have hgr3 := hR.gr.trans (gB.low hR.gr.nx)
      have hQl : ((tbL (rnF M Ls) [] Ls.length i).set i (renR M (l.take j))).length = Ls.length := by rw [List.length_set, tb_len]
      have hQi : ((tbL (rnF M Ls) [] Ls.length i).set i (renR M (l.take j)))[i]'(by rw [hQl]; exact hlt) = renR M (l.take j) := List.getElem_set_self _
      obtain ⟨u', h4, p, id, m, cs', a1, b1, b2, b3, b4, b5, b6, _⟩ := hs3.row hR.ow hR.ox hgr3.nx hc3 (i := i) (by rw [hs3.len, hQl]; exact hlt) (by rw [hQl]; exact hlt) (x := (M.getD e.1.toNat 0, M.getD e.2.toNat 0)) (by rw [hQi]; unfold renR; simp; omega)
      rw [hQi, List.set_set, ← htk] at b4
      have hwb := hs3.out.sr.beq
      have hw3 := hw.grow hc hgr3
      obtain ⟨pa, wa1, wa2⟩ := hw3.at e.1.toNat w1
      obtain ⟨pb, wb1, wb2⟩ := hw3.at e.2.toNat w2
      have e1 : ((e.1.toNat : Nat) : Int) = e.1 := by omega
      have e2 : ((e.2.toNat : Nat) : Int) = e.2 := by omega
      rw [e1] at wa1
      rw [e2] at wb1
      have m1 : M.getD e.1.toNat 0 = M[e.1.toNat] := by rw [List.getD_eq_getElem?_getD, List.getElem?_eq_getElem w1]; rfl
      have m2 : M.getD e.2.toNat 0 = M[e.2.toNat] := by rw [List.getD_eq_getElem?_getD, List.getElem?_eq_getElem w2]; rfl
      rw [← m1] at wa2
      rw [← m2] at wb2
      have a1 : appV 2 (h3.new (.cells (1 * 2) [.i .i64 (M.getD e.1.toNat 0), .i .i64 (M.getD e.2.toNat 0)])) (xs[i]'(by rw [hs3.len, hQl]; exact hlt)) (.sl h3.nx 0 1 2) = .ok u' h4 := a1
      have ha2 : loadV h2 (.p ida a) (many? 2) = .ok (.agg [.i .i64 e.1, .i .i64 e.2]) h2 := ha2
      simp (disch := omega) only [f62_r6, f62_r7, f62_r8, w_skip, w_reg, w_draw, w_seq, w_cond, w_block, seqK_n, ckB_b, cbB_b, true_and, x_nil, x_alloc, x_ldn, x_st, x_bin, x_iads, kx, kg, xg_mv, xg_build, xg_ld, xg_fadr, xg_iads, xd_cons, rvP_ok, okv_some, ev_t, getV_some, putD_some, putD_none, bin_lss, onP_p, of0, getK_set, Nat.reduceEqDiff, ↓reduceIte, g1, g5, g6, g20, g21, g22, d1, ha1, ha2, hzz, hst2, b1, b2, l0, l1, wa1, wa2, wb1, wb2, iE]
      rw [← hzz]
      simp (disch := omega) only [true_and, x_app, kg, xg_nil, xg_bslice, stK_s, stay_nil, rvP_ok, ev_t, getV_some, putD_some, oGet_s, cells1_i, Option.some.injEq, exists_eq_left', getK_set, Nat.reduceEqDiff, ↓reduceIte, fill_2, set_2, cells2, fill_2, set_2, cells2, fill_p2, set_p2, hc3.dead]
      refine ⟨fresh_one (n := 1) (sz := 2) (by simp (disch := omega) only [getK_set, ↓reduceIte]), ?_⟩
      simp (disch := omega) only [f62_r9, w_reg, seqK_n, atK_n, loopK_n, true_and, x_nil, x_mv, x_st, x_bin, kx, kg, xg_nil, xg_iads, xd_cons, fresh_nil, stK_n, stK_s, stay_nil, stay_cons, stay_mv, beq_i, rvP_ok, okv_some, ev_t, ev_c, getV_some, putD_some, putD_none, bin_add, of1, getK_set, Nat.reduceEqDiff, ↓reduceIte, g5, g6, g22, a1, b1, b3, hwb, beq_i, fw64]
      exact ⟨j + 1, by omega, by omega, w, _, ⟨b4, hR.ow, b5, hgr3.trans b6⟩, by simp (disch := omega) only [getK_set, Nat.reduceEqDiff, ↓reduceIte, g1, g5, g6, g13, g14, g15, g20, g21, and_self, Int.natCast_add, Int.natCast_one]⟩
    · have d1 : decide ((j : Int) < (l.length : Int)) = false := by simpa using hlt2
      have ej : j = l.length := by omega
      rw [ej, List.take_length, ← hFi, tb_set] at hR
      simp (disch := omega) only [f62_r6, f62_r10, w_reg, w_seq, w_cond, w_exit, seqK_n, seqK_e, atK_n, atK_e, loopK_n, loopK_e, ckB_b, cbB_b, true_and, x_nil, x_mv, x_bin, kx, rvP_ok, okv_some, ev_t, ev_c, getV_some, putD_some, bin_add, bin_lss, of1, getK_set, Nat.reduceEqDiff, ↓reduceIte, Bool.false_eq_true, g15, g21, g22, d1, fw64]
      exact ⟨i + 1, by omega, by omega, w, xs, hR, by simp (disch := omega) only [getK_set, Nat.reduceEqDiff, ↓reduceIte, g1, g5, g13, g14, and_self, Int.natCast_add, Int.natCast_one]⟩
  · have d0 : decide ((i : Int) < (Ls.length : Int)) = false := by simpa using hlt
    have ei : i = Ls.length := by omega
    have hall : tbL (rnF M Ls) [] Ls.length Ls.length = renS M Ls := by
      rw [tb_all]
      apply List.ext_getElem
      · simp [renS]
      · intro x h1 h2
        have hx : x < Ls.length := by simpa using h1
        have hr : (renS M Ls)[x] = renR M Ls[x] := by simp [renS]
        rw [hr, List.getElem_map, List.getElem_range]
        unfold rnF
        rw [List.getD_eq_getElem?_getD, List.getElem?_eq_getElem hx]; rfl
    rw [ei, hall] at hR
    simp (disch := omega) only [f62_r3, f62_r11, f62_rs, w_reg, w_seq, w_cond, w_exit, w_ret, seqK_n, seqK_e, atK_e, loopK_e, ckB_b, cbB_b, true_and, retK_r, x_nil, x_mv, x_as, x_bin, kx, rvP_ok, okv_some, ev_t, getV_some, putD_some, bin_lss, oGet_s, readRs_nil, readRs_t, retV_1, Option.some.injEq, exists_eq_left', getK_set, Nat.reduceEqDiff, ↓reduceIte, Bool.false_eq_true, g5, g14, g15, d0]
    exact ⟨xs, hR.sd.nrp, hR.gr⟩
end
end Go.Ev
namespace Go.Ev
open Go Go.RowKit
noncomputable def f24_r0 : List EOper := [⟨(some (K.ofNat 6)), none, .as (.c .sn)⟩, ⟨(some (K.ofNat 7)), none, .as (.c (.i .i64 (.ofNat 0)))⟩]
noncomputable def f24_r1 : List EOper := [⟨(some (K.ofNat 11)), none, .mv (.t (K.ofNat 0))⟩, ⟨(some (K.ofNat 12)), none, .mv (.t (K.ofNat 1))⟩, ⟨(some (K.ofNat 13)), none, .call (.c (.fn (K.ofNat 51) [])) [(.t (K.ofNat 11)), (.t (K.ofNat 12))]⟩, ⟨(some (K.ofNat 10)), none, .mv (.t (K.ofNat 13))⟩, ⟨(some (K.ofNat 14)), none, .ext (.t (K.ofNat 10)) 0⟩, ⟨(some (K.ofNat 15)), none, .ext (.t (K.ofNat 10)) 1⟩, ⟨(some (K.ofNat 8)), none, .as (.t (K.ofNat 14))⟩, ⟨(some (K.ofNat 9)), none, .as (.t (K.ofNat 15))⟩]
noncomputable def f24_r2 : List EOper := [⟨(some (K.ofNat 16)), none, .mv (.t (K.ofNat 9))⟩, ⟨(some (K.ofNat 17)), none, .bin .neq (.t (K.ofNat 16)) (.c (.i .i64 (.ofNat 0)))⟩]
noncomputable def f24_r3 : List EOper := [⟨(some (K.ofNat 18)), none, .mv (.t (K.ofNat 9))⟩, ⟨(some (K.ofNat 6)), none, .as (.c .sn)⟩, ⟨(some (K.ofNat 7)), none, .as (.t (K.ofNat 18))⟩]
noncomputable def f24_r4 : List EOper := [⟨(some (K.ofNat 19)), none, .mv (.t (K.ofNat 0))⟩, ⟨(some (K.ofNat 20)), none, .mv (.t (K.ofNat 2))⟩, ⟨(some (K.ofNat 21)), none, .call (.c (.fn (K.ofNat 61) [])) [(.t (K.ofNat 19)), (.t (K.ofNat 20))]⟩, ⟨(some (K.ofNat 22)), none, .not (.t (K.ofNat 21))⟩]
noncomputable def f24_r5 : List EOper := [⟨(some (K.ofNat 6)), none, .as (.c .sn)⟩, ⟨(some (K.ofNat 7)), none, .as (.c (.i .i64 (.ofNat 1)))⟩]
noncomputable def f24_r6 : List EOper := [⟨(some (K.ofNat 23)), none, .mv (.t (K.ofNat 8))⟩, ⟨(some (K.ofNat 24)), none, .mv (.t (K.ofNat 2))⟩, ⟨(some (K.ofNat 25)), none, .call (.c (.fn (K.ofNat 62) [])) [(.t (K.ofNat 23)), (.t (K.ofNat 24))]⟩, ⟨(some (K.ofNat 26)), none, .call (.c (.fn (K.ofNat 60) [])) [(.t (K.ofNat 25))]⟩, ⟨(some (K.ofNat 6)), none, .as (.t (K.ofNat 26))⟩, ⟨(some (K.ofNat 7)), none, .as (.c (.i .i64 (.ofNat 0)))⟩]
noncomputable def f24_c : EC := (.seq (.reg f24_r0) (.seq (.reg f24_r1) (.seq (.seq (.reg f24_r2) (.cond (.t (K.ofNat 17)) (.seq (.reg f24_r3) .ret) .skip)) (.seq (.seq (.reg f24_r4) (.cond (.t (K.ofNat 22)) (.seq (.reg f24_r5) .ret) .skip)) (.seq (.reg f24_r6) .ret)))))
noncomputable def f24 : EF := ⟨27, [.tmp (K.ofNat 6), .tmp (K.ofNat 7)], f24_c, none⟩
theorem f24_rs : f24.rs = [.tmp (K.ofNat 6), .tmp (K.ofNat 7)] := of_eq_true (eq_self _)
structure CallsRn (fs : T EF) : Prop extends CallsBk fs where
  c24 : fs.get (K.ofNat 24) = some f24
  c60 : fs.get (K.ofNat 60) = some f60
  c62 : fs.get (K.ofNat 62) = some f62
section
variable {fs : T EF} {h : H} {v wm : V} {us : List V} {Ls : List (List (Int × Int))} {M : List Int}
theorem f24_ret {n : Nat} (k : CallsRn fs) (hn : ok5 (n : Int)) (hv : Nrp h v us Ls) (hL2 : ∀ l ∈ Ls, l.length ≤ 9223372036854775807) (hsh : shB n Ls = true) (hw : Rd h wm M) (hM : M.length ≤ 1000000) (hc : HC h) : Ret fs f24 [.i .i64 (n : Int), v, wm] h fun r h' => ∃ u, r = .tup [u, .i .i64 (if aaB (n : Int) M = true then 0 else 1)] ∧ (if aaB (n : Int) M = true then ∃ xs, Nrp h' u xs (renS M Ls) else u = .sn) ∧ Grow h.nx.nat h h' := by
  have hn' := hn
  unfold ok5 at hn'
  apply ret_of rfl
  show W fs none f24_c _ _ _
  unfold f24_c
  simp (disch := omega) only [f24_r0, f24_r1, w_reg, w_seq, seqK_n, x_nil, x_mv, x_as, x_call, ev_t, ev_c, evs_nil, evs_cons, getV_some, putD_some, frame_3, of0, getK_set, Nat.reduceEqDiff, ↓reduceIte]
  refine (callP_0 (ef := f51) k.c51 rfl (f51_ret k.toCallsCh hn hv hL2 hc)).mono ?_
  rintro r h2 ⟨c, ws, rfl, hs, hG⟩
  rw [if_pos hsh] at hs ⊢
  obtain ⟨hs, _⟩ := hs
  have hc2 := hG.hc hc
  obtain ⟨hvd, hlen⟩ := sh_vld hsh
  have hfew := hvd.few (by omega) (by omega)
  have ne0 : decide ((0 : Int) ≠ 0) = false := rfl
  have hw2 := hw.grow hc hG
  simp (disch := omega) only [f24_r2, f24_r4, w_skip, w_reg, w_seq, w_cond, seqK_n, ckB_b, cbB_b, true_and, x_nil, x_mv, x_as, x_bin, x_ext, x_call, kx, rvP_ok, okv_some, ev_t, ev_c, evs_nil, evs_cons, getV_some, putD_some, bin_neq, onTup_t, nth0, nth1, of0, getK_set, Nat.reduceEqDiff, ↓reduceIte, Bool.false_eq_true, ne0]
  refine (callP_0 (ef := f61) k.c61 rfl (f61_ret (n := (n : Int)) k.toCallsAa (by omega) hw2 hM)).mono ?_
  rintro r h3 ⟨rfl, e3⟩
  rw [e3]
  clear e3 h3
  cases haa : aaB (n : Int) M with
  | false =>
    simp (disch := omega) only [f24_r5, f24_rs, w_reg, w_seq, w_cond, w_ret, seqK_n, seqK_r, ckB_b, cbB_b, true_and, retK_r, x_nil, x_as, x_not, kx, rvP_ok, ev_t, ev_c, getV_some, putD_some, onB_b, oGet_s, readRs_nil, readRs_t, retV_2, of1, Option.some.injEq, exists_eq_left', getK_set, Nat.reduceEqDiff, ↓reduceIte, Bool.false_eq_true, Bool.not_false, Bool.not_false]
    exact ⟨.sn, by simp, by simp, hG⟩
  | true =>
    have hMl : M.length = n := by
      unfold aaB at haa
      simp only [Bool.and_eq_true, decide_eq_true_iff] at haa
      omega
    have hI : InN M.length Ls := fun l hl e he => by
      have := rnd_e (hvd.rnd l hl) e he
      omega
    have hF : Ls.length ≤ 1000 ∧ ∀ l ∈ Ls, l.length ≤ 1000 := ⟨by omega, fun l hl => by have := (hfew.2 l hl).1; omega⟩
    simp (disch := omega) only [f24_r6, w_skip, w_reg, w_seq, w_cond, seqK_n, ckB_b, cbB_b, true_and, x_nil, x_mv, x_not, x_call, kx, rvP_ok, ev_t, ev_c, evs_nil, evs_cons, getV_some, putD_some, onB_b, of0, getK_set, Nat.reduceEqDiff, ↓reduceIte, Bool.false_eq_true, Bool.not_true, Bool.not_true]
    refine (callP_0 (ef := f62) k.c62 rfl (f62_ret hs.nrp hw2 hI hF hc2)).mono ?_
    rintro r h3 ⟨xs, hx, hG3⟩
    have hGa := hG.trans (hG3.low hG.nx)
    simp (disch := omega) only [x_call, kx, ev_t, ev_c, evs_nil, evs_cons, getV_some, putD_some, getK_set, ↓reduceIte]
    refine (callP_0 (ef := f60) k.c60 rfl (f60_ret hx ⟨by simp [renS]; omega, fun l hl => by
      obtain ⟨l', h1, rfl⟩ := List.mem_map.1 hl
      unfold renR
      rw [List.length_map]
      exact hF.2 l' h1⟩ (hGa.hc hc))).mono ?_
    rintro r4 h4 ⟨ys, hy, hG4⟩
    simp (disch := omega) only [f24_rs, w_ret, seqK_n, retK_r, x_nil, x_as, kx, ev_t, ev_c, getV_some, putD_some, oGet_s, readRs_nil, readRs_t, retV_2, Option.some.injEq, exists_eq_left', getK_set, Nat.reduceEqDiff, ↓reduceIte]
    exact ⟨r4, (by first | rfl | simp), (by first | exact ⟨ys, hy⟩ | (simp; exact ⟨ys, hy⟩)), hGa.trans (hG4.low hGa.nx)⟩
end
end Go.Ev
namespace Go.Ev
open Go Go.RowKit
noncomputable def f4_r0 : List EOper := [⟨(some (K.ofNat 6)), none, .as (.c (.b false))⟩]
noncomputable def f4_r1 : List EOper := [⟨(some (K.ofNat 26)), none, .mv (.t (K.ofNat 0))⟩, ⟨(some (K.ofNat 27)), none, .mv (.t (K.ofNat 1))⟩, ⟨(some (K.ofNat 28)), none, .call (.c (.fn (K.ofNat 25) [])) [(.t (K.ofNat 26)), (.t (K.ofNat 27))]⟩, ⟨(some (K.ofNat 25)), none, .mv (.t (K.ofNat 28))⟩, ⟨(some (K.ofNat 29)), none, .ext (.t (K.ofNat 25)) 0⟩, ⟨(some (K.ofNat 30)), none, .ext (.t (K.ofNat 25)) 1⟩, ⟨(some (K.ofNat 7)), none, .as (.t (K.ofNat 29))⟩, ⟨(some (K.ofNat 8)), none, .as (.t (K.ofNat 30))⟩]
noncomputable def f4_r2 : List EOper := [⟨(some (K.ofNat 32)), none, .mv (.t (K.ofNat 7))⟩, ⟨(some (K.ofNat 33)), none, .mv (.t (K.ofNat 8))⟩, ⟨(some (K.ofNat 34)), none, .call (.c (.fn (K.ofNat 17) [])) [(.t (K.ofNat 32)), (.t (K.ofNat 33))]⟩, ⟨(some (K.ofNat 31)), none, .mv (.t (K.ofNat 34))⟩, ⟨(some (K.ofNat 35)), none, .ext (.t (K.ofNat 31)) 0⟩, ⟨(some (K.ofNat 36)), none, .ext (.t (K.ofNat 31)) 1⟩, ⟨(some (K.ofNat 9)), none, .as (.t (K.ofNat 35))⟩, ⟨(some (K.ofNat 10)), none, .as (.t (K.ofNat 36))⟩]
noncomputable def f4_r3 : List EOper := [⟨(some (K.ofNat 38)), none, .mv (.t (K.ofNat 7))⟩, ⟨(some (K.ofNat 39)), none, .mv (.t (K.ofNat 8))⟩, ⟨(some (K.ofNat 40)), none, .call (.c (.fn (K.ofNat 16) [])) [(.t (K.ofNat 38)), (.t (K.ofNat 39))]⟩, ⟨(some (K.ofNat 37)), none, .mv (.t (K.ofNat 40))⟩, ⟨(some (K.ofNat 41)), none, .ext (.t (K.ofNat 37)) 0⟩, ⟨(some (K.ofNat 42)), none, .ext (.t (K.ofNat 37)) 1⟩, ⟨(some (K.ofNat 11)), none, .as (.t (K.ofNat 41))⟩, ⟨(some (K.ofNat 12)), none, .as (.t (K.ofNat 42))⟩]
noncomputable def f4_r4 : List EOper := [⟨(some (K.ofNat 43)), none, .mv (.t (K.ofNat 7))⟩, ⟨(some (K.ofNat 44)), none, .mv (.t (K.ofNat 8))⟩, ⟨(some (K.ofNat 45)), none, .call (.c (.fn (K.ofNat 26) [])) [(.t (K.ofNat 43)), (.t (K.ofNat 44))]⟩, ⟨(some (K.ofNat 13)), none, .as (.t (K.ofNat 45))⟩]
noncomputable def f4_r5 : List EOper := [⟨(some (K.ofNat 46)), none, .mv (.t (K.ofNat 10))⟩, ⟨(some (K.ofNat 47)), none, .bin .neq (.t (K.ofNat 46)) (.c (.i .i64 (.ofNat 0)))⟩, ⟨(some (K.ofNat 48)), none, .mv (.t (K.ofNat 47))⟩, ⟨(some (K.ofNat 49)), (some ((K.ofNat 48), false)), .mv (.t (K.ofNat 9))⟩, ⟨(some (K.ofNat 50)), (some ((K.ofNat 48), false)), .len (.t (K.ofNat 49))⟩, ⟨(some (K.ofNat 51)), (some ((K.ofNat 48), false)), .mv (.t (K.ofNat 13))⟩, ⟨(some (K.ofNat 52)), (some ((K.ofNat 48), false)), .len (.t (K.ofNat 51))⟩, ⟨(some (K.ofNat 53)), (some ((K.ofNat 48), false)), .bin .neq (.t (K.ofNat 50)) (.t (K.ofNat 52))⟩, ⟨(some (K.ofNat 54)), none, .pick (.t (K.ofNat 48)) (.c (.b true)) (.t (K.ofNat 53))⟩, ⟨(some (K.ofNat 55)), none, .mv (.t (K.ofNat 54))⟩, ⟨(some (K.ofNat 56)), (some ((K.ofNat 55), false)), .mv (.t (K.ofNat 12))⟩, ⟨(some (K.ofNat 57)), (some ((K.ofNat 55), false)), .bin .neq (.t (K.ofNat 56)) (.c (.i .i64 (.ofNat 0)))⟩, ⟨(some (K.ofNat 58)), none, .pick (.t (K.ofNat 55)) (.c (.b true)) (.t (K.ofNat 57))⟩, ⟨(some (K.ofNat 59)), none, .mv (.t (K.ofNat 58))⟩, ⟨(some (K.ofNat 60)), (some ((K.ofNat 59), false)), .mv (.t (K.ofNat 11))⟩, ⟨(some (K.ofNat 61)), (some ((K.ofNat 59), false)), .mv (.t (K.ofNat 7))⟩, ⟨(some (K.ofNat 62)), (some ((K.ofNat 59), false)), .mv (.t (K.ofNat 8))⟩, ⟨(some (K.ofNat 63)), (some ((K.ofNat 59), false)), .call (.c (.fn (K.ofNat 27) [])) [(.t (K.ofNat 61)), (.t (K.ofNat 62))]⟩, ⟨(some (K.ofNat 64)), (some ((K.ofNat 59), false)), .bin .neq (.t (K.ofNat 60)) (.t (K.ofNat 63))⟩, ⟨(some (K.ofNat 65)), none, .pick (.t (K.ofNat 59)) (.c (.b true)) (.t (K.ofNat 64))⟩]
noncomputable def f4_r6 : List EOper := [⟨(some (K.ofNat 6)), none, .as (.c (.b false))⟩]
noncomputable def f4_r7 : List EOper := [⟨(some (K.ofNat 14)), none, .as (.c (.i .i64 (.ofNat 0)))⟩]
noncomputable def f4_r8 : List EOper := [⟨(some (K.ofNat 66)), none, .mv (.t (K.ofNat 14))⟩, ⟨(some (K.ofNat 67)), none, .mv (.t (K.ofNat 7))⟩, ⟨(some (K.ofNat 68)), none, .bin .lss (.t (K.ofNat 66)) (.t (K.ofNat 67))⟩]
noncomputable def f4_r9 : List EOper := [⟨(some (K.ofNat 72)), none, .mv (.t (K.ofNat 7))⟩, ⟨(some (K.ofNat 73)), none, .mv (.t (K.ofNat 8))⟩, ⟨(some (K.ofNat 74)), none, .mv (.t (K.ofNat 14))⟩, ⟨(some (K.ofNat 75)), none, .call (.c (.fn (K.ofNat 21) [])) [(.t (K.ofNat 72)), (.t (K.ofNat 73)), (.t (K.ofNat 74))]⟩, ⟨(some (K.ofNat 71)), none, .mv (.t (K.ofNat 75))⟩, ⟨(some (K.ofNat 76)), none, .ext (.t (K.ofNat 71)) 0⟩, ⟨(some (K.ofNat 77)), none, .ext (.t (K.ofNat 71)) 1⟩, ⟨(some (K.ofNat 15)), none, .as (.t (K.ofNat 76))⟩, ⟨(some (K.ofNat 16)), none, .as (.t (K.ofNat 77))⟩]
noncomputable def f4_r10 : List Stage := [⟨[⟨(some (K.ofNat 78)), none, .mv (.t (K.ofNat 9))⟩, ⟨(some (K.ofNat 79)), none, .mv (.t (K.ofNat 14))⟩, ⟨(some (K.ofNat 80)), none, .iads 1 (.t (K.ofNat 78)) (.t (K.ofNat 79))⟩, ⟨(some (K.ofNat 81)), none, .ld (.t (K.ofNat 80))⟩, ⟨(some (K.ofNat 82)), none, .mv (.t (K.ofNat 13))⟩, ⟨(some (K.ofNat 83)), none, .mv (.t (K.ofNat 14))⟩, ⟨(some (K.ofNat 84)), none, .iads 1 (.t (K.ofNat 82)) (.t (K.ofNat 83))⟩, ⟨(some (K.ofNat 85)), none, .ld (.t (K.ofNat 84))⟩, ⟨(some (K.ofNat 86)), none, .pr (.seql true) (.t (K.ofNat 81)) (.t (K.ofNat 85))⟩, ⟨(some (K.ofNat 87)), none, .mv (.t (K.ofNat 86))⟩, ⟨(some (K.ofNat 88)), (some ((K.ofNat 87), false)), .mv (.t (K.ofNat 16))⟩, ⟨(some (K.ofNat 89)), (some ((K.ofNat 87), false)), .bin .neq (.t (K.ofNat 88)) (.c (.i .i64 (.ofNat 0)))⟩, ⟨(some (K.ofNat 90)), none, .pick (.t (K.ofNat 87)) (.c (.b true)) (.t (K.ofNat 89))⟩, ⟨(some (K.ofNat 91)), none, .mv (.t (K.ofNat 90))⟩, ⟨(some (K.ofNat 92)), (some ((K.ofNat 91), false)), .mv (.t (K.ofNat 15))⟩, ⟨(some (K.ofNat 93)), (some ((K.ofNat 91), false)), .mv (.t (K.ofNat 8))⟩, ⟨(some (K.ofNat 94)), (some ((K.ofNat 91), false)), .mv (.t (K.ofNat 14))⟩], [], (some ⟨(some (K.ofNat 95)), (some ((K.ofNat 91), false)), .call (.c (.fn (K.ofNat 29) [])) [(.t (K.ofNat 93)), (.t (K.ofNat 94))]⟩), []⟩, ⟨[], [⟨(some (K.ofNat 92)), (some ((K.ofNat 91), false)), .mv (.t (K.ofNat 15))⟩], (some ⟨(some (K.ofNat 96)), (some ((K.ofNat 91), false)), .call (.c (.fn (K.ofNat 28) [])) [(.t (K.ofNat 92)), (.t (K.ofNat 95))]⟩), []⟩, ⟨[⟨(some (K.ofNat 97)), (some ((K.ofNat 91), false)), .not (.t (K.ofNat 96))⟩, ⟨(some (K.ofNat 98)), none, .pick (.t (K.ofNat 91)) (.c (.b true)) (.t (K.ofNat 97))⟩], [], none, []⟩]
noncomputable def f4_r11 : List EOper := [⟨(some (K.ofNat 6)), none, .as (.c (.b false))⟩]
noncomputable def f4_r12 : List EOper := [⟨(some (K.ofNat 69)), none, .mv (.t (K.ofNat 14))⟩, ⟨(some (K.ofNat 70)), none, .bin .add (.t (K.ofNat 69)) (.c (.i .i64 (.ofNat 1)))⟩, ⟨(some (K.ofNat 14)), none, .as (.t (K.ofNat 70))⟩]
noncomputable def f4_l0 : EC := (.seq (.seq (.reg f4_r8) (.cond (.t (K.ofNat 68)) .skip (.exit 0))) (.seq (.block 1 (.seq (.reg f4_r9) (.seq (.draw f4_r10) (.cond (.t (K.ofNat 98)) (.seq (.reg f4_r11) .ret) .skip)))) (.reg f4_r12)))
noncomputable def f4_r13 : List EOper := [⟨(some (K.ofNat 100)), none, .mv (.t (K.ofNat 7))⟩, ⟨(some (K.ofNat 101)), none, .mv (.t (K.ofNat 8))⟩, ⟨(some (K.ofNat 102)), none, .mv (.t (K.ofNat 7))⟩, ⟨(some (K.ofNat 103)), none, .call (.c (.fn (K.ofNat 21) [])) [(.t (K.ofNat 100)), (.t (K.ofNat 101)), (.t (K.ofNat 102))]⟩, ⟨(some (K.ofNat 99)), none, .mv (.t (K.ofNat 103))⟩, ⟨(some (K.ofNat 104)), none, .ext (.t (K.ofNat 99)) 0⟩, ⟨(some (K.ofNat 105)), none, .ext (.t (K.ofNat 99)) 1⟩, ⟨(some (K.ofNat 17)), none, .as (.t (K.ofNat 104))⟩, ⟨(some (K.ofNat 18)), none, .as (.t (K.ofNat 105))⟩]
noncomputable def f4_r14 : List EOper := [⟨(some (K.ofNat 107)), none, .mv (.t (K.ofNat 7))⟩, ⟨(some (K.ofNat 108)), none, .mv (.t (K.ofNat 8))⟩, ⟨(some (K.ofNat 109)), none, .call (.c (.fn (K.ofNat 21) [])) [(.t (K.ofNat 107)), (.t (K.ofNat 108)), (.c (.i .i64 (.negSucc 0)))]⟩, ⟨(some (K.ofNat 106)), none, .mv (.t (K.ofNat 109))⟩, ⟨(some (K.ofNat 110)), none, .ext (.t (K.ofNat 106)) 0⟩, ⟨(some (K.ofNat 111)), none, .ext (.t (K.ofNat 106)) 1⟩, ⟨(some (K.ofNat 19)), none, .as (.t (K.ofNat 110))⟩, ⟨(some (K.ofNat 20)), none, .as (.t (K.ofNat 111))⟩]
noncomputable def f4_r15 : List EOper := [⟨(some (K.ofNat 112)), none, .mv (.t (K.ofNat 18))⟩, ⟨(some (K.ofNat 113)), none, .bin .neq (.t (K.ofNat 112)) (.c (.i .i64 (.ofNat 1)))⟩, ⟨(some (K.ofNat 114)), none, .mv (.t (K.ofNat 113))⟩, ⟨(some (K.ofNat 115)), (some ((K.ofNat 114), false)), .mv (.t (K.ofNat 20))⟩, ⟨(some (K.ofNat 116)), (some ((K.ofNat 114), false)), .bin .neq (.t (K.ofNat 115)) (.c (.i .i64 (.ofNat 1)))⟩, ⟨(some (K.ofNat 117)), none, .pick (.t (K.ofNat 114)) (.c (.b true)) (.t (K.ofNat 116))⟩]
noncomputable def f4_r16 : List EOper := [⟨(some (K.ofNat 6)), none, .as (.c (.b false))⟩]
noncomputable def f4_r17 : List EOper := [⟨(some (K.ofNat 118)), none, .mv (.t (K.ofNat 2))⟩, ⟨(some (K.ofNat 119)), none, .mv (.t (K.ofNat 2))⟩, ⟨(some (K.ofNat 120)), none, .len (.t (K.ofNat 119))⟩, ⟨(some (K.ofNat 121)), none, .min (.t (K.ofNat 120)) (.c (.i .i64 (.ofNat 12)))⟩, ⟨(some (K.ofNat 122)), none, .mv (.t (K.ofNat 2))⟩, ⟨(some (K.ofNat 123)), none, .len (.t (K.ofNat 122))⟩, ⟨(some (K.ofNat 124)), none, .min (.t (K.ofNat 123)) (.c (.i .i64 (.ofNat 12)))⟩, ⟨(some (K.ofNat 125)), none, .slice 1 (.t (K.ofNat 118)) none (some (.t (K.ofNat 121))) (some (.t (K.ofNat 124)))⟩, ⟨(some (K.ofNat 21)), none, .as (.t (K.ofNat 125))⟩]
noncomputable def f4_r18 : List EOper := [⟨(some (K.ofNat 22)), none, .as (.c (.i .i64 (.ofNat 0)))⟩]
noncomputable def f4_r19 : List EOper := [⟨(some (K.ofNat 126)), none, .mv (.t (K.ofNat 22))⟩, ⟨(some (K.ofNat 127)), none, .bin .lss (.t (K.ofNat 126)) (.c (.i .i64 (.ofNat 2)))⟩]
noncomputable def f4_r20 : List EOper := [⟨(some (K.ofNat 131)), none, .mv (.t (K.ofNat 7))⟩, ⟨(some (K.ofNat 132)), none, .mv (.t (K.ofNat 8))⟩, ⟨(some (K.ofNat 133)), none, .mv (.t (K.ofNat 21))⟩, ⟨(some (K.ofNat 134)), none, .call (.c (.fn (K.ofNat 24) [])) [(.t (K.ofNat 131)), (.t (K.ofNat 132)), (.t (K.ofNat 133))]⟩, ⟨(some (K.ofNat 130)), none, .mv (.t (K.ofNat 134))⟩, ⟨(some (K.ofNat 135)), none, .ext (.t (K.ofNat 130)) 0⟩, ⟨(some (K.ofNat 136)), none, .ext (.t (K.ofNat 130)) 1⟩, ⟨(some (K.ofNat 23)), none, .as (.t (K.ofNat 135))⟩, ⟨(some (K.ofNat 24)), none, .as (.t (K.ofNat 136))⟩]
noncomputable def f4_r21 : List EOper := [⟨(some (K.ofNat 137)), none, .mv (.t (K.ofNat 7))⟩, ⟨(some (K.ofNat 138)), none, .mv (.t (K.ofNat 21))⟩, ⟨(some (K.ofNat 139)), none, .call (.c (.fn (K.ofNat 30) [])) [(.t (K.ofNat 137)), (.t (K.ofNat 138))]⟩, ⟨(some (K.ofNat 140)), none, .not (.t (K.ofNat 139))⟩]
noncomputable def f4_r22 : List EOper := [⟨(some (K.ofNat 141)), none, .mv (.t (K.ofNat 24))⟩, ⟨(some (K.ofNat 142)), none, .bin .neq (.t (K.ofNat 141)) (.c (.i .i64 (.ofNat 1)))⟩, ⟨(some (K.ofNat 143)), none, .mv (.t (K.ofNat 142))⟩, ⟨(some (K.ofNat 144)), (some ((K.ofNat 143), false)), .mv (.t (K.ofNat 23))⟩, ⟨(some (K.ofNat 145)), (some ((K.ofNat 143), false)), .len (.t (K.ofNat 144))⟩, ⟨(some (K.ofNat 146)), (some ((K.ofNat 143), false)), .bin .neq (.t (K.ofNat 145)) (.c (.i .i64 (.ofNat 0)))⟩, ⟨(some (K.ofNat 147)), none, .pick (.t (K.ofNat 143)) (.c (.b true)) (.t (K.ofNat 146))⟩]
noncomputable def f4_r23 : List EOper := [⟨(some (K.ofNat 6)), none, .as (.c (.b false))⟩]
noncomputable def f4_r24 : List EOper := [⟨(some (K.ofNat 148)), none, .mv (.t (K.ofNat 24))⟩, ⟨(some (K.ofNat 149)), none, .bin .neq (.t (K.ofNat 148)) (.c (.i .i64 (.ofNat 0)))⟩, ⟨(some (K.ofNat 150)), none, .mv (.t (K.ofNat 149))⟩, ⟨(some (K.ofNat 151)), (some ((K.ofNat 150), false)), .mv (.t (K.ofNat 23))⟩, ⟨(some (K.ofNat 152)), (some ((K.ofNat 150), false)), .mv (.t (K.ofNat 8))⟩, ⟨(some (K.ofNat 153)), (some ((K.ofNat 150), false)), .mv (.t (K.ofNat 21))⟩, ⟨(some (K.ofNat 154)), (some ((K.ofNat 150), false)), .call (.c (.fn (K.ofNat 32) [])) [(.t (K.ofNat 152)), (.t (K.ofNat 153))]⟩, ⟨(some (K.ofNat 155)), (some ((K.ofNat 150), false)), .call (.c (.fn (K.ofNat 31) [])) [(.t (K.ofNat 151)), (.t (K.ofNat 154))]⟩, ⟨(some (K.ofNat 156)), (some ((K.ofNat 150), false)), .not (.t (K.ofNat 155))⟩, ⟨(some (K.ofNat 157)), none, .pick (.t (K.ofNat 150)) (.c (.b true)) (.t (K.ofNat 156))⟩]
noncomputable def f4_r25 : List EOper := [⟨(some (K.ofNat 6)), none, .as (.c (.b false))⟩]
noncomputable def f4_r26 : List EOper := [⟨(some (K.ofNat 158)), none, .mv (.t (K.ofNat 7))⟩, ⟨(some (K.ofNat 159)), none, .mv (.t (K.ofNat 2))⟩, ⟨(some (K.ofNat 160)), none, .call (.c (.fn (K.ofNat 33) [])) [(.t (K.ofNat 158)), (.t (K.ofNat 159))]⟩, ⟨(some (K.ofNat 21)), none, .as (.t (K.ofNat 160))⟩]
noncomputable def f4_r27 : List EOper := [⟨(some (K.ofNat 128)), none, .mv (.t (K.ofNat 22))⟩, ⟨(some (K.ofNat 129)), none, .bin .add (.t (K.ofNat 128)) (.c (.i .i64 (.ofNat 1)))⟩, ⟨(some (K.ofNat 22)), none, .as (.t (K.ofNat 129))⟩]
noncomputable def f4_l1 : EC := (.seq (.seq (.reg f4_r19) (.cond (.t (K.ofNat 127)) .skip (.exit 2))) (.seq (.block 3 (.seq (.reg f4_r20) (.seq (.seq (.reg f4_r21) (.cond (.t (K.ofNat 140)) (.seq (.reg f4_r22) (.cond (.t (K.ofNat 147)) (.seq (.reg f4_r23) .ret) .skip)) (.seq (.reg f4_r24) (.cond (.t (K.ofNat 157)) (.seq (.reg f4_r25) .ret) .skip)))) (.reg f4_r26)))) (.reg f4_r27)))
noncomputable def f4_r28 : List EOper := [⟨(some (K.ofNat 161)), none, .call (.c (.fn (K.ofNat 22) [])) []⟩, ⟨(some (K.ofNat 6)), none, .as (.t (K.ofNat 161))⟩]
noncomputable def f4_c : EC := (.seq (.reg f4_r0) (.seq (.reg f4_r1) (.seq (.reg f4_r2) (.seq (.reg f4_r3) (.seq (.reg f4_r4) (.seq (.seq (.reg f4_r5) (.cond (.t (K.ofNat 65)) (.seq (.reg f4_r6) .ret) .skip)) (.seq (.seq (.reg f4_r7) (.block 0 (.loop f4_l0))) (.seq (.reg f4_r13) (.seq (.reg f4_r14) (.seq (.seq (.reg f4_r15) (.cond (.t (K.ofNat 117)) (.seq (.reg f4_r16) .ret) .skip)) (.seq (.reg f4_r17) (.seq (.seq (.reg f4_r18) (.block 2 (.loop f4_l1))) (.seq (.reg f4_r28) .ret)))))))))))))
noncomputable def f4 : EF := ⟨162, [.tmp (K.ofNat 6)], f4_c, none⟩
theorem f4_rs : f4.rs = [.tmp (K.ofNat 6)] := of_eq_true (eq_self _)
theorem seql_ne {a : List UInt8} : prV (.seql true) (sE a) (sE a) = some (.b false) := by
  show some (V.b (bif true then !sameB (bytes ⟨⟨a⟩⟩) (bytes ⟨⟨a⟩⟩) else _)) = _
  rw [sameB_eq]; simp
structure CallsHm (fs : T EF) : Prop extends CallsRn fs, CallsTm fs where
  c25 : fs.get (K.ofNat 25) = some f25
  c27 : fs.get (K.ofNat 27) = some f27
  c30 : fs.get (K.ofNat 30) = some f30
  c31 : fs.get (K.ofNat 31) = some f31
  aw : ∀ h P, CallP fs (.fn (K.ofNat 22) []) [] h P = P (.b true) h
theorem teams_nat {n : Int} {m : Nat} (hm : (m : Int) = teamsN n) : ok5 (m : Int) := by rw [hm]; exact teamsN_ok n
theorem tame_len {m : Nat} {B : List Int} (hm : ok5 (m : Int)) : ∀ l ∈ tameL m B, l.length ≤ 9223372036854775807 := fun l hl => by
  have := ((tame_vld (B := B) hm).rnd l hl)
  unfold rndB at this
  simp only [Bool.and_eq_true, decide_eq_true_iff] at this
  unfold ok5 at hm
  omega
theorem ren_in64 {n : Nat} {M : List Int} {Ls : List (List (Int × Int))} (hM : ∀ x ∈ M, 0 ≤ x ∧ x < (n : Int)) (hn : n ≤ 1000) (hne : 1 ≤ n) : ∀ l ∈ renS M Ls, ∀ e ∈ l, inR .i64 e.1 = true ∧ inR .i64 e.2 = true := by
  have key : ∀ i, inR .i64 (M.getD i 0) = true := fun i => by
    have hx : 0 ≤ M.getD i 0 ∧ M.getD i 0 < (n : Int) := by
      rw [List.getD_eq_getElem?_getD]
      by_cases hi : i < M.length
      · rw [List.getElem?_eq_getElem hi]; exact hM _ (List.getElem_mem hi)
      · rw [List.getElem?_eq_none (by omega)]; simp; omega
    obtain ⟨q, hq⟩ := Int.eq_ofNat_of_zero_le hx.1
    rw [hq]
    show Nat.ble q 9223372036854775807 = true
    exact Nat.ble_eq_true_of_le (by omega)
  intro l hl e he
  obtain ⟨l', _, rfl⟩ := List.mem_map.1 hl
  obtain ⟨e', _, rfl⟩ := List.mem_map.1 he
  exact ⟨key _, key _⟩
section
variable {fs : T EF}
def f4_I (h : H) (v2 c w1 w2 : V) (m : Nat) (t : Nat) (fr : Fr) (h1 : H) : Prop := t ≤ m ∧ Grow h.nx.nat h h1 ∧ fr.get (K.ofNat 2) = some (v2) ∧ fr.get (K.ofNat 7) = some (.i .i64 (m : Int)) ∧ fr.get (K.ofNat 8) = some (c) ∧ fr.get (K.ofNat 9) = some (w1) ∧ fr.get (K.ofNat 13) = some (w2) ∧ fr.get (K.ofNat 14) = some (.i .i64 (t : Int))
def f4_J (h : H) (v2 c : V) (m : Nat) (i : Nat) (fr : Fr) (h1 : H) : Prop := i ≤ 2 ∧ Grow h.nx.nat h h1 ∧ ∃ x X, Rd h1 x X ∧ X.length ≤ 1000 ∧ fr.get (K.ofNat 2) = some (v2) ∧ fr.get (K.ofNat 7) = some (.i .i64 (m : Int)) ∧ fr.get (K.ofNat 8) = some (c) ∧ fr.get (K.ofNat 21) = some (x) ∧ fr.get (K.ofNat 22) = some (.i .i64 (i : Int))
theorem f4_ret {h : H} {v v2 : V} {B M : List Int} {n : Int} (k : CallsHm fs) (hv : Sr iE h v B) (hv2 : Sr iE h v2 M) (hB : B.length ≤ 9223372036854775807) (hM : M.length ≤ 9223372036854775807) (hc : HC h) : Ret fs f4 [.i .i64 n, v, v2] h fun r h' => r = .b true ∧ Grow h.nx.nat h h' := by
  have aw := k.aw
  apply ret_of rfl
  show W fs none f4_c _ _ _
  unfold f4_c
  simp (disch := omega) only [f4_r0, f4_r1, w_reg, w_seq, seqK_n, x_nil, x_mv, x_as, x_call, ev_t, ev_c, evs_nil, evs_cons, getV_some, putD_some, frame_3, getK_set, Nat.reduceEqDiff, ↓reduceIte]
  refine (callP_0 (ef := f25) k.c25 rfl (f25_ret (n := n) k.toCallsTm hv hB hc)).mono ?_
  rintro r h1 ⟨m, c, ws, rfl, hm, hS, hG1⟩
  have ho := teams_nat hm
  have hm10 : m ≤ 10 := by unfold ok5 at ho; omega
  have hm2 : 2 ≤ m := by unfold ok5 at ho; omega
  have hlen := tame_len (B := B) ho
  have hsh := tame_sh (B := B) ho
  have hvd := tame_vld (B := B) ho
  have hl := tameL_len (n := m) (B := B)
  have hin : ∀ l ∈ tameL m B, ∀ e ∈ l, (0 ≤ e.1 ∧ e.1 < (m : Int)) ∧ (0 ≤ e.2 ∧ e.2 < (m : Int)) := fun l hl e he => ⟨(rnd_e (hvd.rnd l hl) e he).1, (rnd_e (hvd.rnd l hl) e he).2.1⟩
  have hfew := hvd.few (by omega) (by omega)
  generalize tameL m B = Q at *
  have hc1 := hG1.hc hc
  have hv21 := hv2.grow hc hG1
  have ne0 : decide ((0 : Int) ≠ 0) = false := rfl
  have ne1 : decide ((1 : Int) ≠ 1) = false := rfl
  have nel : ∀ x : Int, decide (x ≠ x) = false := fun x => by simp
  simp (disch := omega) only [f4_r2, w_reg, w_seq, seqK_n, x_nil, x_mv, x_as, x_ext, x_call, kx, rvP_ok, okv_some, ev_t, ev_c, evs_nil, evs_cons, getV_some, putD_some, onTup_t, nth0, nth1, getK_set, Nat.reduceEqDiff, ↓reduceIte]
  refine (callP_0 (ef := f17) k.c17 rfl (f17_ret k.toCallsH ho hS hlen hsh hc1)).mono ?_
  rintro r h2 ⟨w1, rfl, hw1, hG2⟩
  have hc2 := hG2.hc hc1
  have hS2 := hS.grow hc1 hG2
  have hG12 := hG1.trans (hG2.low hG1.nx)
  simp (disch := omega) only [f4_r3, w_reg, w_seq, seqK_n, x_nil, x_mv, x_as, x_ext, x_call, kx, rvP_ok, okv_some, ev_t, ev_c, evs_nil, evs_cons, getV_some, putD_some, onTup_t, nth0, nth1, getK_set, Nat.reduceEqDiff, ↓reduceIte]
  refine (callP_0 (ef := f16) k.c16 rfl (f16_ret k.toCallsBk ho hS2 hlen hsh hc2)).mono ?_
  rintro r h3 ⟨rfl, hG3⟩
  have hc3 := hG3.hc hc2
  have hS3 := hS2.grow hc2 hG3
  have hw13 := hw1.grow hc2 hG3
  have hG13 := hG12.trans (hG3.low hG12.nx)
  simp (disch := omega) only [f4_r4, w_reg, w_seq, seqK_n, x_nil, x_mv, x_as, x_ext, x_call, kx, rvP_ok, okv_some, ev_t, ev_c, evs_nil, evs_cons, getV_some, putD_some, onTup_t, nth0, nth1, getK_set, Nat.reduceEqDiff, ↓reduceIte]
  refine (callP_0 (ef := f26) k.c26 rfl (f26_ret k.c64 (by omega) hS3 hvd (by omega) hc3)).mono ?_
  rintro w2 h4 ⟨hw2, hG4⟩
  have hc4 := hG4.hc hc3
  have hS4 := hS3.grow hc3 hG4
  have hw14 := hw13.grow hc3 hG4
  have hG14 := hG13.trans (hG4.low hG13.nx)
  have hl1 := hw14.len
  have hl2 := hw2.len
  rw [List.length_map, List.length_range] at hl1 hl2
  simp (disch := omega) only [f4_r5, w_reg, w_seq, seqK_n, okG_b, asG_f, true_and, x_nil, x_g, x_mv, x_as, x_pick, x_bin, x_call, x_len, kx, rvP_ok, okv_some, ev_t, ev_c, evs_nil, evs_cons, getV_some, putD_some, bin_neq, pick_b, of0, getK_set, Nat.reduceEqDiff, ↓reduceIte, Bool.false_eq_true, Bool.not_false, ne0, hl1, hl2, nel]
  refine (callP_0 (ef := f27) k.c27 rfl (f27_ret k.c26 k.c64 (by omega) hS4 hvd (by omega) hc4)).mono ?_
  rintro r h5 ⟨rfl, hG5⟩
  have hc5 := hG5.hc hc4
  have hS5 := hS4.grow hc4 hG5
  have hw15 := hw14.grow hc4 hG5
  have hw25 := hw2.grow hc4 hG5
  have hG15 := hG14.trans (hG5.low hG14.nx)
  have hv25 := hv2.grow hc hG15
  clear hS4 hw14 hw2 hw13 hw1 hS3 hS2 hS hG1 hG2 hG3 hG4 hG5 hG12 hG13 hG14 hl1 hl2 hc1 hc2 hc3 hc4
  simp (disch := omega) only [f4_r7, w_skip, w_reg, w_seq, w_cond, w_block, seqK_n, ckB_b, cbB_b, okG_b, asG_f, true_and, x_nil, x_g, x_as, x_pick, x_bin, kx, rvP_ok, okv_some, ev_t, ev_c, getV_some, putD_some, bin_neq, pick_b, of0, getK_set, Nat.reduceEqDiff, ↓reduceIte, Bool.false_eq_true, Bool.not_false, nel]
  refine W_loop (f4_I h5 v2 c w1 w2 m) (fun t => m - t) ?_ 0 ⟨by omega, Grow.refl _ _, by simp (disch := omega) only [getK_set, Nat.reduceEqDiff, ↓reduceIte, and_self, Int.natCast_zero]⟩
  rintro t fr h6 ⟨ht, hG6, g2, g7, g8, g9, g13, g14⟩
  have hc6 := hG6.hc hc5
  have hS6 := hS5.grow hc5 hG6
  have hw16 := hw15.grow hc5 hG6
  have hw26 := hw25.grow hc5 hG6
  have hG16 := hG15.trans (hG6.low hG15.nx)
  unfold f4_l0
  by_cases hlt : t < m
  · have d0 : decide ((t : Int) < (m : Int)) = true := by simpa using hlt
    simp (disch := omega) only [f4_r8, f4_r9, w_skip, w_reg, w_seq, w_cond, w_block, seqK_n, ckB_b, cbB_b, true_and, x_nil, x_mv, x_bin, x_call, kx, rvP_ok, okv_some, ev_t, ev_c, evs_nil, evs_cons, getV_some, putD_some, bin_lss, getK_set, Nat.reduceEqDiff, ↓reduceIte, g7, g8, g14, d0]
    refine (callP_0 (ef := f21) k.c21 rfl (f21_ret k.toCallsO ho hS6 hlen hsh (by omega) hc6)).mono ?_
    rintro r h7 ⟨w, rfl, hw, hG7⟩
    have hc7 := hG7.hc hc6
    obtain ⟨p, hp1, hp2⟩ := (hw16.grow hc6 hG7).at t (by simpa using hlt)
    obtain ⟨q, hq1, hq2⟩ := (hw26.grow hc6 hG7).at t (by simpa using hlt)
    have hwb := hw.beq
    rw [List.getElem_map, List.getElem_range] at hp2 hq2
    simp (disch := omega) only [f4_r10, w_draw, w_seq, seqK_n, okG_b, asG_f, true_and, x_nil, x_g, x_mv, x_as, x_ext, x_call, kx, kg, xg_nil, xg_g, xg_mv, xg_pick, xg_ld, xg_bin, xg_iads, xd_cons, fresh_nil, stK_s, stay_nil, rvP_ok, okv_some, ev_t, ev_c, evs_nil, evs_cons, getV_some, putD_some, bin_neq, pick_b, onTup_t, nth0, nth1, of0, getK_set, Nat.reduceEqDiff, ↓reduceIte, Bool.false_eq_true, Bool.not_false, xg_pr, g8, g9, g13, g14, hp1, hp2, hq1, hq2, seql_ne, ne0]
    refine (callP_0 (ef := f29) k.c29 rfl (f29_ret (n := m) k.c64 (by omega) (by omega) (hS6.grow hc6 hG7) hvd (by omega) hc7)).mono ?_
    rintro r h8 ⟨hr, hG8⟩
    have hw8 := hw.grow hc7 hG8
    simp (disch := omega) only [okG_b, asG_f, true_and, x_nil, x_g, x_call, kx, xg_nil, xd_cons, fresh_nil, stK_s, stay_nil, stay_cons, stay_mv, ev_t, ev_c, evs_nil, evs_cons, getV_some, putD_some, getK_set, Nat.reduceEqDiff, ↓reduceIte, Bool.not_false, stay_g, hwb]
    refine (callP_0 (ef := f28) k.c28 rfl (f28_same hw8.sr hr.sr (by simp [opL]; omega))).mono ?_
    rintro r h9 ⟨rfl, e9⟩
    rw [e9]
    clear e9 h9
    simp (disch := omega) only [f4_r12, w_skip, w_reg, w_cond, seqK_n, atK_n, loopK_n, ckB_b, cbB_b, okG_b, asG_f, true_and, x_nil, x_mv, x_as, x_bin, kx, kg, xg_nil, xg_g, xg_pick, xg_not, xd_cons, fresh_nil, stK_n, stay_nil, rvP_ok, okv_some, ev_t, ev_c, getV_some, putD_some, bin_add, pick_b, onB_b, of1, getK_set, Nat.reduceEqDiff, ↓reduceIte, Bool.false_eq_true, Bool.not_true, Bool.not_false, g14, fw64, Bool.not_true]
    exact ⟨t + 1, by omega, by omega, hG6.trans ((hG7.trans (hG8.low hG7.nx)).low hG6.nx), by simp (disch := omega) only [getK_set, Nat.reduceEqDiff, ↓reduceIte, g2, g7, g8, g9, g13, and_self, Int.natCast_add, Int.natCast_one]⟩
  · have d0 : decide ((t : Int) < (m : Int)) = false := by simpa using hlt
    have neg1 : (Int.negSucc 0) = -1 := rfl
    simp (disch := omega) only [f4_r8, f4_r13, w_reg, w_seq, w_cond, w_exit, seqK_n, seqK_e, atK_e, loopK_e, ckB_b, cbB_b, true_and, x_nil, x_mv, x_bin, x_call, kx, rvP_ok, okv_some, ev_t, ev_c, evs_nil, evs_cons, getV_some, putD_some, bin_lss, getK_set, Nat.reduceEqDiff, ↓reduceIte, Bool.false_eq_true, g7, g8, g14, d0]
    refine (callP_0 (ef := f21) k.c21 rfl (f21_err (t := (m : Int)) k.toCallsO ho hS6 hlen hsh (by omega) hc6)).mono ?_
    rintro r h7 ⟨rfl, hG7⟩
    have hc7 := hG7.hc hc6
    have hS7 := hS6.grow hc6 hG7
    have hG17 := hG16.trans (hG7.low hG16.nx)
    simp (disch := omega) only [f4_r14, w_reg, w_seq, seqK_n, x_nil, x_mv, x_as, x_ext, x_call, kx, rvP_ok, okv_some, ev_t, ev_c, evs_nil, evs_cons, getV_some, putD_some, onTup_t, nth0, nth1, getK_set, Nat.reduceEqDiff, ↓reduceIte, g7, g8]
    refine (callP_0 (ef := f21) k.c21 rfl (f21_err (t := Int.negSucc 0) k.toCallsO ho hS7 hlen hsh (by omega) hc7)).mono ?_
    rintro r h8 ⟨rfl, hG8⟩
    have hc8 := hG8.hc hc7
    have hS8 := hS7.grow hc7 hG8
    have hG18 := hG17.trans (hG8.low hG17.nx)
    have hv28 := hv2.grow hc hG18
    have hl3 := hv28.len
    obtain ⟨x, hx1, hx2⟩ := hv28.cutT (m := min M.length 12) (by omega)
    have hmn : min (M.length : Int) 12 = ((min M.length 12 : Nat) : Int) := by omega
    simp (disch := omega) only [f4_r15, f4_r17, f4_r18, w_skip, w_reg, w_seq, w_cond, w_block, seqK_n, ckB_b, cbB_b, okG_b, asG_f, true_and, x_nil, x_g, x_mv, x_as, x_pick, x_bin, x_slice, sliceV_eq, Option.map_none, Option.map_some, x_ext, x_len, x_min, kx, rvP_ok, okv_some, ev_t, ev_c, getV_some, putD_some, bin_neq, pick_b, onTup_t, nth0, nth1, min_ii, of0, of1, of12, getK_set, Nat.reduceEqDiff, ↓reduceIte, Bool.false_eq_true, Bool.not_false, g2, ne1, hl3, hmn, hx1]
    refine W_loop (f4_J h8 v2 c m) (fun i => 2 - i) ?_ 0 ⟨by omega, Grow.refl _ _, x, _, hx2, by simp; omega, by simp (disch := omega) only [getK_set, Nat.reduceEqDiff, ↓reduceIte, g2, g7, g8, and_self, Int.natCast_zero]⟩
    clear hx1 hx2 x hl3 g2 g7 g8 g9 g13 g14 fr hc6 hS6 hw16 hw26 hG16 hG7 hG8 hS7 hG17 hc7 hG6
    rintro i fr h9 ⟨hi, hG9, x, X, hx, hXl, g2, g7, g8, g21, g22⟩
    have hc9 := hG9.hc hc8
    have hS9 := hS8.grow hc8 hG9
    have hG19 := hG18.trans (hG9.low hG18.nx)
    unfold f4_l1
    by_cases hlt2 : i < 2
    · have d1 : decide ((i : Int) < 2) = true := by simp; omega
      have tail : ∀ fr h10, Grow h.nx.nat h h10 → Grow h8.nx.nat h8 h10 → fr.get (K.ofNat 2) = some (v2) ∧ fr.get (K.ofNat 7) = some (.i .i64 (m : Int)) ∧ fr.get (K.ofNat 8) = some (c) ∧ fr.get (K.ofNat 22) = some (.i .i64 (i : Int)) →
          Go.Ev.X fs f4_r26 (atK 3 (seqK (W fs none (.reg f4_r27)) (loopK (f4_J h8 v2 c m) (fun i => 2 - i) i (atK 2 (seqK (W fs none (.seq (.reg f4_r28) .ret)) (retK f4 fun r h' => r = .b true ∧ Grow h.nx.nat h h'))))) .normal) fr h10 := by
        clear g2 g7 g8 g21 g22 fr
        rintro fr h10 hGa hGb ⟨g2, g7, g8, g22⟩
        have hca := hGa.hc hc
        simp (disch := omega) only [f4_r26, x_mv, x_call, ev_t, ev_c, evs_nil, evs_cons, getV_some, putD_some, getK_set, Nat.reduceEqDiff, ↓reduceIte, g2, g7]
        refine (callP_0 (ef := f33) k.c33 rfl (f33_ret (by omega) (hv2.grow hc hGa) hM hca)).mono ?_
        rintro r h11 ⟨hr, _, hGc⟩
        simp (disch := omega) only [f4_r27, w_reg, seqK_n, atK_n, loopK_n, x_nil, x_mv, x_as, x_bin, kx, rvP_ok, okv_some, ev_t, ev_c, getV_some, putD_some, bin_add, of1, getK_set, Nat.reduceEqDiff, ↓reduceIte, g22, fw64]
        exact ⟨i + 1, by omega, by omega, hGb.trans (hGc.low hGb.nx), r, _, hr.sr.rd, by rw [nmL_len]; omega, by simp (disch := omega) only [getK_set, Nat.reduceEqDiff, ↓reduceIte, g2, g7, g8, and_self, Int.natCast_add, Int.natCast_one]⟩
      simp (disch := omega) only [f4_r19, f4_r20, w_skip, w_reg, w_seq, w_cond, w_block, seqK_n, ckB_b, cbB_b, true_and, x_nil, x_mv, x_bin, x_call, kx, rvP_ok, okv_some, ev_t, ev_c, evs_nil, evs_cons, getV_some, putD_some, bin_lss, of2, getK_set, Nat.reduceEqDiff, ↓reduceIte, g7, g8, g21, g22, d1]
      refine (callP_0 (ef := f24) k.c24 rfl (f24_ret k.toCallsRn ho hS9 hlen hsh hx (by omega) hc9)).mono ?_
      rintro r h10 ⟨u, rfl, hu, hG10⟩
      have hc10 := hG10.hc hc9
      have hx10 := hx.grow hc9 hG10
      have hS10 := hS9.grow hc9 hG10
      have hGa := hG19.trans (hG10.low hG19.nx)
      have hGb := hG9.trans (hG10.low hG9.nx)
      simp (disch := omega) only [f4_r21, w_reg, w_seq, seqK_n, x_nil, x_mv, x_as, x_ext, x_call, kx, rvP_ok, okv_some, ev_t, ev_c, evs_nil, evs_cons, getV_some, putD_some, onTup_t, nth0, nth1, getK_set, Nat.reduceEqDiff, ↓reduceIte, g7, g21]
      refine (callP_0 (ef := f30) k.c30 rfl (f30_ret (n := m) (by omega) hx10 (by omega))).mono ?_
      rintro r h11 ⟨rfl, e11⟩
      rw [e11]
      clear e11 h11
      cases haa : aaB (m : Int) X with
      | false =>
        rw [haa] at hu
        have hu : u = .sn := by simpa using hu
        subst hu
        simp (disch := omega) only [f4_r22, w_skip, w_reg, w_seq, w_cond, seqK_n, ckB_b, cbB_b, okG_b, asG_f, true_and, x_nil, x_g, x_mv, x_pick, x_bin, x_not, x_len, kx, rvP_ok, okv_some, ev_t, ev_c, getV_some, putD_some, bin_neq, pick_b, onB_b, len_sn, of0, of1, getK_set, Nat.reduceEqDiff, ↓reduceIte, Bool.false_eq_true, decide_eq_true_eq, Bool.not_false, Bool.not_false, ne1]
        exact tail _ _ hGa hGb (by simp (disch := omega) only [getK_set, Nat.reduceEqDiff, ↓reduceIte, g2, g7, g8, g22, and_self])
      | true =>
        rw [haa] at hu
        have hu : ∃ xs, Nrp h10 u xs (renS X Q) := by simpa using hu
        obtain ⟨xs, hu⟩ := hu
        have haa' := haa
        unfold aaB at haa'
        simp only [Bool.and_eq_true, decide_eq_true_iff] at haa'
        obtain ⟨z1, z2, z3⟩ := haa'
        have hI : InN X.length Q := fun l hl e he => by have := hin l hl e he; omega
        simp (disch := omega) only [f4_r24, w_reg, w_seq, w_cond, seqK_n, ckB_b, cbB_b, okG_b, asG_f, true_and, x_nil, x_g, x_mv, x_bin, x_not, x_call, kx, rvP_ok, okv_some, ev_t, ev_c, evs_nil, evs_cons, getV_some, putD_some, bin_neq, onB_b, of0, getK_set, Nat.reduceEqDiff, ↓reduceIte, Bool.false_eq_true, Bool.not_true, Bool.not_false, g8, g21, Bool.not_true, ne0]
        refine (callP_0 (ef := f32) k.c32 rfl (f32_ret hS10 hx10 hI (by omega) (fun l hl => by have := (hfew.2 l hl).1; omega) hc10)).mono ?_
        rintro r h11 ⟨ws', hr, _, _, hG11⟩
        have hc11 := hG11.hc hc10
        simp (disch := omega) only [okG_b, asG_f, true_and, x_g, x_call, kx, ev_t, ev_c, evs_nil, evs_cons, getV_some, putD_some, getK_set, Nat.reduceEqDiff, ↓reduceIte, Bool.not_false]
        refine (callP_0 (ef := f31) k.c31 rfl (f31_same (hu.grow hc10 hG11) hr.nrp ⟨by simp [renS]; omega, fun l hl => by
          obtain ⟨l', h1, rfl⟩ := List.mem_map.1 hl
          unfold renR
          rw [List.length_map]
          have := (hfew.2 l' h1).1
          omega⟩ (ren_in64 z2 (by omega) (by omega)))).mono ?_
        rintro r h12 ⟨rfl, e12⟩
        rw [e12]
        clear e12 h12
        simp (disch := omega) only [w_skip, w_reg, w_cond, seqK_n, ckB_b, cbB_b, okG_b, asG_f, true_and, x_nil, x_g, x_pick, x_not, kx, rvP_ok, ev_t, ev_c, getV_some, putD_some, pick_b, onB_b, getK_set, Nat.reduceEqDiff, ↓reduceIte, Bool.false_eq_true, Bool.not_true, Bool.not_false, Bool.not_true]
        exact tail _ _ (hGa.trans (hG11.low hGa.nx)) (hGb.trans (hG11.low hGb.nx)) (by simp (disch := omega) only [getK_set, Nat.reduceEqDiff, ↓reduceIte, g2, g7, g8, g22, and_self])
    · have d1 : decide ((i : Int) < 2) = false := by simp; omega
      simp (disch := omega) only [f4_r19, f4_r28, f4_rs, w_reg, w_seq, w_cond, w_exit, w_ret, seqK_n, seqK_e, atK_e, loopK_e, ckB_b, cbB_b, true_and, retK_r, x_nil, x_mv, x_as, x_bin, x_call, kx, rvP_ok, okv_some, ev_t, ev_c, evs_nil, getV_some, putD_some, bin_lss, oGet_s, readRs_nil, readRs_t, retV_1, of2, Option.some.injEq, exists_eq_left', getK_set, ↓reduceIte, Bool.false_eq_true, g22, d1, aw, true_and]
      exact hG19
end
end Go.Ev
