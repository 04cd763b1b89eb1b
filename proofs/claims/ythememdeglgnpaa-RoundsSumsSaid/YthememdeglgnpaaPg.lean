/-
  Rounds: the follow numbers, of the program.
  Rounds: the follow numbers, counted by rounds.
  Rounds: whether a schedule is balanced; follow numbers of the reference.
  Rounds: the follow numbers of the reference.
  Rounds: rings.
  slices.Sort of few numbers.
  Rounds: rings, of the program.
  Rounds: rings, of the reference.
  Rounds: one ring, whichever round is the first.
-/
import Derived.Test.YthememdeglgnpaaPf
namespace Go.Ev
open Go Go.RowKit
noncomputable def f79_r0 : List EOper := [⟨(some (K.ofNat 7)), none, .as (.c (.i .i64 (.ofNat 0)))⟩]
noncomputable def f79_r1 : List EOper := [⟨(some (K.ofNat 8)), none, .as (.c (.i .i64 (.ofNat 0)))⟩]
noncomputable def f79_r2 : List EOper := [⟨(some (K.ofNat 14)), none, .ld (.t (K.ofNat 2))⟩, ⟨(some (K.ofNat 15)), none, .mv (.c (.i .i64 (.ofNat 0)))⟩]
noncomputable def f79_r3 : List EOper := [⟨(some (K.ofNat 16)), none, .bin .lss (.t (K.ofNat 15)) (.t (K.ofNat 14))⟩]
noncomputable def f79_r4 : List EOper := [⟨(some (K.ofNat 17)), none, .mv (.t (K.ofNat 15))⟩, ⟨(some (K.ofNat 9)), none, .as (.t (K.ofNat 17))⟩]
noncomputable def f79_r5 : List EOper := [⟨(some (K.ofNat 19)), none, .ld (.t (K.ofNat 3))⟩, ⟨(some (K.ofNat 20)), none, .mv (.t (K.ofNat 0))⟩, ⟨(some (K.ofNat 21)), none, .mv (.t (K.ofNat 9))⟩, ⟨(some (K.ofNat 22)), none, .build [(.i .i64 (.ofNat 0)), (.i .i64 (.ofNat 0))] [(0, 1, (.t (K.ofNat 20))), (1, 1, (.t (K.ofNat 21)))]⟩, ⟨(some (K.ofNat 23)), none, .look 108 (.many [(some .i64), (some .i64)]) (.i .i64 (.ofNat 0)) (.t (K.ofNat 19)) (.t (K.ofNat 22)) true⟩, ⟨(some (K.ofNat 18)), none, .mv (.t (K.ofNat 23))⟩, ⟨(some (K.ofNat 24)), none, .ext (.t (K.ofNat 18)) 0⟩, ⟨(some (K.ofNat 25)), none, .ext (.t (K.ofNat 18)) 1⟩, ⟨(some (K.ofNat 10)), none, .as (.t (K.ofNat 24))⟩, ⟨(some (K.ofNat 11)), none, .as (.t (K.ofNat 25))⟩]
noncomputable def f79_r6 : List EOper := [⟨(some (K.ofNat 27)), none, .ld (.t (K.ofNat 3))⟩, ⟨(some (K.ofNat 28)), none, .mv (.t (K.ofNat 9))⟩, ⟨(some (K.ofNat 29)), none, .mv (.t (K.ofNat 1))⟩, ⟨(some (K.ofNat 30)), none, .build [(.i .i64 (.ofNat 0)), (.i .i64 (.ofNat 0))] [(0, 1, (.t (K.ofNat 28))), (1, 1, (.t (K.ofNat 29)))]⟩, ⟨(some (K.ofNat 31)), none, .look 108 (.many [(some .i64), (some .i64)]) (.i .i64 (.ofNat 0)) (.t (K.ofNat 27)) (.t (K.ofNat 30)) true⟩, ⟨(some (K.ofNat 26)), none, .mv (.t (K.ofNat 31))⟩, ⟨(some (K.ofNat 32)), none, .ext (.t (K.ofNat 26)) 0⟩, ⟨(some (K.ofNat 33)), none, .ext (.t (K.ofNat 26)) 1⟩, ⟨(some (K.ofNat 12)), none, .as (.t (K.ofNat 32))⟩, ⟨(some (K.ofNat 13)), none, .as (.t (K.ofNat 33))⟩]
noncomputable def f79_r7 : List EOper := [⟨(some (K.ofNat 34)), none, .mv (.t (K.ofNat 11))⟩, ⟨(some (K.ofNat 35)), none, .mv (.t (K.ofNat 34))⟩, ⟨(some (K.ofNat 36)), (some ((K.ofNat 35), true)), .mv (.t (K.ofNat 13))⟩, ⟨(some (K.ofNat 37)), none, .pick (.t (K.ofNat 35)) (.t (K.ofNat 36)) (.c (.b false))⟩, ⟨(some (K.ofNat 38)), none, .mv (.t (K.ofNat 37))⟩, ⟨(some (K.ofNat 39)), (some ((K.ofNat 38), true)), .mv (.t (K.ofNat 12))⟩, ⟨(some (K.ofNat 40)), (some ((K.ofNat 38), true)), .mv (.t (K.ofNat 10))⟩, ⟨(some (K.ofNat 41)), (some ((K.ofNat 38), true)), .bin .add (.t (K.ofNat 40)) (.c (.i .i64 (.ofNat 1)))⟩, ⟨(some (K.ofNat 42)), (some ((K.ofNat 38), true)), .ld (.t (K.ofNat 4))⟩, ⟨(some (K.ofNat 43)), (some ((K.ofNat 38), true)), .len (.t (K.ofNat 42))⟩, ⟨(some (K.ofNat 44)), (some ((K.ofNat 38), true)), .bin .rem (.t (K.ofNat 41)) (.t (K.ofNat 43))⟩, ⟨(some (K.ofNat 45)), (some ((K.ofNat 38), true)), .bin .eql (.t (K.ofNat 39)) (.t (K.ofNat 44))⟩, ⟨(some (K.ofNat 46)), none, .pick (.t (K.ofNat 38)) (.t (K.ofNat 45)) (.c (.b false))⟩]
noncomputable def f79_r8 : List EOper := [⟨(some (K.ofNat 47)), none, .mv (.t (K.ofNat 8))⟩, ⟨(some (K.ofNat 48)), none, .bin .add (.t (K.ofNat 47)) (.c (.i .i64 (.ofNat 1)))⟩, ⟨(some (K.ofNat 8)), none, .as (.t (K.ofNat 48))⟩]
noncomputable def f79_r9 : List EOper := [⟨(some (K.ofNat 49)), none, .bin .add (.t (K.ofNat 15)) (.c (.i .i64 (.ofNat 1)))⟩, ⟨(some (K.ofNat 15)), none, .mv (.t (K.ofNat 49))⟩]
noncomputable def f79_l0 : EC := (.seq (.reg f79_r3) (.seq (.cond (.t (K.ofNat 16)) .skip (.exit 0)) (.seq (.block 1 (.seq (.reg f79_r4) (.seq (.reg f79_r5) (.seq (.reg f79_r6) (.seq (.reg f79_r7) (.cond (.t (K.ofNat 46)) (.reg f79_r8) .skip)))))) (.reg f79_r9))))
noncomputable def f79_r10 : List EOper := [⟨(some (K.ofNat 50)), none, .mv (.t (K.ofNat 8))⟩, ⟨(some (K.ofNat 7)), none, .as (.t (K.ofNat 50))⟩]
noncomputable def f79_c : EC := (.seq (.reg f79_r0) (.seq (.reg f79_r1) (.seq (.seq (.reg f79_r2) (.block 0 (.loop f79_l0))) (.seq (.reg f79_r10) .ret))))
noncomputable def f79 : EF := ⟨51, [.tmp (K.ofNat 7)], f79_c, none⟩
theorem f79_rs : f79.rs = [.tmp (K.ofNat 7)] := of_eq_true (eq_self _)
noncomputable def f54_r0 : List EOper := [⟨(some (K.ofNat 2)), none, .box 1 (.t (K.ofNat 0))⟩, ⟨(some (K.ofNat 3)), none, .box 1 (.t (K.ofNat 1))⟩, ⟨(some (K.ofNat 4)), none, .as (.c .sn)⟩]
noncomputable def f54_r1 : List EOper := [⟨(some (K.ofNat 10)), none, .ld (.t (K.ofNat 2))⟩, ⟨(some (K.ofNat 11)), none, .call (.c (.fn (K.ofNat 78) [])) [(.t (K.ofNat 10))]⟩, ⟨(some (K.ofNat 5)), none, .alloc 1 [.mn]⟩, ⟨none, none, .st 1 (.t (K.ofNat 5)) (.t (K.ofNat 11))⟩]
noncomputable def f54_r2 : List EOper := [⟨(some (K.ofNat 12)), none, .mkfn (K.ofNat 79) [(.t (K.ofNat 3)), (.t (K.ofNat 5)), (.t (K.ofNat 2))]⟩, ⟨(some (K.ofNat 6)), none, .as (.t (K.ofNat 12))⟩]
noncomputable def f54_r3 : List EOper := [⟨(some (K.ofNat 13)), none, .ld (.t (K.ofNat 3))⟩, ⟨(some (K.ofNat 14)), none, .mkslice 1 [.sn] (.t (K.ofNat 13))⟩, ⟨(some (K.ofNat 7)), none, .as (.t (K.ofNat 14))⟩]
noncomputable def f54_r4 : List EOper := [⟨(some (K.ofNat 15)), none, .ld (.t (K.ofNat 3))⟩, ⟨(some (K.ofNat 16)), none, .mv (.c (.i .i64 (.ofNat 0)))⟩]
noncomputable def f54_r5 : List EOper := [⟨(some (K.ofNat 17)), none, .bin .lss (.t (K.ofNat 16)) (.t (K.ofNat 15))⟩]
noncomputable def f54_r6 : List EOper := [⟨(some (K.ofNat 18)), none, .mv (.t (K.ofNat 16))⟩, ⟨(some (K.ofNat 8)), none, .as (.t (K.ofNat 18))⟩]
noncomputable def f54_r7 : List EOper := [⟨(some (K.ofNat 19)), none, .ld (.t (K.ofNat 3))⟩, ⟨(some (K.ofNat 20)), none, .mv (.c (.i .i64 (.ofNat 0)))⟩]
noncomputable def f54_r8 : List EOper := [⟨(some (K.ofNat 21)), none, .bin .lss (.t (K.ofNat 20)) (.t (K.ofNat 19))⟩]
noncomputable def f54_r9 : List EOper := [⟨(some (K.ofNat 22)), none, .mv (.t (K.ofNat 20))⟩, ⟨(some (K.ofNat 9)), none, .as (.t (K.ofNat 22))⟩]
noncomputable def f54_r10 : List Stage := [⟨[⟨(some (K.ofNat 23)), none, .mv (.t (K.ofNat 7))⟩, ⟨(some (K.ofNat 24)), none, .mv (.t (K.ofNat 8))⟩, ⟨(some (K.ofNat 25)), none, .mv (.t (K.ofNat 7))⟩, ⟨(some (K.ofNat 26)), none, .mv (.t (K.ofNat 8))⟩, ⟨(some (K.ofNat 27)), none, .iads 1 (.t (K.ofNat 25)) (.t (K.ofNat 26))⟩, ⟨(some (K.ofNat 28)), none, .ld (.t (K.ofNat 27))⟩, ⟨(some (K.ofNat 29)), none, .mv (.t (K.ofNat 6))⟩, ⟨(some (K.ofNat 30)), none, .mv (.t (K.ofNat 8))⟩, ⟨(some (K.ofNat 31)), none, .mv (.t (K.ofNat 9))⟩], [], (some ⟨(some (K.ofNat 32)), none, .call (.t (K.ofNat 29)) [(.t (K.ofNat 30)), (.t (K.ofNat 31))]⟩), []⟩, ⟨[⟨(some (K.ofNat 33)), none, .bslice 1 1 [(.i .i64 (.ofNat 0))] [(0, 1, (.t (K.ofNat 32)))]⟩], [⟨(some (K.ofNat 23)), none, .mv (.t (K.ofNat 7))⟩, ⟨(some (K.ofNat 24)), none, .mv (.t (K.ofNat 8))⟩, ⟨(some (K.ofNat 25)), none, .mv (.t (K.ofNat 7))⟩, ⟨(some (K.ofNat 26)), none, .mv (.t (K.ofNat 8))⟩, ⟨(some (K.ofNat 27)), none, .iads 1 (.t (K.ofNat 25)) (.t (K.ofNat 26))⟩, ⟨(some (K.ofNat 28)), none, .ld (.t (K.ofNat 27))⟩], (some ⟨(some (K.ofNat 34)), none, .app 1 (.t (K.ofNat 28)) (.t (K.ofNat 33))⟩), [(K.ofNat 33)]⟩, ⟨[⟨(some (K.ofNat 35)), none, .iads 1 (.t (K.ofNat 23)) (.t (K.ofNat 24))⟩], [⟨(some (K.ofNat 23)), none, .mv (.t (K.ofNat 7))⟩, ⟨(some (K.ofNat 24)), none, .mv (.t (K.ofNat 8))⟩], (some ⟨none, none, .st 1 (.t (K.ofNat 35)) (.t (K.ofNat 34))⟩), []⟩, ⟨[], [], none, []⟩]
noncomputable def f54_r11 : List EOper := [⟨(some (K.ofNat 36)), none, .bin .add (.t (K.ofNat 20)) (.c (.i .i64 (.ofNat 1)))⟩, ⟨(some (K.ofNat 20)), none, .mv (.t (K.ofNat 36))⟩]
noncomputable def f54_l0 : EC := (.seq (.reg f54_r8) (.seq (.cond (.t (K.ofNat 21)) .skip (.exit 2)) (.seq (.block 3 (.seq (.reg f54_r9) (.draw f54_r10))) (.reg f54_r11))))
noncomputable def f54_r12 : List EOper := [⟨(some (K.ofNat 37)), none, .bin .add (.t (K.ofNat 16)) (.c (.i .i64 (.ofNat 1)))⟩, ⟨(some (K.ofNat 16)), none, .mv (.t (K.ofNat 37))⟩]
noncomputable def f54_l1 : EC := (.seq (.reg f54_r5) (.seq (.cond (.t (K.ofNat 17)) .skip (.exit 0)) (.seq (.block 1 (.seq (.reg f54_r6) (.seq (.reg f54_r7) (.block 2 (.loop f54_l0))))) (.reg f54_r12))))
noncomputable def f54_r13 : List EOper := [⟨(some (K.ofNat 38)), none, .mv (.t (K.ofNat 7))⟩, ⟨(some (K.ofNat 4)), none, .as (.t (K.ofNat 38))⟩]
noncomputable def f54_c : EC := (.seq (.reg f54_r0) (.seq (.reg f54_r1) (.seq (.reg f54_r2) (.seq (.reg f54_r3) (.seq (.seq (.reg f54_r4) (.block 0 (.loop f54_l1))) (.seq (.reg f54_r13) .ret))))))
noncomputable def f54 : EF := ⟨39, [.tmp (K.ofNat 4)], f54_c, none⟩
theorem f54_rs : f54.rs = [.tmp (K.ofNat 4)] := of_eq_true (eq_self _)
/-- Do i and k play with j in two rounds that follow? -/
def folB (f : Int × Int → Option Int) (L : Nat) (i k j : Int) : Bool := match f (i, j), f (j, k) with
  | some a, some b => decide (b = (a + 1).tmod (L : Int))
  | _, _ => false
def folI (f : Int × Int → Option Int) (L : Nat) (i k : Int) (n : Nat) : Int := sm (fun j => if folB f L i k (j : Int) = true then 1 else 0) n
theorem folI_bd {f : Int × Int → Option Int} {L : Nat} {i k : Int} {n : Nat} : 0 ≤ folI f L i k n ∧ folI f L i k n ≤ (n : Int) := by
  have := sm_bd (f := fun j => if folB f L i k (j : Int) = true then 1 else 0) (b := 1) (fun t => by split <;> omega) n
  unfold folI; omega
theorem fol_0 {f : Int × Int → Option Int} {L : Nat} {i k : Int} : folI f L i k 0 = 0 := by unfold folI; rfl
/-- What the closure has. -/
structure Cap (f : Int × Int → Option Int) (L n : Nat) (idn idw ids : K) (h : H) : Prop where
  n : h.get idn = .cells 1 [.i .i64 (n : Int)]
  w : ∃ idm, h.get idw = .cells 1 [.m idm] ∧ MapF h idm 108 f
  s : ∃ v, h.get ids = .cells 1 [v] ∧ ∀ h1, lenV v h1 = .ok (.i .i64 (L : Int)) h1
section
variable {fs : T EF} {h : H} {f : Int × Int → Option Int} {L n : Nat} {idn idw ids : K}
def f79_I (h : H) (f : Int × Int → Option Int) (L n : Nat) (idn idw ids : K) (i k : Int) (j : Nat) (fr : Fr) (h1 : H) : Prop := j ≤ n ∧ h1 = h ∧ fr.get (K.ofNat 0) = some (.i .i64 i) ∧ fr.get (K.ofNat 1) = some (.i .i64 k) ∧ fr.get (K.ofNat 2) = some (.p idn 0) ∧ fr.get (K.ofNat 3) = some (.p idw 0) ∧ fr.get (K.ofNat 4) = some (.p ids 0) ∧ fr.get (K.ofNat 8) = some (.i .i64 (folI f L i k j)) ∧ fr.get (K.ofNat 14) = some (.i .i64 (n : Int)) ∧ fr.get (K.ofNat 15) = some (.i .i64 (j : Int))
theorem f79_ret {i k : Nat} (c : Cap f L n idn idw ids h) (hf : ∀ x a, f x = some a → 0 ≤ a ∧ a < (L : Int)) (hn : n ≤ 1000) (hL : L ≤ 1000) (hi : i ≤ 1000) (hk : k ≤ 1000) : Ret fs f79 [.i .i64 (i : Int), .i .i64 (k : Int), .p idn 0, .p idw 0, .p ids 0] h fun r h' => r = .i .i64 (folI f L (i : Int) (k : Int) n) ∧ h' = h := by
  obtain ⟨cn, ⟨idm, cw, hm⟩, v, cs, hv⟩ := c
  have ln : loadV h (.p idn 0) one? = .ok (.i .i64 (n : Int)) h := load_p cn rfl
  have lw : loadV h (.p idw 0) one? = .ok (.m idm) h := load_p cw rfl
  have ls : loadV h (.p ids 0) one? = .ok v h := load_p cs rfl
  apply ret_of rfl
  show W fs none f79_c _ _ _
  unfold f79_c
  simp (disch := omega) only [f79_r0, f79_r1, f79_r2, w_reg, w_seq, w_block, seqK_n, x_nil, x_mv, x_as, x_ld, kx, rvP_ok, ev_t, ev_c, getV_some, putD_some, of0, getK_set, Nat.reduceEqDiff, ↓reduceIte, frame_5, ln]
  refine W_loop (f79_I h f L n idn idw ids (i : Int) (k : Int)) (fun j => n - j) ?_ 0 ⟨by omega, rfl, by simp (disch := omega) only [getK_set, Nat.reduceEqDiff, ↓reduceIte, and_self, Int.natCast_zero, fol_0]⟩
  rintro j fr h1 ⟨hj, rfl, g0, g1, g2, g3, g4, g8, g14, g15⟩
  have hb := folI_bd (f := f) (L := L) (i := (i : Int)) (k := (k : Int)) (n := j)
  have hsu : folI f L (i : Int) (k : Int) (j + 1) = folI f L (i : Int) (k : Int) j + (if folB f L (i : Int) (k : Int) (j : Int) = true then 1 else 0) := rfl
  unfold f79_l0
  by_cases hlt : j < n
  · have d0 : decide ((j : Int) < (n : Int)) = true := by simpa using hlt
    have k1 := hm.look (z := .i .i64 0) (x := ((i : Int), (j : Int))) ⟨inR_n (by omega), inR_n (by omega)⟩
    have k2 := hm.look (z := .i .i64 0) (x := ((j : Int), (k : Int))) ⟨inR_n (by omega), inR_n (by omega)⟩
    unfold pZ at k1 k2
    have key : ∀ (o1 o2 : Option Int), f ((i : Int), (j : Int)) = o1 → f ((j : Int), (k : Int)) = o2 → folB f L (i : Int) (k : Int) (j : Int) = (match o1, o2 with | some a, some b => decide (b = (a + 1).tmod (L : Int)) | _, _ => false) := fun o1 o2 e1 e2 => by
      unfold folB; rw [e1, e2]
    cases e1 : f ((i : Int), (j : Int)) with
    | none =>
      have hB := key none _ e1 rfl
      have hB : folB f L (i : Int) (k : Int) (j : Int) = false := hB
      rw [hB] at hsu
      rw [e1] at k1
      cases e2 : f ((j : Int), (k : Int)) with
      | none =>
        rw [e2] at k2
        simp (disch := omega) only [f79_r3, f79_r4, f79_r5, f79_r6, f79_r7, f79_r9, w_skip, w_reg, w_seq, w_cond, w_block, seqK_n, atK_n, loopK_n, ckB_b, cbB_b, okG_b, asG_t, true_and, x_nil, x_g, x_mv, x_as, x_pick, x_build, x_ld, x_bin, x_look, x_ext, kx, rvP_ok, okv_some, ev_t, ev_c, getV_some, putD_some, bin_add, bin_lss, pick_b, onTup_t, oGet_s, nth0, nth1, cells1_i, of0, of1, getK_set, Nat.reduceEqDiff, ↓reduceIte, Bool.false_eq_true, fill_2, set_2, g0, g1, g3, g14, g15, d0, lw, k1, k2, okZ, fill_2, set_2, fw64]
        exact ⟨j + 1, by omega, by omega, rfl, by simp (disch := omega) only [getK_set, Nat.reduceEqDiff, ↓reduceIte, Bool.false_eq_true, g0, g1, g2, g3, g4, g8, g14, and_self, Int.natCast_add, Int.natCast_one, hsu, Bool.false_eq_true, Int.add_zero]⟩
      | some b =>
        rw [e2] at k2
        simp (disch := omega) only [f79_r3, f79_r4, f79_r5, f79_r6, f79_r7, f79_r9, w_skip, w_reg, w_seq, w_cond, w_block, seqK_n, atK_n, loopK_n, ckB_b, cbB_b, okG_b, asG_t, true_and, x_nil, x_g, x_mv, x_as, x_pick, x_build, x_ld, x_bin, x_look, x_ext, kx, rvP_ok, okv_some, ev_t, ev_c, getV_some, putD_some, bin_add, bin_lss, pick_b, onTup_t, oGet_s, nth0, nth1, cells1_i, of0, of1, getK_set, Nat.reduceEqDiff, ↓reduceIte, Bool.false_eq_true, fill_2, set_2, g0, g1, g3, g14, g15, d0, lw, k1, k2, okZ, fill_2, set_2, fw64]
        exact ⟨j + 1, by omega, by omega, rfl, by simp (disch := omega) only [getK_set, Nat.reduceEqDiff, ↓reduceIte, Bool.false_eq_true, g0, g1, g2, g3, g4, g8, g14, and_self, Int.natCast_add, Int.natCast_one, hsu, Bool.false_eq_true, Int.add_zero]⟩
    | some a =>
      rw [e1] at k1
      obtain ⟨a1, a2⟩ := hf _ _ e1
      cases e2 : f ((j : Int), (k : Int)) with
      | none =>
        have hB := key _ none e1 e2
        have hB : folB f L (i : Int) (k : Int) (j : Int) = false := hB
        rw [hB] at hsu
        rw [e2] at k2
        simp (disch := omega) only [f79_r3, f79_r4, f79_r5, f79_r6, f79_r7, f79_r9, w_skip, w_reg, w_seq, w_cond, w_block, seqK_n, atK_n, loopK_n, ckB_b, cbB_b, okG_b, asG_t, true_and, x_nil, x_g, x_mv, x_as, x_pick, x_build, x_ld, x_bin, x_look, x_ext, kx, rvP_ok, okv_some, ev_t, ev_c, getV_some, putD_some, bin_add, bin_lss, pick_b, onTup_t, oGet_s, nth0, nth1, cells1_i, of0, of1, getK_set, Nat.reduceEqDiff, ↓reduceIte, Bool.false_eq_true, fill_2, set_2, g0, g1, g3, g14, g15, d0, lw, k1, k2, okZ, fill_2, set_2, fw64]
        exact ⟨j + 1, by omega, by omega, rfl, by simp (disch := omega) only [getK_set, Nat.reduceEqDiff, ↓reduceIte, Bool.false_eq_true, g0, g1, g2, g3, g4, g8, g14, and_self, Int.natCast_add, Int.natCast_one, hsu, Bool.false_eq_true, Int.add_zero]⟩
      | some b =>
        have hB := key _ _ e1 e2
        have hB : folB f L (i : Int) (k : Int) (j : Int) = decide (b = (a + 1).tmod (L : Int)) := hB
        rw [e2] at k2
        have hL0 : decide ((L : Int) = 0) = false := by simp; omega
        cases hd : decide (b = (a + 1).tmod (L : Int)) with
        | true =>
          rw [hB, hd] at hsu
          simp (disch := omega) only [f79_r3, f79_r4, f79_r5, f79_r6, f79_r7, f79_r8, f79_r9, w_skip, w_reg, w_seq, w_cond, w_block, seqK_n, atK_n, loopK_n, ckB_b, cbB_b, okG_b, asG_t, true_and, x_nil, x_g, x_mv, x_as, x_pick, x_build, x_ld, x_bin, x_look, x_ext, x_len, kx, rvP_ok, okv_some, ev_t, ev_c, getV_some, putD_some, bin_add, bin_eql, bin_lss, bin_rem, pick_b, onTup_t, oGet_s, nth0, nth1, cells1_i, of0, of1, getK_set, Nat.reduceEqDiff, ↓reduceIte, fill_2, set_2, g0, g1, g3, g4, g8, g14, g15, d0, lw, ls, hv, k1, k2, okZ, fill_2, set_2, hd, fw64]
          exact ⟨j + 1, by omega, by omega, rfl, by simp (disch := omega) only [getK_set, Nat.reduceEqDiff, ↓reduceIte, g0, g1, g2, g3, g4, g14, and_self, Int.natCast_add, Int.natCast_one, hsu]⟩
        | false =>
          rw [hB, hd] at hsu
          simp (disch := omega) only [f79_r3, f79_r4, f79_r5, f79_r6, f79_r7, f79_r9, w_skip, w_reg, w_seq, w_cond, w_block, seqK_n, atK_n, loopK_n, ckB_b, cbB_b, okG_b, asG_t, true_and, x_nil, x_g, x_mv, x_as, x_pick, x_build, x_ld, x_bin, x_look, x_ext, x_len, kx, rvP_ok, okv_some, ev_t, ev_c, getV_some, putD_some, bin_add, bin_eql, bin_lss, bin_rem, pick_b, onTup_t, oGet_s, nth0, nth1, cells1_i, of0, of1, getK_set, Nat.reduceEqDiff, ↓reduceIte, Bool.false_eq_true, fill_2, set_2, g0, g1, g3, g4, g14, g15, d0, lw, ls, hv, k1, k2, okZ, fill_2, set_2, hd, fw64]
          exact ⟨j + 1, by omega, by omega, rfl, by simp (disch := omega) only [getK_set, Nat.reduceEqDiff, ↓reduceIte, Bool.false_eq_true, g0, g1, g2, g3, g4, g8, g14, and_self, Int.natCast_add, Int.natCast_one, hsu, Bool.false_eq_true, Int.add_zero]⟩
  · have d0 : decide ((j : Int) < (n : Int)) = false := by simpa using hlt
    have ej : j = n := by omega
    rw [ej] at g8
    simp (disch := omega) only [f79_r3, f79_r10, f79_rs, w_reg, w_seq, w_cond, w_exit, w_ret, seqK_n, seqK_e, atK_e, loopK_e, ckB_b, cbB_b, retK_r, x_nil, x_mv, x_as, x_bin, kx, rvP_ok, okv_some, ev_t, getV_some, putD_some, bin_lss, oGet_s, readRs_nil, readRs_t, retV_1, Option.some.injEq, exists_eq_left', getK_set, Nat.reduceEqDiff, ↓reduceIte, Bool.false_eq_true, g8, g14, g15, d0, and_self]
theorem Cap.grow {h' : H} (c : Cap f L n idn idw ids h) (hc : HC h) (hG : Grow h.nx.nat h h') : Cap f L n idn idw ids h' := by
  obtain ⟨cn, ⟨idm, cw, M, m1, m2⟩, v, cs, hv⟩ := c
  exact ⟨(hG.old _ (hc.cells cn)).trans cn, ⟨idm, (hG.old _ (hc.cells cw)).trans cw, M, (hG.old _ (hc.lt (by rw [m1]; simp))).trans m1, m2⟩, v, (hG.old _ (hc.cells cs)).trans cs, hv⟩
structure RowsW {α : Type} (e : α → V) (h : H) (h1 : H) (w : V) (xs : List V) (Q : List (List α)) : Prop where
  sd : Nw e h1 w xs Q
  ow : Own h.nx.nat w
  ox : ∀ x ∈ xs, Own h.nx.nat x
  gr : Grow h.nx.nat h h1
def flI (f : Int × Int → Option Int) (L n : Nat) (i k : Nat) : List Int := (List.range k).map fun (k : Nat) => folI f L (i : Int) (k : Int) n
theorem flI_succ {i k : Nat} : flI f L n i (k + 1) = flI f L n i k ++ [folI f L (i : Int) (k : Int) n] := by
  unfold flI; rw [List.range_succ, List.map_append]; rfl
theorem flI_len {i k : Nat} : (flI f L n i k).length = k := by simp [flI]
def flT (f : Int × Int → Option Int) (L n : Nat) : List (List Int) := (List.range n).map fun i => flI f L n i n
def f54_I (h : H) (f : Int × Int → Option Int) (L n : Nat) (idn idw ids : K) (i : Nat) (fr : Fr) (h1 : H) : Prop := i ≤ n ∧ ∃ w xs, RowsW iE h h1 w xs (tbL (fun i => flI f L n i n) [] n i) ∧ fr.get (K.ofNat 3) = some (.p idn 0) ∧ fr.get (K.ofNat 6) = some (.fn (K.ofNat 79) [.p idn 0, .p idw 0, .p ids 0]) ∧ fr.get (K.ofNat 7) = some (w) ∧ fr.get (K.ofNat 15) = some (.i .i64 (n : Int)) ∧ fr.get (K.ofNat 16) = some (.i .i64 (i : Int))
def f54_J (h : H) (f : Int × Int → Option Int) (L n : Nat) (idn idw ids : K) (i k : Nat) (fr : Fr) (h1 : H) : Prop := k ≤ n ∧ ∃ w xs, RowsW iE h h1 w xs ((tbL (fun i => flI f L n i n) [] n i).set i (flI f L n i k)) ∧ fr.get (K.ofNat 3) = some (.p idn 0) ∧ fr.get (K.ofNat 6) = some (.fn (K.ofNat 79) [.p idn 0, .p idw 0, .p ids 0]) ∧ fr.get (K.ofNat 7) = some (w) ∧ fr.get (K.ofNat 8) = some (.i .i64 (i : Int)) ∧ fr.get (K.ofNat 15) = some (.i .i64 (n : Int)) ∧ fr.get (K.ofNat 16) = some (.i .i64 (i : Int)) ∧ fr.get (K.ofNat 19) = some (.i .i64 (n : Int)) ∧ fr.get (K.ofNat 20) = some (.i .i64 (k : Int))
structure CallsF5 (fs : T EF) : Prop where
  c78 : fs.get (K.ofNat 78) = some f78
  c79 : fs.get (K.ofNat 79) = some f79
  c84 : fs.get (K.ofNat 84) = some f84
theorem f54_ret {v : V} {us : List V} {Ls : List (List (Int × Int))} {n : Nat} (k : CallsF5 fs) (hn : n ≤ 100) (hv : Nrp h v us Ls) (hF : Ls.length ≤ 1000 ∧ ∀ l ∈ Ls, l.length ≤ 1000 ∧ ∀ e ∈ l, in2 e) (hf : ∀ x a, whP Ls Ls.length x = some a → 0 ≤ a ∧ a < (Ls.length : Int)) (hc : HC h) : Ret fs f54 [v, .i .i64 (n : Int)] h fun r h' => ∃ xs, Nw iE h' r xs (flT (whP Ls Ls.length) Ls.length n) ∧ Grow h.nx.nat h h' := by
  have hlen : ∀ h1, lenV v h1 = .ok (.i .i64 (Ls.length : Int)) h1 := fun h1 => by rw [hv.out.len, hv.len]
  have hsl : cellsN 1 v = some [v] := hv.out.one
  have gA := Grow.new (Nat.le_refl h.nx.nat) (.cells 1 [v])
  have gA1 := Grow.new (Nat.le_refl (h.new (.cells 1 [v])).nx.nat) (.cells 1 [.i .i64 (n : Int)])
  have n1 := nx_new h (.cells 1 [v])
  have n2 := nx_new (h.new (.cells 1 [v])) (.cells 1 [.i .i64 (n : Int)])
  have b1 : ((h.new (.cells 1 [v])).new (.cells 1 [.i .i64 (n : Int)])).get h.nx = .cells 1 [v] := (get_new_old (by omega)).trans get_new_same
  have b2 : ((h.new (.cells 1 [v])).new (.cells 1 [.i .i64 (n : Int)])).get (h.new (.cells 1 [v])).nx = .cells 1 [.i .i64 (n : Int)] := get_new_same
  apply ret_of rfl
  show W fs none f54_c _ _ _
  unfold f54_c
  simp (disch := omega) only [f54_r0, w_reg, w_seq, seqK_n, x_nil, x_as, x_box, kx, rvP_ok, ev_t, ev_c, getV_some, putD_some, oGet_s, frame_2, cells1_i, getK_set, Nat.reduceEqDiff, ↓reduceIte, hsl]
  generalize (h.new (.cells 1 [v])).nx = idn at *
  generalize (h.new (.cells 1 [v])).new (.cells 1 [.i .i64 (n : Int)]) = h2 at *
  have gB : Grow h.nx.nat h h2 := gA.trans (gA1.low (by omega))
  clear gA gA1
  have hc2 := gB.hc hc
  have l1 : loadV h2 (.p h.nx 0) one? = .ok v h2 := load_p b1 rfl
  simp (disch := omega) only [f54_r1, x_ld, x_call, kx, rvP_ok, ev_t, ev_c, evs_nil, evs_cons, getV_some, putD_some, getK_set, Nat.reduceEqDiff, ↓reduceIte, l1]
  refine (callP_0 (ef := f78) k.c78 rfl (f78_ret k.c84 (hv.grow hc gB) hF hc2)).mono ?_
  rintro r h3 ⟨idm, rfl, hi1, hi2, hmp, gC⟩
  have hc3 := gC.hc hc2
  have n4 := nx_new h3 (.cells 1 [.mn])
  have gD : Grow h3.nx.nat h3 ((h3.new (.cells 1 [.mn])).put h3.nx (.cells 1 [.m idm])) := (Grow.new (Nat.le_refl _) _).trans (Grow.put (Nat.le_refl _) (by omega) _)
  have hstm : storeV (h3.new (.cells 1 [.mn])) 1 (.p h3.nx 0) (.m idm) = .ok undefV ((h3.new (.cells 1 [.mn])).put h3.nx (.cells 1 [.m idm])) := by
    rw [store_p (cs := [.mn]) (xs := [.m idm]) get_new_same rfl (by omega)]; rfl
  have c5 : ((h3.new (.cells 1 [.mn])).put h3.nx (.cells 1 [.m idm])).get h3.nx = .cells 1 [.m idm] := get_put_same
  have n5 : ((h3.new (.cells 1 [.mn])).put h3.nx (.cells 1 [.m idm])).nx.nat = h3.nx.nat + 1 := n4
  simp (disch := omega) only [w_reg, w_seq, seqK_n, x_nil, x_alloc, x_st, kx, rvP_ok, ev_t, getV_some, putD_some, putD_none, getK_set, Nat.reduceEqDiff, ↓reduceIte, hstm]
  generalize (h3.new (.cells 1 [.mn])).put h3.nx (.cells 1 [.m idm]) = h5 at *
  have hc5 := gD.hc hc3
  have gE : Grow h.nx.nat h h5 := gB.trans ((gC.trans (gD.low gC.nx)).low gB.nx)
  have cap : Cap (whP Ls Ls.length) Ls.length n idn h3.nx h.nx h5 := by
    refine ⟨?_, ⟨idm, c5, hmp.same (gD.old _ hi2)⟩, v, ?_, hlen⟩
    · rw [gD.old _ (by have := gC.nx; omega), gC.old _ (by omega)]; exact b2
    · rw [gD.old _ (by have := gC.nx; omega), gC.old _ (by omega)]; exact b1
  have l5 : loadV h5 (.p idn 0) one? = .ok (.i .i64 (n : Int)) h5 := load_p cap.n rfl
  generalize hidw : h3.nx = idw at *
  generalize hids : h.nx = ids at *
  generalize whP Ls Ls.length = f at *
  have hmk := mkw_sn (h := h5) (k := .i64) (n := n) (by omega)
  have hs0 := Nw.empty (e := iE) (h := h5) (n := n)
  have gF := Grow.new (Nat.le_refl h5.nx.nat) (.cells (n * 1) (rep [.sn] n))
  rw [← tb_nil (f := fun i => flI f Ls.length n i n)] at hs0
  have l6 : loadV (h5.new (.cells (n * 1) (rep [.sn] n))) (.p idn 0) one? = .ok (.i .i64 (n : Int)) (h5.new (.cells (n * 1) (rep [.sn] n))) := load_p ((get_new_old (hc5.cells cap.n)).trans cap.n) rfl
  simp (disch := omega) only [f54_r2, f54_r3, f54_r4, w_reg, w_seq, w_block, seqK_n, x_nil, x_mv, x_as, x_ld, x_mkfn, x_mks, kx, rvP_ok, ev_t, ev_c, evs_nil, evs_cons, getV_some, putD_some, of0, getK_set, Nat.reduceEqDiff, ↓reduceIte, l5, hmk, l6]
  refine W_loop (f54_I h5 f Ls.length n idn idw ids) (fun i => n - i) ?_ 0 ⟨by omega, .sl h5.nx 0 n 1, _, ⟨hs0, (fun _ _ _ _ e => (by cases e; exact Nat.le_refl _)), (fun x hx id off n sz e => (by rw [(List.mem_replicate.1 hx).2] at e; cases e)), gF⟩, by simp (disch := omega) only [getK_set, Nat.reduceEqDiff, ↓reduceIte, and_self, Int.natCast_zero]⟩
  clear hmk hs0 gF
  rintro i fr h6 ⟨hi, w, xs, hR, g3, g6, g7, g15, g16⟩
  have hc6 := hR.gr.hc hc5
  unfold f54_l1
  by_cases hlt : i < n
  · have d0 : decide ((i : Int) < (n : Int)) = true := by simpa using hlt
    have l7 : loadV h6 (.p idn 0) one? = .ok (.i .i64 (n : Int)) h6 := load_p (cap.grow hc5 hR.gr).n rfl
    simp (disch := omega) only [f54_r5, f54_r6, f54_r7, w_skip, w_reg, w_seq, w_cond, w_block, seqK_n, ckB_b, cbB_b, true_and, x_nil, x_mv, x_as, x_ld, x_bin, kx, rvP_ok, okv_some, ev_t, ev_c, getV_some, putD_some, bin_lss, of0, getK_set, Nat.reduceEqDiff, ↓reduceIte, g3, g15, g16, d0, l7]
    refine W_loop (f54_J h5 f Ls.length n idn idw ids i) (fun k => n - k) ?_ 0 ⟨by omega, w, xs, by rw [show flI f Ls.length n i 0 = [] from rfl, tb_first hlt]; exact hR, by simp (disch := omega) only [getK_set, Nat.reduceEqDiff, ↓reduceIte, g3, g6, g7, g15, g16, and_self, Int.natCast_zero]⟩
    clear hR g3 g6 g7 g15 g16 fr l7 hc6 w xs
    rintro q fr h6 ⟨hq, w, xs, hR, g3, g6, g7, g8, g15, g16, g19, g20⟩
    have hc6 := hR.gr.hc hc5
    have cap6 := cap.grow hc5 hR.gr
    unfold f54_l0
    by_cases hlt2 : q < n
    · have d1 : decide ((q : Int) < (n : Int)) = true := by simpa using hlt2
      have hQl : ((tbL (fun i => flI f Ls.length n i n) [] n i).set i (flI f Ls.length n i q)).length = n := by rw [List.length_set, tb_len]
      have hQi : ((tbL (fun i => flI f Ls.length n i n) [] n i).set i (flI f Ls.length n i q))[i]'(by rw [hQl]; exact hlt) = flI f Ls.length n i q := List.getElem_set_self _
      obtain ⟨u', h7, p, id, m, cs', a1, a2, a3, a4, a5, a6, a7, _⟩ := hR.sd.row hR.ow hR.ox hR.gr.nx hc6 (i := i) (by rw [hR.sd.len, hQl]; exact hlt) (by rw [hQl]; exact hlt) (x := folI f Ls.length (i : Int) (q : Int) n) (c := .i .i64 (folI f Ls.length (i : Int) (q : Int) n)) rfl (by rw [hQi, flI_len]; omega)
      rw [hQi, List.set_set, ← flI_succ] at a5
      have hsn := (hR.sd.out.new hc6 (.cells (1 * 1) [.i .i64 (folI f Ls.length (i : Int) (q : Int) n)])).at i (by rw [hR.sd.len, hQl]; exact hlt)
      obtain ⟨p', q1, q2⟩ := hsn
      obtain rfl : p = p' := by have := (a2 .i64 h6).symm.trans (q1 .i64 h6); injection this
      have hwb := hR.sd.out.beq
      have hxb : beqV (xs[i]'(by rw [hR.sd.len, hQl]; exact hlt)) (xs[i]'(by rw [hR.sd.len, hQl]; exact hlt)) = true := (hR.sd.inn i (by rw [hR.sd.len, hQl]; exact hlt) (by rw [hQl]; exact hlt)).beq
      have hpb : beqV p p = true := by
        obtain ⟨p2, z1, _, z3⟩ := hR.sd.out.atb i (by rw [hR.sd.len, hQl]; exact hlt)
        obtain rfl : p = p2 := by have := (a2 .i64 h6).symm.trans (z1 .i64 h6); injection this
        exact z3
      have q2 : loadV (h6.new (.cells (1 * 1) [.i .i64 (folI f Ls.length (i : Int) (q : Int) n)])) p one? = .ok (xs[i]'(by rw [hR.sd.len, hQl]; exact hlt)) (h6.new (.cells (1 * 1) [.i .i64 (folI f Ls.length (i : Int) (q : Int) n)])) := q2
      generalize xs[i]'(by rw [hR.sd.len, hQl]; exact hlt) = x at *
      simp (disch := omega) only [f54_r8, f54_r9, f54_r10, w_skip, w_reg, w_draw, w_seq, w_cond, w_block, seqK_n, ckB_b, cbB_b, true_and, x_nil, x_mv, x_as, x_bin, x_call, kx, kg, xg_nil, xg_mv, xg_ld, xg_iads, xd_cons, fresh_nil, stK_s, stay_nil, rvP_ok, okv_some, ev_t, evs_nil, evs_cons, getV_some, putD_some, bin_lss, of0, getK_set, Nat.reduceEqDiff, ↓reduceIte, g6, g7, g8, g19, g20, d1, a2, a3]
      refine (callP_of (ef := f79) k.c79 rfl (f79_ret (i := i) (k := q) cap6 hf (by omega) (by have := hF.1; omega) (by omega) (by omega))).mono ?_
      rintro r h8 ⟨rfl, rfl⟩
      simp (disch := omega) only [true_and, x_nil, x_app, kx, xg_nil, xg_bslice, xd_cons, stK_s, stay_nil, stay_cons, stay_mv, beq_i, stay_iads, stay_ld, ev_t, getV_some, putD_some, oGet_s, cells1_i, fill_1, set_1, Option.some.injEq, exists_eq_left', getK_set, Nat.reduceEqDiff, ↓reduceIte, g7, g8, hc6.dead]
      refine ⟨fresh_one (n := 1) (sz := 1) (by simp (disch := omega) only [getK_set, ↓reduceIte]), ?_⟩
      simp (disch := omega) only [f54_r11, w_reg, seqK_n, atK_n, loopK_n, true_and, x_nil, x_mv, x_st, x_bin, kx, kg, xg_nil, xg_iads, xd_cons, fresh_nil, stK_n, stK_s, stay_nil, stay_cons, again_ok, stay_mv, beq_i, rvP_ok, okv_some, ev_t, ev_c, getV_some, putD_some, putD_none, bin_add, of1, getK_set, Nat.reduceEqDiff, ↓reduceIte, g7, g8, g20, hwb, hxb, hpb, q2, a1, a2, a4, fw64]
      exact ⟨q + 1, by omega, by omega, w, _, ⟨a5, hR.ow, a6, hR.gr.trans (a7.low (Nat.le_refl _))⟩, by simp (disch := omega) only [getK_set, Nat.reduceEqDiff, ↓reduceIte, g3, g6, g7, g8, g15, g16, g19, and_self, Int.natCast_add, Int.natCast_one]⟩
    · have d1 : decide ((q : Int) < (n : Int)) = false := by simpa using hlt2
      have ej : q = n := by omega
      rw [ej, tb_set] at hR
      simp (disch := omega) only [f54_r8, f54_r12, w_reg, w_seq, w_cond, w_exit, seqK_n, seqK_e, atK_n, atK_e, loopK_n, loopK_e, ckB_b, cbB_b, true_and, x_nil, x_mv, x_bin, kx, rvP_ok, okv_some, ev_t, ev_c, getV_some, putD_some, bin_add, bin_lss, of1, getK_set, Nat.reduceEqDiff, ↓reduceIte, Bool.false_eq_true, g16, g19, g20, d1, fw64]
      exact ⟨i + 1, by omega, by omega, w, xs, hR, by simp (disch := omega) only [getK_set, Nat.reduceEqDiff, ↓reduceIte, g3, g6, g7, g15, and_self, Int.natCast_add, Int.natCast_one]⟩
  · have d0 : decide ((i : Int) < (n : Int)) = false := by simpa using hlt
    have ei : i = n := by omega
    rw [ei, tb_all] at hR
    simp (disch := omega) only [f54_r5, f54_r13, f54_rs, w_reg, w_seq, w_cond, w_exit, w_ret, seqK_n, seqK_e, atK_e, loopK_e, ckB_b, cbB_b, true_and, retK_r, x_nil, x_mv, x_as, x_bin, kx, rvP_ok, okv_some, ev_t, getV_some, putD_some, bin_lss, oGet_s, readRs_nil, readRs_t, retV_1, Option.some.injEq, exists_eq_left', getK_set, Nat.reduceEqDiff, ↓reduceIte, Bool.false_eq_true, g7, g15, g16, d0]
    exact ⟨xs, hR.sd, gE.trans (hR.gr.low (by rw [← hids]; exact gE.nx))⟩
end
end Go.Ev
namespace Go.Ev
open Go Go.RowKit
theorem op_mem {t : Int} : ∀ {l : List (Int × Int)}, t ∈ plL l → (t, opF l t) ∈ l ∨ (opF l t, t) ∈ l
  | [], h => by simp [plL] at h
  | e :: l, h => by
    unfold opF
    by_cases h1 : t = e.1
    · rw [if_pos h1]; left; rw [h1]; simp
    · rw [if_neg h1]
      by_cases h2 : t = e.2
      · rw [if_pos h2]; right; rw [h2]; simp
      · rw [if_neg h2]
        have : t ∈ plL l := by
          have h : t ∈ e.1 :: e.2 :: plL l := h
          rcases List.mem_cons.1 h with h | h
          · exact absurd h h1
          · rcases List.mem_cons.1 h with h | h
            · exact absurd h h2
            · exact h
        rcases op_mem this with h | h
        · exact .inl (List.mem_cons_of_mem _ h)
        · exact .inr (List.mem_cons_of_mem _ h)
theorem pl_mem {l : List (Int × Int)} {e : Int × Int} (h : e ∈ l) : e.1 ∈ plL l ∧ e.2 ∈ plL l :=
  ⟨List.mem_flatMap.2 ⟨e, h, by simp⟩, List.mem_flatMap.2 ⟨e, h, by simp⟩⟩
theorem op_of {a b : Int} : ∀ {l : List (Int × Int)}, (plL l).Nodup → (a, b) ∈ l ∨ (b, a) ∈ l → opF l a = b
  | [], _, h => by simp at h
  | e :: l, hn, h => by
    have hn : (e.1 :: e.2 :: plL l).Nodup := hn
    obtain ⟨n1, n2⟩ := List.nodup_cons.1 hn
    obtain ⟨n3, n4⟩ := List.nodup_cons.1 n2
    have ne : e.1 ≠ e.2 := fun q => n1 (by rw [q]; simp)
    unfold opF
    have tail : (a, b) ∈ l ∨ (b, a) ∈ l → (if a = e.1 then e.2 else if a = e.2 then e.1 else opF l a) = b := fun h => by
      have ha : a ∈ plL l := by rcases h with h | h; exact (pl_mem h).1; exact (pl_mem h).2
      rw [if_neg (fun q => n1 (by rw [← q]; exact List.mem_cons_of_mem _ ha)), if_neg (fun q => n3 (by rw [← q]; exact ha))]
      exact op_of n4 h
    rcases h with h | h
    · rcases List.mem_cons.1 h with h | h
      · rw [← h, if_pos rfl]
      · exact tail (.inl h)
    · rcases List.mem_cons.1 h with h | h
      · rw [← h] at ne ⊢
        rw [if_neg (fun q => ne q.symm), if_pos rfl]
      · exact tail (.inr h)
theorem whR_eq {r : Int} {x : Int × Int} : ∀ {l : List (Int × Int)} {f : Int × Int → Option Int}, whR r l f x = if x ∈ l ∨ (x.2, x.1) ∈ l then some r else f x
  | [], f => by simp [whR]
  | e :: l, f => by
    show whR r l (upd2 f e r) x = _
    rw [whR_eq]
    unfold upd2
    by_cases h : x ∈ l ∨ (x.2, x.1) ∈ l
    · rw [if_pos h, if_pos (by rcases h with h | h; exact .inl (List.mem_cons_of_mem _ h); exact .inr (List.mem_cons_of_mem _ h))]
    · rw [if_neg h]
      by_cases h1 : x = (e.2, e.1)
      · rw [if_pos h1, if_pos (.inr (by rw [h1]; simp))]
      · rw [if_neg h1]
        by_cases h2 : x = e
        · rw [if_pos h2, if_pos (.inl (by rw [h2]; simp))]
        · rw [if_neg h2, if_neg]
          rintro (h3 | h3)
          · rcases List.mem_cons.1 h3 with h3 | h3
            · exact h2 h3
            · exact h (.inl h3)
          · rcases List.mem_cons.1 h3 with h3 | h3
            · exact h1 (by rw [← h3])
            · exact h (.inr h3)
section
variable {Q : List (List (Int × Int))} {n : Nat}
theorem wh_some {x : Int × Int} {a : Int} : ∀ {i : Nat}, whP Q i x = some a → ∃ r : Nat, a = (r : Int) ∧ r < i ∧ (x ∈ Q.getD r [] ∨ (x.2, x.1) ∈ Q.getD r [])
  | 0, h => by cases h
  | i + 1, h => by
    have h : whR (i : Int) (Q.getD i []) (whP Q i) x = some a := h
    rw [whR_eq] at h
    split at h
    · rename_i hx
      injection h with h
      exact ⟨i, h.symm, by omega, hx⟩
    · obtain ⟨r, h1, h2, h3⟩ := wh_some h
      exact ⟨r, h1, by omega, h3⟩
theorem vld_ds (v : Vld n Q) {i j : Nat} (hij : i < j) (hj : j < Q.length) : ∀ x ∈ Q[i]'(by omega), ∀ y ∈ Q[j], dsR x y := by
  have := v.pw
  rw [List.pairwise_flatten] at this
  exact List.pairwise_iff_getElem.1 this.2 i j (by omega) hj hij
theorem getD_at {α : Type} {l : List α} {i : Nat} {d : α} (h : i < l.length) : l.getD i d = l[i] := by
  rw [List.getD_eq_getElem?_getD, List.getElem?_eq_getElem h]; rfl
theorem wh_of (v : Vld n Q) {x : Int × Int} {r : Nat} (hx : x ∈ Q.getD r [] ∨ (x.2, x.1) ∈ Q.getD r []) : ∀ {i : Nat}, r < i → i ≤ Q.length → whP Q i x = some (r : Int)
  | 0, h, _ => by omega
  | i + 1, h, hl => by
    show whR (i : Int) (Q.getD i []) (whP Q i) x = _
    rw [whR_eq]
    by_cases e : r = i
    · subst e; rw [if_pos hx]
    · rw [if_neg, wh_of v hx (by omega) (by omega)]
      rw [getD_at (show i < Q.length by omega)]
      rw [getD_at (show r < Q.length by omega)] at hx
      have ds := vld_ds v (show r < i by omega) (by omega)
      rintro (h2 | h2) <;> rcases hx with hx | hx
      · exact (ds _ hx _ h2).1 rfl
      · exact (ds _ hx _ h2).2 rfl
      · exact (ds _ hx _ h2).2 rfl
      · exact (ds _ hx _ h2).1 rfl
theorem wh_op (v : Vld n Q) {i j : Nat} (hi : i < n) {r : Nat} (hr : r < Q.length) : whP Q Q.length ((i : Int), (j : Int)) = some (r : Int) ↔ opF (Q.getD r []) (i : Int) = (j : Int) := by
  have hrd := v.rnd (Q[r]) (List.getElem_mem hr)
  constructor
  · intro h
    obtain ⟨r', h1, h2, h3⟩ := wh_some h
    have : r = r' := by omega
    subst this
    rw [getD_at hr] at h3 ⊢
    exact op_of (rnd_nd hrd) h3
  · intro h
    have hm := op_mem (rnd_all hrd (t := (i : Int)) (by omega))
    rw [getD_at hr] at h
    rw [h] at hm
    exact wh_of v (by rw [getD_at hr]; exact hm) hr (Nat.le_refl _)
theorem wh_bd {x : Int × Int} {a : Int} (h : whP Q Q.length x = some a) : 0 ≤ a ∧ a < (Q.length : Int) := by
  obtain ⟨r, h1, h2, _⟩ := wh_some h
  omega
theorem op_in (v : Vld n Q) {r : Nat} (hr : r < Q.length) {t : Nat} (ht : t < n) : ∃ u : Nat, u < n ∧ opF (Q.getD r []) (t : Int) = (u : Int) := by
  have hrd := v.rnd (Q[r]) (List.getElem_mem hr)
  rw [getD_at hr]
  rcases op_mem (rnd_all hrd (t := (t : Int)) (by omega)) with h | h
  · have := (rnd_e hrd _ h).2.1
    exact ⟨(opF Q[r] (t : Int)).toNat, by omega, by omega⟩
  · have := (rnd_e hrd _ h).1
    exact ⟨(opF Q[r] (t : Int)).toNat, by omega, by omega⟩
theorem op_op (v : Vld n Q) {r : Nat} (hr : r < Q.length) {t u : Nat} (ht : t < n) (h : opF (Q.getD r []) (t : Int) = (u : Int)) : opF (Q.getD r []) (u : Int) = (t : Int) := by
  have hrd := v.rnd (Q[r]) (List.getElem_mem hr)
  rw [getD_at hr] at h ⊢
  have hm := op_mem (rnd_all hrd (t := (t : Int)) (by omega))
  rw [h] at hm
  exact op_of (rnd_nd hrd) (Or.symm hm)
theorem sm_at {g : Nat → Int} {r0 : Nat} : ∀ {L : Nat}, r0 < L → (∀ r, r < L → r ≠ r0 → g r = 0) → sm g L = g r0
  | 0, h, _ => by omega
  | L + 1, h, hz => by
    show sm g L + g L = _
    by_cases e : r0 = L
    · subst e
      rw [show sm g r0 = sm (fun _ => 0) r0 from sm_cong r0 fun t ht => hz t (by omega) (by omega), sm_zero]; omega
    · rw [sm_at (by omega) (fun r hr hne => hz r (by omega) hne), hz L (by omega) (fun q => e q.symm)]; omega
/-- Who follows t from round r on. -/
def nxT (Q : List (List (Int × Int))) (t : Int) (r : Nat) : Int := opF (Q.getD ((r + 1) % Q.length) []) (opF (Q.getD r []) t)
def rfI (Q : List (List (Int × Int))) (t k : Int) (m : Nat) : Int := sm (fun r => if nxT Q t r = k then 1 else 0) m
theorem fol_rf (v : Vld n Q) {i k : Nat} (hi : i < n) : folI (whP Q Q.length) Q.length (i : Int) (k : Int) n = rfI Q (i : Int) (k : Int) Q.length := by
  have e1 : ∀ j, j < n → (if folB (whP Q Q.length) Q.length (i : Int) (k : Int) (j : Int) = true then (1 : Int) else 0) = sm (fun r => if opF (Q.getD r []) (i : Int) = (j : Int) ∧ opF (Q.getD ((r + 1) % Q.length) []) (j : Int) = (k : Int) then 1 else 0) Q.length := fun j hj => by
    cases hw : whP Q Q.length ((i : Int), (j : Int)) with
    | none =>
      have hB : folB (whP Q Q.length) Q.length (i : Int) (k : Int) (j : Int) = false := by unfold folB; rw [hw]
      rw [hB, if_neg (by simp), sm_cong (g := fun _ => 0) _ fun r hr => ?_, sm_zero]
      rw [if_neg]
      rintro ⟨h, _⟩
      rw [(wh_op v hi hr).2 h] at hw; cases hw
    | some a =>
      obtain ⟨r0, rfl, hr0, _⟩ := wh_some hw
      have ho := (wh_op v hi hr0).1 hw
      rw [sm_at hr0 (fun r hr hne => ?_)]
      · have hp : (r0 + 1) % Q.length < Q.length := Nat.mod_lt _ (by omega)
        have hB : folB (whP Q Q.length) Q.length (i : Int) (k : Int) (j : Int) = decide (opF (Q.getD ((r0 + 1) % Q.length) []) (j : Int) = (k : Int)) := by
          have hm : ((r0 : Int) + 1).tmod (Q.length : Int) = (((r0 + 1) % Q.length : Nat) : Int) := rfl
          unfold folB
          rw [hw]
          cases hw2 : whP Q Q.length ((j : Int), (k : Int)) with
          | none =>
            refine (decide_eq_false fun h => ?_).symm
            rw [(wh_op v hj hp).2 h] at hw2; cases hw2
          | some b =>
            show decide (b = ((r0 : Int) + 1).tmod (Q.length : Int)) = _
            rw [hm]
            congr 1
            refine propext ⟨fun h => (wh_op v hj hp).1 (by rw [hw2, h]), fun h => ?_⟩
            have := (wh_op v hj hp).2 h
            rw [hw2] at this; injection this
        rw [hB]
        by_cases h : opF (Q.getD ((r0 + 1) % Q.length) []) (j : Int) = (k : Int)
        · rw [decide_eq_true h, if_pos rfl, if_pos ⟨ho, h⟩]
        · rw [decide_eq_false h, if_neg (by simp), if_neg (fun q => h q.2)]
      · rw [if_neg]
        rintro ⟨h, _⟩
        have := (wh_op v hi hr).2 h
        rw [hw] at this
        injection this with this
        omega
  unfold folI rfI
  rw [sm_cong _ e1, sm_swap (e := fun r j => if opF (Q.getD r []) (i : Int) = (j : Int) ∧ opF (Q.getD ((r + 1) % Q.length) []) (j : Int) = (k : Int) then 1 else 0)]
  refine sm_cong _ fun r hr => ?_
  obtain ⟨u, hu, he⟩ := op_in v hr hi
  rw [sm_at hu (fun j _ hne => by rw [if_neg]; rintro ⟨h, _⟩; rw [he] at h; omega)]
  unfold nxT
  rw [he]
  by_cases h : opF (Q.getD ((r + 1) % Q.length) []) (u : Int) = (k : Int)
  · rw [if_pos ⟨rfl, h⟩, if_pos h]
  · rw [if_neg (fun q => h q.2), if_neg h]
end
end Go.Ev
namespace Go.Ev
open Go Go.RowKit
noncomputable def f55_r0 : List EOper := [⟨(some (K.ofNat 4)), none, .as (.c (.b false))⟩]
noncomputable def f55_r1 : List EOper := [⟨(some (K.ofNat 9)), none, .mv (.t (K.ofNat 0))⟩, ⟨(some (K.ofNat 10)), none, .mv (.t (K.ofNat 1))⟩, ⟨(some (K.ofNat 11)), none, .call (.c (.fn (K.ofNat 54) [])) [(.t (K.ofNat 9)), (.t (K.ofNat 10))]⟩, ⟨(some (K.ofNat 12)), none, .len (.t (K.ofNat 11))⟩, ⟨(some (K.ofNat 13)), none, .mv (.c (.i .i64 (.ofNat 0)))⟩]
noncomputable def f55_r2 : List EOper := [⟨(some (K.ofNat 14)), none, .bin .lss (.t (K.ofNat 13)) (.t (K.ofNat 12))⟩]
noncomputable def f55_r3 : List EOper := [⟨(some (K.ofNat 15)), none, .mv (.t (K.ofNat 13))⟩, ⟨(some (K.ofNat 16)), none, .iads 1 (.t (K.ofNat 11)) (.t (K.ofNat 13))⟩, ⟨(some (K.ofNat 17)), none, .ld (.t (K.ofNat 16))⟩, ⟨(some (K.ofNat 5)), none, .as (.t (K.ofNat 15))⟩, ⟨(some (K.ofNat 6)), none, .as (.t (K.ofNat 17))⟩]
noncomputable def f55_r4 : List EOper := [⟨(some (K.ofNat 18)), none, .mv (.t (K.ofNat 6))⟩, ⟨(some (K.ofNat 19)), none, .len (.t (K.ofNat 18))⟩, ⟨(some (K.ofNat 20)), none, .mv (.c (.i .i64 (.ofNat 0)))⟩]
noncomputable def f55_r5 : List EOper := [⟨(some (K.ofNat 21)), none, .bin .lss (.t (K.ofNat 20)) (.t (K.ofNat 19))⟩]
noncomputable def f55_r6 : List EOper := [⟨(some (K.ofNat 22)), none, .mv (.t (K.ofNat 20))⟩, ⟨(some (K.ofNat 23)), none, .iads 1 (.t (K.ofNat 18)) (.t (K.ofNat 20))⟩, ⟨(some (K.ofNat 24)), none, .ld (.t (K.ofNat 23))⟩, ⟨(some (K.ofNat 7)), none, .as (.t (K.ofNat 22))⟩, ⟨(some (K.ofNat 8)), none, .as (.t (K.ofNat 24))⟩]
noncomputable def f55_r7 : List EOper := [⟨(some (K.ofNat 25)), none, .mv (.t (K.ofNat 5))⟩, ⟨(some (K.ofNat 26)), none, .mv (.t (K.ofNat 7))⟩, ⟨(some (K.ofNat 27)), none, .bin .neq (.t (K.ofNat 25)) (.t (K.ofNat 26))⟩, ⟨(some (K.ofNat 28)), none, .mv (.t (K.ofNat 27))⟩, ⟨(some (K.ofNat 29)), (some ((K.ofNat 28), true)), .mv (.t (K.ofNat 8))⟩, ⟨(some (K.ofNat 30)), (some ((K.ofNat 28), true)), .bin .neq (.t (K.ofNat 29)) (.c (.i .i64 (.ofNat 1)))⟩, ⟨(some (K.ofNat 31)), none, .pick (.t (K.ofNat 28)) (.t (K.ofNat 30)) (.c (.b false))⟩]
noncomputable def f55_r8 : List EOper := [⟨(some (K.ofNat 4)), none, .as (.c (.b false))⟩]
noncomputable def f55_r9 : List EOper := [⟨(some (K.ofNat 32)), none, .bin .add (.t (K.ofNat 20)) (.c (.i .i64 (.ofNat 1)))⟩, ⟨(some (K.ofNat 20)), none, .mv (.t (K.ofNat 32))⟩]
noncomputable def f55_l0 : EC := (.seq (.reg f55_r5) (.seq (.cond (.t (K.ofNat 21)) .skip (.exit 2)) (.seq (.block 3 (.seq (.reg f55_r6) (.seq (.reg f55_r7) (.cond (.t (K.ofNat 31)) (.seq (.reg f55_r8) .ret) .skip)))) (.reg f55_r9))))
noncomputable def f55_r10 : List EOper := [⟨(some (K.ofNat 33)), none, .bin .add (.t (K.ofNat 13)) (.c (.i .i64 (.ofNat 1)))⟩, ⟨(some (K.ofNat 13)), none, .mv (.t (K.ofNat 33))⟩]
noncomputable def f55_l1 : EC := (.seq (.reg f55_r2) (.seq (.cond (.t (K.ofNat 14)) .skip (.exit 0)) (.seq (.block 1 (.seq (.reg f55_r3) (.seq (.reg f55_r4) (.block 2 (.loop f55_l0))))) (.reg f55_r10))))
noncomputable def f55_r11 : List EOper := [⟨(some (K.ofNat 4)), none, .as (.c (.b true))⟩]
noncomputable def f55_c : EC := (.seq (.reg f55_r0) (.seq (.seq (.reg f55_r1) (.block 0 (.loop f55_l1))) (.seq (.reg f55_r11) .ret)))
noncomputable def f55 : EF := ⟨34, [.tmp (K.ofNat 4)], f55_c, none⟩
theorem f55_rs : f55.rs = [.tmp (K.ofNat 4)] := of_eq_true (eq_self _)
noncomputable def f18_r0 : List EOper := [⟨(some (K.ofNat 4)), none, .as (.c .sn)⟩, ⟨(some (K.ofNat 5)), none, .as (.c (.i .i64 (.ofNat 0)))⟩]
noncomputable def f18_r1 : List EOper := [⟨(some (K.ofNat 9)), none, .mv (.t (K.ofNat 0))⟩, ⟨(some (K.ofNat 10)), none, .mv (.t (K.ofNat 1))⟩, ⟨(some (K.ofNat 11)), none, .call (.c (.fn (K.ofNat 51) [])) [(.t (K.ofNat 9)), (.t (K.ofNat 10))]⟩, ⟨(some (K.ofNat 8)), none, .mv (.t (K.ofNat 11))⟩, ⟨(some (K.ofNat 12)), none, .ext (.t (K.ofNat 8)) 0⟩, ⟨(some (K.ofNat 13)), none, .ext (.t (K.ofNat 8)) 1⟩, ⟨(some (K.ofNat 6)), none, .as (.t (K.ofNat 12))⟩, ⟨(some (K.ofNat 7)), none, .as (.t (K.ofNat 13))⟩]
noncomputable def f18_r2 : List EOper := [⟨(some (K.ofNat 14)), none, .mv (.t (K.ofNat 7))⟩, ⟨(some (K.ofNat 15)), none, .bin .neq (.t (K.ofNat 14)) (.c (.i .i64 (.ofNat 0)))⟩]
noncomputable def f18_r3 : List EOper := [⟨(some (K.ofNat 16)), none, .mv (.t (K.ofNat 7))⟩, ⟨(some (K.ofNat 4)), none, .as (.c .sn)⟩, ⟨(some (K.ofNat 5)), none, .as (.t (K.ofNat 16))⟩]
noncomputable def f18_r4 : List EOper := [⟨(some (K.ofNat 17)), none, .mv (.t (K.ofNat 6))⟩, ⟨(some (K.ofNat 18)), none, .mv (.t (K.ofNat 0))⟩, ⟨(some (K.ofNat 19)), none, .call (.c (.fn (K.ofNat 54) [])) [(.t (K.ofNat 17)), (.t (K.ofNat 18))]⟩, ⟨(some (K.ofNat 4)), none, .as (.t (K.ofNat 19))⟩, ⟨(some (K.ofNat 5)), none, .as (.c (.i .i64 (.ofNat 0)))⟩]
noncomputable def f18_c : EC := (.seq (.reg f18_r0) (.seq (.reg f18_r1) (.seq (.seq (.reg f18_r2) (.cond (.t (K.ofNat 15)) (.seq (.reg f18_r3) .ret) .skip)) (.seq (.reg f18_r4) .ret))))
noncomputable def f18 : EF := ⟨20, [.tmp (K.ofNat 4), .tmp (K.ofNat 5)], f18_c, none⟩
theorem f18_rs : f18.rs = [.tmp (K.ofNat 4), .tmp (K.ofNat 5)] := of_eq_true (eq_self _)
noncomputable def f19_r0 : List EOper := [⟨(some (K.ofNat 4)), none, .as (.c (.b false))⟩, ⟨(some (K.ofNat 5)), none, .as (.c (.i .i64 (.ofNat 0)))⟩]
noncomputable def f19_r1 : List EOper := [⟨(some (K.ofNat 9)), none, .mv (.t (K.ofNat 0))⟩, ⟨(some (K.ofNat 10)), none, .mv (.t (K.ofNat 1))⟩, ⟨(some (K.ofNat 11)), none, .call (.c (.fn (K.ofNat 51) [])) [(.t (K.ofNat 9)), (.t (K.ofNat 10))]⟩, ⟨(some (K.ofNat 8)), none, .mv (.t (K.ofNat 11))⟩, ⟨(some (K.ofNat 12)), none, .ext (.t (K.ofNat 8)) 0⟩, ⟨(some (K.ofNat 13)), none, .ext (.t (K.ofNat 8)) 1⟩, ⟨(some (K.ofNat 6)), none, .as (.t (K.ofNat 12))⟩, ⟨(some (K.ofNat 7)), none, .as (.t (K.ofNat 13))⟩]
noncomputable def f19_r2 : List EOper := [⟨(some (K.ofNat 14)), none, .mv (.t (K.ofNat 7))⟩, ⟨(some (K.ofNat 15)), none, .bin .neq (.t (K.ofNat 14)) (.c (.i .i64 (.ofNat 0)))⟩]
noncomputable def f19_r3 : List EOper := [⟨(some (K.ofNat 16)), none, .mv (.t (K.ofNat 7))⟩, ⟨(some (K.ofNat 4)), none, .as (.c (.b false))⟩, ⟨(some (K.ofNat 5)), none, .as (.t (K.ofNat 16))⟩]
noncomputable def f19_r4 : List EOper := [⟨(some (K.ofNat 17)), none, .mv (.t (K.ofNat 6))⟩, ⟨(some (K.ofNat 18)), none, .mv (.t (K.ofNat 0))⟩, ⟨(some (K.ofNat 19)), none, .call (.c (.fn (K.ofNat 55) [])) [(.t (K.ofNat 17)), (.t (K.ofNat 18))]⟩, ⟨(some (K.ofNat 4)), none, .as (.t (K.ofNat 19))⟩, ⟨(some (K.ofNat 5)), none, .as (.c (.i .i64 (.ofNat 0)))⟩]
noncomputable def f19_c : EC := (.seq (.reg f19_r0) (.seq (.reg f19_r1) (.seq (.seq (.reg f19_r2) (.cond (.t (K.ofNat 15)) (.seq (.reg f19_r3) .ret) .skip)) (.seq (.reg f19_r4) .ret))))
noncomputable def f19 : EF := ⟨20, [.tmp (K.ofNat 4), .tmp (K.ofNat 5)], f19_c, none⟩
theorem f19_rs : f19.rs = [.tmp (K.ofNat 4), .tmp (K.ofNat 5)] := of_eq_true (eq_self _)
def rowB (i : Nat) (l : List Int) (k : Nat) : Bool := (List.range k).all fun k => decide (i = k) || decide (l.getD k 0 = 1)
def balB (T : List (List Int)) (m : Nat) : Bool := (List.range m).all fun i => rowB i (T.getD i []) (T.getD i []).length
theorem rowB_succ {i k : Nat} {l : List Int} : rowB i l (k + 1) = (rowB i l k && (decide (i = k) || decide (l.getD k 0 = 1))) := by
  unfold rowB; rw [List.range_succ, List.all_append]; simp
theorem balB_succ {T : List (List Int)} {m : Nat} : balB T (m + 1) = (balB T m && rowB m (T.getD m []) (T.getD m []).length) := by
  unfold balB; rw [List.range_succ, List.all_append]; simp
theorem rowB_le {i k m : Nat} {l : List Int} (h : k ≤ m) (hf : rowB i l k = false) : rowB i l m = false := by
  rw [Bool.eq_false_iff] at hf ⊢
  intro hm; apply hf
  unfold rowB at hm ⊢
  rw [List.all_eq_true] at hm ⊢
  exact fun x hx => hm x (by simp at hx ⊢; omega)
theorem balB_le {T : List (List Int)} {k m : Nat} (h : k ≤ m) (hf : balB T k = false) : balB T m = false := by
  rw [Bool.eq_false_iff] at hf ⊢
  intro hm; apply hf
  unfold balB at hm ⊢
  rw [List.all_eq_true] at hm ⊢
  exact fun x hx => hm x (by simp at hx ⊢; omega)
section
variable {fs : T EF} {h : H} {w : V} {xs : List V} {T : List (List Int)}
end
section
variable {fs : T EF} {h : H} {v : V} {us : List V} {Ls : List (List (Int × Int))} {n : Nat}
def f55_I (h : H) (w : V) (T : List (List Int)) (i : Nat) (fr : Fr) (h1 : H) : Prop := i ≤ T.length ∧ h1 = h ∧ balB T i = true ∧ fr.get (K.ofNat 11) = some (w) ∧ fr.get (K.ofNat 12) = some (.i .i64 (T.length : Int)) ∧ fr.get (K.ofNat 13) = some (.i .i64 (i : Int))
def f55_J (h : H) (w u : V) (T : List (List Int)) (l : List Int) (i k : Nat) (fr : Fr) (h1 : H) : Prop := k ≤ l.length ∧ h1 = h ∧ rowB i l k = true ∧ fr.get (K.ofNat 5) = some (.i .i64 (i : Int)) ∧ fr.get (K.ofNat 11) = some (w) ∧ fr.get (K.ofNat 12) = some (.i .i64 (T.length : Int)) ∧ fr.get (K.ofNat 13) = some (.i .i64 (i : Int)) ∧ fr.get (K.ofNat 18) = some (u) ∧ fr.get (K.ofNat 19) = some (.i .i64 (l.length : Int)) ∧ fr.get (K.ofNat 20) = some (.i .i64 (k : Int))
structure CallsBa (fs : T EF) : Prop extends CallsF5 fs where
  c54 : fs.get (K.ofNat 54) = some f54
theorem f55_ret (kk : CallsBa fs) (hn : n ≤ 100) (hv : Nrp h v us Ls) (hF : Ls.length ≤ 1000 ∧ ∀ l ∈ Ls, l.length ≤ 1000 ∧ ∀ e ∈ l, in2 e) (hc : HC h) : Ret fs f55 [v, .i .i64 (n : Int)] h fun r h' => r = .b (balB (flT (whP Ls Ls.length) Ls.length n) n) ∧ Grow h.nx.nat h h' := by
  apply ret_of rfl
  show W fs none f55_c _ _ _
  unfold f55_c
  simp (disch := omega) only [f55_r0, f55_r1, w_reg, w_seq, seqK_n, x_nil, x_mv, x_as, x_call, ev_t, ev_c, evs_nil, evs_cons, getV_some, putD_some, frame_2, of0, getK_set, Nat.reduceEqDiff, ↓reduceIte]
  refine (callP_0 (ef := f54) kk.c54 rfl (f54_ret kk.toCallsF5 hn hv hF (fun _ _ => wh_bd) hc)).mono ?_
  rintro w h1 ⟨xs, hT', hG⟩
  have hT := hT'.nr
  have hTl : (flT (whP Ls Ls.length) Ls.length n).length = n := by simp [flT]
  have hl : ∀ l ∈ flT (whP Ls Ls.length) Ls.length n, l.length ≤ 1000 := fun l hl => by
    obtain ⟨i, _, rfl⟩ := List.mem_map.1 hl
    rw [flI_len]; omega
  rw [← hTl]
  rw [← hTl] at hn
  rw [hTl]
  generalize flT (whP Ls Ls.length) Ls.length n = T at *
  subst hTl
  have hl1 : ∀ h1, lenV w h1 = .ok (.i .i64 (T.length : Int)) h1 := fun h1 => by rw [hT.out.len, hT.len]
  simp (disch := omega) only [w_block, seqK_n, x_nil, x_mv, x_len, kx, rvP_ok, ev_t, ev_c, getV_some, putD_some, getK_set, ↓reduceIte, hl1]
  refine W_loop (f55_I h1 w T) (fun i => T.length - i) ?_ 0 ⟨by omega, rfl, rfl, by simp (disch := omega) only [getK_set, Nat.reduceEqDiff, ↓reduceIte, and_self, Int.natCast_zero]⟩
  rintro i fr h2 ⟨hi, rfl, hB, g11, g12, g13⟩
  unfold f55_l1
  by_cases hlt : i < T.length
  · have d0 : decide ((i : Int) < (T.length : Int)) = true := by simpa using hlt
    have hiu : i < xs.length := by rw [hT.len]; exact hlt
    obtain ⟨p, hp1, hp2⟩ := hT.out.at i hiu
    have hp2 : loadV h2 p one? = .ok xs[i] h2 := hp2
    have hu := hT.inn i hiu hlt
    have hll := hl _ (List.getElem_mem hlt)
    have hbs := balB_succ (T := T) (m := i)
    have hle := balB_le (T := T) (k := i + 1) (m := T.length) (by omega)
    rw [getD_at hlt] at hbs
    generalize xs[i] = u at *
    generalize T[i] = l at *
    have hlu := hu.len
    simp (disch := omega) only [f55_r2, f55_r3, f55_r4, w_skip, w_reg, w_seq, w_cond, w_block, seqK_n, ckB_b, cbB_b, true_and, x_nil, x_mv, x_as, x_ld, x_bin, x_iads, x_len, kx, rvP_ok, okv_some, ev_t, ev_c, getV_some, putD_some, bin_lss, of0, getK_set, Nat.reduceEqDiff, ↓reduceIte, g11, g12, g13, d0, hp1, hp2, hlu]
    refine W_loop (f55_J h2 w u T l i) (fun k => l.length - k) ?_ 0 ⟨by omega, rfl, rfl, by simp (disch := omega) only [getK_set, Nat.reduceEqDiff, ↓reduceIte, g11, g12, g13, and_self, Int.natCast_zero]⟩
    clear g11 g12 g13 fr
    rintro k fr h3 ⟨hk, rfl, hR, g5, g11, g12, g13, g18, g19, g20⟩
    unfold f55_l0
    by_cases hlt2 : k < l.length
    · have d1 : decide ((k : Int) < (l.length : Int)) = true := by simpa using hlt2
      obtain ⟨q, hq1, hq2⟩ := hu.at k hlt2
      have hrs := rowB_succ (i := i) (k := k) (l := l)
      rw [getD_at hlt2] at hrs
      have hrl := rowB_le (i := i) (l := l) (k := k + 1) (m := l.length) (by omega)
      generalize l[k] = x at *
      by_cases e : i = k
      · have d2 : decide ((i : Int) ≠ (k : Int)) = false := by simp [e]
        have d4 : decide (i = k) = true := by simp [e]
        rw [hR, d4, Bool.true_or, Bool.true_and] at hrs
        simp (disch := omega) only [f55_r5, f55_r6, f55_r7, f55_r9, w_skip, w_reg, w_seq, w_cond, w_block, seqK_n, atK_n, loopK_n, ckB_b, cbB_b, okG_b, asG_t, true_and, x_nil, x_g, x_mv, x_as, x_pick, x_ld, x_bin, x_iads, kx, rvP_ok, okv_some, ev_t, ev_c, getV_some, putD_some, bin_add, bin_neq, bin_lss, pick_b, of1, getK_set, Nat.reduceEqDiff, ↓reduceIte, Bool.false_eq_true, g5, g18, g19, g20, hq1, hq2, iE, d1, d2, fw64]
        exact ⟨k + 1, by omega, by omega, rfl, hrs, by simp (disch := omega) only [getK_set, Nat.reduceEqDiff, ↓reduceIte, g5, g11, g12, g13, g18, g19, and_self, Int.natCast_add, Int.natCast_one]⟩
      · have d2 : decide ((i : Int) ≠ (k : Int)) = true := by simp; omega
        have d4 : decide (i = k) = false := by simp [e]
        rw [hR, d4, Bool.false_or, Bool.true_and] at hrs
        by_cases e2 : x = 1
        · have d3 : decide (x ≠ 1) = false := by simp [e2]
          rw [decide_eq_true e2] at hrs
          simp (disch := omega) only [f55_r5, f55_r6, f55_r7, f55_r9, w_skip, w_reg, w_seq, w_cond, w_block, seqK_n, atK_n, loopK_n, ckB_b, cbB_b, okG_b, asG_t, true_and, x_nil, x_g, x_mv, x_as, x_pick, x_ld, x_bin, x_iads, kx, rvP_ok, okv_some, ev_t, ev_c, getV_some, putD_some, bin_add, bin_neq, bin_lss, pick_b, of1, getK_set, Nat.reduceEqDiff, ↓reduceIte, Bool.false_eq_true, g5, g18, g19, g20, hq1, hq2, iE, d1, d2, d3, fw64]
          exact ⟨k + 1, by omega, by omega, rfl, hrs, by simp (disch := omega) only [getK_set, Nat.reduceEqDiff, ↓reduceIte, g5, g11, g12, g13, g18, g19, and_self, Int.natCast_add, Int.natCast_one]⟩
        · have d3 : decide (x ≠ 1) = true := by simp [e2]
          rw [decide_eq_false e2] at hrs
          have hf := hle (by rw [hbs, hrl hrs, Bool.and_false])
          simp (disch := omega) only [f55_r5, f55_r6, f55_r7, f55_r8, f55_rs, w_skip, w_reg, w_seq, w_cond, w_block, w_ret, seqK_n, seqK_r, atK_r, loopK_r, ckB_b, cbB_b, okG_b, asG_t, true_and, retK_r, x_nil, x_g, x_mv, x_as, x_pick, x_ld, x_bin, x_iads, kx, rvP_ok, okv_some, ev_t, ev_c, getV_some, putD_some, bin_neq, bin_lss, pick_b, oGet_s, readRs_nil, readRs_t, retV_1, of1, Option.some.injEq, exists_eq_left', getK_set, Nat.reduceEqDiff, ↓reduceIte, g5, g18, g19, g20, hq1, hq2, iE, d1, d2, d3, hf, true_and]
          exact hG
    · have d1 : decide ((k : Int) < (l.length : Int)) = false := by simpa using hlt2
      have ek : k = l.length := by omega
      rw [ek] at hR
      simp (disch := omega) only [f55_r5, f55_r10, w_reg, w_seq, w_cond, w_exit, seqK_n, seqK_e, atK_n, atK_e, loopK_n, loopK_e, ckB_b, cbB_b, true_and, x_nil, x_mv, x_bin, kx, rvP_ok, okv_some, ev_t, ev_c, getV_some, putD_some, bin_add, bin_lss, of1, getK_set, Nat.reduceEqDiff, ↓reduceIte, Bool.false_eq_true, g13, g19, g20, d1, fw64]
      exact ⟨i + 1, by omega, by omega, rfl, by rw [hbs, hB, hR]; rfl, by simp (disch := omega) only [getK_set, Nat.reduceEqDiff, ↓reduceIte, g11, g12, and_self, Int.natCast_add, Int.natCast_one]⟩
  · have d0 : decide ((i : Int) < (T.length : Int)) = false := by simpa using hlt
    have ei : i = T.length := by omega
    rw [ei] at hB
    simp (disch := omega) only [f55_r2, f55_r11, f55_rs, w_reg, w_seq, w_cond, w_exit, w_ret, seqK_n, seqK_e, atK_e, loopK_e, ckB_b, cbB_b, true_and, retK_r, x_nil, x_as, x_bin, kx, rvP_ok, okv_some, ev_t, ev_c, getV_some, putD_some, bin_lss, oGet_s, readRs_nil, readRs_t, retV_1, Option.some.injEq, exists_eq_left', getK_set, ↓reduceIte, Bool.false_eq_true, g12, g13, d0, hB, true_and]
    exact hG
structure CallsFw (fs : T EF) : Prop extends CallsCh fs, CallsBa fs where
  c18 : fs.get (K.ofNat 18) = some f18
  c19 : fs.get (K.ofNat 19) = some f19
  c55 : fs.get (K.ofNat 55) = some f55
theorem sh_in2 (hsh : shB n Ls = true) (hn : ok5 (n : Int)) : Ls.length ≤ 1000 ∧ ∀ l ∈ Ls, l.length ≤ 1000 ∧ ∀ e ∈ l, in2 e := by
  obtain ⟨hvd, hlen⟩ := sh_vld hsh
  unfold ok5 at hn
  have hfew := hvd.few (by omega) (by omega)
  refine ⟨by omega, fun l hl => ⟨by have := (hfew.2 l hl).1; omega, fun e he => ?_⟩⟩
  obtain ⟨a, b, _⟩ := rnd_e (hvd.rnd l hl) e he
  obtain ⟨x, hx⟩ : ∃ x : Nat, e.1 = (x : Int) := ⟨e.1.toNat, by omega⟩
  obtain ⟨y, hy⟩ : ∃ y : Nat, e.2 = (y : Int) := ⟨e.2.toNat, by omega⟩
  unfold in2
  rw [hx, hy]
  exact ⟨inR_n (by omega), inR_n (by omega)⟩
/-- The follow numbers. -/
def fwT (Ls : List (List (Int × Int))) (n : Nat) : List (List Int) := (List.range n).map fun (t : Nat) => (List.range n).map fun (k : Nat) => rfI Ls (t : Int) (k : Int) Ls.length
theorem fl_fw (hvd : Vld n Ls) : flT (whP Ls Ls.length) Ls.length n = fwT Ls n := by
  unfold flT fwT
  refine List.map_congr_left fun t ht => ?_
  unfold flI
  refine List.map_congr_left fun k hk => ?_
  exact fol_rf hvd (by simpa using ht)
theorem f18_ret (k : CallsFw fs) (hn : ok5 (n : Int)) (hv : Nrp h v us Ls) (hL2 : ∀ l ∈ Ls, l.length ≤ 9223372036854775807) (hsh : shB n Ls = true) (hc : HC h) : Ret fs f18 [.i .i64 (n : Int), v] h fun r h' => ∃ w xs, r = .tup [w, .i .i64 0] ∧ Nr iE h' w xs (fwT Ls n) ∧ Grow h.nx.nat h h' := by
  have hn' := hn
  unfold ok5 at hn'
  apply ret_of rfl
  show W fs none f18_c _ _ _
  unfold f18_c
  simp (disch := omega) only [f18_r0, f18_r1, w_reg, w_seq, seqK_n, x_nil, x_mv, x_as, x_call, ev_t, ev_c, evs_nil, evs_cons, getV_some, putD_some, frame_2, of0, getK_set, Nat.reduceEqDiff, ↓reduceIte]
  refine (callP_0 (ef := f51) k.c51 rfl (f51_ret k.toCallsCh hn hv hL2 hc)).mono ?_
  rintro r h2 ⟨c, ws, rfl, hs, hG⟩
  rw [if_pos hsh] at hs ⊢
  obtain ⟨hs, _⟩ := hs
  have ne0 : decide ((0 : Int) ≠ 0) = false := rfl
  simp (disch := omega) only [f18_r2, f18_r4, w_skip, w_reg, w_seq, w_cond, seqK_n, ckB_b, cbB_b, true_and, x_nil, x_mv, x_as, x_bin, x_ext, x_call, kx, rvP_ok, okv_some, ev_t, ev_c, evs_nil, evs_cons, getV_some, putD_some, bin_neq, onTup_t, nth0, nth1, of0, getK_set, Nat.reduceEqDiff, ↓reduceIte, Bool.false_eq_true, ne0]
  refine (callP_0 (ef := f54) k.c54 rfl (f54_ret k.toCallsF5 (by omega) hs.nrp (sh_in2 hsh hn) (fun _ _ => wh_bd) (hG.hc hc))).mono ?_
  rintro w h3 ⟨xs, hT, hG3⟩
  rw [fl_fw (sh_vld hsh).1] at hT
  simp (disch := omega) only [f18_rs, w_ret, seqK_n, retK_r, x_nil, x_as, kx, ev_t, ev_c, getV_some, putD_some, oGet_s, readRs_nil, readRs_t, retV_2, Option.some.injEq, exists_eq_left', getK_set, Nat.reduceEqDiff, ↓reduceIte]
  exact ⟨w, xs, rfl, hT.nr, hG.trans (hG3.low hG.nx)⟩
theorem f19_ret (k : CallsFw fs) (hn : ok5 (n : Int)) (hv : Nrp h v us Ls) (hL2 : ∀ l ∈ Ls, l.length ≤ 9223372036854775807) (hsh : shB n Ls = true) (hc : HC h) : Ret fs f19 [.i .i64 (n : Int), v] h fun r h' => r = .tup [.b (balB (fwT Ls n) n), .i .i64 0] ∧ Grow h.nx.nat h h' := by
  have hn' := hn
  unfold ok5 at hn'
  apply ret_of rfl
  show W fs none f19_c _ _ _
  unfold f19_c
  simp (disch := omega) only [f19_r0, f19_r1, w_reg, w_seq, seqK_n, x_nil, x_mv, x_as, x_call, ev_t, ev_c, evs_nil, evs_cons, getV_some, putD_some, frame_2, of0, getK_set, Nat.reduceEqDiff, ↓reduceIte]
  refine (callP_0 (ef := f51) k.c51 rfl (f51_ret k.toCallsCh hn hv hL2 hc)).mono ?_
  rintro r h2 ⟨c, ws, rfl, hs, hG⟩
  rw [if_pos hsh] at hs ⊢
  obtain ⟨hs, _⟩ := hs
  have ne0 : decide ((0 : Int) ≠ 0) = false := rfl
  simp (disch := omega) only [f19_r2, f19_r4, w_skip, w_reg, w_seq, w_cond, seqK_n, ckB_b, cbB_b, true_and, x_nil, x_mv, x_as, x_bin, x_ext, x_call, kx, rvP_ok, okv_some, ev_t, ev_c, evs_nil, evs_cons, getV_some, putD_some, bin_neq, onTup_t, nth0, nth1, of0, getK_set, Nat.reduceEqDiff, ↓reduceIte, Bool.false_eq_true, ne0]
  refine (callP_0 (ef := f55) k.c55 rfl (f55_ret k.toCallsBa (by omega) hs.nrp (sh_in2 hsh hn) (hG.hc hc))).mono ?_
  rintro r h3 ⟨rfl, hG3⟩
  rw [fl_fw (sh_vld hsh).1]
  simp (disch := omega) only [f19_rs, w_ret, seqK_n, true_and, retK_r, x_nil, x_as, kx, ev_t, ev_c, getV_some, putD_some, oGet_s, readRs_nil, readRs_t, retV_2, Option.some.injEq, exists_eq_left', getK_set, Nat.reduceEqDiff, ↓reduceIte, true_and]
  exact hG.trans (hG3.low hG.nx)
end
end Go.Ev
namespace Go.Ev
open Go Go.RowKit
section
variable {fs : T EF} {h : H} {v : V} {us : List V} {Ls : List (List (Int × Int))} {n : Nat}
theorem rf_bd {t k : Int} {m : Nat} : 0 ≤ rfI Ls t k m ∧ rfI Ls t k m ≤ (m : Int) := by
  have := sm_bd (f := fun r => if nxT Ls t r = k then 1 else 0) (b := 1) (fun t => by split <;> omega) m
  unfold rfI; omega
end
end Go.Ev
namespace Go.Ev
open Go Go.RowKit
/-- The ring, from x on; L is what has been met. -/
def ringR (A B : Int → Int) : Nat → Int → List Int → List Int
  | 0, _, L => L
  | k + 1, x, L => if x ∈ L then L else ringR A B k (B (A x)) (L ++ [x, A x])
/-- Each team has another opponent. -/
structure Inv (A : Int → Int) (n : Nat) : Prop where
  rng : ∀ x, 0 ≤ x ∧ x < (n : Int) → 0 ≤ A x ∧ A x < (n : Int)
  inv : ∀ x, 0 ≤ x ∧ x < (n : Int) → A (A x) = x
  ne : ∀ x, 0 ≤ x ∧ x < (n : Int) → A x ≠ x
structure RingI (A B : Int → Int) (n : Nat) (t x : Int) (L : List Int) : Prop where
  nd : L.Nodup
  rng : ∀ z ∈ L, 0 ≤ z ∧ z < (n : Int)
  xr : 0 ≤ x ∧ x < (n : Int)
  clA : ∀ z ∈ L, A z ∈ L
  clB : ∀ z ∈ L, z = t ∨ B z ∈ L ∨ B z = x
  at' : (L = [] ∧ x = t) ∨ (t ∈ L ∧ B x ∈ L)
  ev : x ∈ L → x = t
  two : ∃ q, L.length = 2 * q
section
variable {A B : Int → Int} {n : Nat} {t x : Int} {L : List Int}
theorem RingI.init (ht : 0 ≤ t ∧ t < (n : Int)) : RingI A B n t t [] := ⟨by simp, by simp, ht, by simp, by simp, .inl ⟨rfl, rfl⟩, fun h => absurd h (by simp), ⟨0, rfl⟩⟩
theorem RingI.new (s : RingI A B n t x L) (iA : Inv A n) (hx : x ∉ L) : A x ∉ L ∧ A x ≠ x := by
  refine ⟨fun h => hx ?_, iA.ne x s.xr⟩
  have := s.clA _ h
  rw [iA.inv x s.xr] at this; exact this
theorem RingI.step (s : RingI A B n t x L) (iA : Inv A n) (iB : Inv B n) (hx : x ∉ L) : RingI A B n t (B (A x)) (L ++ [x, A x]) := by
  obtain ⟨hy, hyx⟩ := s.new iA hx
  have hyr := iA.rng x s.xr
  have hzr := iB.rng _ hyr
  have hBB := iB.inv _ hyr
  refine ⟨?_, ?_, hzr, ?_, ?_, .inr ⟨?_, by rw [hBB]; simp⟩, ?_, ?_⟩
  · rw [List.nodup_append]
    refine ⟨s.nd, by simp; exact fun h => hyx h.symm, fun a ha b hb e => ?_⟩
    rcases List.mem_cons.1 hb with rfl | hb
    · exact hx (e ▸ ha)
    · rw [List.mem_singleton.1 hb] at e; exact hy (e ▸ ha)
  · intro z hz
    rcases List.mem_append.1 hz with hz | hz
    · exact s.rng z hz
    · rcases List.mem_cons.1 hz with rfl | hz
      · exact s.xr
      · rw [List.mem_singleton.1 hz]; exact hyr
  · intro z hz
    rcases List.mem_append.1 hz with hz | hz
    · exact List.mem_append_left _ (s.clA z hz)
    · rcases List.mem_cons.1 hz with rfl | hz
      · simp
      · rw [List.mem_singleton.1 hz, iA.inv x s.xr]; simp
  · intro z hz
    rcases List.mem_append.1 hz with hz | hz
    · rcases s.clB z hz with h | h | h
      · exact .inl h
      · exact .inr (.inl (List.mem_append_left _ h))
      · exact .inr (.inl (by rw [h]; simp))
    · rcases List.mem_cons.1 hz with rfl | hz
      · rcases s.at' with ⟨_, h⟩ | ⟨_, h⟩
        · exact .inl h
        · exact .inr (.inl (List.mem_append_left _ h))
      · rw [List.mem_singleton.1 hz]; exact .inr (.inr rfl)
  · rcases s.at' with ⟨_, h⟩ | ⟨h, _⟩
    · rw [h]; simp
    · exact List.mem_append_left _ h
  · intro hm
    rcases Classical.em (B (A x) = t) with h | h
    · exact h
    exfalso
    rcases List.mem_append.1 hm with hm | hm
    · rcases s.clB _ hm with h1 | h1 | h1
      · exact h h1
      · rw [hBB] at h1; exact hy h1
      · rw [hBB] at h1; exact hyx h1
    · rcases List.mem_cons.1 hm with h1 | h1
      · rcases s.at' with ⟨_, h2⟩ | ⟨_, h2⟩
        · exact h (h1.trans h2)
        · rw [← h1, hBB] at h2; exact hy h2
      · rw [List.mem_singleton.1 h1] at hBB
        exact iB.ne _ hyr (List.mem_singleton.1 h1)
  · obtain ⟨q, hq⟩ := s.two
    exact ⟨q + 1, by simp; omega⟩
theorem RingI.le (s : RingI A B n t x L) : L.length ≤ n := by
  have := nodup_le (m := (List.range n).map fun (k : Nat) => (k : Int)) s.nd fun z hz => by
    obtain ⟨h1, h2⟩ := s.rng z hz
    exact List.mem_map.2 ⟨z.toNat, by simp; omega, by omega⟩
  simpa using this
theorem RingI.lt (s : RingI A B n t x L) (iA : Inv A n) (iB : Inv B n) (hx : x ∉ L) : L.length + 2 ≤ n := by
  have := (s.step iA iB hx).le
  simpa using this
/-- A whole ring. -/
structure RingE (A B : Int → Int) (n : Nat) (t : Int) (L : List Int) : Prop where
  nd : L.Nodup
  rng : ∀ z ∈ L, 0 ≤ z ∧ z < (n : Int)
  mem : t ∈ L
  clA : ∀ z ∈ L, A z ∈ L
  clB : ∀ z ∈ L, B z ∈ L
  two : ∃ q, L.length = 2 * q
theorem RingI.fin (s : RingI A B n t x L) (hx : x ∈ L) : RingE A B n t L := by
  have ext := s.ev hx
  have hB : B x ∈ L := by
    rcases s.at' with ⟨h, _⟩ | ⟨_, h⟩
    · rw [h] at hx; simp at hx
    · exact h
  refine ⟨s.nd, s.rng, ext ▸ hx, s.clA, fun z hz => ?_, s.two⟩
  rcases s.clB z hz with h | h | h
  · rw [h, ← ext]; exact hB
  · exact h
  · rw [h]; exact hx
theorem ring_E (iA : Inv A n) (iB : Inv B n) : ∀ {k : Nat} {x : Int} {L : List Int}, RingI A B n t x L → n < 2 * k + L.length → RingE A B n t (ringR A B k x L)
  | 0, x, L, s, h => absurd s.le (by omega)
  | k + 1, x, L, s, h => by
    unfold ringR
    split
    · rename_i hx; exact s.fin hx
    · rename_i hx
      exact ring_E iA iB (s.step iA iB hx) (by simp; omega)
/-- What is closed holds the whole ring. -/
theorem ring_min {M : List Int} (cA : ∀ z ∈ M, A z ∈ M) (cB : ∀ z ∈ M, B z ∈ M) : ∀ {k : Nat} {x : Int} {L : List Int}, x ∈ M → (∀ z ∈ L, z ∈ M) → ∀ z ∈ ringR A B k x L, z ∈ M
  | 0, x, L, _, hL => hL
  | k + 1, x, L, hx, hL => by
    unfold ringR
    split
    · exact hL
    · refine ring_min cA cB (cB _ (cA _ hx)) fun z hz => ?_
      rcases List.mem_append.1 hz with hz | hz
      · exact hL z hz
      · rcases List.mem_cons.1 hz with rfl | hz
        · exact hx
        · rw [List.mem_singleton.1 hz]; exact cA _ hx
/-- What is closed is left alone. -/
theorem ring_out {M : List Int} (iA : Inv A n) (iB : Inv B n) (cA : ∀ z ∈ M, A z ∈ M) (cB : ∀ z ∈ M, B z ∈ M) {x : Int} (hx : 0 ≤ x ∧ x < (n : Int)) (hn : x ∉ M) : B (A x) ∉ M := fun h => by
  have hy := iA.rng x hx
  have h1 := cB _ h
  rw [iB.inv _ hy] at h1
  have h2 := cA _ h1
  rw [iA.inv _ hx] at h2
  exact hn h2
/-- What has been met by the teams before t, and the numbers of teams of the rings. -/
def rgs (A B : Int → Int) (n : Nat) : Nat → List Int × List Int
  | 0 => ([], [])
  | t + 1 => if (t : Int) ∈ (rgs A B n t).1 then rgs A B n t else ((rgs A B n t).1 ++ ringR A B n (t : Int) [], (rgs A B n t).2 ++ [((ringR A B n (t : Int) []).length : Int)])
structure RgsI (A B : Int → Int) (n t : Nat) (M S : List Int) : Prop where
  nd : M.Nodup
  rng : ∀ z ∈ M, 0 ≤ z ∧ z < (n : Int)
  clA : ∀ z ∈ M, A z ∈ M
  clB : ∀ z ∈ M, B z ∈ M
  all : ∀ u : Nat, u < t → (u : Int) ∈ M
  sum : smI S = (M.length : Int)
  evn : ∀ s ∈ S, ∃ q : Nat, s = 2 * (q : Int) ∧ 1 ≤ q
  few : S.length ≤ t
theorem rgs_I (iA : Inv A n) (iB : Inv B n) (hn : 1 ≤ n) : ∀ {t : Nat}, t ≤ n → RgsI A B n t (rgs A B n t).1 (rgs A B n t).2
  | 0, _ => ⟨by simp [rgs], by simp [rgs], by simp [rgs], by simp [rgs], fun u h => by omega, by simp [rgs, smI], by simp [rgs], by simp [rgs]⟩
  | t + 1, ht => by
    have s := rgs_I iA iB hn (t := t) (by omega)
    unfold rgs
    split
    · rename_i hm
      exact ⟨s.nd, s.rng, s.clA, s.clB, fun u hu => by
        by_cases e : u = t
        · rw [e]; exact hm
        · exact s.all u (by omega), s.sum, s.evn, by have := s.few; omega⟩
    · rename_i hm
      have e := ring_E iA iB (RingI.init (A := A) (B := B) (n := n) (t := (t : Int)) (by omega)) (k := n) (by simp; omega)
      have hd : ∀ z ∈ ringR A B n (t : Int) [], z ∉ (rgs A B n t).1 := by
        have key : ∀ {k : Nat} {x : Int} {L : List Int}, (0 ≤ x ∧ x < (n : Int)) → x ∉ (rgs A B n t).1 → (∀ z ∈ L, z ∉ (rgs A B n t).1) → ∀ z ∈ ringR A B k x L, z ∉ (rgs A B n t).1 := by
          intro k
          induction k with
          | zero => exact fun _ _ hL => hL
          | succ k ih =>
            intro x L hx hxM hL
            unfold ringR
            split
            · exact hL
            · refine ih (iB.rng _ (iA.rng _ hx)) (ring_out iA iB s.clA s.clB hx hxM) fun z hz => ?_
              rcases List.mem_append.1 hz with hz | hz
              · exact hL z hz
              · rcases List.mem_cons.1 hz with rfl | hz
                · exact hxM
                · rw [List.mem_singleton.1 hz]
                  intro h
                  have := s.clA _ h
                  rw [iA.inv _ hx] at this
                  exact hxM this
        exact key (by omega) hm (by simp)
      refine ⟨?_, ?_, ?_, ?_, ?_, ?_, ?_, by have := s.few; simp; omega⟩
      · rw [List.nodup_append]; exact ⟨s.nd, e.nd, fun a ha b hb q => hd b hb (q ▸ ha)⟩
      · intro z hz; rcases List.mem_append.1 hz with hz | hz; exact s.rng z hz; exact e.rng z hz
      · intro z hz; rcases List.mem_append.1 hz with hz | hz; exact List.mem_append_left _ (s.clA z hz); exact List.mem_append_right _ (e.clA z hz)
      · intro z hz; rcases List.mem_append.1 hz with hz | hz; exact List.mem_append_left _ (s.clB z hz); exact List.mem_append_right _ (e.clB z hz)
      · intro u hu
        by_cases q : u = t
        · rw [q]; exact List.mem_append_right _ e.mem
        · exact List.mem_append_left _ (s.all u (by omega))
      · rw [smI_snoc, s.sum]; simp
      · intro z hz
        rcases List.mem_append.1 hz with hz | hz
        · exact s.evn z hz
        · obtain ⟨q, hq⟩ := e.two
          have : 1 ≤ (ringR A B n (t : Int) []).length := List.length_pos_of_mem e.mem
          rw [List.mem_singleton.1 hz]
          exact ⟨q, by omega, by omega⟩
theorem all_len {M : List Int} {n : Nat} (hd : M.Nodup) (hr : ∀ z ∈ M, 0 ≤ z ∧ z < (n : Int)) (ha : ∀ u : Nat, u < n → (u : Int) ∈ M) : M.length = n := by
  have h1 := nodup_le (m := (List.range n).map fun (k : Nat) => (k : Int)) hd fun z hz => by
    obtain ⟨h1, h2⟩ := hr z hz
    exact List.mem_map.2 ⟨z.toNat, by simp; omega, by omega⟩
  have h2 := nodup_le (l := (List.range n).map fun (k : Nat) => (k : Int)) (m := M) (by
    rw [List.nodup_iff_pairwise_ne, List.pairwise_map]
    exact (List.nodup_iff_pairwise_ne.1 List.nodup_range).imp fun h => by omega) fun z hz => by
    obtain ⟨k, hk, rfl⟩ := List.mem_map.1 hz
    exact ha k (by simpa using hk)
  simp at h1 h2
  omega
end
end Go.Ev
namespace Go.Ev
open Go Go.RowKit
noncomputable def f103_r0 : List EOper := [⟨(some (K.ofNat 2)), none, .as (.c (.b false))⟩]
noncomputable def f103_r1 : List EOper := [⟨(some (K.ofNat 3)), none, .mv (.t (K.ofNat 0))⟩, ⟨(some (K.ofNat 4)), none, .mv (.t (K.ofNat 0))⟩, ⟨(some (K.ofNat 5)), none, .bin .neq (.t (K.ofNat 3)) (.t (K.ofNat 4))⟩, ⟨(some (K.ofNat 2)), none, .as (.t (K.ofNat 5))⟩]
noncomputable def f103_c : EC := (.seq (.reg f103_r0) (.seq (.reg f103_r1) .ret))
noncomputable def f103 : EF := ⟨6, [.tmp (K.ofNat 2)], f103_c, none⟩
theorem f103_rs : f103.rs = [.tmp (K.ofNat 2)] := of_eq_true (eq_self _)
noncomputable def f110_r0 : List EOper := [⟨(some (K.ofNat 4)), none, .as (.c (.b false))⟩]
noncomputable def f110_r1 : List EOper := [⟨(some (K.ofNat 5)), none, .mv (.t (K.ofNat 0))⟩, ⟨(some (K.ofNat 6)), none, .call (.c (.fn (K.ofNat 103) [])) [(.t (K.ofNat 5))]⟩, ⟨(some (K.ofNat 7)), none, .mv (.t (K.ofNat 6))⟩, ⟨(some (K.ofNat 8)), (some ((K.ofNat 7), true)), .mv (.t (K.ofNat 1))⟩, ⟨(some (K.ofNat 9)), (some ((K.ofNat 7), true)), .call (.c (.fn (K.ofNat 103) [])) [(.t (K.ofNat 8))]⟩, ⟨(some (K.ofNat 10)), (some ((K.ofNat 7), true)), .not (.t (K.ofNat 9))⟩, ⟨(some (K.ofNat 11)), none, .pick (.t (K.ofNat 7)) (.t (K.ofNat 10)) (.c (.b false))⟩, ⟨(some (K.ofNat 12)), none, .mv (.t (K.ofNat 11))⟩, ⟨(some (K.ofNat 13)), (some ((K.ofNat 12), false)), .mv (.t (K.ofNat 0))⟩, ⟨(some (K.ofNat 14)), (some ((K.ofNat 12), false)), .mv (.t (K.ofNat 1))⟩, ⟨(some (K.ofNat 15)), (some ((K.ofNat 12), false)), .bin .lss (.t (K.ofNat 13)) (.t (K.ofNat 14))⟩, ⟨(some (K.ofNat 16)), none, .pick (.t (K.ofNat 12)) (.c (.b true)) (.t (K.ofNat 15))⟩, ⟨(some (K.ofNat 4)), none, .as (.t (K.ofNat 16))⟩]
noncomputable def f110_c : EC := (.seq (.reg f110_r0) (.seq (.reg f110_r1) .ret))
noncomputable def f110 : EF := ⟨17, [.tmp (K.ofNat 4)], f110_c, none⟩
theorem f110_rs : f110.rs = [.tmp (K.ofNat 4)] := of_eq_true (eq_self _)
noncomputable def f104_r0 : List EOper := [⟨(some (K.ofNat 8)), none, .mv (.t (K.ofNat 1))⟩, ⟨(some (K.ofNat 9)), none, .bin .add (.t (K.ofNat 8)) (.c (.i .i64 (.ofNat 1)))⟩, ⟨(some (K.ofNat 6)), none, .as (.t (K.ofNat 9))⟩]
noncomputable def f104_r1 : List EOper := [⟨(some (K.ofNat 10)), none, .mv (.t (K.ofNat 6))⟩, ⟨(some (K.ofNat 11)), none, .mv (.t (K.ofNat 2))⟩, ⟨(some (K.ofNat 12)), none, .bin .lss (.t (K.ofNat 10)) (.t (K.ofNat 11))⟩]
noncomputable def f104_r2 : List EOper := [⟨(some (K.ofNat 15)), none, .mv (.t (K.ofNat 6))⟩, ⟨(some (K.ofNat 7)), none, .as (.t (K.ofNat 15))⟩]
noncomputable def f104_r3 : List Stage := [⟨[⟨(some (K.ofNat 16)), none, .mv (.t (K.ofNat 7))⟩, ⟨(some (K.ofNat 17)), none, .mv (.t (K.ofNat 1))⟩, ⟨(some (K.ofNat 18)), none, .bin .gtr (.t (K.ofNat 16)) (.t (K.ofNat 17))⟩, ⟨(some (K.ofNat 19)), none, .mv (.t (K.ofNat 18))⟩, ⟨(some (K.ofNat 20)), (some ((K.ofNat 19), true)), .mv (.t (K.ofNat 0))⟩, ⟨(some (K.ofNat 21)), (some ((K.ofNat 19), true)), .mv (.t (K.ofNat 7))⟩, ⟨(some (K.ofNat 22)), (some ((K.ofNat 19), true)), .iads 1 (.t (K.ofNat 20)) (.t (K.ofNat 21))⟩, ⟨(some (K.ofNat 23)), (some ((K.ofNat 19), true)), .ld (.t (K.ofNat 22))⟩, ⟨(some (K.ofNat 24)), (some ((K.ofNat 19), true)), .mv (.t (K.ofNat 0))⟩, ⟨(some (K.ofNat 25)), (some ((K.ofNat 19), true)), .mv (.t (K.ofNat 7))⟩, ⟨(some (K.ofNat 26)), (some ((K.ofNat 19), true)), .bin .sub (.t (K.ofNat 25)) (.c (.i .i64 (.ofNat 1)))⟩, ⟨(some (K.ofNat 27)), (some ((K.ofNat 19), true)), .iads 1 (.t (K.ofNat 24)) (.t (K.ofNat 26))⟩, ⟨(some (K.ofNat 28)), (some ((K.ofNat 19), true)), .ld (.t (K.ofNat 27))⟩], [], (some ⟨(some (K.ofNat 29)), (some ((K.ofNat 19), true)), .call (.c (.fn (K.ofNat 110) [])) [(.t (K.ofNat 23)), (.t (K.ofNat 28))]⟩), []⟩, ⟨[⟨(some (K.ofNat 30)), none, .pick (.t (K.ofNat 19)) (.t (K.ofNat 29)) (.c (.b false))⟩], [], none, []⟩]
noncomputable def f104_r4 : List Stage := [⟨[⟨(some (K.ofNat 33)), none, .mv (.t (K.ofNat 0))⟩, ⟨(some (K.ofNat 34)), none, .mv (.t (K.ofNat 7))⟩, ⟨(some (K.ofNat 35)), none, .mv (.t (K.ofNat 0))⟩, ⟨(some (K.ofNat 36)), none, .mv (.t (K.ofNat 7))⟩, ⟨(some (K.ofNat 37)), none, .bin .sub (.t (K.ofNat 36)) (.c (.i .i64 (.ofNat 1)))⟩, ⟨(some (K.ofNat 38)), none, .mv (.t (K.ofNat 0))⟩, ⟨(some (K.ofNat 39)), none, .mv (.t (K.ofNat 7))⟩, ⟨(some (K.ofNat 40)), none, .bin .sub (.t (K.ofNat 39)) (.c (.i .i64 (.ofNat 1)))⟩, ⟨(some (K.ofNat 41)), none, .iads 1 (.t (K.ofNat 38)) (.t (K.ofNat 40))⟩, ⟨(some (K.ofNat 42)), none, .ld (.t (K.ofNat 41))⟩, ⟨(some (K.ofNat 43)), none, .mv (.t (K.ofNat 0))⟩, ⟨(some (K.ofNat 44)), none, .mv (.t (K.ofNat 7))⟩, ⟨(some (K.ofNat 45)), none, .iads 1 (.t (K.ofNat 43)) (.t (K.ofNat 44))⟩, ⟨(some (K.ofNat 46)), none, .ld (.t (K.ofNat 45))⟩, ⟨(some (K.ofNat 47)), none, .iads 1 (.t (K.ofNat 33)) (.t (K.ofNat 34))⟩], [], (some ⟨none, none, .st 1 (.t (K.ofNat 47)) (.t (K.ofNat 42))⟩), []⟩, ⟨[⟨(some (K.ofNat 48)), none, .iads 1 (.t (K.ofNat 35)) (.t (K.ofNat 37))⟩], [⟨(some (K.ofNat 35)), none, .mv (.t (K.ofNat 0))⟩, ⟨(some (K.ofNat 36)), none, .mv (.t (K.ofNat 7))⟩, ⟨(some (K.ofNat 37)), none, .bin .sub (.t (K.ofNat 36)) (.c (.i .i64 (.ofNat 1)))⟩], (some ⟨none, none, .st 1 (.t (K.ofNat 48)) (.t (K.ofNat 46))⟩), []⟩, ⟨[], [], none, []⟩]
noncomputable def f104_r5 : List EOper := [⟨(some (K.ofNat 31)), none, .mv (.t (K.ofNat 7))⟩, ⟨(some (K.ofNat 32)), none, .bin .sub (.t (K.ofNat 31)) (.c (.i .i64 (.ofNat 1)))⟩, ⟨(some (K.ofNat 7)), none, .as (.t (K.ofNat 32))⟩]
noncomputable def f104_l0 : EC := (.seq (.seq (.draw f104_r3) (.cond (.t (K.ofNat 30)) .skip (.exit 2))) (.seq (.block 3 (.draw f104_r4)) (.reg f104_r5)))
noncomputable def f104_r6 : List EOper := [⟨(some (K.ofNat 13)), none, .mv (.t (K.ofNat 6))⟩, ⟨(some (K.ofNat 14)), none, .bin .add (.t (K.ofNat 13)) (.c (.i .i64 (.ofNat 1)))⟩, ⟨(some (K.ofNat 6)), none, .as (.t (K.ofNat 14))⟩]
noncomputable def f104_l1 : EC := (.seq (.seq (.reg f104_r1) (.cond (.t (K.ofNat 12)) .skip (.exit 0))) (.seq (.block 1 (.seq (.reg f104_r2) (.block 2 (.loop f104_l0)))) (.reg f104_r6)))
noncomputable def f104_c : EC := (.seq (.reg f104_r0) (.block 0 (.loop f104_l1)))
noncomputable def f104 : EF := ⟨49, [], f104_c, none⟩
theorem f104_rs : f104.rs = [] := of_eq_true (eq_self _)
noncomputable def f114_r0 : List EOper := [⟨(some (K.ofNat 2)), none, .as (.c (.i .i64 (.ofNat 0)))⟩]
noncomputable def f114_r1 : List EOper := [⟨(some (K.ofNat 3)), none, .mv (.t (K.ofNat 0))⟩, ⟨(some (K.ofNat 4)), none, .bin .geq (.t (K.ofNat 3)) (.c (.i .u64 (.ofNat 4294967296)))⟩]
noncomputable def f114_r2 : List EOper := [⟨(some (K.ofNat 5)), none, .mv (.t (K.ofNat 0))⟩, ⟨(some (K.ofNat 6)), none, .bin .shr (.t (K.ofNat 5)) (.c (.i .u64 (.ofNat 32)))⟩, ⟨(some (K.ofNat 0)), none, .as (.t (K.ofNat 6))⟩]
noncomputable def f114_r3 : List EOper := [⟨(some (K.ofNat 2)), none, .as (.c (.i .i64 (.ofNat 32)))⟩]
noncomputable def f114_r4 : List EOper := [⟨(some (K.ofNat 7)), none, .mv (.t (K.ofNat 0))⟩, ⟨(some (K.ofNat 8)), none, .bin .geq (.t (K.ofNat 7)) (.c (.i .u64 (.ofNat 65536)))⟩]
noncomputable def f114_r5 : List EOper := [⟨(some (K.ofNat 9)), none, .mv (.t (K.ofNat 0))⟩, ⟨(some (K.ofNat 10)), none, .bin .shr (.t (K.ofNat 9)) (.c (.i .u64 (.ofNat 16)))⟩, ⟨(some (K.ofNat 0)), none, .as (.t (K.ofNat 10))⟩]
noncomputable def f114_r6 : List EOper := [⟨(some (K.ofNat 11)), none, .mv (.t (K.ofNat 2))⟩, ⟨(some (K.ofNat 12)), none, .bin .add (.t (K.ofNat 11)) (.c (.i .i64 (.ofNat 16)))⟩, ⟨(some (K.ofNat 2)), none, .as (.t (K.ofNat 12))⟩]
noncomputable def f114_r7 : List EOper := [⟨(some (K.ofNat 13)), none, .mv (.t (K.ofNat 0))⟩, ⟨(some (K.ofNat 14)), none, .bin .geq (.t (K.ofNat 13)) (.c (.i .u64 (.ofNat 256)))⟩]
noncomputable def f114_r8 : List EOper := [⟨(some (K.ofNat 15)), none, .mv (.t (K.ofNat 0))⟩, ⟨(some (K.ofNat 16)), none, .bin .shr (.t (K.ofNat 15)) (.c (.i .u64 (.ofNat 8)))⟩, ⟨(some (K.ofNat 0)), none, .as (.t (K.ofNat 16))⟩]
noncomputable def f114_r9 : List EOper := [⟨(some (K.ofNat 17)), none, .mv (.t (K.ofNat 2))⟩, ⟨(some (K.ofNat 18)), none, .bin .add (.t (K.ofNat 17)) (.c (.i .i64 (.ofNat 8)))⟩, ⟨(some (K.ofNat 2)), none, .as (.t (K.ofNat 18))⟩]
noncomputable def f114_r10 : List EOper := [⟨(some (K.ofNat 19)), none, .mv (.t (K.ofNat 2))⟩, ⟨(some (K.ofNat 20)), none, .mv (.t (K.ofNat 0))⟩, ⟨(some (K.ofNat 21)), none, .conv .u8 (.t (K.ofNat 20))⟩, ⟨(some (K.ofNat 22)), none, .pr .sidx (.c (.s ⟨#[0, 1, 2, 2, 3, 3, 3, 3, 4, 4, 4, 4, 4, 4, 4, 4, 5, 5, 5, 5, 5, 5, 5, 5, 5, 5, 5, 5, 5, 5, 5, 5, 6, 6, 6, 6, 6, 6, 6, 6, 6, 6, 6, 6, 6, 6, 6, 6, 6, 6, 6, 6, 6, 6, 6, 6, 6, 6, 6, 6, 6, 6, 6, 6, 7, 7, 7, 7, 7, 7, 7, 7, 7, 7, 7, 7, 7, 7, 7, 7, 7, 7, 7, 7, 7, 7, 7, 7, 7, 7, 7, 7, 7, 7, 7, 7, 7, 7, 7, 7, 7, 7, 7, 7, 7, 7, 7, 7, 7, 7, 7, 7, 7, 7, 7, 7, 7, 7, 7, 7, 7, 7, 7, 7, 7, 7, 7, 7, 8, 8, 8, 8, 8, 8, 8, 8, 8, 8, 8, 8, 8, 8, 8, 8, 8, 8, 8, 8, 8, 8, 8, 8, 8, 8, 8, 8, 8, 8, 8, 8, 8, 8, 8, 8, 8, 8, 8, 8, 8, 8, 8, 8, 8, 8, 8, 8, 8, 8, 8, 8, 8, 8, 8, 8, 8, 8, 8, 8, 8, 8, 8, 8, 8, 8, 8, 8, 8, 8, 8, 8, 8, 8, 8, 8, 8, 8, 8, 8, 8, 8, 8, 8, 8, 8, 8, 8, 8, 8, 8, 8, 8, 8, 8, 8, 8, 8, 8, 8, 8, 8, 8, 8, 8, 8, 8, 8, 8, 8, 8, 8, 8, 8, 8, 8, 8, 8, 8, 8, 8, 8, 8, 8, 8, 8, 8, 8]⟩)) (.t (K.ofNat 21))⟩, ⟨(some (K.ofNat 23)), none, .conv .i64 (.t (K.ofNat 22))⟩, ⟨(some (K.ofNat 24)), none, .bin .add (.t (K.ofNat 19)) (.t (K.ofNat 23))⟩, ⟨(some (K.ofNat 2)), none, .as (.t (K.ofNat 24))⟩]
noncomputable def f114_c : EC := (.seq (.reg f114_r0) (.seq (.seq (.reg f114_r1) (.cond (.t (K.ofNat 4)) (.seq (.reg f114_r2) (.reg f114_r3)) .skip)) (.seq (.seq (.reg f114_r4) (.cond (.t (K.ofNat 8)) (.seq (.reg f114_r5) (.reg f114_r6)) .skip)) (.seq (.seq (.reg f114_r7) (.cond (.t (K.ofNat 14)) (.seq (.reg f114_r8) (.reg f114_r9)) .skip)) (.seq (.reg f114_r10) .ret)))))
noncomputable def f114 : EF := ⟨25, [.tmp (K.ofNat 2)], f114_c, none⟩
noncomputable def f99_r0 : List EOper := [⟨(some (K.ofNat 2)), none, .as (.c (.i .i64 (.ofNat 0)))⟩]
noncomputable def f99_r1 : List EOper := [⟨(some (K.ofNat 3)), none, .mv (.t (K.ofNat 0))⟩, ⟨(some (K.ofNat 4)), none, .conv .u32 (.t (K.ofNat 3))⟩, ⟨(some (K.ofNat 5)), none, .call (.c (.fn (K.ofNat 113) [])) [(.t (K.ofNat 4))]⟩, ⟨(some (K.ofNat 2)), none, .as (.t (K.ofNat 5))⟩]
noncomputable def f99_r2 : List EOper := [⟨(some (K.ofNat 6)), none, .mv (.t (K.ofNat 0))⟩, ⟨(some (K.ofNat 7)), none, .call (.c (.fn (K.ofNat 114) [])) [(.t (K.ofNat 6))]⟩, ⟨(some (K.ofNat 2)), none, .as (.t (K.ofNat 7))⟩]
noncomputable def f99_c : EC := (.seq (.reg f99_r0) (.seq (.cond (.c (.b false)) (.seq (.reg f99_r1) .ret) .skip) (.seq (.reg f99_r2) .ret)))
noncomputable def f99 : EF := ⟨8, [.tmp (K.ofNat 2)], f99_c, none⟩
theorem f99_rs : f99.rs = [.tmp (K.ofNat 2)] := of_eq_true (eq_self _)
noncomputable def f98_r0 : List EOper := [⟨(some (K.ofNat 8)), none, .as (.c (.b true))⟩]
noncomputable def f98_r1 : List EOper := [⟨(some (K.ofNat 9)), none, .as (.c (.b true))⟩]
noncomputable def f98_r2 : List EOper := [⟨(some (K.ofNat 19)), none, .mv (.t (K.ofNat 2))⟩, ⟨(some (K.ofNat 20)), none, .mv (.t (K.ofNat 1))⟩, ⟨(some (K.ofNat 21)), none, .bin .sub (.t (K.ofNat 19)) (.t (K.ofNat 20))⟩, ⟨(some (K.ofNat 10)), none, .as (.t (K.ofNat 21))⟩]
noncomputable def f98_r3 : List EOper := [⟨(some (K.ofNat 22)), none, .mv (.t (K.ofNat 10))⟩, ⟨(some (K.ofNat 23)), none, .bin .leq (.t (K.ofNat 22)) (.c (.i .i64 (.ofNat 12)))⟩]
noncomputable def f98_r4 : List EOper := [⟨(some (K.ofNat 24)), none, .mv (.t (K.ofNat 0))⟩, ⟨(some (K.ofNat 25)), none, .mv (.t (K.ofNat 1))⟩, ⟨(some (K.ofNat 26)), none, .mv (.t (K.ofNat 2))⟩, ⟨(some (K.ofNat 27)), none, .call (.c (.fn (K.ofNat 104) [])) [(.t (K.ofNat 24)), (.t (K.ofNat 25)), (.t (K.ofNat 26))]⟩]
noncomputable def f98_r5 : List EOper := [⟨(some (K.ofNat 28)), none, .mv (.t (K.ofNat 3))⟩, ⟨(some (K.ofNat 29)), none, .bin .eql (.t (K.ofNat 28)) (.c (.i .i64 (.ofNat 0)))⟩]
noncomputable def f98_r6 : List EOper := [⟨(some (K.ofNat 30)), none, .mv (.t (K.ofNat 0))⟩, ⟨(some (K.ofNat 31)), none, .mv (.t (K.ofNat 1))⟩, ⟨(some (K.ofNat 32)), none, .mv (.t (K.ofNat 2))⟩, ⟨(some (K.ofNat 33)), none, .call (.c (.fn (K.ofNat 105) [])) [(.t (K.ofNat 30)), (.t (K.ofNat 31)), (.t (K.ofNat 32))]⟩]
noncomputable def f98_r7 : List EOper := [⟨(some (K.ofNat 34)), none, .mv (.t (K.ofNat 8))⟩, ⟨(some (K.ofNat 35)), none, .not (.t (K.ofNat 34))⟩]
noncomputable def f98_r8 : List EOper := [⟨(some (K.ofNat 36)), none, .mv (.t (K.ofNat 0))⟩, ⟨(some (K.ofNat 37)), none, .mv (.t (K.ofNat 1))⟩, ⟨(some (K.ofNat 38)), none, .mv (.t (K.ofNat 2))⟩, ⟨(some (K.ofNat 39)), none, .call (.c (.fn (K.ofNat 106) [])) [(.t (K.ofNat 36)), (.t (K.ofNat 37)), (.t (K.ofNat 38))]⟩]
noncomputable def f98_r9 : List EOper := [⟨(some (K.ofNat 40)), none, .mv (.t (K.ofNat 3))⟩, ⟨(some (K.ofNat 41)), none, .bin .sub (.t (K.ofNat 40)) (.c (.i .i64 (.ofNat 1)))⟩, ⟨(some (K.ofNat 3)), none, .as (.t (K.ofNat 41))⟩]
noncomputable def f98_r10 : List EOper := [⟨(some (K.ofNat 43)), none, .mv (.t (K.ofNat 0))⟩, ⟨(some (K.ofNat 44)), none, .mv (.t (K.ofNat 1))⟩, ⟨(some (K.ofNat 45)), none, .mv (.t (K.ofNat 2))⟩, ⟨(some (K.ofNat 46)), none, .call (.c (.fn (K.ofNat 107) [])) [(.t (K.ofNat 43)), (.t (K.ofNat 44)), (.t (K.ofNat 45))]⟩, ⟨(some (K.ofNat 42)), none, .mv (.t (K.ofNat 46))⟩, ⟨(some (K.ofNat 47)), none, .ext (.t (K.ofNat 42)) 0⟩, ⟨(some (K.ofNat 48)), none, .ext (.t (K.ofNat 42)) 1⟩, ⟨(some (K.ofNat 11)), none, .as (.t (K.ofNat 47))⟩, ⟨(some (K.ofNat 12)), none, .as (.t (K.ofNat 48))⟩]
noncomputable def f98_r11 : List EOper := [⟨(some (K.ofNat 49)), none, .mv (.t (K.ofNat 12))⟩, ⟨(some (K.ofNat 50)), none, .bin .eql (.t (K.ofNat 49)) (.c (.i .i64 (.ofNat 2)))⟩]
noncomputable def f98_r12 : List EOper := [⟨(some (K.ofNat 51)), none, .mv (.t (K.ofNat 0))⟩, ⟨(some (K.ofNat 52)), none, .mv (.t (K.ofNat 1))⟩, ⟨(some (K.ofNat 53)), none, .mv (.t (K.ofNat 2))⟩, ⟨(some (K.ofNat 54)), none, .call (.c (.fn (K.ofNat 108) [])) [(.t (K.ofNat 51)), (.t (K.ofNat 52)), (.t (K.ofNat 53))]⟩]
noncomputable def f98_r13 : List EOper := [⟨(some (K.ofNat 55)), none, .mv (.t (K.ofNat 2))⟩, ⟨(some (K.ofNat 56)), none, .bin .sub (.t (K.ofNat 55)) (.c (.i .i64 (.ofNat 1)))⟩, ⟨(some (K.ofNat 57)), none, .mv (.t (K.ofNat 11))⟩, ⟨(some (K.ofNat 58)), none, .mv (.t (K.ofNat 1))⟩, ⟨(some (K.ofNat 59)), none, .bin .sub (.t (K.ofNat 57)) (.t (K.ofNat 58))⟩, ⟨(some (K.ofNat 60)), none, .bin .sub (.t (K.ofNat 56)) (.t (K.ofNat 59))⟩, ⟨(some (K.ofNat 11)), none, .as (.t (K.ofNat 60))⟩]
noncomputable def f98_r14 : List EOper := [⟨(some (K.ofNat 12)), none, .as (.c (.i .i64 (.ofNat 1)))⟩]
noncomputable def f98_r15 : List EOper := [⟨(some (K.ofNat 61)), none, .mv (.t (K.ofNat 8))⟩, ⟨(some (K.ofNat 62)), none, .mv (.t (K.ofNat 61))⟩, ⟨(some (K.ofNat 63)), (some ((K.ofNat 62), true)), .mv (.t (K.ofNat 9))⟩, ⟨(some (K.ofNat 64)), none, .pick (.t (K.ofNat 62)) (.t (K.ofNat 63)) (.c (.b false))⟩, ⟨(some (K.ofNat 65)), none, .mv (.t (K.ofNat 64))⟩, ⟨(some (K.ofNat 66)), (some ((K.ofNat 65), true)), .mv (.t (K.ofNat 12))⟩, ⟨(some (K.ofNat 67)), (some ((K.ofNat 65), true)), .bin .eql (.t (K.ofNat 66)) (.c (.i .i64 (.ofNat 1)))⟩, ⟨(some (K.ofNat 68)), none, .pick (.t (K.ofNat 65)) (.t (K.ofNat 67)) (.c (.b false))⟩]
noncomputable def f98_r16 : List EOper := [⟨(some (K.ofNat 69)), none, .mv (.t (K.ofNat 0))⟩, ⟨(some (K.ofNat 70)), none, .mv (.t (K.ofNat 1))⟩, ⟨(some (K.ofNat 71)), none, .mv (.t (K.ofNat 2))⟩, ⟨(some (K.ofNat 72)), none, .call (.c (.fn (K.ofNat 109) [])) [(.t (K.ofNat 69)), (.t (K.ofNat 70)), (.t (K.ofNat 71))]⟩]
noncomputable def f98_r17 : List Stage := [⟨[⟨(some (K.ofNat 73)), none, .mv (.t (K.ofNat 1))⟩, ⟨(some (K.ofNat 74)), none, .bin .gtr (.t (K.ofNat 73)) (.c (.i .i64 (.ofNat 0)))⟩, ⟨(some (K.ofNat 75)), none, .mv (.t (K.ofNat 74))⟩, ⟨(some (K.ofNat 76)), (some ((K.ofNat 75), true)), .mv (.t (K.ofNat 0))⟩, ⟨(some (K.ofNat 77)), (some ((K.ofNat 75), true)), .mv (.t (K.ofNat 1))⟩, ⟨(some (K.ofNat 78)), (some ((K.ofNat 75), true)), .bin .sub (.t (K.ofNat 77)) (.c (.i .i64 (.ofNat 1)))⟩, ⟨(some (K.ofNat 79)), (some ((K.ofNat 75), true)), .iads 1 (.t (K.ofNat 76)) (.t (K.ofNat 78))⟩, ⟨(some (K.ofNat 80)), (some ((K.ofNat 75), true)), .ld (.t (K.ofNat 79))⟩, ⟨(some (K.ofNat 81)), (some ((K.ofNat 75), true)), .mv (.t (K.ofNat 0))⟩, ⟨(some (K.ofNat 82)), (some ((K.ofNat 75), true)), .mv (.t (K.ofNat 11))⟩, ⟨(some (K.ofNat 83)), (some ((K.ofNat 75), true)), .iads 1 (.t (K.ofNat 81)) (.t (K.ofNat 82))⟩, ⟨(some (K.ofNat 84)), (some ((K.ofNat 75), true)), .ld (.t (K.ofNat 83))⟩], [], (some ⟨(some (K.ofNat 85)), (some ((K.ofNat 75), true)), .call (.c (.fn (K.ofNat 110) [])) [(.t (K.ofNat 80)), (.t (K.ofNat 84))]⟩), []⟩, ⟨[⟨(some (K.ofNat 86)), (some ((K.ofNat 75), true)), .not (.t (K.ofNat 85))⟩, ⟨(some (K.ofNat 87)), none, .pick (.t (K.ofNat 75)) (.t (K.ofNat 86)) (.c (.b false))⟩], [], none, []⟩]
noncomputable def f98_r18 : List EOper := [⟨(some (K.ofNat 88)), none, .mv (.t (K.ofNat 0))⟩, ⟨(some (K.ofNat 89)), none, .mv (.t (K.ofNat 1))⟩, ⟨(some (K.ofNat 90)), none, .mv (.t (K.ofNat 2))⟩, ⟨(some (K.ofNat 91)), none, .mv (.t (K.ofNat 11))⟩, ⟨(some (K.ofNat 92)), none, .call (.c (.fn (K.ofNat 111) [])) [(.t (K.ofNat 88)), (.t (K.ofNat 89)), (.t (K.ofNat 90)), (.t (K.ofNat 91))]⟩, ⟨(some (K.ofNat 13)), none, .as (.t (K.ofNat 92))⟩]
noncomputable def f98_r19 : List EOper := [⟨(some (K.ofNat 93)), none, .mv (.t (K.ofNat 13))⟩, ⟨(some (K.ofNat 1)), none, .as (.t (K.ofNat 93))⟩]
noncomputable def f98_r20 : List EOper := [⟨(some (K.ofNat 95)), none, .mv (.t (K.ofNat 0))⟩, ⟨(some (K.ofNat 96)), none, .mv (.t (K.ofNat 1))⟩, ⟨(some (K.ofNat 97)), none, .mv (.t (K.ofNat 2))⟩, ⟨(some (K.ofNat 98)), none, .mv (.t (K.ofNat 11))⟩, ⟨(some (K.ofNat 99)), none, .call (.c (.fn (K.ofNat 112) [])) [(.t (K.ofNat 95)), (.t (K.ofNat 96)), (.t (K.ofNat 97)), (.t (K.ofNat 98))]⟩, ⟨(some (K.ofNat 94)), none, .mv (.t (K.ofNat 99))⟩, ⟨(some (K.ofNat 100)), none, .ext (.t (K.ofNat 94)) 0⟩, ⟨(some (K.ofNat 101)), none, .ext (.t (K.ofNat 94)) 1⟩, ⟨(some (K.ofNat 14)), none, .as (.t (K.ofNat 100))⟩, ⟨(some (K.ofNat 15)), none, .as (.t (K.ofNat 101))⟩]
noncomputable def f98_r21 : List EOper := [⟨(some (K.ofNat 102)), none, .mv (.t (K.ofNat 15))⟩, ⟨(some (K.ofNat 9)), none, .as (.t (K.ofNat 102))⟩]
noncomputable def f98_r22 : List EOper := [⟨(some (K.ofNat 103)), none, .mv (.t (K.ofNat 14))⟩, ⟨(some (K.ofNat 104)), none, .mv (.t (K.ofNat 1))⟩, ⟨(some (K.ofNat 105)), none, .bin .sub (.t (K.ofNat 103)) (.t (K.ofNat 104))⟩, ⟨(some (K.ofNat 106)), none, .mv (.t (K.ofNat 2))⟩, ⟨(some (K.ofNat 107)), none, .mv (.t (K.ofNat 14))⟩, ⟨(some (K.ofNat 108)), none, .bin .sub (.t (K.ofNat 106)) (.t (K.ofNat 107))⟩, ⟨(some (K.ofNat 16)), none, .as (.t (K.ofNat 105))⟩, ⟨(some (K.ofNat 17)), none, .as (.t (K.ofNat 108))⟩]
noncomputable def f98_r23 : List EOper := [⟨(some (K.ofNat 109)), none, .mv (.t (K.ofNat 10))⟩, ⟨(some (K.ofNat 110)), none, .bin .quo (.t (K.ofNat 109)) (.c (.i .i64 (.ofNat 8)))⟩, ⟨(some (K.ofNat 18)), none, .as (.t (K.ofNat 110))⟩]
noncomputable def f98_r24 : List EOper := [⟨(some (K.ofNat 111)), none, .mv (.t (K.ofNat 16))⟩, ⟨(some (K.ofNat 112)), none, .mv (.t (K.ofNat 17))⟩, ⟨(some (K.ofNat 113)), none, .bin .lss (.t (K.ofNat 111)) (.t (K.ofNat 112))⟩]
noncomputable def f98_r25 : List EOper := [⟨(some (K.ofNat 114)), none, .mv (.t (K.ofNat 16))⟩, ⟨(some (K.ofNat 115)), none, .mv (.t (K.ofNat 18))⟩, ⟨(some (K.ofNat 116)), none, .bin .geq (.t (K.ofNat 114)) (.t (K.ofNat 115))⟩, ⟨(some (K.ofNat 8)), none, .as (.t (K.ofNat 116))⟩]
noncomputable def f98_r26 : List EOper := [⟨(some (K.ofNat 117)), none, .mv (.t (K.ofNat 0))⟩, ⟨(some (K.ofNat 118)), none, .mv (.t (K.ofNat 1))⟩, ⟨(some (K.ofNat 119)), none, .mv (.t (K.ofNat 14))⟩, ⟨(some (K.ofNat 120)), none, .mv (.t (K.ofNat 3))⟩, ⟨(some (K.ofNat 121)), none, .call (.c (.fn (K.ofNat 98) [])) [(.t (K.ofNat 117)), (.t (K.ofNat 118)), (.t (K.ofNat 119)), (.t (K.ofNat 120))]⟩]
noncomputable def f98_r27 : List EOper := [⟨(some (K.ofNat 122)), none, .mv (.t (K.ofNat 14))⟩, ⟨(some (K.ofNat 123)), none, .bin .add (.t (K.ofNat 122)) (.c (.i .i64 (.ofNat 1)))⟩, ⟨(some (K.ofNat 1)), none, .as (.t (K.ofNat 123))⟩]
noncomputable def f98_r28 : List EOper := [⟨(some (K.ofNat 124)), none, .mv (.t (K.ofNat 17))⟩, ⟨(some (K.ofNat 125)), none, .mv (.t (K.ofNat 18))⟩, ⟨(some (K.ofNat 126)), none, .bin .geq (.t (K.ofNat 124)) (.t (K.ofNat 125))⟩, ⟨(some (K.ofNat 8)), none, .as (.t (K.ofNat 126))⟩]
noncomputable def f98_r29 : List EOper := [⟨(some (K.ofNat 127)), none, .mv (.t (K.ofNat 0))⟩, ⟨(some (K.ofNat 128)), none, .mv (.t (K.ofNat 14))⟩, ⟨(some (K.ofNat 129)), none, .bin .add (.t (K.ofNat 128)) (.c (.i .i64 (.ofNat 1)))⟩, ⟨(some (K.ofNat 130)), none, .mv (.t (K.ofNat 2))⟩, ⟨(some (K.ofNat 131)), none, .mv (.t (K.ofNat 3))⟩, ⟨(some (K.ofNat 132)), none, .call (.c (.fn (K.ofNat 98) [])) [(.t (K.ofNat 127)), (.t (K.ofNat 129)), (.t (K.ofNat 130)), (.t (K.ofNat 131))]⟩]
noncomputable def f98_r30 : List EOper := [⟨(some (K.ofNat 133)), none, .mv (.t (K.ofNat 14))⟩, ⟨(some (K.ofNat 2)), none, .as (.t (K.ofNat 133))⟩]
noncomputable def f98_l0 : EC := (.block 1 (.seq (.reg f98_r2) (.seq (.seq (.reg f98_r3) (.cond (.t (K.ofNat 23)) (.seq (.reg f98_r4) .ret) .skip)) (.seq (.seq (.reg f98_r5) (.cond (.t (K.ofNat 29)) (.seq (.reg f98_r6) .ret) .skip)) (.seq (.seq (.reg f98_r7) (.cond (.t (K.ofNat 35)) (.seq (.reg f98_r8) (.reg f98_r9)) .skip)) (.seq (.reg f98_r10) (.seq (.seq (.reg f98_r11) (.cond (.t (K.ofNat 50)) (.seq (.reg f98_r12) (.seq (.reg f98_r13) (.reg f98_r14))) .skip)) (.seq (.seq (.reg f98_r15) (.cond (.t (K.ofNat 68)) (.seq (.reg f98_r16) (.cond (.t (K.ofNat 72)) .ret .skip)) .skip)) (.seq (.seq (.draw f98_r17) (.cond (.t (K.ofNat 87)) (.seq (.reg f98_r18) (.seq (.reg f98_r19) (.exit 1))) .skip)) (.seq (.reg f98_r20) (.seq (.reg f98_r21) (.seq (.reg f98_r22) (.seq (.reg f98_r23) (.seq (.reg f98_r24) (.cond (.t (K.ofNat 113)) (.seq (.reg f98_r25) (.seq (.reg f98_r26) (.reg f98_r27))) (.seq (.reg f98_r28) (.seq (.reg f98_r29) (.reg f98_r30))))))))))))))))))
noncomputable def f98_c : EC := (.seq (.reg f98_r0) (.seq (.reg f98_r1) (.block 0 (.loop f98_l0))))
noncomputable def f98 : EF := ⟨134, [], f98_c, none⟩
theorem f98_rs : f98.rs = [] := of_eq_true (eq_self _)
noncomputable def f86_r0 : List EOper := [⟨(some (K.ofNat 3)), none, .mv (.t (K.ofNat 0))⟩, ⟨(some (K.ofNat 4)), none, .len (.t (K.ofNat 3))⟩, ⟨(some (K.ofNat 2)), none, .as (.t (K.ofNat 4))⟩]
noncomputable def f86_r1 : List EOper := [⟨(some (K.ofNat 5)), none, .mv (.t (K.ofNat 0))⟩, ⟨(some (K.ofNat 6)), none, .mv (.t (K.ofNat 2))⟩, ⟨(some (K.ofNat 7)), none, .mv (.t (K.ofNat 2))⟩, ⟨(some (K.ofNat 8)), none, .conv .u64 (.t (K.ofNat 7))⟩, ⟨(some (K.ofNat 9)), none, .call (.c (.fn (K.ofNat 99) [])) [(.t (K.ofNat 8))]⟩, ⟨(some (K.ofNat 10)), none, .call (.c (.fn (K.ofNat 98) [])) [(.t (K.ofNat 5)), (.c (.i .i64 (.ofNat 0))), (.t (K.ofNat 6)), (.t (K.ofNat 9))]⟩]
noncomputable def f86_c : EC := (.seq (.reg f86_r0) (.reg f86_r1))
noncomputable def f86 : EF := ⟨11, [], f86_c, none⟩
theorem f86_rs : f86.rs = [] := of_eq_true (eq_self _)
def insL (x : Int) : List Int → List Int
  | [] => [x]
  | y :: P => if y ≤ x then y :: insL x P else x :: y :: P
def srtL (S : List Int) : List Int := S.foldl (fun P x => insL x P) []
theorem insL_len {x : Int} : ∀ {P : List Int}, (insL x P).length = P.length + 1
  | [] => rfl
  | y :: P => by
    unfold insL
    split
    · rw [List.length_cons, insL_len]; rfl
    · rfl
theorem insL_app {x : Int} {B : List Int} (hB : ∀ b ∈ B.head?, ¬ b ≤ x) : ∀ {A : List Int}, (∀ y ∈ A, y ≤ x) → insL x (A ++ B) = A ++ x :: B
  | [], _ => by
    cases B with
    | nil => rfl
    | cons b B => show (if b ≤ x then _ else _) = _; rw [if_neg (hB b (by simp))]; rfl
  | y :: A, h => by
    show (if y ≤ x then y :: insL x (A ++ B) else _) = _
    rw [if_pos (h y (by simp)), insL_app hB (fun z hz => h z (List.mem_cons_of_mem _ hz))]; rfl
theorem insL_mem {x z : Int} : ∀ {P : List Int}, z ∈ insL x P → z = x ∨ z ∈ P
  | [], h => .inl (List.mem_singleton.1 h)
  | y :: P, h => by
    unfold insL at h
    split at h
    · rcases List.mem_cons.1 h with rfl | h
      · exact .inr (by simp)
      · rcases insL_mem h with h | h
        · exact .inl h
        · exact .inr (List.mem_cons_of_mem _ h)
    · rcases List.mem_cons.1 h with rfl | h
      · exact .inl rfl
      · exact .inr h
theorem insL_srt {x : Int} : ∀ {P : List Int}, P.Pairwise (· ≤ ·) → (insL x P).Pairwise (· ≤ ·)
  | [], _ => by simp [insL]
  | y :: P, h => by
    obtain ⟨h1, h2⟩ := List.pairwise_cons.1 h
    unfold insL
    split
    · rename_i hy
      refine List.pairwise_cons.2 ⟨fun z hz => ?_, insL_srt h2⟩
      rcases insL_mem hz with rfl | hz
      · exact hy
      · exact h1 z hz
    · rename_i hy
      refine List.pairwise_cons.2 ⟨fun z hz => ?_, h⟩
      rcases List.mem_cons.1 hz with rfl | hz
      · omega
      · have := h1 z hz; omega
theorem srtL_snoc {S : List Int} {x : Int} : srtL (S ++ [x]) = insL x (srtL S) := by unfold srtL; rw [List.foldl_append]; rfl
theorem srt_aux : ∀ (S P : List Int), P.Pairwise (· ≤ ·) → (S.foldl (fun P x => insL x P) P).Pairwise (· ≤ ·) ∧ (S.foldl (fun P x => insL x P) P).length = P.length + S.length ∧ ∀ z ∈ S.foldl (fun P x => insL x P) P, z ∈ P ∨ z ∈ S
  | [], P, h => ⟨h, by simp, fun z hz => .inl hz⟩
  | x :: S, P, h => by
    obtain ⟨h1, h2, h3⟩ := srt_aux S (insL x P) (insL_srt h)
    refine ⟨h1, by show (S.foldl _ (insL x P)).length = _; rw [h2, insL_len]; simp; omega, fun z hz => ?_⟩
    rcases h3 z hz with h4 | h4
    · rcases insL_mem h4 with rfl | h4
      · exact .inr (by simp)
      · exact .inl h4
    · exact .inr (List.mem_cons_of_mem _ h4)
theorem srtL_srt {S : List Int} : (srtL S).Pairwise (· ≤ ·) := (srt_aux S [] List.Pairwise.nil).1
theorem srtL_len {S : List Int} : (srtL S).length = S.length := by have := (srt_aux S [] List.Pairwise.nil).2.1; unfold srtL; rw [this]; simp
theorem srtL_mem {S : List Int} {z : Int} (h : z ∈ srtL S) : z ∈ S := by
  rcases (srt_aux S [] List.Pairwise.nil).2.2 z h with h | h
  · simp at h
  · exact h
theorem swap_at {p x : Int} {B : List Int} : ∀ {A : List Int}, ((A ++ p :: x :: B).set (A.length + 1) p).set A.length x = A ++ x :: p :: B
  | [] => rfl
  | a :: A => by simp
structure CallsSr (fs : T EF) : Prop where
  c_nan : fs.get (K.ofNat 103) = some f103
  c_less : fs.get (K.ofNat 110) = some f110
  c_ins : fs.get (K.ofNat 104) = some f104
  c_l64 : fs.get (K.ofNat 114) = some f114
  c_blen : fs.get (K.ofNat 99) = some f99
  c_pdq : fs.get (K.ofNat 98) = some f98
section
variable {fs : T EF} {h : H} {v : V} {S : List Int}
theorem nan_ret {x : Int} : Ret fs f103 [.i .i64 x] h fun r h' => r = .b false ∧ h' = h := by
  apply ret_of rfl
  show W fs none f103_c _ _ _
  unfold f103_c
  have d : decide (x ≠ x) = false := by simp
  simp (disch := omega) only [f103_r0, f103_r1, f103_rs, w_reg, w_seq, w_ret, seqK_n, retK_r, x_nil, x_mv, x_as, x_bin, kx, rvP_ok, okv_some, ev_t, ev_c, getV_some, putD_some, bin_neq, oGet_s, readRs_nil, readRs_t, retV_1, frame_1, Option.some.injEq, exists_eq_left', getK_set, Nat.reduceEqDiff, ↓reduceIte, d, and_self]
theorem less_ret {x y : Int} (k : CallsSr fs) : Ret fs f110 [.i .i64 x, .i .i64 y] h fun r h' => r = .b (decide (x < y)) ∧ h' = h := by
  apply ret_of rfl
  show W fs none f110_c _ _ _
  unfold f110_c
  simp (disch := omega) only [f110_r0, f110_r1, w_reg, w_seq, seqK_n, x_nil, x_mv, x_as, x_call, ev_t, ev_c, evs_nil, evs_cons, getV_some, putD_some, frame_2, getK_set, Nat.reduceEqDiff, ↓reduceIte]
  refine (callP_0 (ef := f103) k.c_nan rfl (nan_ret)).mono ?_
  rintro r h1 ⟨rfl, rfl⟩
  simp (disch := omega) only [f110_rs, w_ret, seqK_n, okG_b, asG_t, asG_f, retK_r, x_nil, x_g, x_mv, x_as, x_pick, x_bin, kx, rvP_ok, okv_some, ev_t, ev_c, getV_some, putD_some, bin_lss, pick_b, oGet_s, readRs_nil, readRs_t, retV_1, Option.some.injEq, exists_eq_left', getK_set, Nat.reduceEqDiff, ↓reduceIte, Bool.false_eq_true, Bool.not_false, and_self]
/-- What a sort leaves alone. -/
structure Only (v : V) (h h' : H) : Prop where
  nx : h'.nx = h.nx
  old : ∀ id, NotIn id v → h'.get id = h.get id
theorem Only.refl : Only v h h := ⟨rfl, fun _ _ => rfl⟩
theorem Only.hc {h' : H} (o : Only v h h') (hc : HC h) (hv : ∀ id off n sz, v = .sl id off n sz → id.nat < h.nx.nat) : HC h' := fun id hid => by
  rw [o.nx] at hid
  rw [o.old id (fun off n sz e => by have := hv _ _ _ _ e; omega)]
  exact hc id hid
theorem Only.put {h' : H} {id : K} {x : Blk} (o : Only v h h') (hv : ∃ off n sz, v = .sl id off n sz) : Only v h (h'.put id x) := ⟨o.nx, fun id' hn => by
  obtain ⟨off, n, sz, e⟩ := hv
  rw [get_put_other (fun q => hn off n sz (by rw [q]; exact e))]
  exact o.old id' hn⟩
theorem Only.grow {h' : H} {b : Nat} (o : Only v h h') (ho : Own b v) (hv : ∀ id off n sz, v = .sl id off n sz → id.nat < h.nx.nat) : Grow b h h' := ⟨by rw [o.nx]; exact Nat.le_refl _, fun id hi => o.old id (ho.notIn hi), fun hc => o.hc hc hv⟩
def ins_I (h : H) (v : V) (S : List Int) (i : Nat) (fr : Fr) (h1 : H) : Prop := 1 ≤ i ∧ i ≤ S.length ∧ Only v h h1 ∧ Sl iE h1 v (srtL (S.take i) ++ S.drop i) ∧ fr.get (K.ofNat 0) = some (v) ∧ fr.get (K.ofNat 1) = some (.i .i64 0) ∧ fr.get (K.ofNat 2) = some (.i .i64 (S.length : Int)) ∧ fr.get (K.ofNat 6) = some (.i .i64 (i : Int))
def ins_J (h : H) (v : V) (S P R : List Int) (x : Int) (i j : Nat) (fr : Fr) (h1 : H) : Prop := j ≤ i ∧ Only v h h1 ∧ Sl iE h1 v ((P.take j ++ x :: P.drop j) ++ R) ∧ (∀ b ∈ (P.drop j).head?, ¬ b ≤ x) ∧ fr.get (K.ofNat 0) = some (v) ∧ fr.get (K.ofNat 1) = some (.i .i64 0) ∧ fr.get (K.ofNat 2) = some (.i .i64 (S.length : Int)) ∧ fr.get (K.ofNat 6) = some (.i .i64 (i : Int)) ∧ fr.get (K.ofNat 7) = some (.i .i64 (j : Int))
theorem ins_ret (k : CallsSr fs) (hv : Sl iE h v S) (hS : S.length ≤ 1000) (h1 : 1 ≤ S.length) (hc : HC h) : Ret fs f104 [v, .i .i64 0, .i .i64 (S.length : Int)] h fun r h' => r = .tup [] ∧ Sl iE h' v (srtL S) ∧ Only v h h' := by
  have hlt0 := hv.lt hc
  apply ret_of rfl
  show W fs none f104_c _ _ _
  unfold f104_c
  simp (disch := omega) only [f104_r0, w_reg, w_seq, w_block, seqK_n, x_nil, x_mv, x_as, x_bin, kx, rvP_ok, okv_some, ev_t, ev_c, getV_some, putD_some, bin_add, frame_3, of1, getK_set, Nat.reduceEqDiff, ↓reduceIte, fw64]
  refine W_loop (ins_I h v S) (fun i => S.length - i) ?_ 1 ⟨by omega, h1, Only.refl, ?_, by simp (disch := omega) only [getK_set, Nat.reduceEqDiff, ↓reduceIte, and_self, Int.natCast_one, Int.zero_add]⟩
  · rintro i fr h2 ⟨hi0, hi, hO, hs, g0, g1, g2, g6⟩
    unfold f104_l1
    by_cases hlt : i < S.length
    · have d0 : decide ((i : Int) < (S.length : Int)) = true := by simpa using hlt
      have hP : (srtL (S.take i)).length = i := by rw [srtL_len]; simp; omega
      have hsr := srtL_srt (S := S.take i)
      have hsn : srtL (S.take (i + 1)) = insL S[i] (srtL (S.take i)) := by rw [List.take_succ_eq_append_getElem hlt, srtL_snoc]
      have hdr : S.drop i = S[i] :: S.drop (i + 1) := List.drop_eq_getElem_cons hlt
      generalize S[i] = x at *
      generalize srtL (S.take i) = P at *
      generalize hRe : S.drop (i + 1) = R at *
      simp (disch := omega) only [f104_r1, f104_r2, w_skip, w_reg, w_seq, w_cond, w_block, seqK_n, ckB_b, cbB_b, true_and, x_nil, x_mv, x_as, x_bin, kx, rvP_ok, okv_some, ev_t, getV_some, putD_some, bin_lss, getK_set, Nat.reduceEqDiff, ↓reduceIte, g2, g6, d0]
      refine W_loop (ins_J h v S P R x i) (fun j => j) ?_ i ⟨Nat.le_refl _, hO, by rw [List.take_of_length_le (by omega), List.drop_eq_nil_of_le (by omega), List.append_assoc]; rw [hdr] at hs; exact hs, by rw [List.drop_eq_nil_of_le (by omega)]; exact (fun b hb => absurd hb (by simp)), by simp (disch := omega) only [getK_set, Nat.reduceEqDiff, ↓reduceIte, g0, g1, g2, g6, and_self]⟩
      clear hs hO g0 g1 g2 g6 fr
      rintro j fr h3 ⟨hj, hO, hs, hB, g0, g1, g2, g6, g7⟩
      unfold f104_l0
      rcases j with _ | j
      · have d1 : decide ((0 : Int) > 0) = false := rfl
        have e := insL_app hB (A := []) (by simp)
        simp only [List.take_zero, List.drop_zero, List.nil_append] at hs e
        rw [← e, ← hsn] at hs
        simp (disch := omega) only [f104_r3, f104_r6, w_reg, w_draw, w_seq, w_cond, w_exit, seqK_n, seqK_e, atK_n, atK_e, loopK_n, loopK_e, ckB_b, cbB_b, okG_b, asG_t, true_and, x_nil, x_g, x_mv, x_as, x_bin, kx, kg, xg_nil, xg_g, xg_mv, xg_pick, xg_bin, xd_cons, fresh_nil, stK_n, stK_s, stay_nil, rvP_ok, okv_some, ev_t, ev_c, getV_some, putD_some, bin_add, bin_gtr, pick_b, of1, getK_set, Nat.reduceEqDiff, ↓reduceIte, Bool.false_eq_true, g1, g6, g7, Int.natCast_zero, d1, fw64]
        exact ⟨i + 1, by omega, by omega, by omega, hO, by rw [hRe]; exact hs, by simp (disch := omega) only [getK_set, Nat.reduceEqDiff, ↓reduceIte, g0, g1, g2, and_self, Int.natCast_add, Int.natCast_one]⟩
      · have d1 : decide (((j + 1 : Nat) : Int) > 0) = true := decide_eq_true (by omega)
        have hj1 : ((j + 1 : Nat) : Int) - 1 = (j : Int) := by omega
        have hjP : j < P.length := by omega
        have htk : P.take (j + 1) = P.take j ++ [P[j]] := List.take_succ_eq_append_getElem hjP
        have hdj : P.drop j = P[j] :: P.drop (j + 1) := List.drop_eq_getElem_cons hjP
        have hpw : ∀ y ∈ P.take (j + 1), y ≤ P[j] := fun y hy => by
          obtain ⟨a, ha, rfl⟩ := List.getElem_of_mem hy
          have ha' : a < j + 1 := by simp at ha; omega
          rw [List.getElem_take]
          by_cases e : a = j
          · subst e; exact Int.le_refl _
          · exact List.pairwise_iff_getElem.1 hsr a j (by omega) hjP (by omega)
        have hA : (P.take j).length = j := by simp; omega
        rw [htk] at hs
        have hs' : Sl iE h3 v (P.take j ++ P[j] :: x :: (P.drop (j + 1) ++ R)) := by rw [List.append_assoc (P.take j), List.append_assoc (P.take j)] at hs; exact hs
        generalize P[j] = p at *
        generalize hAe : P.take j = A at *
        generalize P.drop (j + 1) = B at *
        have hlen : (A ++ p :: x :: (B ++ R)).length = A.length + (B ++ R).length + 2 := by simp; omega
        obtain ⟨p1, a1, a2⟩ := hs'.at (j + 1) (by omega)
        obtain ⟨p0, b1, b2⟩ := hs'.at j (by omega)
        have x1 : (A ++ p :: x :: (B ++ R))[j + 1]'(by omega) = x := by simp [← hA]
        have x0 : (A ++ p :: x :: (B ++ R))[j]'(by omega) = p := by simp [← hA]
        rw [x1] at a2
        rw [x0] at b2
        cases d2 : decide (x < p) with
        | false =>
          have hle : p ≤ x := by have := of_decide_eq_false d2; omega
          have hall : ∀ y ∈ P.take (j + 1), y ≤ x := fun y hy => Int.le_trans (hpw y hy) hle
          rw [htk] at hall
          have e := insL_app hB hall
          have hPe : P = (A ++ [p]) ++ B := by
            have := List.take_append_drop (j + 1) P
            rw [htk] at this
            have e2 : P.drop (j + 1) = B := by
              have := hdj
              rw [List.drop_eq_getElem_cons hjP] at this
              injection this
            rw [e2] at this
            exact this.symm
          rw [← hPe] at e
          have hs2 : Sl iE h3 v (srtL (S.take (i + 1)) ++ R) := by rw [hsn, e]; exact hs
          simp (disch := omega) only [f104_r3, w_draw, w_seq, okG_b, asG_t, true_and, x_g, x_call, kg, xg_nil, xg_g, xg_mv, xg_ld, xg_bin, xg_iads, xd_cons, fresh_nil, stK_s, stay_nil, rvP_ok, okv_some, ev_t, ev_c, evs_nil, evs_cons, getV_some, putD_some, bin_sub, bin_gtr, of1, getK_set, Nat.reduceEqDiff, ↓reduceIte, g0, g1, g7, d1, hj1, a1, a2, b1, b2, iE, fw64]
          refine (callP_0 (ef := f110) k.c_less rfl (less_ret k)).mono ?_
          rintro r h4 ⟨rfl, rfl⟩
          simp (disch := omega) only [f104_r6, w_reg, w_cond, w_exit, seqK_n, seqK_e, atK_n, atK_e, loopK_n, loopK_e, ckB_b, cbB_b, true_and, x_nil, x_mv, x_as, x_bin, kx, kg, xg_nil, xg_pick, xd_cons, fresh_nil, stK_n, stay_nil, rvP_ok, okv_some, ev_t, ev_c, getV_some, putD_some, bin_add, pick_b, of1, getK_set, Nat.reduceEqDiff, ↓reduceIte, Bool.false_eq_true, g6, d2, fw64]
          exact ⟨i + 1, by omega, by omega, by omega, hO, by rw [hRe]; exact hs2, by simp (disch := omega) only [getK_set, Nat.reduceEqDiff, ↓reduceIte, g0, g1, g2, and_self, Int.natCast_add, Int.natCast_one]⟩
        | true =>
          have hgt : ¬ p ≤ x := by have := of_decide_eq_true d2; omega
          have hc3 := hO.hc hc hlt0
          obtain ⟨p1', id, m, cs', z1, z2, z3, ⟨off, nn, sz, z4⟩, z5⟩ := hs'.st (i := j + 1) (by omega) (x := p) (c := .i .i64 p) rfl rfl hc3
          obtain rfl : p1 = p1' := by have := (a1 .i64 h3).symm.trans (z1 .i64 h3); injection this
          have hc4 := (hO.put (x := .cells m cs') ⟨_, _, _, z4⟩).hc hc hlt0
          obtain ⟨p0', id2, m2, cs2, y1, y2, y3, y4, y5⟩ := z3.st (i := j) (by simp; omega) (x := x) (c := .i .i64 x) rfl rfl hc4
          obtain rfl : p0 = p0' := by have := (b1 .i64 h3).symm.trans (y1 .i64 h3); injection this
          have hsw : ((A ++ p :: x :: (B ++ R)).set (j + 1) p).set j x = (A ++ x :: (p :: B)) ++ R := by
            have := swap_at (p := p) (x := x) (B := B ++ R) (A := A)
            rw [hA] at this
            rw [this]; simp
          rw [hsw] at y3
          have hvb := hs.beq
          simp (disch := omega) only [f104_r3, w_draw, w_seq, okG_b, asG_t, true_and, x_g, x_call, kg, xg_nil, xg_g, xg_mv, xg_ld, xg_bin, xg_iads, xd_cons, fresh_nil, stK_s, stay_nil, rvP_ok, okv_some, ev_t, ev_c, evs_nil, evs_cons, getV_some, putD_some, bin_sub, bin_gtr, of1, getK_set, Nat.reduceEqDiff, ↓reduceIte, g0, g1, g7, d1, hj1, a1, a2, b1, b2, iE, fw64]
          refine (callP_0 (ef := f110) k.c_less rfl (less_ret k)).mono ?_
          rintro r h4 ⟨rfl, rfl⟩
          simp (disch := omega) only [f104_r4, f104_r5, w_skip, w_reg, w_draw, w_seq, w_cond, w_block, seqK_n, atK_n, loopK_n, ckB_b, cbB_b, true_and, x_nil, x_mv, x_as, x_st, x_bin, kx, kg, xg_nil, xg_mv, xg_pick, xg_ld, xg_bin, xg_iads, xd_cons, fresh_nil, stK_n, stK_s, stay_nil, stay_cons, again_ok, stay_mv, beq_i, stay_bin, rvP_ok, okv_some, ev_t, ev_c, getV_some, putD_some, putD_none, bin_sub, pick_b, of1, getK_set, Nat.reduceEqDiff, ↓reduceIte, g0, g7, d2, hj1, a1, a2, b1, b2, z2, y2, hvb, iE, fw64]
          refine ⟨j, by omega, by omega, (hO.put ⟨_, _, _, z4⟩).put y4, ?_, ?_, by simp (disch := omega) only [getK_set, Nat.reduceEqDiff, ↓reduceIte, g0, g1, g2, g6, and_self]⟩
          · rw [hAe, hdj]; exact y3
          · rw [hdj]; intro b hb
            obtain rfl : p = b := by simpa using hb
            exact hgt
    · have d0 : decide ((i : Int) < (S.length : Int)) = false := by simpa using hlt
      have ei : i = S.length := by omega
      rw [ei, List.take_length, List.drop_length, List.append_nil] at hs
      simp (disch := omega) only [f104_r1, f104_rs, w_reg, w_seq, w_cond, w_exit, seqK_n, seqK_e, atK_e, loopK_e, ckB_b, cbB_b, true_and, retK_n, x_nil, x_mv, x_bin, kx, rvP_ok, okv_some, ev_t, getV_some, putD_some, bin_lss, readRs_nil, retV_0, Option.some.injEq, exists_eq_left', getK_set, Nat.reduceEqDiff, ↓reduceIte, Bool.false_eq_true, g2, g6, d0, true_and]
      exact ⟨hs, hO⟩
  · have : S.take 1 = [S[0]] := by rw [List.take_succ_eq_append_getElem (by omega)]; simp
    rw [this, show srtL [S[0]] = [S[0]] from rfl, ← this, List.take_append_drop]; exact hv
theorem l64_ret {n : Nat} (hn : n ≤ 12) : Ret fs f114 [.i .u64 (n : Int)] h fun r h' => (∃ b, r = .i .i64 b) ∧ h' = h := by
  rcases (show n = 0 ∨ n = 1 ∨ n = 2 ∨ n = 3 ∨ n = 4 ∨ n = 5 ∨ n = 6 ∨ n = 7 ∨ n = 8 ∨ n = 9 ∨ n = 10 ∨ n = 11 ∨ n = 12 by omega) with rfl | rfl | rfl | rfl | rfl | rfl | rfl | rfl | rfl | rfl | rfl | rfl | rfl <;> exact ⟨20, _, _, rfl, ⟨_, rfl⟩, rfl⟩
theorem blen_ret {n : Nat} (k : CallsSr fs) (hn : n ≤ 12) : Ret fs f99 [.i .u64 (n : Int)] h fun r h' => (∃ b, r = .i .i64 b) ∧ h' = h := by
  apply ret_of rfl
  show W fs none f99_c _ _ _
  unfold f99_c
  simp (disch := omega) only [f99_r0, f99_r2, w_skip, w_reg, w_seq, w_cond, seqK_n, ckB_b, cbB_b, true_and, x_nil, x_mv, x_as, x_call, ev_t, ev_c, evs_nil, evs_cons, getV_some, putD_some, frame_1, of0, getK_set, Nat.reduceEqDiff, ↓reduceIte, Bool.false_eq_true]
  refine (callP_0 (ef := f114) k.c_l64 rfl (l64_ret hn)).mono ?_
  rintro r h1 ⟨⟨b, rfl⟩, rfl⟩
  simp (disch := omega) only [f99_rs, w_ret, seqK_n, retK_r, x_nil, x_as, kx, ev_t, getV_some, putD_some, oGet_s, readRs_nil, readRs_t, retV_1, Option.some.injEq, exists_eq_left', getK_set, ↓reduceIte, and_true]
  exact ⟨b, rfl⟩
theorem pdq_ret {b : Int} (k : CallsSr fs) (hv : Sl iE h v S) (hS : S.length ≤ 12) (h1 : 1 ≤ S.length) (hc : HC h) : Ret fs f98 [v, .i .i64 0, .i .i64 (S.length : Int), .i .i64 b] h fun r h' => r = .tup [] ∧ Sl iE h' v (srtL S) ∧ Only v h h' := by
  apply ret_of rfl
  show W fs none f98_c _ _ _
  unfold f98_c
  have d0 : decide ((S.length : Int) ≤ 12) = true := decide_eq_true (by omega)
  have e0 : (S.length : Int) - 0 = (S.length : Int) := Int.sub_zero _
  simp (disch := omega) only [f98_r0, f98_r1, w_reg, w_seq, w_block, seqK_n, x_nil, x_as, ev_c, putD_some, frame_4]
  refine W_loop (fun (_ : Unit) fr h1 => h1 = h ∧ fr.get (K.ofNat 0) = some (v) ∧ fr.get (K.ofNat 1) = some (.i .i64 0) ∧ fr.get (K.ofNat 2) = some (.i .i64 (S.length : Int))) (fun _ => 0) ?_ () ⟨rfl, by simp (disch := omega) only [getK_set, Nat.reduceEqDiff, ↓reduceIte, and_self]⟩
  rintro _ fr h2 ⟨rfl, g0, g1, g2⟩
  unfold f98_l0
  simp (disch := omega) only [f98_r2, f98_r3, f98_r4, w_reg, w_seq, w_cond, w_block, seqK_n, ckB_b, cbB_b, true_and, x_nil, x_mv, x_as, x_bin, x_call, kx, rvP_ok, okv_some, ev_t, ev_c, evs_nil, evs_cons, getV_some, putD_some, bin_sub, bin_leq, of12, getK_set, Nat.reduceEqDiff, ↓reduceIte, g0, g1, g2, e0, d0, fw64]
  refine (callP_0 (ef := f104) k.c_ins rfl (ins_ret k hv (by omega) h1 hc)).mono ?_
  rintro r h3 ⟨rfl, hs, hO⟩
  simp (disch := omega) only [f98_rs, w_ret, seqK_n, seqK_r, atK_r, loopK_r, true_and, retK_r, x_nil, kx, putD_some, readRs_nil, retV_0, Option.some.injEq, exists_eq_left', true_and]
  exact ⟨hs, hO⟩
/-- slices.Sort. -/
theorem sort_ret (k : CallsSr fs) (hv : Sl iE h v S) (hS : S.length ≤ 12) (h1 : 1 ≤ S.length) (hc : HC h) : Ret fs f86 [v] h fun r h' => r = .tup [] ∧ Sl iE h' v (srtL S) ∧ Only v h h' := by
  apply ret_of rfl
  show W fs none f86_c _ _ _
  unfold f86_c
  have hl := hv.len
  have fu : fw .u64 (S.length : Int) = (S.length : Int) := by
    show (bif Nat.ble S.length (kmax .u64) then Int.ofNat S.length else _) = _
    rw [Nat.ble_eq_true_of_le (show S.length ≤ kmax .u64 from by show S.length ≤ 18446744073709551615; omega)]; rfl
  simp (disch := omega) only [f86_r0, f86_r1, w_reg, w_seq, seqK_n, x_nil, x_mv, x_as, x_conv, x_call, x_len, kx, rvP_ok, ev_t, ev_c, evs_nil, evs_cons, getV_some, putD_some, onI_i, frame_1, of0, getK_set, Nat.reduceEqDiff, ↓reduceIte, hl, fu]
  refine (callP_0 (ef := f99) k.c_blen rfl (blen_ret k hS)).mono ?_
  rintro r h2 ⟨⟨b, rfl⟩, rfl⟩
  simp (disch := omega) only [x_call, kx, ev_t, ev_c, evs_nil, evs_cons, getV_some, putD_some, getK_set, Nat.reduceEqDiff, ↓reduceIte]
  refine (callP_0 (ef := f98) k.c_pdq rfl (pdq_ret k hv hS h1 hc)).mono ?_
  rintro r h3 ⟨rfl, hs, hO⟩
  simp (disch := omega) only [f86_rs, true_and, retK_n, x_nil, kx, putD_some, readRs_nil, retV_0, Option.some.injEq, exists_eq_left', true_and]
  exact ⟨hs, hO⟩
end
end Go.Ev
namespace Go.Ev
open Go Go.RowKit
noncomputable def f85_r0 : List EOper := [⟨(some (K.ofNat 6)), none, .as (.c (.i .u16 (.ofNat 0)))⟩]
noncomputable def f85_r1 : List EOper := [⟨(some (K.ofNat 7)), none, .as (.c (.i .u16 (.ofNat 0)))⟩]
noncomputable def f85_r2 : List EOper := [⟨(some (K.ofNat 9)), none, .mv (.t (K.ofNat 0))⟩, ⟨(some (K.ofNat 8)), none, .as (.t (K.ofNat 9))⟩]
noncomputable def f85_r3 : List EOper := [⟨(some (K.ofNat 10)), none, .mv (.t (K.ofNat 7))⟩, ⟨(some (K.ofNat 11)), none, .mv (.t (K.ofNat 8))⟩, ⟨(some (K.ofNat 12)), none, .call (.c (.fn (K.ofNat 76) [])) [(.t (K.ofNat 10)), (.t (K.ofNat 11))]⟩, ⟨(some (K.ofNat 13)), none, .not (.t (K.ofNat 12))⟩]
noncomputable def f85_r4 : List EOper := [⟨(some (K.ofNat 19)), none, .mv (.t (K.ofNat 7))⟩, ⟨(some (K.ofNat 20)), none, .mv (.t (K.ofNat 8))⟩, ⟨(some (K.ofNat 21)), none, .call (.c (.fn (K.ofNat 83) [])) [(.t (K.ofNat 19)), (.t (K.ofNat 20))]⟩, ⟨(some (K.ofNat 22)), none, .mv (.t (K.ofNat 1))⟩, ⟨(some (K.ofNat 23)), none, .mv (.t (K.ofNat 8))⟩, ⟨(some (K.ofNat 24)), none, .call (.t (K.ofNat 22)) [(.t (K.ofNat 23))]⟩, ⟨(some (K.ofNat 25)), none, .call (.c (.fn (K.ofNat 83) [])) [(.t (K.ofNat 21)), (.t (K.ofNat 24))]⟩, ⟨(some (K.ofNat 7)), none, .as (.t (K.ofNat 25))⟩]
noncomputable def f85_r5 : List EOper := [⟨(some (K.ofNat 14)), none, .mv (.t (K.ofNat 2))⟩, ⟨(some (K.ofNat 15)), none, .mv (.t (K.ofNat 1))⟩, ⟨(some (K.ofNat 16)), none, .mv (.t (K.ofNat 8))⟩, ⟨(some (K.ofNat 17)), none, .call (.t (K.ofNat 15)) [(.t (K.ofNat 16))]⟩, ⟨(some (K.ofNat 18)), none, .call (.t (K.ofNat 14)) [(.t (K.ofNat 17))]⟩, ⟨(some (K.ofNat 8)), none, .as (.t (K.ofNat 18))⟩]
noncomputable def f85_l0 : EC := (.seq (.seq (.reg f85_r3) (.cond (.t (K.ofNat 13)) .skip (.exit 0))) (.seq (.block 1 (.reg f85_r4)) (.reg f85_r5)))
noncomputable def f85_r6 : List EOper := [⟨(some (K.ofNat 26)), none, .mv (.t (K.ofNat 7))⟩, ⟨(some (K.ofNat 6)), none, .as (.t (K.ofNat 26))⟩]
noncomputable def f85_c : EC := (.seq (.reg f85_r0) (.seq (.reg f85_r1) (.seq (.seq (.reg f85_r2) (.block 0 (.loop f85_l0))) (.seq (.reg f85_r6) .ret))))
noncomputable def f85 : EF := ⟨27, [.tmp (K.ofNat 6)], f85_c, none⟩
theorem f85_rs : f85.rs = [.tmp (K.ofNat 6)] := of_eq_true (eq_self _)
noncomputable def f69_r0 : List EOper := [⟨(some (K.ofNat 6)), none, .as (.c .sn)⟩]
noncomputable def f69_r1 : List EOper := [⟨(some (K.ofNat 7)), none, .as (.c .sn)⟩]
noncomputable def f69_r2 : List EOper := [⟨(some (K.ofNat 8)), none, .as (.c (.i .u16 (.ofNat 0)))⟩]
noncomputable def f69_r3 : List EOper := [⟨(some (K.ofNat 11)), none, .mv (.t (K.ofNat 0))⟩, ⟨(some (K.ofNat 12)), none, .mv (.c (.i .i64 (.ofNat 0)))⟩]
noncomputable def f69_r4 : List EOper := [⟨(some (K.ofNat 13)), none, .bin .lss (.t (K.ofNat 12)) (.t (K.ofNat 11))⟩]
noncomputable def f69_r5 : List EOper := [⟨(some (K.ofNat 14)), none, .mv (.t (K.ofNat 12))⟩, ⟨(some (K.ofNat 9)), none, .as (.t (K.ofNat 14))⟩]
noncomputable def f69_r6 : List EOper := [⟨(some (K.ofNat 15)), none, .mv (.t (K.ofNat 8))⟩, ⟨(some (K.ofNat 16)), none, .mv (.t (K.ofNat 9))⟩, ⟨(some (K.ofNat 17)), none, .call (.c (.fn (K.ofNat 76) [])) [(.t (K.ofNat 15)), (.t (K.ofNat 16))]⟩]
noncomputable def f69_r7 : List EOper := [⟨(some (K.ofNat 18)), none, .mv (.t (K.ofNat 9))⟩, ⟨(some (K.ofNat 19)), none, .mv (.t (K.ofNat 1))⟩, ⟨(some (K.ofNat 20)), none, .mkbf (K.ofNat 58) [(.t (K.ofNat 19))] []⟩, ⟨(some (K.ofNat 21)), none, .mv (.t (K.ofNat 2))⟩, ⟨(some (K.ofNat 22)), none, .mkbf (K.ofNat 58) [(.t (K.ofNat 21))] []⟩, ⟨(some (K.ofNat 23)), none, .call (.c (.fn (K.ofNat 85) [])) [(.t (K.ofNat 18)), (.t (K.ofNat 20)), (.t (K.ofNat 22))]⟩, ⟨(some (K.ofNat 10)), none, .as (.t (K.ofNat 23))⟩]
noncomputable def f69_r8 : List EOper := [⟨(some (K.ofNat 24)), none, .mv (.t (K.ofNat 8))⟩, ⟨(some (K.ofNat 25)), none, .mv (.t (K.ofNat 10))⟩, ⟨(some (K.ofNat 26)), none, .bin .or (.t (K.ofNat 24)) (.t (K.ofNat 25))⟩, ⟨(some (K.ofNat 8)), none, .as (.t (K.ofNat 26))⟩]
noncomputable def f69_r9 : List EOper := [⟨(some (K.ofNat 27)), none, .mv (.t (K.ofNat 7))⟩, ⟨(some (K.ofNat 28)), none, .mv (.t (K.ofNat 10))⟩, ⟨(some (K.ofNat 29)), none, .call (.c (.fn (K.ofNat 74) [])) [(.t (K.ofNat 28))]⟩, ⟨(some (K.ofNat 30)), none, .bslice 1 1 [(.i .i64 (.ofNat 0))] [(0, 1, (.t (K.ofNat 29)))]⟩, ⟨(some (K.ofNat 31)), none, .app 1 (.t (K.ofNat 27)) (.t (K.ofNat 30))⟩, ⟨(some (K.ofNat 7)), none, .as (.t (K.ofNat 31))⟩]
noncomputable def f69_r10 : List EOper := [⟨(some (K.ofNat 32)), none, .bin .add (.t (K.ofNat 12)) (.c (.i .i64 (.ofNat 1)))⟩, ⟨(some (K.ofNat 12)), none, .mv (.t (K.ofNat 32))⟩]
noncomputable def f69_l0 : EC := (.seq (.reg f69_r4) (.seq (.cond (.t (K.ofNat 13)) .skip (.exit 0)) (.seq (.block 1 (.seq (.reg f69_r5) (.seq (.seq (.reg f69_r6) (.cond (.t (K.ofNat 17)) (.exit 1) .skip)) (.seq (.reg f69_r7) (.seq (.reg f69_r8) (.reg f69_r9)))))) (.reg f69_r10))))
noncomputable def f69_r11 : List EOper := [⟨(some (K.ofNat 33)), none, .mv (.t (K.ofNat 7))⟩, ⟨(some (K.ofNat 34)), none, .call (.c (.fn (K.ofNat 86) [])) [(.t (K.ofNat 33))]⟩]
noncomputable def f69_r12 : List EOper := [⟨(some (K.ofNat 35)), none, .mv (.t (K.ofNat 7))⟩, ⟨(some (K.ofNat 6)), none, .as (.t (K.ofNat 35))⟩]
noncomputable def f69_c : EC := (.seq (.reg f69_r0) (.seq (.reg f69_r1) (.seq (.reg f69_r2) (.seq (.seq (.reg f69_r3) (.block 0 (.loop f69_l0))) (.seq (.reg f69_r11) (.seq (.reg f69_r12) .ret))))))
noncomputable def f69 : EF := ⟨36, [.tmp (K.ofNat 6)], f69_c, none⟩
theorem f69_rs : f69.rs = [.tmp (K.ofNat 6)] := of_eq_true (eq_self _)
theorem rnd_inv {n : Nat} {l : List (Int × Int)} (hr : rndB n l = true) : Inv (opF l) n := by
  have hm : ∀ x, 0 ≤ x ∧ x < (n : Int) → (x, opF l x) ∈ l ∨ (opF l x, x) ∈ l := fun x hx => op_mem (rnd_all hr hx)
  refine ⟨fun x hx => ?_, fun x hx => ?_, fun x hx e => ?_⟩
  · rcases hm x hx with h | h
    · exact (rnd_e hr _ h).2.1
    · exact (rnd_e hr _ h).1
  · exact op_of (rnd_nd hr) (Or.symm (hm x hx))
  · rcases hm x hx with h | h
    · exact (rnd_e hr _ h).2.2 e.symm
    · exact (rnd_e hr _ h).2.2 e
theorem msk_len {m : Nat} {L : List Int} (hm : Msk m L) (hn : L.Nodup) (hr : ∀ z ∈ L, 0 ≤ z ∧ z ≤ 15) : pcN m = L.length := by
  rw [pcN_bits]
  have h1 := nodup_le (l := ((List.range 16).filter fun t => m.testBit t).map fun (k : Nat) => (k : Int)) (m := L) (by
    rw [List.nodup_iff_pairwise_ne, List.pairwise_map]
    exact ((List.nodup_iff_pairwise_ne.1 List.nodup_range).filter _).imp fun h => by omega) fun z hz => by
    obtain ⟨k, hk, rfl⟩ := List.mem_map.1 hz
    obtain ⟨hk1, hk2⟩ := List.mem_filter.1 hk
    have hk1 : k < 16 := by simpa using hk1
    rw [hm.2 k (by omega)] at hk2
    exact of_decide_eq_true hk2
  have h2 := nodup_le (l := L) (m := ((List.range 16).filter fun t => m.testBit t).map fun (k : Nat) => (k : Int)) hn fun z hz => by
    obtain ⟨z1, z2⟩ := hr z hz
    refine List.mem_map.2 ⟨z.toNat, List.mem_filter.2 ⟨by simp; omega, ?_⟩, by omega⟩
    rw [hm.2 _ (by omega)]
    exact decide_eq_true (by rw [show ((z.toNat : Nat) : Int) = z by omega]; exact hz)
  simp at h1 h2
  omega
theorem msk_or {m m' : Nat} {L L' : List Int} (h : Msk m L) (h' : Msk m' L') : Msk (m ||| m') (L ++ L') := by
  refine ⟨?_, fun y hy => ?_⟩
  · have := Nat.or_lt_two_pow (x := m) (y := m') (n := 16) (by have := h.1; show m < 65536; omega) (by have := h'.1; show m' < 65536; omega)
    have e : 2 ^ 16 = 65536 := by decide
    omega
  · rw [Nat.testBit_or, h.2 y hy, h'.2 y hy, Bool.eq_iff_iff]
    simp
theorem bin_or16 {a b : Nat} (ha : a ≤ 65535) (hb : b ≤ 65535) : binV .or (.i .u16 (a : Int)) (.i .u16 (b : Int)) = some (.i .u16 ((a ||| b : Nat) : Int)) := by
  show some (V.i .u16 (bif Nat.ble a 65535 && Nat.ble b 65535 then Int.ofNat (a ||| b) else _)) = _
  rw [Nat.ble_eq_true_of_le ha, Nat.ble_eq_true_of_le hb]; rfl
structure CallsRg (fs : T EF) : Prop extends CallsAa fs, CallsSr fs where
  c58 : fs.get (K.ofNat 58) = some f58
  c74 : fs.get (K.ofNat 74) = some f74
  c85 : fs.get (K.ofNat 85) = some f85
  c86 : fs.get (K.ofNat 86) = some f86
  c92 : fs.get (K.ofNat 92) = some f92
section
variable {fs : T EF} {h : H} {va vb : V} {a b : List (Int × Int)} {n : Nat}
def f85_I (h : H) (va vb : V) (a b : List (Int × Int)) (n t : Nat) (k : Nat) (fr : Fr) (h1 : H) : Prop := ∃ (x : Nat) (L : List Int) (m : Nat), RingI (opF a) (opF b) n (t : Int) (x : Int) L ∧ n < 2 * k + L.length ∧ ringR (opF a) (opF b) k (x : Int) L = ringR (opF a) (opF b) n (t : Int) [] ∧ Msk m L ∧ Grow h.nx.nat h h1 ∧ fr.get (K.ofNat 1) = some (.bf (K.ofNat 58) [va] []) ∧ fr.get (K.ofNat 2) = some (.bf (K.ofNat 58) [vb] []) ∧ fr.get (K.ofNat 7) = some (.i .u16 (m : Int)) ∧ fr.get (K.ofNat 8) = some (.i .i64 (x : Int))
theorem f85_ret {t : Nat} (k : CallsRg fs) (hva : Srp h va a) (hvb : Srp h vb b) (hla : a.length ≤ 1000000) (hlb : b.length ≤ 1000000) (iA : Inv (opF a) n) (iB : Inv (opF b) n) (hn : n ≤ 16) (ht : t < n) (hc : HC h) : Ret fs f85 [.i .i64 (t : Int), .bf (K.ofNat 58) [va] [], .bf (K.ofNat 58) [vb] []] h fun r h' => (∃ m : Nat, r = .i .u16 (m : Int) ∧ Msk m (ringR (opF a) (opF b) n (t : Int) [])) ∧ Grow h.nx.nat h h' := by
  apply ret_of rfl
  show W fs none f85_c _ _ _
  unfold f85_c
  simp (disch := omega) only [f85_r0, f85_r1, f85_r2, w_reg, w_seq, w_block, seqK_n, x_nil, x_mv, x_as, ev_t, ev_c, getV_some, putD_some, frame_3, of0, getK_set, Nat.reduceEqDiff, ↓reduceIte]
  refine W_loop (f85_I h va vb a b n t) (fun k => k) ?_ n ⟨t, [], 0, RingI.init (by omega), by simp; omega, rfl, Msk.nil, Grow.refl _ _, by simp (disch := omega) only [getK_set, Nat.reduceEqDiff, ↓reduceIte, and_self, Int.natCast_zero]⟩
  rintro q fr h1 ⟨x, L, m, hI, hq, he, hm, hG, g1, g2, g7, g8⟩
  have hc1 := hG.hc hc
  have hx := hI.xr
  unfold f85_l0
  simp (disch := omega) only [f85_r3, w_reg, w_seq, x_mv, x_call, ev_t, ev_c, evs_nil, evs_cons, getV_some, putD_some, getK_set, Nat.reduceEqDiff, ↓reduceIte, g7, g8]
  refine (callP_0 (ef := f76) k.c76 rfl (f76_ret hm.1 (show x ≤ 15 by omega))).mono ?_
  rintro r h2 ⟨rfl, e2⟩
  rw [e2, hm.2 x (by omega)]
  clear e2 h2
  cases hd : decide ((x : Int) ∈ L) with
  | true =>
    have hxL : (x : Int) ∈ L := of_decide_eq_true hd
    have hL : ringR (opF a) (opF b) q (x : Int) L = L := by
      cases q with
      | zero => rfl
      | succ q => unfold ringR; rw [if_pos hxL]
    rw [hL] at he
    simp (disch := omega) only [f85_r6, f85_rs, w_reg, w_seq, w_cond, w_exit, w_ret, seqK_n, seqK_e, atK_e, loopK_e, ckB_b, cbB_b, true_and, retK_r, x_nil, x_mv, x_as, x_not, kx, rvP_ok, ev_t, getV_some, putD_some, onB_b, oGet_s, readRs_nil, readRs_t, retV_1, Option.some.injEq, exists_eq_left', getK_set, Nat.reduceEqDiff, ↓reduceIte, Bool.false_eq_true, Bool.not_true, g7, Bool.not_true]
    exact ⟨⟨m, rfl, by rw [← he]; exact hm⟩, hG⟩
  | false =>
    have hxL : (x : Int) ∉ L := of_decide_eq_false hd
    obtain ⟨q, rfl⟩ : ∃ q', q = q' + 1 := ⟨q - 1, by have := hI.lt iA iB hxL; omega⟩
    have hst := hI.step iA iB hxL
    have hxr := hI.xr
    have hyr := iA.rng _ hI.xr
    have hzr := iB.rng _ hyr
    have he : ringR (opF a) (opF b) q (opF b (opF a (x : Int))) (L ++ [(x : Int), opF a (x : Int)]) = ringR (opF a) (opF b) n (t : Int) [] := by
      rw [← he]
      show _ = if (x : Int) ∈ L then L else _
      rw [if_neg hxL]
    simp (disch := omega) only [f85_r4, w_skip, w_reg, w_seq, w_cond, w_block, seqK_n, ckB_b, cbB_b, true_and, x_nil, x_mv, x_not, x_call, kx, rvP_ok, ev_t, ev_c, evs_nil, evs_cons, getV_some, putD_some, onB_b, getK_set, Nat.reduceEqDiff, ↓reduceIte, Bool.not_false, g7, g8, Bool.not_false]
    refine (callP_0 (ef := f83) k.c83 rfl (f83_ret hm.1 (show x ≤ 15 by omega))).mono ?_
    rintro r h2 ⟨rfl, e2⟩
    rw [e2]
    clear e2 h2
    have hm1 := hm.snoc (x := x) (by omega)
    simp (disch := omega) only [x_mv, x_call, kx, ev_t, evs_nil, evs_cons, getV_some, putD_some, getK_set, Nat.reduceEqDiff, ↓reduceIte, g1, g8]
    refine (callP_m (ef := f58) k.c58 rfl (f58_ret (t := (x : Int)) (hva.grow hc hG) hla hc1)).mono ?_
    rintro r h2 ⟨rfl, hG2⟩
    have hGa := hG.trans (hG2.low hG.nx)
    have hc2 := hG2.hc hc1
    obtain ⟨y, hy⟩ : ∃ y : Nat, opF a (x : Int) = (y : Int) := ⟨(opF a (x : Int)).toNat, by omega⟩
    rw [hy] at hst hyr hzr he ⊢
    simp (disch := omega) only [x_call, kx, ev_t, ev_c, evs_nil, evs_cons, getV_some, putD_some, getK_set, Nat.reduceEqDiff, ↓reduceIte]
    refine (callP_0 (ef := f83) k.c83 rfl (f83_ret hm1.1 (show y ≤ 15 by omega))).mono ?_
    rintro r h3 ⟨rfl, e3⟩
    rw [e3]
    clear e3 h3
    have hm2 := hm1.snoc (x := y) (by omega)
    rw [List.append_assoc] at hm2
    simp (disch := omega) only [f85_r5, w_reg, seqK_n, atK_n, x_nil, x_mv, x_as, x_call, kx, ev_t, evs_nil, evs_cons, getV_some, putD_some, getK_set, Nat.reduceEqDiff, ↓reduceIte, g1, g2, g8]
    refine (callP_m (ef := f58) k.c58 rfl (f58_ret (t := (x : Int)) (hva.grow hc hGa) hla hc2)).mono ?_
    rintro r h3 ⟨rfl, hG3⟩
    have hGb := hGa.trans (hG3.low hGa.nx)
    have hc3 := hG3.hc hc2
    rw [hy]
    simp (disch := omega) only [x_call, kx, ev_t, evs_nil, evs_cons, getV_some, putD_some, getK_set, Nat.reduceEqDiff, ↓reduceIte]
    refine (callP_m (ef := f58) k.c58 rfl (f58_ret (t := (y : Int)) (hvb.grow hc hGb) hlb hc3)).mono ?_
    rintro r h4 ⟨rfl, hG4⟩
    have hGc := hGb.trans (hG4.low hGb.nx)
    obtain ⟨z, hz⟩ : ∃ z : Nat, opF b (y : Int) = (z : Int) := ⟨(opF b (y : Int)).toNat, by omega⟩
    rw [hz] at hst he ⊢
    simp (disch := omega) only [loopK_n, x_nil, x_as, kx, ev_t, getV_some, putD_some, getK_set, ↓reduceIte]
    exact ⟨q, by omega, z, _, _, hst, by simp; omega, he, hm2, hGc, by simp (disch := omega) only [getK_set, Nat.reduceEqDiff, ↓reduceIte, g1, g2, and_self]⟩
def f69_I (h : H) (va vb : V) (a b : List (Int × Int)) (n : Nat) (t : Nat) (fr : Fr) (h1 : H) : Prop := t ≤ n ∧ ∃ m w, Msk m (rgs (opF a) (opF b) n t).1 ∧ Sl iE h1 w (rgs (opF a) (opF b) n t).2 ∧ Own h.nx.nat w ∧ Grow h.nx.nat h h1 ∧ fr.get (K.ofNat 1) = some (va) ∧ fr.get (K.ofNat 2) = some (vb) ∧ fr.get (K.ofNat 7) = some (w) ∧ fr.get (K.ofNat 8) = some (.i .u16 (m : Int)) ∧ fr.get (K.ofNat 11) = some (.i .i64 (n : Int)) ∧ fr.get (K.ofNat 12) = some (.i .i64 (t : Int))
/-- The rings, rising. -/
def rgL (a b : List (Int × Int)) (n : Nat) : List Int := srtL (rgs (opF a) (opF b) n n).2
theorem f69_ret (k : CallsRg fs) (hva : Srp h va a) (hvb : Srp h vb b) (hla : a.length ≤ 1000000) (hlb : b.length ≤ 1000000) (hra : rndB n a = true) (hrb : rndB n b = true) (hn : n ≤ 12) (hn1 : 1 ≤ n) (hc : HC h) : Ret fs f69 [.i .i64 (n : Int), va, vb] h fun r h' => Sl iE h' r (rgL a b n) ∧ Own h.nx.nat r ∧ Grow h.nx.nat h h' := by
  have iA := rnd_inv hra
  have iB := rnd_inv hrb
  apply ret_of rfl
  show W fs none f69_c _ _ _
  unfold f69_c
  simp (disch := omega) only [f69_r0, f69_r1, f69_r2, f69_r3, w_reg, w_seq, w_block, seqK_n, x_nil, x_mv, x_as, ev_t, ev_c, getV_some, putD_some, frame_3, of0, getK_set, Nat.reduceEqDiff, ↓reduceIte]
  refine W_loop (f69_I h va vb a b n) (fun t => n - t) ?_ 0 ⟨by omega, 0, .sn, Msk.nil, Sl.nil, Own.sn, Grow.refl _ _, by simp (disch := omega) only [getK_set, Nat.reduceEqDiff, ↓reduceIte, and_self, Int.natCast_zero]⟩
  rintro t fr h1 ⟨ht, m, w, hm, hw, how, hG, g1, g2, g7, g8, g11, g12⟩
  have hc1 := hG.hc hc
  have hR := rgs_I iA iB hn1 ht
  unfold f69_l0
  by_cases hlt : t < n
  · have d0 : decide ((t : Int) < (n : Int)) = true := by simpa using hlt
    simp (disch := omega) only [f69_r4, f69_r5, f69_r6, w_skip, w_reg, w_seq, w_cond, w_block, seqK_n, ckB_b, cbB_b, true_and, x_nil, x_mv, x_as, x_bin, x_call, kx, rvP_ok, okv_some, ev_t, ev_c, evs_nil, evs_cons, getV_some, putD_some, bin_lss, getK_set, Nat.reduceEqDiff, ↓reduceIte, g8, g11, g12, d0]
    refine (callP_0 (ef := f76) k.c76 rfl (f76_ret hm.1 (show t ≤ 15 by omega))).mono ?_
    rintro r h2 ⟨rfl, e2⟩
    rw [e2, hm.2 t (by omega)]
    clear e2 h2
    cases hd : decide ((t : Int) ∈ (rgs (opF a) (opF b) n t).1) with
    | true =>
      have hrs : rgs (opF a) (opF b) n (t + 1) = rgs (opF a) (opF b) n t := by
        show (if _ then _ else _) = _
        rw [if_pos (of_decide_eq_true hd)]
      simp (disch := omega) only [f69_r10, w_reg, w_cond, w_exit, seqK_n, seqK_e, atK_e, loopK_n, ckB_b, cbB_b, true_and, x_nil, x_mv, x_bin, kx, rvP_ok, okv_some, ev_t, ev_c, getV_some, putD_some, bin_add, of1, getK_set, Nat.reduceEqDiff, ↓reduceIte, g12, fw64]
      exact ⟨t + 1, by omega, by omega, m, w, by rw [hrs]; exact hm, by rw [hrs]; exact hw, how, hG, by simp (disch := omega) only [getK_set, Nat.reduceEqDiff, ↓reduceIte, g1, g2, g7, g8, g11, and_self, Int.natCast_add, Int.natCast_one]⟩
    | false =>
      have hrs : rgs (opF a) (opF b) n (t + 1) = ((rgs (opF a) (opF b) n t).1 ++ ringR (opF a) (opF b) n (t : Int) [], (rgs (opF a) (opF b) n t).2 ++ [((ringR (opF a) (opF b) n (t : Int) []).length : Int)]) := by
        show (if _ then _ else _) = _
        rw [if_neg (of_decide_eq_false hd)]
      have hE := ring_E iA iB (RingI.init (A := opF a) (B := opF b) (n := n) (t := (t : Int)) (by omega)) (k := n) (by simp; omega)
      simp (disch := omega) only [f69_r7, w_skip, w_reg, w_seq, w_cond, seqK_n, ckB_b, cbB_b, true_and, x_nil, x_mv, x_call, kx, ev_t, ev_c, evs_nil, evs_cons, getV_some, putD_some, getK_set, Nat.reduceEqDiff, ↓reduceIte, Bool.false_eq_true, x_mkbf, g1, g2]
      refine (callP_0 (ef := f85) k.c85 rfl (f85_ret (t := t) k (hva.grow hc hG) (hvb.grow hc hG) hla hlb iA iB (by omega) hlt hc1)).mono ?_
      rintro r h2 ⟨⟨m2, rfl, hm2⟩, hG2⟩
      have hc2 := hG2.hc hc1
      have hGa := hG.trans (hG2.low hG.nx)
      have hor := bin_or16 hm.1 hm2.1
      have hpc := msk_len hm2 hE.nd fun z hz => by have := hE.rng z hz; omega
      obtain ⟨w', h3, a1, s1, o1, gr1, _⟩ := Sl.push (e := iE) (x := ((ringR (opF a) (opF b) n (t : Int) []).length : Int)) (c := .i .i64 ((ringR (opF a) (opF b) n (t : Int) []).length : Int)) rfl (hw.grow hc1 hG2) how hGa.nx hc2 (by have := hR.few; omega)
      simp (disch := omega) only [f69_r8, f69_r9, w_reg, w_seq, seqK_n, x_nil, x_mv, x_as, x_bin, x_call, kx, rvP_ok, okv_some, ev_t, ev_c, evs_nil, evs_cons, getV_some, putD_some, of0, getK_set, Nat.reduceEqDiff, ↓reduceIte, g7, g8, hor]
      refine (callP_0 (ef := f74) k.c74 rfl (f74_ret k.c92 hm2.1)).mono ?_
      rintro r h4 ⟨rfl, e4⟩
      rw [e4, hpc]
      clear e4 h4
      simp (disch := omega) only [f69_r10, w_reg, seqK_n, atK_n, loopK_n, x_nil, x_mv, x_as, x_bslice, x_bin, x_app, kx, rvP_ok, okv_some, ev_t, ev_c, getV_some, putD_some, bin_add, oGet_s, cells1_i, fill_1, set_1, of1, getK_set, Nat.reduceEqDiff, ↓reduceIte, g12, fill_1, set_1, a1, fw64]
      exact ⟨t + 1, by omega, by omega, _, w', by rw [hrs]; exact msk_or hm hm2, by rw [hrs]; exact s1, o1, hGa.trans gr1, by simp (disch := omega) only [getK_set, Nat.reduceEqDiff, ↓reduceIte, g1, g2, g11, and_self, Int.natCast_add, Int.natCast_one]⟩
  · have d0 : decide ((t : Int) < (n : Int)) = false := by simpa using hlt
    have et : t = n := by omega
    subst et
    have hne : 1 ≤ (rgs (opF a) (opF b) t t).2.length := by
      rcases Nat.eq_zero_or_pos (rgs (opF a) (opF b) t t).2.length with h0 | h0
      · have h1 := List.length_eq_zero_iff.1 h0
        have h2 := hR.sum
        have h3 := List.length_pos_of_mem (hR.all 0 (by omega))
        rw [h1] at h2
        have : smI [] = 0 := rfl
        omega
      · exact h0
    simp (disch := omega) only [f69_r4, f69_r11, w_reg, w_seq, w_cond, w_exit, seqK_n, seqK_e, atK_e, loopK_e, ckB_b, cbB_b, true_and, x_nil, x_mv, x_bin, x_call, kx, rvP_ok, okv_some, ev_t, ev_c, evs_nil, evs_cons, getV_some, putD_some, bin_lss, getK_set, Nat.reduceEqDiff, ↓reduceIte, Bool.false_eq_true, g7, g11, g12, d0]
    refine (callP_0 (ef := f86) k.c86 rfl (sort_ret k.toCallsSr hw (by have := hR.few; omega) hne hc1)).mono ?_
    rintro r h2 ⟨rfl, hs, hO⟩
    simp (disch := omega) only [f69_r12, f69_rs, w_reg, w_seq, w_ret, seqK_n, retK_r, x_nil, x_mv, x_as, kx, ev_t, getV_some, putD_some, oGet_s, readRs_nil, readRs_t, retV_1, Option.some.injEq, exists_eq_left', getK_set, Nat.reduceEqDiff, ↓reduceIte, g7]
    exact ⟨hs, how, hG.trans (hO.grow how (hw.lt hc1))⟩
end
end Go.Ev
namespace Go.Ev
open Go Go.RowKit
section
variable {fs : T EF} {h : H} {va vb : V} {a b : List (Int × Int)} {n : Nat}
end
end Go.Ev
namespace Go.Ev
open Go Go.RowKit
section
variable {A B : Int → Int} {n : Nat}
theorem rgs_1 (hn : 1 ≤ n) {t : Nat} : ∃ M S, rgs A B n (t + 1) = (ringR A B n 0 [] ++ M, ((ringR A B n 0 []).length : Int) :: S) ∧ (S = [] ↔ M = []) := by
  induction t with
  | zero =>
    refine ⟨[], [], ?_, by simp⟩
    show (if (0 : Int) ∈ ([] : List Int) then _ else _) = _
    rw [if_neg (by simp)]
    simp [rgs]
  | succ t ih =>
    obtain ⟨M, S, e, hS⟩ := ih
    show ∃ M S, (if ((t + 1 : Nat) : Int) ∈ (rgs A B n (t + 1)).1 then rgs A B n (t + 1) else _) = _ ∧ _
    split
    · exact ⟨M, S, e, hS⟩
    · rename_i hm
      refine ⟨M ++ ringR A B n ((t + 1 : Nat) : Int) [], S ++ [((ringR A B n ((t + 1 : Nat) : Int) []).length : Int)], by rw [e]; simp, ?_⟩
      constructor
      · intro h; simp at h
      · intro h
        exfalso
        have h2 := (List.append_eq_nil_iff.1 h).2
        cases n with
        | zero => omega
        | succ n =>
          unfold ringR at h2
          rw [if_neg (by simp)] at h2
          have key : ∀ {k : Nat} {x : Int} {L : List Int}, L ≠ [] → ringR A B k x L ≠ [] := by
            intro k
            induction k with
            | zero => exact fun h => h
            | succ k ih =>
              intro x L hL
              unfold ringR
              split
              · exact hL
              · exact ih (by simp)
          exact key (by simp) h2
theorem rg_one (iA : Inv A n) (iB : Inv B n) (hn : 1 ≤ n) : (rgs A B n n).2.length = 1 ↔ (ringR A B n 0 []).length = n := by
  obtain ⟨m, rfl⟩ : ∃ m, n = m + 1 := ⟨n - 1, by omega⟩
  have hR := rgs_I iA iB hn (Nat.le_refl _)
  obtain ⟨M, S, e, hS⟩ := rgs_1 (A := A) (B := B) hn (t := m)
  have hl := all_len hR.nd hR.rng hR.all
  rw [e] at hl ⊢
  simp only [List.length_append, List.length_cons] at hl ⊢
  constructor
  · intro h
    have hM := hS.1 (List.length_eq_zero_iff.1 (by omega))
    rw [hM] at hl
    simpa using hl
  · intro h
    have hM : M = [] := List.length_eq_zero_iff.1 (by omega)
    rw [hS.2 hM]; rfl
theorem rgs_ne (iA : Inv A n) (iB : Inv B n) (hn : 1 ≤ n) : 1 ≤ (rgs A B n n).2.length := by
  obtain ⟨m, rfl⟩ : ∃ m, n = m + 1 := ⟨n - 1, by omega⟩
  obtain ⟨M, S, e, hS⟩ := rgs_1 (A := A) (B := B) hn (t := m)
  rw [e]; simp
theorem ring_comm (iA : Inv A n) (iB : Inv B n) (hn : 1 ≤ n) : (ringR A B n 0 []).length = (ringR B A n 0 []).length := by
  have e1 := ring_E iA iB (RingI.init (A := A) (B := B) (n := n) (t := 0) (by omega)) (k := n) (by simp; omega)
  have e2 := ring_E iB iA (RingI.init (A := B) (B := A) (n := n) (t := 0) (by omega)) (k := n) (by simp; omega)
  have h1 := nodup_le e1.nd (ring_min (A := A) (B := B) (k := n) (x := 0) (L := []) e2.clB e2.clA e2.mem (by simp))
  have h2 := nodup_le e2.nd (ring_min (A := B) (B := A) (k := n) (x := 0) (L := []) e1.clB e1.clA e1.mem (by simp))
  omega
theorem rg_comm {a b : List (Int × Int)} (hra : rndB n a = true) (hrb : rndB n b = true) (hn : 1 ≤ n) : decide (((rgL a b n).length : Int) > 1) = decide (((rgL b a n).length : Int) ≠ 1) := by
  have iA := rnd_inv hra
  have iB := rnd_inv hrb
  have h1 := rg_one iA iB hn
  have h2 := rg_one iB iA hn
  have h3 := rgs_ne iA iB hn
  have h4 := rgs_ne iB iA hn
  rw [ring_comm iA iB hn] at h1
  unfold rgL
  rw [srtL_len, srtL_len, Bool.eq_iff_iff, decide_eq_true_iff, decide_eq_true_iff]
  omega
end
end Go.Ev
