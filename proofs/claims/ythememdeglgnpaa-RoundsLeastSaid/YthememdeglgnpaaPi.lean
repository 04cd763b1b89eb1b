/-
  Rounds: the reference's fewest breaks (R.Least).
  Rounds: the law RoundsLeast.
-/
import Derived.Test.YthememdeglgnpaaPh
namespace Go.Ev
open Go Go.RowKit
noncomputable def f42_r0 : List EOper := [⟨(some (K.ofNat 4)), none, .as (.c (.i .i64 (.ofNat 0)))⟩]
noncomputable def f42_r1 : List EOper := [⟨(some (K.ofNat 17)), none, .mv (.t (K.ofNat 0))⟩, ⟨(some (K.ofNat 18)), none, .bin .shl (.c (.i .i64 (.ofNat 1))) (.t (K.ofNat 17))⟩, ⟨(some (K.ofNat 19)), none, .mkslice 1 [(.i .i64 (.ofNat 0))] (.t (K.ofNat 18))⟩, ⟨(some (K.ofNat 5)), none, .as (.t (K.ofNat 19))⟩]
noncomputable def f42_r2 : List EOper := [⟨(some (K.ofNat 6)), none, .as (.c (.i .i64 (.ofNat 0)))⟩]
noncomputable def f42_r3 : List EOper := [⟨(some (K.ofNat 20)), none, .mv (.t (K.ofNat 6))⟩, ⟨(some (K.ofNat 21)), none, .mv (.t (K.ofNat 1))⟩, ⟨(some (K.ofNat 22)), none, .len (.t (K.ofNat 21))⟩, ⟨(some (K.ofNat 23)), none, .bin .lss (.t (K.ofNat 20)) (.t (K.ofNat 22))⟩]
noncomputable def f42_r4 : List EOper := [⟨(some (K.ofNat 26)), none, .mv (.t (K.ofNat 0))⟩, ⟨(some (K.ofNat 27)), none, .bin .shl (.c (.i .i64 (.ofNat 1))) (.t (K.ofNat 26))⟩, ⟨(some (K.ofNat 28)), none, .mkslice 1 [(.i .i64 (.ofNat 0))] (.t (K.ofNat 27))⟩, ⟨(some (K.ofNat 7)), none, .as (.t (K.ofNat 28))⟩]
noncomputable def f42_r5 : List EOper := [⟨(some (K.ofNat 8)), none, .as (.c (.i .i64 (.ofNat 0)))⟩]
noncomputable def f42_r6 : List EOper := [⟨(some (K.ofNat 29)), none, .mv (.t (K.ofNat 8))⟩, ⟨(some (K.ofNat 30)), none, .mv (.t (K.ofNat 7))⟩, ⟨(some (K.ofNat 31)), none, .len (.t (K.ofNat 30))⟩, ⟨(some (K.ofNat 32)), none, .bin .lss (.t (K.ofNat 29)) (.t (K.ofNat 31))⟩]
noncomputable def f42_r7 : List EOper := [⟨(some (K.ofNat 35)), none, .mv (.t (K.ofNat 7))⟩, ⟨(some (K.ofNat 36)), none, .mv (.t (K.ofNat 8))⟩, ⟨(some (K.ofNat 37)), none, .iads 1 (.t (K.ofNat 35)) (.t (K.ofNat 36))⟩, ⟨none, none, .st 1 (.t (K.ofNat 37)) (.c (.i .i64 (.ofNat 1000)))⟩]
noncomputable def f42_r8 : List EOper := [⟨(some (K.ofNat 33)), none, .mv (.t (K.ofNat 8))⟩, ⟨(some (K.ofNat 34)), none, .bin .add (.t (K.ofNat 33)) (.c (.i .i64 (.ofNat 1)))⟩, ⟨(some (K.ofNat 8)), none, .as (.t (K.ofNat 34))⟩]
noncomputable def f42_l0 : EC := (.seq (.seq (.reg f42_r6) (.cond (.t (K.ofNat 32)) .skip (.exit 2))) (.seq (.block 3 (.reg f42_r7)) (.reg f42_r8)))
noncomputable def f42_r9 : List EOper := [⟨(some (K.ofNat 9)), none, .as (.c (.i .i64 (.ofNat 0)))⟩]
noncomputable def f42_r10 : List EOper := [⟨(some (K.ofNat 38)), none, .mv (.t (K.ofNat 9))⟩, ⟨(some (K.ofNat 39)), none, .mv (.t (K.ofNat 1))⟩, ⟨(some (K.ofNat 40)), none, .mv (.t (K.ofNat 6))⟩, ⟨(some (K.ofNat 41)), none, .iads 1 (.t (K.ofNat 39)) (.t (K.ofNat 40))⟩, ⟨(some (K.ofNat 42)), none, .ld (.t (K.ofNat 41))⟩, ⟨(some (K.ofNat 43)), none, .len (.t (K.ofNat 42))⟩, ⟨(some (K.ofNat 44)), none, .bin .shl (.c (.i .i64 (.ofNat 1))) (.t (K.ofNat 43))⟩, ⟨(some (K.ofNat 45)), none, .bin .lss (.t (K.ofNat 38)) (.t (K.ofNat 44))⟩]
noncomputable def f42_r11 : List EOper := [⟨(some (K.ofNat 10)), none, .as (.c (.i .i64 (.ofNat 0)))⟩]
noncomputable def f42_r12 : List EOper := [⟨(some (K.ofNat 11)), none, .as (.c (.i .i64 (.ofNat 0)))⟩]
noncomputable def f42_r13 : List EOper := [⟨(some (K.ofNat 48)), none, .mv (.t (K.ofNat 11))⟩, ⟨(some (K.ofNat 49)), none, .mv (.t (K.ofNat 1))⟩, ⟨(some (K.ofNat 50)), none, .mv (.t (K.ofNat 6))⟩, ⟨(some (K.ofNat 51)), none, .iads 1 (.t (K.ofNat 49)) (.t (K.ofNat 50))⟩, ⟨(some (K.ofNat 52)), none, .ld (.t (K.ofNat 51))⟩, ⟨(some (K.ofNat 53)), none, .len (.t (K.ofNat 52))⟩, ⟨(some (K.ofNat 54)), none, .bin .lss (.t (K.ofNat 48)) (.t (K.ofNat 53))⟩]
noncomputable def f42_r14 : List Stage := [⟨[⟨(some (K.ofNat 57)), none, .mv (.t (K.ofNat 10))⟩, ⟨(some (K.ofNat 58)), none, .mv (.t (K.ofNat 1))⟩, ⟨(some (K.ofNat 59)), none, .mv (.t (K.ofNat 6))⟩, ⟨(some (K.ofNat 60)), none, .iads 1 (.t (K.ofNat 58)) (.t (K.ofNat 59))⟩, ⟨(some (K.ofNat 61)), none, .ld (.t (K.ofNat 60))⟩, ⟨(some (K.ofNat 62)), none, .mv (.t (K.ofNat 11))⟩, ⟨(some (K.ofNat 63)), none, .mv (.t (K.ofNat 9))⟩, ⟨(some (K.ofNat 64)), none, .mv (.t (K.ofNat 11))⟩, ⟨(some (K.ofNat 65)), none, .bin .shr (.t (K.ofNat 63)) (.t (K.ofNat 64))⟩, ⟨(some (K.ofNat 66)), none, .bin .rem (.t (K.ofNat 65)) (.c (.i .i64 (.ofNat 2)))⟩, ⟨(some (K.ofNat 67)), none, .iads 2 (.t (K.ofNat 61)) (.t (K.ofNat 62))⟩, ⟨(some (K.ofNat 68)), none, .iadr 2 1 (.t (K.ofNat 67)) (.t (K.ofNat 66))⟩, ⟨(some (K.ofNat 69)), none, .ld (.t (K.ofNat 68))⟩, ⟨(some (K.ofNat 70)), none, .bin .shl (.c (.i .i64 (.ofNat 1))) (.t (K.ofNat 69))⟩, ⟨(some (K.ofNat 71)), none, .bin .or (.t (K.ofNat 57)) (.t (K.ofNat 70))⟩], [], (some ⟨(some (K.ofNat 10)), none, .as (.t (K.ofNat 71))⟩), []⟩, ⟨[], [], none, []⟩]
noncomputable def f42_r15 : List EOper := [⟨(some (K.ofNat 55)), none, .mv (.t (K.ofNat 11))⟩, ⟨(some (K.ofNat 56)), none, .bin .add (.t (K.ofNat 55)) (.c (.i .i64 (.ofNat 1)))⟩, ⟨(some (K.ofNat 11)), none, .as (.t (K.ofNat 56))⟩]
noncomputable def f42_l1 : EC := (.seq (.seq (.reg f42_r13) (.cond (.t (K.ofNat 54)) .skip (.exit 6))) (.seq (.block 7 (.draw f42_r14)) (.reg f42_r15)))
noncomputable def f42_r16 : List EOper := [⟨(some (K.ofNat 12)), none, .as (.c (.i .i64 (.ofNat 0)))⟩]
noncomputable def f42_r17 : List EOper := [⟨(some (K.ofNat 72)), none, .mv (.t (K.ofNat 12))⟩, ⟨(some (K.ofNat 73)), none, .mv (.t (K.ofNat 5))⟩, ⟨(some (K.ofNat 74)), none, .len (.t (K.ofNat 73))⟩, ⟨(some (K.ofNat 75)), none, .bin .lss (.t (K.ofNat 72)) (.t (K.ofNat 74))⟩]
noncomputable def f42_r18 : List EOper := [⟨(some (K.ofNat 13)), none, .as (.c (.i .i64 (.ofNat 0)))⟩]
noncomputable def f42_r19 : List EOper := [⟨(some (K.ofNat 14)), none, .as (.c (.i .i64 (.ofNat 0)))⟩]
noncomputable def f42_r20 : List EOper := [⟨(some (K.ofNat 78)), none, .mv (.t (K.ofNat 14))⟩, ⟨(some (K.ofNat 79)), none, .mv (.t (K.ofNat 0))⟩, ⟨(some (K.ofNat 80)), none, .bin .lss (.t (K.ofNat 78)) (.t (K.ofNat 79))⟩, ⟨(some (K.ofNat 81)), none, .mv (.t (K.ofNat 80))⟩, ⟨(some (K.ofNat 82)), (some ((K.ofNat 81), true)), .mv (.t (K.ofNat 6))⟩, ⟨(some (K.ofNat 83)), (some ((K.ofNat 81), true)), .bin .gtr (.t (K.ofNat 82)) (.c (.i .i64 (.ofNat 0)))⟩, ⟨(some (K.ofNat 84)), none, .pick (.t (K.ofNat 81)) (.t (K.ofNat 83)) (.c (.b false))⟩]
noncomputable def f42_r21 : List Stage := [⟨[⟨(some (K.ofNat 87)), none, .mv (.t (K.ofNat 12))⟩, ⟨(some (K.ofNat 88)), none, .mv (.t (K.ofNat 14))⟩, ⟨(some (K.ofNat 89)), none, .bin .shr (.t (K.ofNat 87)) (.t (K.ofNat 88))⟩, ⟨(some (K.ofNat 90)), none, .bin .rem (.t (K.ofNat 89)) (.c (.i .i64 (.ofNat 2)))⟩, ⟨(some (K.ofNat 91)), none, .mv (.t (K.ofNat 10))⟩, ⟨(some (K.ofNat 92)), none, .mv (.t (K.ofNat 14))⟩, ⟨(some (K.ofNat 93)), none, .bin .shr (.t (K.ofNat 91)) (.t (K.ofNat 92))⟩, ⟨(some (K.ofNat 94)), none, .bin .rem (.t (K.ofNat 93)) (.c (.i .i64 (.ofNat 2)))⟩, ⟨(some (K.ofNat 95)), none, .bin .eql (.t (K.ofNat 90)) (.t (K.ofNat 94))⟩], [], none, []⟩]
noncomputable def f42_r22 : List EOper := [⟨(some (K.ofNat 96)), none, .mv (.t (K.ofNat 13))⟩, ⟨(some (K.ofNat 97)), none, .bin .add (.t (K.ofNat 96)) (.c (.i .i64 (.ofNat 1)))⟩, ⟨(some (K.ofNat 13)), none, .as (.t (K.ofNat 97))⟩]
noncomputable def f42_r23 : List EOper := [⟨(some (K.ofNat 85)), none, .mv (.t (K.ofNat 14))⟩, ⟨(some (K.ofNat 86)), none, .bin .add (.t (K.ofNat 85)) (.c (.i .i64 (.ofNat 1)))⟩, ⟨(some (K.ofNat 14)), none, .as (.t (K.ofNat 86))⟩]
noncomputable def f42_l2 : EC := (.seq (.seq (.reg f42_r20) (.cond (.t (K.ofNat 84)) .skip (.exit 10))) (.seq (.block 11 (.seq (.draw f42_r21) (.cond (.t (K.ofNat 95)) (.reg f42_r22) .skip))) (.reg f42_r23)))
noncomputable def f42_r24 : List Stage := [⟨[⟨(some (K.ofNat 98)), none, .mv (.t (K.ofNat 7))⟩, ⟨(some (K.ofNat 99)), none, .mv (.t (K.ofNat 10))⟩, ⟨(some (K.ofNat 100)), none, .mv (.t (K.ofNat 7))⟩, ⟨(some (K.ofNat 101)), none, .mv (.t (K.ofNat 10))⟩, ⟨(some (K.ofNat 102)), none, .iads 1 (.t (K.ofNat 100)) (.t (K.ofNat 101))⟩, ⟨(some (K.ofNat 103)), none, .ld (.t (K.ofNat 102))⟩, ⟨(some (K.ofNat 104)), none, .mv (.t (K.ofNat 5))⟩, ⟨(some (K.ofNat 105)), none, .mv (.t (K.ofNat 12))⟩, ⟨(some (K.ofNat 106)), none, .iads 1 (.t (K.ofNat 104)) (.t (K.ofNat 105))⟩, ⟨(some (K.ofNat 107)), none, .ld (.t (K.ofNat 106))⟩, ⟨(some (K.ofNat 108)), none, .mv (.t (K.ofNat 13))⟩, ⟨(some (K.ofNat 109)), none, .bin .add (.t (K.ofNat 107)) (.t (K.ofNat 108))⟩, ⟨(some (K.ofNat 110)), none, .min (.t (K.ofNat 103)) (.t (K.ofNat 109))⟩, ⟨(some (K.ofNat 111)), none, .iads 1 (.t (K.ofNat 98)) (.t (K.ofNat 99))⟩], [], (some ⟨none, none, .st 1 (.t (K.ofNat 111)) (.t (K.ofNat 110))⟩), []⟩, ⟨[], [], none, []⟩]
noncomputable def f42_r25 : List EOper := [⟨(some (K.ofNat 76)), none, .mv (.t (K.ofNat 12))⟩, ⟨(some (K.ofNat 77)), none, .bin .add (.t (K.ofNat 76)) (.c (.i .i64 (.ofNat 1)))⟩, ⟨(some (K.ofNat 12)), none, .as (.t (K.ofNat 77))⟩]
noncomputable def f42_l3 : EC := (.seq (.seq (.reg f42_r17) (.cond (.t (K.ofNat 75)) .skip (.exit 8))) (.seq (.block 9 (.seq (.reg f42_r18) (.seq (.seq (.reg f42_r19) (.block 10 (.loop f42_l2))) (.draw f42_r24)))) (.reg f42_r25)))
noncomputable def f42_r26 : List EOper := [⟨(some (K.ofNat 46)), none, .mv (.t (K.ofNat 9))⟩, ⟨(some (K.ofNat 47)), none, .bin .add (.t (K.ofNat 46)) (.c (.i .i64 (.ofNat 1)))⟩, ⟨(some (K.ofNat 9)), none, .as (.t (K.ofNat 47))⟩]
noncomputable def f42_l4 : EC := (.seq (.seq (.reg f42_r10) (.cond (.t (K.ofNat 45)) .skip (.exit 4))) (.seq (.block 5 (.seq (.reg f42_r11) (.seq (.seq (.reg f42_r12) (.block 6 (.loop f42_l1))) (.seq (.reg f42_r16) (.block 8 (.loop f42_l3)))))) (.reg f42_r26)))
noncomputable def f42_r27 : List EOper := [⟨(some (K.ofNat 112)), none, .mv (.t (K.ofNat 7))⟩, ⟨(some (K.ofNat 5)), none, .as (.t (K.ofNat 112))⟩]
noncomputable def f42_r28 : List EOper := [⟨(some (K.ofNat 24)), none, .mv (.t (K.ofNat 6))⟩, ⟨(some (K.ofNat 25)), none, .bin .add (.t (K.ofNat 24)) (.c (.i .i64 (.ofNat 1)))⟩, ⟨(some (K.ofNat 6)), none, .as (.t (K.ofNat 25))⟩]
noncomputable def f42_l5 : EC := (.seq (.seq (.reg f42_r3) (.cond (.t (K.ofNat 23)) .skip (.exit 0))) (.seq (.block 1 (.seq (.reg f42_r4) (.seq (.seq (.reg f42_r5) (.block 2 (.loop f42_l0))) (.seq (.seq (.reg f42_r9) (.block 4 (.loop f42_l4))) (.reg f42_r27))))) (.reg f42_r28)))
noncomputable def f42_r29 : List EOper := [⟨(some (K.ofNat 15)), none, .as (.c (.i .i64 (.ofNat 1000)))⟩]
noncomputable def f42_r30 : List EOper := [⟨(some (K.ofNat 16)), none, .as (.c (.i .i64 (.ofNat 0)))⟩]
noncomputable def f42_r31 : List EOper := [⟨(some (K.ofNat 113)), none, .mv (.t (K.ofNat 16))⟩, ⟨(some (K.ofNat 114)), none, .mv (.t (K.ofNat 5))⟩, ⟨(some (K.ofNat 115)), none, .len (.t (K.ofNat 114))⟩, ⟨(some (K.ofNat 116)), none, .bin .lss (.t (K.ofNat 113)) (.t (K.ofNat 115))⟩]
noncomputable def f42_r32 : List EOper := [⟨(some (K.ofNat 119)), none, .mv (.t (K.ofNat 15))⟩, ⟨(some (K.ofNat 120)), none, .mv (.t (K.ofNat 5))⟩, ⟨(some (K.ofNat 121)), none, .mv (.t (K.ofNat 16))⟩, ⟨(some (K.ofNat 122)), none, .iads 1 (.t (K.ofNat 120)) (.t (K.ofNat 121))⟩, ⟨(some (K.ofNat 123)), none, .ld (.t (K.ofNat 122))⟩, ⟨(some (K.ofNat 124)), none, .min (.t (K.ofNat 119)) (.t (K.ofNat 123))⟩, ⟨(some (K.ofNat 15)), none, .as (.t (K.ofNat 124))⟩]
noncomputable def f42_r33 : List EOper := [⟨(some (K.ofNat 117)), none, .mv (.t (K.ofNat 16))⟩, ⟨(some (K.ofNat 118)), none, .bin .add (.t (K.ofNat 117)) (.c (.i .i64 (.ofNat 1)))⟩, ⟨(some (K.ofNat 16)), none, .as (.t (K.ofNat 118))⟩]
noncomputable def f42_l6 : EC := (.seq (.seq (.reg f42_r31) (.cond (.t (K.ofNat 116)) .skip (.exit 12))) (.seq (.block 13 (.reg f42_r32)) (.reg f42_r33)))
noncomputable def f42_r34 : List EOper := [⟨(some (K.ofNat 125)), none, .mv (.t (K.ofNat 15))⟩, ⟨(some (K.ofNat 4)), none, .as (.t (K.ofNat 125))⟩]
noncomputable def f42_c : EC := (.seq (.reg f42_r0) (.seq (.reg f42_r1) (.seq (.seq (.reg f42_r2) (.block 0 (.loop f42_l5))) (.seq (.reg f42_r29) (.seq (.seq (.reg f42_r30) (.block 12 (.loop f42_l6))) (.seq (.reg f42_r34) .ret))))))
noncomputable def f42 : EF := ⟨126, [.tmp (K.ofNat 4)], f42_c, none⟩
theorem f42_rs : f42.rs = [.tmp (K.ofNat 4)] := of_eq_true (eq_self _)
section
variable {fs : T EF} {h : H} {v : V} {us : List V} {n : Nat} {Q Ls : List (List (Int × Int))}
theorem rep_set {N j : Nat} (hj : j < N) : (List.replicate j (1000 : Int) ++ List.replicate (N - j) 0).set j 1000 = List.replicate (j + 1) (1000 : Int) ++ List.replicate (N - (j + 1)) 0 := by
  obtain ⟨k, hk⟩ : ∃ k, N - j = k + 1 := ⟨N - j - 1, by omega⟩
  rw [hk, show N - (j + 1) = k by omega, List.set_append_right _ _ (by simp), List.length_replicate, Nat.sub_self, List.replicate_succ, List.set_cons_zero, List.replicate_succ', List.append_assoc]
  rfl
theorem set_self {L : List Int} {x : Nat} (hx : x < L.length) : L.set x (L.getD x 0) = L := by
  rw [getD_at hx, List.set_getElem_self]
def cT (r p x t : Nat) : Int := if 0 < r then smB p x t else 0
def f42_I (h : H) (n : Nat) (v : V) (Ls : List (List (Int × Int))) (r : Nat) (fr : Fr) (h1 : H) : Prop := r ≤ Ls.length ∧ Grow h.nx.nat h h1 ∧ ∃ w, Sl iE h1 w (lsR n Ls r) ∧ Own h.nx.nat w ∧ fr.get (K.ofNat 0) = some (.i .i64 (n : Int)) ∧ fr.get (K.ofNat 1) = some (v) ∧ fr.get (K.ofNat 5) = some (w) ∧ fr.get (K.ofNat 6) = some (.i .i64 (r : Int))
def f42_A (h1 : H) (n : Nat) (v w u : V) (r : Nat) (j : Nat) (fr : Fr) (h3 : H) : Prop := j ≤ 2 ^ n ∧ Grow h1.nx.nat h1 h3 ∧ Sl iE h3 u (List.replicate j 1000 ++ List.replicate (2 ^ n - j) 0) ∧ fr.get (K.ofNat 0) = some (.i .i64 (n : Int)) ∧ fr.get (K.ofNat 1) = some (v) ∧ fr.get (K.ofNat 5) = some (w) ∧ fr.get (K.ofNat 6) = some (.i .i64 (r : Int)) ∧ fr.get (K.ofNat 7) = some (u) ∧ fr.get (K.ofNat 8) = some (.i .i64 (j : Int))
def f42_S (h1 : H) (n : Nat) (v w u : V) (D : List Int) (l : List (Int × Int)) (r : Nat) (s : Nat) (fr : Fr) (h3 : H) : Prop := s ≤ 2 ^ l.length ∧ Grow h1.nx.nat h1 h3 ∧ Sl iE h3 u (lsS r n D l s) ∧ fr.get (K.ofNat 0) = some (.i .i64 (n : Int)) ∧ fr.get (K.ofNat 1) = some (v) ∧ fr.get (K.ofNat 5) = some (w) ∧ fr.get (K.ofNat 6) = some (.i .i64 (r : Int)) ∧ fr.get (K.ofNat 7) = some (u) ∧ fr.get (K.ofNat 9) = some (.i .i64 (s : Int))
def f42_M (h4 : H) (n : Nat) (v w u : V) (l : List (Int × Int)) (r s : Nat) (i : Nat) (fr : Fr) (h3 : H) : Prop := i ≤ l.length ∧ h3 = h4 ∧ fr.get (K.ofNat 0) = some (.i .i64 (n : Int)) ∧ fr.get (K.ofNat 1) = some (v) ∧ fr.get (K.ofNat 5) = some (w) ∧ fr.get (K.ofNat 6) = some (.i .i64 (r : Int)) ∧ fr.get (K.ofNat 7) = some (u) ∧ fr.get (K.ofNat 9) = some (.i .i64 (s : Int)) ∧ fr.get (K.ofNat 10) = some (.i .i64 (mkI l s i : Int)) ∧ fr.get (K.ofNat 11) = some (.i .i64 (i : Int))
def f42_P (h1 : H) (n : Nat) (v w u : V) (D E : List Int) (r s x : Nat) (p : Nat) (fr : Fr) (h3 : H) : Prop := p ≤ 2 ^ n ∧ Grow h1.nx.nat h1 h3 ∧ Sl iE h3 u (E.set x (mnP D (fun p => cst r n p x) (E.getD x 0) p)) ∧ fr.get (K.ofNat 0) = some (.i .i64 (n : Int)) ∧ fr.get (K.ofNat 1) = some (v) ∧ fr.get (K.ofNat 5) = some (w) ∧ fr.get (K.ofNat 6) = some (.i .i64 (r : Int)) ∧ fr.get (K.ofNat 7) = some (u) ∧ fr.get (K.ofNat 9) = some (.i .i64 (s : Int)) ∧ fr.get (K.ofNat 10) = some (.i .i64 (x : Int)) ∧ fr.get (K.ofNat 12) = some (.i .i64 (p : Int))
def f42_T (h4 : H) (n : Nat) (v w u : V) (r s x p : Nat) (t : Nat) (fr : Fr) (h3 : H) : Prop := t ≤ n ∧ h3 = h4 ∧ (0 < r ∨ t = 0) ∧ fr.get (K.ofNat 0) = some (.i .i64 (n : Int)) ∧ fr.get (K.ofNat 1) = some (v) ∧ fr.get (K.ofNat 5) = some (w) ∧ fr.get (K.ofNat 6) = some (.i .i64 (r : Int)) ∧ fr.get (K.ofNat 7) = some (u) ∧ fr.get (K.ofNat 9) = some (.i .i64 (s : Int)) ∧ fr.get (K.ofNat 10) = some (.i .i64 (x : Int)) ∧ fr.get (K.ofNat 12) = some (.i .i64 (p : Int)) ∧ fr.get (K.ofNat 13) = some (.i .i64 (cT r p x t)) ∧ fr.get (K.ofNat 14) = some (.i .i64 (t : Int))
def f42_F (h4 : H) (n : Nat) (w : V) (D : List Int) (p : Nat) (fr : Fr) (h3 : H) : Prop := p ≤ 2 ^ n ∧ h3 = h4 ∧ fr.get (K.ofNat 5) = some (w) ∧ fr.get (K.ofNat 15) = some (.i .i64 (mnP D (fun _ => 0) 1000 p)) ∧ fr.get (K.ofNat 16) = some (.i .i64 (p : Int))
theorem f42_ret (sc : Sched n Ls) (hv : Nrp h v us Ls) (hc : HC h) : Ret fs f42 [.i .i64 (n : Int), v] h fun r h' => r = .i .i64 (leI n Ls) ∧ Grow h.nx.nat h h' := by
  obtain ⟨hb10, hb2⟩ := sc.bd
  have hql := sc.len
  have hR := rok_of sc
  have hT : ∀ l ∈ Ls, Tn n l := fun l hl e he => by
    have := sc.inn (M := List.replicate n 0) (by simp) l hl e he
    rw [List.length_replicate] at this
    omega
  have hN : 2 ^ n ≤ 1024 := by
    have := Nat.pow_le_pow_right (show 0 < 2 by omega) hb10
    have e : 2 ^ 10 = 1024 := by decide
    omega
  have hN6 : 2 ^ n ≤ 1000000 := by omega
  obtain ⟨_, _, _, sN, _⟩ := bit_i (m := 0) (x := n) (by omega)
  have hlen : ∀ h1, lenV v h1 = .ok (.i .i64 (Ls.length : Int)) h1 := fun h1 => by rw [hv.out.len, hv.len]
  apply ret_of rfl
  show W fs none f42_c _ _ _
  unfold f42_c
  simp (disch := omega) only [f42_r0, f42_r1, f42_r2, w_reg, w_seq, w_block, seqK_n, x_nil, x_mv, x_as, x_bin, x_mks, kx, rvP_ok, okv_some, ev_t, ev_c, getV_some, putD_some, frame_2, of0, of1, getK_set, Nat.reduceEqDiff, ↓reduceIte, sN, mks_ints hN6]
  refine W_loop (f42_I h n v Ls) (fun r => Ls.length - r) ?_ 0 ⟨by omega, Grow.new (Nat.le_refl _) _, .sl h.nx 0 (2 ^ n) 1, mks_sl, (fun _ _ _ _ e => by cases e; exact Nat.le_refl _), by simp (disch := omega) only [getK_set, Nat.reduceEqDiff, ↓reduceIte, and_self, Int.natCast_zero]⟩
  rintro r fr h1 ⟨hr, hG, w, hw, how, g0, g1, g5, g6⟩
  have hc1 := hG.hc hc
  have hDb := (dp_all hT (by omega) r hr).bd
  have hDl : (lsR n Ls r).length = 2 ^ n := lsR_len
  unfold f42_l5
  by_cases hlt : r < Ls.length
  · have d0 : decide ((r : Int) < (Ls.length : Int)) = true := decide_eq_true (by omega)
    have hru : r < us.length := by rw [hv.len]; exact hlt
    have hgl : Ls.getD r [] = Ls[r] := getD_at hlt
    have hlR : lsR n Ls (r + 1) = lsS r n (lsR n Ls r) Ls[r] (2 ^ Ls[r].length) := by rw [← hgl]; rfl
    have hTl := hT _ (List.getElem_mem hlt)
    have hvr := hv.grow hc hG
    have hl0 := hvr.inn r hru hlt
    have hv0 : ∀ h4, Grow h1.nx.nat h1 h4 → ∃ p0, (∀ k h1, iadsV 1 v (.i k (r : Int)) h1 = .ok p0 h1) ∧ loadV h4 p0 one? = .ok us[r] h4 ∧ Srp h4 us[r] Ls[r] := fun h4 hG4 => by
      obtain ⟨p0, a1, a2⟩ := (hvr.grow hc1 hG4).out.at r hru
      exact ⟨p0, a1, a2, hl0.grow hc1 hG4⟩
    obtain ⟨rl, rne, _⟩ := hR.2 _ (List.getElem_mem hlt)
    generalize us[r] = ur at *
    generalize Ls[r] = l at *
    generalize lsR n Ls r = D at *
    simp (disch := omega) only [f42_r3, f42_r4, f42_r5, w_skip, w_reg, w_seq, w_cond, w_block, seqK_n, ckB_b, cbB_b, true_and, x_nil, x_mv, x_as, x_bin, x_mks, x_len, kx, rvP_ok, okv_some, ev_t, ev_c, getV_some, putD_some, bin_lss, of0, of1, getK_set, Nat.reduceEqDiff, ↓reduceIte, g0, g1, g6, d0, hlen, sN, mks_ints hN6]
    have gA : Grow h1.nx.nat h1 (h1.new (.cells (2 ^ n * 1) (rep [.i .i64 0] (2 ^ n)))) := Grow.new (Nat.le_refl _) _
    have hu2 : Sl iE (h1.new (.cells (2 ^ n * 1) (rep [.i .i64 0] (2 ^ n)))) (.sl h1.nx 0 (2 ^ n) 1) (List.replicate (2 ^ n) 0) := mks_sl
    have huo : Own h1.nx.nat (.sl h1.nx 0 (2 ^ n) 1) := fun _ _ _ _ e => by cases e; exact Nat.le_refl _
    generalize V.sl h1.nx 0 (2 ^ n) 1 = u at *
    generalize h1.new (.cells (2 ^ n * 1) (rep [.i .i64 0] (2 ^ n))) = hA at *
    refine loop_mono (Q := fun e fr h3 => e = .exit 2 ∧ Grow h1.nx.nat h1 h3 ∧ Sl iE h3 u (lsS r n D l 0) ∧ fr.get (K.ofNat 0) = some (.i .i64 (n : Int)) ∧ fr.get (K.ofNat 1) = some (v) ∧ fr.get (K.ofNat 5) = some (w) ∧ fr.get (K.ofNat 6) = some (.i .i64 (r : Int)) ∧ fr.get (K.ofNat 7) = some (u)) ?_ (W_loop (f42_A h1 n v w u r) (fun j => 2 ^ n - j) ?_ 0 ⟨Nat.zero_le _, gA, by simpa using hu2, by simp (disch := omega) only [getK_set, Nat.reduceEqDiff, ↓reduceIte, g0, g1, g5, g6, and_self, Int.natCast_zero]⟩)
    · clear g0 g1 g5 g6 fr
      rintro e fr h3 ⟨rfl, hG3, hu3, g0, g1, g5, g6, g7⟩
      simp (disch := omega) only [f42_r9, w_reg, w_seq, w_block, seqK_n, atK_e, x_nil, x_as, ev_c, putD_some, of0, ↓reduceIte]
      refine W_loop (f42_S h1 n v w u D l r) (fun s => 2 ^ l.length - s) ?_ 0 ⟨Nat.zero_le _, hG3, hu3, by simp (disch := omega) only [getK_set, Nat.reduceEqDiff, ↓reduceIte, g0, g1, g5, g6, g7, and_self, Int.natCast_zero]⟩
      clear g0 g1 g5 g6 g7 fr hu3 hG3 h3
      rintro s fr h4 ⟨hs, hG4, hu4, g0, g1, g5, g6, g7, g9⟩
      have hc4 := hG4.hc hc1
      have hp8 : 2 ^ l.length ≤ 256 := by
        have := Nat.pow_le_pow_right (show 0 < 2 by omega) rl
        have e : 2 ^ 8 = 256 := by decide
        omega
      obtain ⟨p0, a1, a2, hl4⟩ := hv0 h4 hG4
      have hul := hl4.len
      obtain ⟨_, _, _, sL, _⟩ := bit_i (m := 0) (x := l.length) (by omega)
      have hx := mkI_lt (s := s) hTl l.length (Nat.le_refl _)
      unfold f42_l4
      by_cases hlt2 : s < 2 ^ l.length
      · have d1 : decide ((s : Int) < ((2 ^ l.length : Nat) : Int)) = true := decide_eq_true (by omega)
        simp (disch := omega) only [f42_r10, f42_r11, f42_r12, w_skip, w_reg, w_seq, w_cond, w_block, seqK_n, ckB_b, cbB_b, true_and, x_nil, x_mv, x_as, x_ld, x_bin, x_iads, x_len, kx, rvP_ok, okv_some, ev_t, ev_c, getV_some, putD_some, bin_lss, of0, of1, getK_set, Nat.reduceEqDiff, ↓reduceIte, g1, g6, g9, a1, a2, hul, sL, d1]
        refine loop_mono (Q := fun e fr h5 => e = .exit 6 ∧ h5 = h4 ∧ fr.get (K.ofNat 0) = some (.i .i64 (n : Int)) ∧ fr.get (K.ofNat 1) = some (v) ∧ fr.get (K.ofNat 5) = some (w) ∧ fr.get (K.ofNat 6) = some (.i .i64 (r : Int)) ∧ fr.get (K.ofNat 7) = some (u) ∧ fr.get (K.ofNat 9) = some (.i .i64 (s : Int)) ∧ fr.get (K.ofNat 10) = some (.i .i64 (mk l s : Int))) ?_ (W_loop (f42_M h4 n v w u l r s) (fun i => l.length - i) ?_ 0 ⟨Nat.zero_le _, rfl, by simp (disch := omega) only [getK_set, Nat.reduceEqDiff, ↓reduceIte, g0, g1, g5, g6, g7, g9, and_self, Int.natCast_zero, mkI]⟩)
        · clear g0 g1 g5 g6 g7 g9 fr
          rintro e fr h5 ⟨rfl, rfl, g0, g1, g5, g6, g7, g9, g10⟩
          have hEl : (lsS r n D l s).length = 2 ^ n := lsS_len
          have hEb := lsS_bd (r := r) (D := D) hTl hDb s
          have hnext : lsS r n D l (s + 1) = (lsS r n D l s).set (mk l s) (mnP D (fun p => cst r n p (mk l s)) ((lsS r n D l s).getD (mk l s) 0) (2 ^ n)) := rfl
          have hx : mk l s < 2 ^ n := hx
          generalize mk l s = x at *
          generalize lsS r n D l s = E at *
          simp (disch := omega) only [f42_r16, w_reg, w_seq, w_block, seqK_n, atK_e, x_nil, x_as, ev_c, putD_some, of0, ↓reduceIte]
          refine W_loop (f42_P h1 n v w u D E r s x) (fun p => 2 ^ n - p) ?_ 0 ⟨Nat.zero_le _, hG4, by rw [show mnP D (fun p => cst r n p x) (E.getD x 0) 0 = E.getD x 0 from rfl, set_self (by omega)]; exact hu4, by simp (disch := omega) only [getK_set, Nat.reduceEqDiff, ↓reduceIte, g0, g1, g5, g6, g7, g9, g10, and_self, Int.natCast_zero]⟩
          clear g0 g1 g5 g6 g7 g9 g10 fr
          rintro p fr h6 ⟨hp, hG6, hu6, g0, g1, g5, g6, g7, g9, g10, g12⟩
          have hc6 := hG6.hc hc1
          have hw6 := hw.grow hc1 hG6
          have lw : ∀ h1, lenV w h1 = .ok (.i .i64 ((2 ^ n : Nat) : Int)) h1 := fun h1 => by rw [hw6.len, hDl]
          have hmb := mn_bd (c := fun p => cst r n p x) (e := E.getD x 0) (q := p) hp hDb (fun p => cst_nn.1) (hEb x hx)
          unfold f42_l3
          by_cases hlt3 : p < 2 ^ n
          · have d2 : decide ((p : Int) < ((2 ^ n : Nat) : Int)) = true := decide_eq_true (by omega)
            simp (disch := omega) only [f42_r17, f42_r18, f42_r19, w_skip, w_reg, w_seq, w_cond, w_block, seqK_n, ckB_b, cbB_b, true_and, x_nil, x_mv, x_as, x_bin, x_len, kx, rvP_ok, okv_some, ev_t, ev_c, getV_some, putD_some, bin_lss, of0, getK_set, Nat.reduceEqDiff, ↓reduceIte, g5, g12, lw, d2]
            refine loop_mono (Q := fun e fr h7 => e = .exit 10 ∧ h7 = h6 ∧ fr.get (K.ofNat 0) = some (.i .i64 (n : Int)) ∧ fr.get (K.ofNat 1) = some (v) ∧ fr.get (K.ofNat 5) = some (w) ∧ fr.get (K.ofNat 6) = some (.i .i64 (r : Int)) ∧ fr.get (K.ofNat 7) = some (u) ∧ fr.get (K.ofNat 9) = some (.i .i64 (s : Int)) ∧ fr.get (K.ofNat 10) = some (.i .i64 (x : Int)) ∧ fr.get (K.ofNat 12) = some (.i .i64 (p : Int)) ∧ fr.get (K.ofNat 13) = some (.i .i64 (cst r n p x))) ?_ (W_loop (f42_T h6 n v w u r s x p) (fun t => n - t) ?_ 0 ⟨Nat.zero_le _, rfl, .inr rfl, by have e : cT r p x 0 = 0 := (by unfold cT; split <;> rfl); simp (disch := omega) only [getK_set, Nat.reduceEqDiff, ↓reduceIte, g0, g1, g5, g6, g7, g9, g10, g12, e, and_self, Int.natCast_zero]⟩)
            · clear g0 g1 g5 g6 g7 g9 g10 g12 fr
              rintro e fr h7 ⟨rfl, rfl, g0, g1, g5, g6, g7, g9, g10, g12, g13⟩
              have hsl : (E.set x (mnP D (fun p => cst r n p x) (E.getD x 0) p)).length = 2 ^ n := by rw [List.length_set, hEl]
              obtain ⟨pa, b1, b2⟩ := hu6.at x (by rw [hsl]; exact hx)
              have b2 : loadV h7 pa one? = .ok (.i .i64 (mnP D (fun p => cst r n p x) (E.getD x 0) p)) h7 := by rw [b2, List.getElem_set_self]; rfl
              obtain ⟨pb, c1, c2⟩ := hw6.at p (by omega)
              have hDp : D[p]'(by omega) = D.getD p 0 := (getD_at (by omega)).symm
              have c2 : loadV h7 pb one? = .ok (.i .i64 (D.getD p 0)) h7 := by rw [c2, hDp]; rfl
              have hdb := hDb p hlt3
              have hcb := cst_nn (r := r) (n := n) (p := p) (x := x)
              obtain ⟨pz, id, m, cs', w1, w2, w3, ⟨off, n', sz', w4⟩, w5⟩ := hu6.st (i := x) (by rw [hsl]; exact hx) (x := mnP D (fun p => cst r n p x) (E.getD x 0) (p + 1)) (c := .i .i64 (min (mnP D (fun p => cst r n p x) (E.getD x 0) p) (D.getD p 0 + cst r n p x))) rfl rfl hc6
              obtain rfl : pa = pz := by have := (b1 .i64 h7).symm.trans (w1 .i64 h7); injection this
              rw [List.set_set] at w3
              have gP := Grow.put (huo _ _ _ _ w4) w5 (.cells m cs')
              simp (disch := omega) only [f42_r24, f42_r25, w_reg, w_draw, seqK_n, atK_n, atK_e, loopK_n, true_and, x_nil, x_mv, x_as, x_st, x_bin, kx, kg, xg_nil, xg_mv, xg_ld, xg_bin, xg_iads, xg_min, xd_cons, fresh_nil, stK_n, stK_s, stay_nil, rvP_ok, okv_some, ev_t, ev_c, getV_some, putD_some, putD_none, bin_add, min_ii, of1, getK_set, Nat.reduceEqDiff, ↓reduceIte, g5, g7, g10, g12, g13, b1, b2, c1, c2, w2, fw64]
              exact ⟨p + 1, by omega, by omega, hG6.trans gP, w3, by simp (disch := omega) only [getK_set, Nat.reduceEqDiff, ↓reduceIte, g0, g1, g5, g6, g7, g9, g10, and_self, Int.natCast_add, Int.natCast_one]⟩
            · clear g0 g1 g5 g6 g7 g9 g10 g12 fr
              rintro t fr h7 ⟨ht, rfl, hor, g0, g1, g5, g6, g7, g9, g10, g12, g13, g14⟩
              unfold f42_l2
              by_cases hlt4 : t < n
              · have d3 : decide ((t : Int) < (n : Int)) = true := decide_eq_true (by omega)
                by_cases hr0 : 0 < r
                · have d4 : decide ((r : Int) > 0) = true := decide_eq_true (by omega)
                  obtain ⟨s1, s2, s3, _, _⟩ := bit_i (m := p) (x := t) (by omega)
                  obtain ⟨z1, z2, z3, _, _⟩ := bit_i (m := x) (x := t) (by omega)
                  have d5 : decide (((p / 2 ^ t % 2 : Nat) : Int) = ((x / 2 ^ t % 2 : Nat) : Int)) = decide (p.testBit t = x.testBit t) := by
                    rw [← s3, ← z3]
                    have k1 := Nat.mod_lt (p / 2 ^ t) (show 0 < 2 by omega)
                    have k2 := Nat.mod_lt (x / 2 ^ t) (show 0 < 2 by omega)
                    generalize p / 2 ^ t % 2 = a at *
                    generalize x / 2 ^ t % 2 = b at *
                    obtain rfl | rfl : a = 0 ∨ a = 1 := by omega
                    · obtain rfl | rfl : b = 0 ∨ b = 1 := by omega
                      · rfl
                      · rfl
                    · obtain rfl | rfl : b = 0 ∨ b = 1 := by omega
                      · rfl
                      · rfl
                  have c1 : cT r p x (t + 1) = cT r p x t + (if p.testBit t = x.testBit t then 1 else 0) := by
                    unfold cT
                    rw [if_pos hr0, if_pos hr0]; rfl
                  have cb : 0 ≤ cT r p x t ∧ cT r p x t ≤ (t : Int) := by
                    unfold cT
                    rw [if_pos hr0]
                    exact sm_b (fun t => by split <;> omega) t
                  by_cases hb : p.testBit t = x.testBit t
                  · rw [if_pos hb] at c1
                    rw [decide_eq_true hb] at d5
                    simp (disch := omega) only [f42_r20, f42_r21, f42_r22, f42_r23, w_skip, w_reg, w_draw, w_seq, w_cond, w_block, seqK_n, atK_n, loopK_n, ckB_b, cbB_b, okG_b, asG_t, true_and, x_nil, x_g, x_mv, x_as, x_pick, x_bin, kx, kg, xg_nil, xg_mv, xg_bin, xd_cons, fresh_nil, stK_n, stay_nil, rvP_ok, okv_some, ev_t, ev_c, getV_some, putD_some, bin_add, bin_eql, bin_lss, bin_gtr, bin_rem, pick_b, of0, of1, of2, getK_set, Nat.reduceEqDiff, ↓reduceIte, g0, g6, g10, g12, g13, g14, d3, d4, s1, s2, z1, z2, d5, fw64]
                    exact ⟨t + 1, by omega, by omega, rfl, .inl hr0, by simp (disch := omega) only [getK_set, Nat.reduceEqDiff, ↓reduceIte, g0, g1, g5, g6, g7, g9, g10, g12, c1, and_self, Int.natCast_add, Int.natCast_one]⟩
                  · rw [if_neg hb, Int.add_zero] at c1
                    rw [decide_eq_false hb] at d5
                    simp (disch := omega) only [f42_r20, f42_r21, f42_r23, w_skip, w_reg, w_draw, w_seq, w_cond, w_block, seqK_n, atK_n, loopK_n, ckB_b, cbB_b, okG_b, asG_t, true_and, x_nil, x_g, x_mv, x_as, x_pick, x_bin, kx, kg, xg_nil, xg_mv, xg_bin, xd_cons, fresh_nil, stK_n, stay_nil, rvP_ok, okv_some, ev_t, ev_c, getV_some, putD_some, bin_add, bin_eql, bin_lss, bin_gtr, bin_rem, pick_b, of0, of1, of2, getK_set, Nat.reduceEqDiff, ↓reduceIte, Bool.false_eq_true, g0, g6, g10, g12, g14, d3, d4, s1, s2, z1, z2, d5, fw64]
                    exact ⟨t + 1, by omega, by omega, rfl, .inl hr0, by simp (disch := omega) only [getK_set, Nat.reduceEqDiff, ↓reduceIte, g0, g1, g5, g6, g7, g9, g10, g12, g13, c1, and_self, Int.natCast_add, Int.natCast_one]⟩
                · have d4 : decide ((r : Int) > 0) = false := decide_eq_false (by omega)
                  have e1 : cT r p x t = cst r n p x := by unfold cT cst; rw [if_neg hr0, if_neg hr0]
                  rw [e1] at g13
                  simp (disch := omega) only [f42_r20, w_reg, w_seq, w_cond, w_exit, seqK_n, seqK_e, loopK_e, ckB_b, cbB_b, okG_b, asG_t, x_nil, x_g, x_mv, x_pick, x_bin, kx, rvP_ok, okv_some, ev_t, ev_c, getV_some, putD_some, bin_lss, bin_gtr, pick_b, of0, getK_set, Nat.reduceEqDiff, ↓reduceIte, Bool.false_eq_true, g0, g1, g5, g6, g7, g9, g10, g12, g13, g14, d3, d4, and_self]
              · have d3 : decide ((t : Int) < (n : Int)) = false := decide_eq_false (by omega)
                have et : t = n := by omega
                subst et
                have e1 : cT r p x t = cst r t p x := rfl
                rw [e1] at g13
                simp (disch := omega) only [f42_r20, w_reg, w_seq, w_cond, w_exit, seqK_n, seqK_e, loopK_e, ckB_b, cbB_b, okG_b, asG_t, x_nil, x_g, x_mv, x_pick, x_bin, kx, rvP_ok, okv_some, ev_t, ev_c, getV_some, putD_some, bin_lss, pick_b, of0, getK_set, Nat.reduceEqDiff, ↓reduceIte, Bool.false_eq_true, g0, g1, g5, g6, g7, g9, g10, g12, g13, g14, d3, and_self]
          · have d2 : decide ((p : Int) < ((2 ^ n : Nat) : Int)) = false := decide_eq_false (by omega)
            have ep : p = 2 ^ n := by omega
            rw [ep, ← hnext] at hu6
            simp (disch := omega) only [f42_r17, f42_r26, w_reg, w_seq, w_cond, w_exit, seqK_n, seqK_e, atK_n, atK_e, loopK_n, loopK_e, ckB_b, cbB_b, true_and, x_nil, x_mv, x_as, x_bin, x_len, kx, rvP_ok, okv_some, ev_t, ev_c, getV_some, putD_some, bin_add, bin_lss, of1, getK_set, Nat.reduceEqDiff, ↓reduceIte, Bool.false_eq_true, g5, g9, g12, lw, d2, fw64]
            exact ⟨s + 1, by omega, by omega, hG6, hu6, by simp (disch := omega) only [getK_set, Nat.reduceEqDiff, ↓reduceIte, g0, g1, g5, g6, g7, and_self, Int.natCast_add, Int.natCast_one]⟩
        · clear g0 g1 g5 g6 g7 g9 fr
          rintro i fr h5 ⟨hi, rfl, g0, g1, g5, g6, g7, g9, g10, g11⟩
          unfold f42_l1
          by_cases hlt3 : i < l.length
          · have d2 : decide ((i : Int) < (l.length : Int)) = true := decide_eq_true (by omega)
            obtain ⟨idq, q, q1, q2, q3, q4⟩ := hl4.at2 hlt3
            obtain ⟨s1, s2, s3, _, _⟩ := bit_i (m := s) (x := i) (by omega)
            have hil := mkI_lt (s := s) hTl i (by omega)
            have hte := verE_tn (s := s) hTl hlt3
            obtain ⟨a, ha⟩ := Int.eq_ofNat_of_zero_le hte.1
            obtain ⟨_, _, _, sA, sA2⟩ := bit_i (m := 0) (x := a) (by omega)
            have hor := bin_or64 (a := mkI l s i) (b := 2 ^ a) (by omega) (by omega)
            have hmk : mkI l s (i + 1) = mkI l s i ||| 2 ^ a := by
              show mkI l s i ||| 2 ^ (verE l s i).1.toNat = _
              rw [ha]; rfl
            rw [← hmk] at hor
            cases hb : s.testBit i with
            | true =>
              have hm : s / 2 ^ i % 2 = 1 := by
                rw [hb] at s3
                have := of_decide_eq_true s3
                omega
              have hv2 : l[i].2 = (a : Int) := by
                rw [← ha]; unfold verE; rw [if_pos hb, getD_at hlt3]; rfl
              have s2 : ((s / 2 ^ i : Nat) : Int).tmod 2 = 1 := by rw [s2, hm]; rfl
              rw [hv2] at q4
              simp (disch := omega) only [f42_r13, f42_r14, f42_r15, w_skip, w_reg, w_draw, w_seq, w_cond, w_block, seqK_n, atK_n, loopK_n, ckB_b, cbB_b, true_and, x_nil, x_mv, x_as, x_ld, x_bin, x_iads, x_len, kx, kg, xg_nil, xg_mv, xg_ld, xg_bin, xg_iadr, xg_iads, xd_cons, fresh_nil, stK_n, stK_s, stay_nil, rvP_ok, okv_some, ev_t, ev_c, getV_some, putD_some, bin_add, bin_lss, bin_rem, onP_p, of1, of2, getK_set, Nat.reduceEqDiff, ↓reduceIte, ix2_1, g1, g6, g9, g10, g11, d2, a1, a2, hul, s1, s2, q1, ix2_1, q4, sA, hor, fw64]
              exact ⟨i + 1, by omega, by omega, rfl, by simp (disch := omega) only [getK_set, Nat.reduceEqDiff, ↓reduceIte, g0, g1, g5, g6, g7, g9, and_self, Int.natCast_add, Int.natCast_one]⟩
            | false =>
              have hm : s / 2 ^ i % 2 = 0 := by
                rw [hb] at s3
                have := of_decide_eq_false s3
                omega
              have hv2 : l[i].1 = (a : Int) := by
                rw [← ha]; unfold verE; rw [if_neg (by rw [hb]; simp), getD_at hlt3]
              have s2 : ((s / 2 ^ i : Nat) : Int).tmod 2 = 0 := by rw [s2, hm]; rfl
              rw [hv2] at q3
              simp (disch := omega) only [f42_r13, f42_r14, f42_r15, w_skip, w_reg, w_draw, w_seq, w_cond, w_block, seqK_n, atK_n, loopK_n, ckB_b, cbB_b, true_and, x_nil, x_mv, x_as, x_ld, x_bin, x_iads, x_len, kx, kg, xg_nil, xg_mv, xg_ld, xg_bin, xg_iadr, xg_iads, xd_cons, fresh_nil, stK_n, stK_s, stay_nil, rvP_ok, okv_some, ev_t, ev_c, getV_some, putD_some, bin_add, bin_lss, bin_rem, onP_p, of1, of2, getK_set, Nat.reduceEqDiff, ↓reduceIte, ix2_0, g1, g6, g9, g10, g11, d2, a1, a2, hul, s1, s2, q1, ix2_0, q3, sA, hor, fw64]
              exact ⟨i + 1, by omega, by omega, rfl, by simp (disch := omega) only [getK_set, Nat.reduceEqDiff, ↓reduceIte, g0, g1, g5, g6, g7, g9, and_self, Int.natCast_add, Int.natCast_one]⟩
          · have d2 : decide ((i : Int) < (l.length : Int)) = false := decide_eq_false (by omega)
            have ei : i = l.length := by omega
            rw [ei, show mkI l s l.length = mk l s from rfl] at g10
            simp (disch := omega) only [f42_r13, w_reg, w_seq, w_cond, w_exit, seqK_n, seqK_e, loopK_e, ckB_b, cbB_b, x_nil, x_mv, x_ld, x_bin, x_iads, x_len, kx, rvP_ok, okv_some, ev_t, getV_some, putD_some, bin_lss, getK_set, Nat.reduceEqDiff, ↓reduceIte, Bool.false_eq_true, g0, g1, g5, g6, g7, g9, g10, g11, d2, a1, a2, hul, and_self]
      · have d1 : decide ((s : Int) < ((2 ^ l.length : Nat) : Int)) = false := decide_eq_false (by omega)
        have es : s = 2 ^ l.length := by omega
        rw [es, ← hlR] at hu4
        simp (disch := omega) only [f42_r10, f42_r27, f42_r28, w_reg, w_seq, w_cond, w_exit, seqK_n, seqK_e, atK_n, atK_e, loopK_n, loopK_e, ckB_b, cbB_b, true_and, x_nil, x_mv, x_as, x_ld, x_bin, x_iads, x_len, kx, rvP_ok, okv_some, ev_t, ev_c, getV_some, putD_some, bin_add, bin_lss, of1, getK_set, Nat.reduceEqDiff, ↓reduceIte, Bool.false_eq_true, g1, g6, g7, g9, a1, a2, hul, sL, d1, fw64]
        exact ⟨r + 1, by omega, by omega, hG.trans (hG4.low hG.nx), u, hu4, huo.low hG.nx, by simp (disch := omega) only [getK_set, Nat.reduceEqDiff, ↓reduceIte, g0, g1, and_self, Int.natCast_add, Int.natCast_one]⟩
    · clear g0 g1 g5 g6 fr hu2
      rintro j fr h3 ⟨hj, hG3, hu3, g0, g1, g5, g6, g7, g8⟩
      have hc3 := hG3.hc hc1
      have hle : (List.replicate j (1000 : Int) ++ List.replicate (2 ^ n - j) 0).length = 2 ^ n := by simp; omega
      have lu : ∀ h1, lenV u h1 = .ok (.i .i64 ((2 ^ n : Nat) : Int)) h1 := fun h1 => by rw [hu3.len, hle]
      unfold f42_l0
      by_cases hlt2 : j < 2 ^ n
      · have d1 : decide ((j : Int) < ((2 ^ n : Nat) : Int)) = true := decide_eq_true (by omega)
        obtain ⟨p, id, m, cs', w1, w2, w3, ⟨off, n', sz', w4⟩, w5⟩ := hu3.st (i := j) (by rw [hle]; exact hlt2) (x := 1000) (c := .i .i64 1000) rfl rfl hc3
        rw [rep_set hlt2] at w3
        have gP := Grow.put (huo _ _ _ _ w4) w5 (.cells m cs')
        simp (disch := omega) only [f42_r6, f42_r7, f42_r8, w_skip, w_reg, w_seq, w_cond, w_block, seqK_n, atK_n, loopK_n, ckB_b, cbB_b, true_and, x_nil, x_mv, x_as, x_st, x_bin, x_iads, x_len, kx, rvP_ok, okv_some, ev_t, ev_c, getV_some, putD_some, putD_none, bin_add, bin_lss, of1, getK_set, Nat.reduceEqDiff, ↓reduceIte, of1000, g7, g8, lu, d1, w1, w2, fw64]
        exact ⟨j + 1, by omega, by omega, hG3.trans gP, w3, by simp (disch := omega) only [getK_set, Nat.reduceEqDiff, ↓reduceIte, g0, g1, g5, g6, g7, and_self, Int.natCast_add, Int.natCast_one]⟩
      · have d1 : decide ((j : Int) < ((2 ^ n : Nat) : Int)) = false := decide_eq_false (by omega)
        have ej : j = 2 ^ n := by omega
        rw [ej, Nat.sub_self, List.replicate_zero, List.append_nil] at hu3
        simp (disch := omega) only [f42_r6, w_reg, w_seq, w_cond, w_exit, seqK_n, seqK_e, loopK_e, ckB_b, cbB_b, true_and, x_nil, x_mv, x_bin, x_len, kx, rvP_ok, okv_some, ev_t, getV_some, putD_some, bin_lss, getK_set, Nat.reduceEqDiff, ↓reduceIte, Bool.false_eq_true, g0, g1, g5, g6, g7, g8, lu, d1, and_self]
        exact ⟨hG3, hu3, trivial⟩
  · have d0 : decide ((r : Int) < (Ls.length : Int)) = false := decide_eq_false (by omega)
    have er : r = Ls.length := by omega
    subst er
    have lw : ∀ h1, lenV w h1 = .ok (.i .i64 ((2 ^ n : Nat) : Int)) h1 := fun h1 => by rw [hw.len, hDl]
    simp (disch := omega) only [f42_r3, f42_r29, f42_r30, w_reg, w_seq, w_cond, w_block, w_exit, seqK_n, seqK_e, atK_e, loopK_e, ckB_b, cbB_b, true_and, x_nil, x_mv, x_as, x_bin, x_len, kx, rvP_ok, okv_some, ev_t, ev_c, getV_some, putD_some, bin_lss, of0, getK_set, Nat.reduceEqDiff, ↓reduceIte, Bool.false_eq_true, of1000, g1, g6, d0, hlen]
    refine W_loop (f42_F h1 n w (lsR n Ls Ls.length)) (fun p => 2 ^ n - p) ?_ 0 ⟨Nat.zero_le _, rfl, by simp (disch := omega) only [getK_set, Nat.reduceEqDiff, ↓reduceIte, g5, and_self, Int.natCast_zero, mnP]⟩
    rintro p fr h2 ⟨hp, rfl, g5, g15, g16⟩
    unfold f42_l6
    by_cases hlt2 : p < 2 ^ n
    · have d1 : decide ((p : Int) < ((2 ^ n : Nat) : Int)) = true := decide_eq_true (by omega)
      obtain ⟨pb, c1, c2⟩ := hw.at p (by omega)
      have hDp : (lsR n Ls Ls.length)[p]'(by omega) = (lsR n Ls Ls.length).getD p 0 := (getD_at (by omega)).symm
      have c2 : loadV h2 pb one? = .ok (.i .i64 ((lsR n Ls Ls.length).getD p 0)) h2 := by rw [c2, hDp]; rfl
      have e1 : mnP (lsR n Ls Ls.length) (fun _ => 0) 1000 (p + 1) = min (mnP (lsR n Ls Ls.length) (fun _ => 0) 1000 p) ((lsR n Ls Ls.length).getD p 0) := by
        show min _ (_ + 0) = _
        rw [Int.add_zero]
      simp (disch := omega) only [f42_r31, f42_r32, f42_r33, w_skip, w_reg, w_seq, w_cond, w_block, seqK_n, atK_n, loopK_n, ckB_b, cbB_b, true_and, x_nil, x_mv, x_as, x_ld, x_bin, x_iads, x_len, x_min, kx, rvP_ok, okv_some, ev_t, ev_c, getV_some, putD_some, bin_add, bin_lss, min_ii, of1, getK_set, Nat.reduceEqDiff, ↓reduceIte, g5, g15, g16, lw, d1, c1, c2, fw64]
      exact ⟨p + 1, by omega, by omega, rfl, by simp (disch := omega) only [getK_set, Nat.reduceEqDiff, ↓reduceIte, g5, e1, and_self, Int.natCast_add, Int.natCast_one]⟩
    · have d1 : decide ((p : Int) < ((2 ^ n : Nat) : Int)) = false := decide_eq_false (by omega)
      have ep : p = 2 ^ n := by omega
      rw [ep] at g15
      simp (disch := omega) only [f42_r31, f42_r34, f42_rs, w_reg, w_seq, w_cond, w_exit, w_ret, seqK_n, seqK_e, atK_e, loopK_e, ckB_b, cbB_b, true_and, retK_r, x_nil, x_mv, x_as, x_bin, x_len, kx, rvP_ok, okv_some, ev_t, getV_some, putD_some, bin_lss, oGet_s, readRs_nil, readRs_t, retV_1, Option.some.injEq, exists_eq_left', getK_set, Nat.reduceEqDiff, ↓reduceIte, Bool.false_eq_true, g5, g15, g16, lw, d1]
      exact ⟨rfl, hG⟩
end
end Go.Ev
namespace Go.Ev
open Go Go.RowKit
noncomputable def f43_r0 : List EOper := [⟨(some (K.ofNat 6)), none, .as (.c (.b false))⟩]
noncomputable def f43_r1 : List EOper := [⟨(some (K.ofNat 13)), none, .mv (.t (K.ofNat 1))⟩, ⟨(some (K.ofNat 14)), none, .len (.t (K.ofNat 13))⟩, ⟨(some (K.ofNat 15)), none, .mv (.t (K.ofNat 2))⟩, ⟨(some (K.ofNat 16)), none, .len (.t (K.ofNat 15))⟩, ⟨(some (K.ofNat 17)), none, .bin .neq (.t (K.ofNat 14)) (.t (K.ofNat 16))⟩]
noncomputable def f43_r2 : List EOper := [⟨(some (K.ofNat 6)), none, .as (.c (.b false))⟩]
noncomputable def f43_r3 : List EOper := [⟨(some (K.ofNat 7)), none, .as (.c (.i .i64 (.ofNat 0)))⟩]
noncomputable def f43_r4 : List EOper := [⟨(some (K.ofNat 18)), none, .mv (.t (K.ofNat 7))⟩, ⟨(some (K.ofNat 19)), none, .mv (.t (K.ofNat 1))⟩, ⟨(some (K.ofNat 20)), none, .len (.t (K.ofNat 19))⟩, ⟨(some (K.ofNat 21)), none, .bin .lss (.t (K.ofNat 18)) (.t (K.ofNat 20))⟩]
noncomputable def f43_r5 : List EOper := [⟨(some (K.ofNat 8)), none, .as (.c (.i .i64 (.ofNat 0)))⟩]
noncomputable def f43_r6 : List EOper := [⟨(some (K.ofNat 24)), none, .mv (.t (K.ofNat 8))⟩, ⟨(some (K.ofNat 25)), none, .mv (.t (K.ofNat 0))⟩, ⟨(some (K.ofNat 26)), none, .bin .lss (.t (K.ofNat 24)) (.t (K.ofNat 25))⟩]
noncomputable def f43_r7 : List EOper := [⟨(some (K.ofNat 30)), none, .mv (.t (K.ofNat 1))⟩, ⟨(some (K.ofNat 31)), none, .mv (.t (K.ofNat 7))⟩, ⟨(some (K.ofNat 32)), none, .iads 1 (.t (K.ofNat 30)) (.t (K.ofNat 31))⟩, ⟨(some (K.ofNat 33)), none, .ld (.t (K.ofNat 32))⟩, ⟨(some (K.ofNat 34)), none, .mv (.t (K.ofNat 8))⟩, ⟨(some (K.ofNat 35)), none, .call (.c (.fn (K.ofNat 64) [])) [(.t (K.ofNat 33)), (.t (K.ofNat 34))]⟩, ⟨(some (K.ofNat 29)), none, .mv (.t (K.ofNat 35))⟩, ⟨(some (K.ofNat 36)), none, .ext (.t (K.ofNat 29)) 0⟩, ⟨(some (K.ofNat 37)), none, .ext (.t (K.ofNat 29)) 1⟩, ⟨(some (K.ofNat 9)), none, .as (.t (K.ofNat 36))⟩, ⟨(some (K.ofNat 10)), none, .as (.t (K.ofNat 37))⟩]
noncomputable def f43_r8 : List EOper := [⟨(some (K.ofNat 39)), none, .mv (.t (K.ofNat 2))⟩, ⟨(some (K.ofNat 40)), none, .mv (.t (K.ofNat 7))⟩, ⟨(some (K.ofNat 41)), none, .iads 1 (.t (K.ofNat 39)) (.t (K.ofNat 40))⟩, ⟨(some (K.ofNat 42)), none, .ld (.t (K.ofNat 41))⟩, ⟨(some (K.ofNat 43)), none, .mv (.t (K.ofNat 8))⟩, ⟨(some (K.ofNat 44)), none, .call (.c (.fn (K.ofNat 64) [])) [(.t (K.ofNat 42)), (.t (K.ofNat 43))]⟩, ⟨(some (K.ofNat 38)), none, .mv (.t (K.ofNat 44))⟩, ⟨(some (K.ofNat 45)), none, .ext (.t (K.ofNat 38)) 0⟩, ⟨(some (K.ofNat 46)), none, .ext (.t (K.ofNat 38)) 1⟩, ⟨(some (K.ofNat 11)), none, .as (.t (K.ofNat 45))⟩, ⟨(some (K.ofNat 12)), none, .as (.t (K.ofNat 46))⟩]
noncomputable def f43_r9 : List EOper := [⟨(some (K.ofNat 47)), none, .mv (.t (K.ofNat 10))⟩, ⟨(some (K.ofNat 48)), none, .mv (.t (K.ofNat 12))⟩, ⟨(some (K.ofNat 49)), none, .bin .neq (.t (K.ofNat 47)) (.t (K.ofNat 48))⟩]
noncomputable def f43_r10 : List EOper := [⟨(some (K.ofNat 6)), none, .as (.c (.b false))⟩]
noncomputable def f43_r11 : List EOper := [⟨(some (K.ofNat 27)), none, .mv (.t (K.ofNat 8))⟩, ⟨(some (K.ofNat 28)), none, .bin .add (.t (K.ofNat 27)) (.c (.i .i64 (.ofNat 1)))⟩, ⟨(some (K.ofNat 8)), none, .as (.t (K.ofNat 28))⟩]
noncomputable def f43_l0 : EC := (.seq (.seq (.reg f43_r6) (.cond (.t (K.ofNat 26)) .skip (.exit 2))) (.seq (.block 3 (.seq (.reg f43_r7) (.seq (.reg f43_r8) (.seq (.reg f43_r9) (.cond (.t (K.ofNat 49)) (.seq (.reg f43_r10) .ret) .skip))))) (.reg f43_r11)))
noncomputable def f43_r12 : List EOper := [⟨(some (K.ofNat 22)), none, .mv (.t (K.ofNat 7))⟩, ⟨(some (K.ofNat 23)), none, .bin .add (.t (K.ofNat 22)) (.c (.i .i64 (.ofNat 1)))⟩, ⟨(some (K.ofNat 7)), none, .as (.t (K.ofNat 23))⟩]
noncomputable def f43_l1 : EC := (.seq (.seq (.reg f43_r4) (.cond (.t (K.ofNat 21)) .skip (.exit 0))) (.seq (.block 1 (.seq (.reg f43_r5) (.block 2 (.loop f43_l0)))) (.reg f43_r12)))
noncomputable def f43_r13 : List EOper := [⟨(some (K.ofNat 6)), none, .as (.c (.b true))⟩]
noncomputable def f43_c : EC := (.seq (.reg f43_r0) (.seq (.seq (.reg f43_r1) (.cond (.t (K.ofNat 17)) (.seq (.reg f43_r2) .ret) .skip)) (.seq (.seq (.reg f43_r3) (.block 0 (.loop f43_l1))) (.seq (.reg f43_r13) .ret))))
noncomputable def f43 : EF := ⟨50, [.tmp (K.ofNat 6)], f43_c, none⟩
theorem f43_rs : f43.rs = [.tmp (K.ofNat 6)] := of_eq_true (eq_self _)
noncomputable def f6_r0 : List EOper := [⟨(some (K.ofNat 4)), none, .as (.c (.b false))⟩]
noncomputable def f6_r1 : List EOper := [⟨(some (K.ofNat 11)), none, .mv (.t (K.ofNat 0))⟩, ⟨(some (K.ofNat 12)), none, .mv (.t (K.ofNat 1))⟩, ⟨(some (K.ofNat 13)), none, .call (.c (.fn (K.ofNat 25) [])) [(.t (K.ofNat 11)), (.t (K.ofNat 12))]⟩, ⟨(some (K.ofNat 10)), none, .mv (.t (K.ofNat 13))⟩, ⟨(some (K.ofNat 14)), none, .ext (.t (K.ofNat 10)) 0⟩, ⟨(some (K.ofNat 15)), none, .ext (.t (K.ofNat 10)) 1⟩, ⟨(some (K.ofNat 5)), none, .as (.t (K.ofNat 14))⟩, ⟨(some (K.ofNat 6)), none, .as (.t (K.ofNat 15))⟩]
noncomputable def f6_r2 : List EOper := [⟨(some (K.ofNat 17)), none, .mv (.t (K.ofNat 5))⟩, ⟨(some (K.ofNat 18)), none, .mv (.t (K.ofNat 6))⟩, ⟨(some (K.ofNat 19)), none, .call (.c (.fn (K.ofNat 23) [])) [(.t (K.ofNat 17)), (.t (K.ofNat 18))]⟩, ⟨(some (K.ofNat 16)), none, .mv (.t (K.ofNat 19))⟩, ⟨(some (K.ofNat 20)), none, .ext (.t (K.ofNat 16)) 0⟩, ⟨(some (K.ofNat 21)), none, .ext (.t (K.ofNat 16)) 1⟩, ⟨(some (K.ofNat 22)), none, .ext (.t (K.ofNat 16)) 2⟩, ⟨(some (K.ofNat 7)), none, .as (.t (K.ofNat 20))⟩, ⟨(some (K.ofNat 8)), none, .as (.t (K.ofNat 21))⟩, ⟨(some (K.ofNat 9)), none, .as (.t (K.ofNat 22))⟩]
noncomputable def f6_r3 : List EOper := [⟨(some (K.ofNat 23)), none, .mv (.t (K.ofNat 5))⟩, ⟨(some (K.ofNat 24)), none, .bin .gtr (.t (K.ofNat 23)) (.c (.i .i64 (.ofNat 6)))⟩]
noncomputable def f6_r4 : List EOper := [⟨(some (K.ofNat 25)), none, .mv (.t (K.ofNat 9))⟩, ⟨(some (K.ofNat 26)), none, .bin .eql (.t (K.ofNat 25)) (.c (.i .i64 (.ofNat 1)))⟩, ⟨(some (K.ofNat 27)), none, .mv (.t (K.ofNat 26))⟩, ⟨(some (K.ofNat 28)), (some ((K.ofNat 27), true)), .mv (.t (K.ofNat 7))⟩, ⟨(some (K.ofNat 29)), (some ((K.ofNat 27), true)), .bin .eql (.t (K.ofNat 28)) (.c (.i .i64 (.ofNat 0)))⟩, ⟨(some (K.ofNat 30)), none, .pick (.t (K.ofNat 27)) (.t (K.ofNat 29)) (.c (.b false))⟩, ⟨(some (K.ofNat 31)), none, .mv (.t (K.ofNat 30))⟩, ⟨(some (K.ofNat 32)), (some ((K.ofNat 31), true)), .mv (.t (K.ofNat 8))⟩, ⟨(some (K.ofNat 33)), (some ((K.ofNat 31), true)), .len (.t (K.ofNat 32))⟩, ⟨(some (K.ofNat 34)), (some ((K.ofNat 31), true)), .bin .eql (.t (K.ofNat 33)) (.c (.i .i64 (.ofNat 0)))⟩, ⟨(some (K.ofNat 35)), none, .pick (.t (K.ofNat 31)) (.t (K.ofNat 34)) (.c (.b false))⟩, ⟨(some (K.ofNat 36)), none, .mv (.t (K.ofNat 35))⟩, ⟨(some (K.ofNat 37)), (some ((K.ofNat 36), true)), .call (.c (.fn (K.ofNat 22) [])) []⟩, ⟨(some (K.ofNat 38)), none, .pick (.t (K.ofNat 36)) (.t (K.ofNat 37)) (.c (.b false))⟩, ⟨(some (K.ofNat 4)), none, .as (.t (K.ofNat 38))⟩]
noncomputable def f6_r5 : List EOper := [⟨(some (K.ofNat 39)), none, .mv (.t (K.ofNat 9))⟩, ⟨(some (K.ofNat 40)), none, .bin .eql (.t (K.ofNat 39)) (.c (.i .i64 (.ofNat 0)))⟩, ⟨(some (K.ofNat 41)), none, .mv (.t (K.ofNat 40))⟩, ⟨(some (K.ofNat 42)), (some ((K.ofNat 41), true)), .mv (.t (K.ofNat 7))⟩, ⟨(some (K.ofNat 43)), (some ((K.ofNat 41), true)), .mv (.t (K.ofNat 5))⟩, ⟨(some (K.ofNat 44)), (some ((K.ofNat 41), true)), .mv (.t (K.ofNat 6))⟩, ⟨(some (K.ofNat 45)), (some ((K.ofNat 41), true)), .call (.c (.fn (K.ofNat 42) [])) [(.t (K.ofNat 43)), (.t (K.ofNat 44))]⟩, ⟨(some (K.ofNat 46)), (some ((K.ofNat 41), true)), .bin .eql (.t (K.ofNat 42)) (.t (K.ofNat 45))⟩, ⟨(some (K.ofNat 47)), none, .pick (.t (K.ofNat 41)) (.t (K.ofNat 46)) (.c (.b false))⟩, ⟨(some (K.ofNat 48)), none, .mv (.t (K.ofNat 47))⟩, ⟨(some (K.ofNat 49)), (some ((K.ofNat 48), true)), .mv (.t (K.ofNat 5))⟩, ⟨(some (K.ofNat 50)), (some ((K.ofNat 48), true)), .mv (.t (K.ofNat 8))⟩, ⟨(some (K.ofNat 51)), (some ((K.ofNat 48), true)), .call (.c (.fn (K.ofNat 14) [])) [(.t (K.ofNat 49)), (.t (K.ofNat 50))]⟩, ⟨(some (K.ofNat 52)), (some ((K.ofNat 48), true)), .bin .eql (.t (K.ofNat 51)) (.c (.i .i64 (.ofNat 0)))⟩, ⟨(some (K.ofNat 53)), none, .pick (.t (K.ofNat 48)) (.t (K.ofNat 52)) (.c (.b false))⟩, ⟨(some (K.ofNat 54)), none, .mv (.t (K.ofNat 53))⟩, ⟨(some (K.ofNat 55)), (some ((K.ofNat 54), true)), .mv (.t (K.ofNat 5))⟩, ⟨(some (K.ofNat 56)), (some ((K.ofNat 54), true)), .mv (.t (K.ofNat 8))⟩, ⟨(some (K.ofNat 57)), (some ((K.ofNat 54), true)), .mv (.t (K.ofNat 6))⟩, ⟨(some (K.ofNat 58)), (some ((K.ofNat 54), true)), .call (.c (.fn (K.ofNat 43) [])) [(.t (K.ofNat 55)), (.t (K.ofNat 56)), (.t (K.ofNat 57))]⟩, ⟨(some (K.ofNat 59)), none, .pick (.t (K.ofNat 54)) (.t (K.ofNat 58)) (.c (.b false))⟩, ⟨(some (K.ofNat 60)), none, .mv (.t (K.ofNat 59))⟩, ⟨(some (K.ofNat 61)), (some ((K.ofNat 60), true)), .mv (.t (K.ofNat 5))⟩, ⟨(some (K.ofNat 62)), (some ((K.ofNat 60), true)), .mv (.t (K.ofNat 8))⟩, ⟨(some (K.ofNat 63)), (some ((K.ofNat 60), true)), .call (.c (.fn (K.ofNat 27) [])) [(.t (K.ofNat 61)), (.t (K.ofNat 62))]⟩, ⟨(some (K.ofNat 64)), (some ((K.ofNat 60), true)), .mv (.t (K.ofNat 7))⟩, ⟨(some (K.ofNat 65)), (some ((K.ofNat 60), true)), .bin .eql (.t (K.ofNat 63)) (.t (K.ofNat 64))⟩, ⟨(some (K.ofNat 66)), none, .pick (.t (K.ofNat 60)) (.t (K.ofNat 65)) (.c (.b false))⟩, ⟨(some (K.ofNat 67)), none, .mv (.t (K.ofNat 66))⟩, ⟨(some (K.ofNat 68)), (some ((K.ofNat 67), true)), .call (.c (.fn (K.ofNat 22) [])) []⟩, ⟨(some (K.ofNat 69)), none, .pick (.t (K.ofNat 67)) (.t (K.ofNat 68)) (.c (.b false))⟩, ⟨(some (K.ofNat 4)), none, .as (.t (K.ofNat 69))⟩]
noncomputable def f6_c : EC := (.seq (.reg f6_r0) (.seq (.reg f6_r1) (.seq (.reg f6_r2) (.seq (.seq (.reg f6_r3) (.cond (.t (K.ofNat 24)) (.seq (.reg f6_r4) .ret) .skip)) (.seq (.reg f6_r5) .ret)))))
noncomputable def f6 : EF := ⟨70, [.tmp (K.ofNat 4)], f6_c, none⟩
theorem f6_rs : f6.rs = [.tmp (K.ofNat 4)] := of_eq_true (eq_self _)
structure CallsLe (fs : T EF) : Prop extends CallsFo fs, CallsTd fs, CallsH fs where
  w23 : fs.get (K.ofNat 23) = some f23
  w26 : fs.get (K.ofNat 26) = some f26
  w27 : fs.get (K.ofNat 27) = some f27
  w42 : fs.get (K.ofNat 42) = some f42
  w43 : fs.get (K.ofNat 43) = some f43
  w60 : fs.get (K.ofNat 60) = some f60
section
variable {fs : T EF} {h : H} {v u : V} {us ws : List V} {n : Nat} {Q Ls : List (List (Int × Int))}
theorem op_fl {l l' : List (Int × Int)} (hf : FlL l l') (hr : rndB n l = true) (hr' : rndB n l' = true) {t : Nat} (ht : t < n) : opF l' (t : Int) = opF l (t : Int) := by
  have h1 := op_mem (rnd_all hr' (t := (t : Int)) ⟨by omega, by omega⟩)
  refine (op_of (rnd_nd hr) ?_).symm
  rcases h1 with h1 | h1
  · obtain ⟨y, hy, e⟩ := hf.mem _ h1
    rcases e with e | e
    · left; rw [e]; exact hy
    · right
      obtain ⟨y1, y2⟩ := y
      injection e with e1 e2
      have hy' : (y1, y2) = (opF l' (t : Int), (t : Int)) := by rw [Prod.mk.injEq]; exact ⟨e2.symm, e1.symm⟩
      rw [← hy']; exact hy
  · obtain ⟨y, hy, e⟩ := hf.mem _ h1
    rcases e with e | e
    · right; rw [e]; exact hy
    · left
      obtain ⟨y1, y2⟩ := y
      injection e with e1 e2
      have hy' : (y1, y2) = ((t : Int), opF l' (t : Int)) := by rw [Prod.mk.injEq]; exact ⟨e2.symm, e1.symm⟩
      rw [← hy']; exact hy
def f43_I (h : H) (n : Nat) (u v : V) (Q : List (List (Int × Int))) (r : Nat) (fr : Fr) (h1 : H) : Prop := r ≤ Q.length ∧ h1 = h ∧ fr.get (K.ofNat 0) = some (.i .i64 (n : Int)) ∧ fr.get (K.ofNat 1) = some (u) ∧ fr.get (K.ofNat 2) = some (v) ∧ fr.get (K.ofNat 7) = some (.i .i64 (r : Int))
def f43_J (h : H) (n : Nat) (u v : V) (r : Nat) (t : Nat) (fr : Fr) (h1 : H) : Prop := t ≤ n ∧ h1 = h ∧ fr.get (K.ofNat 0) = some (.i .i64 (n : Int)) ∧ fr.get (K.ofNat 1) = some (u) ∧ fr.get (K.ofNat 2) = some (v) ∧ fr.get (K.ofNat 7) = some (.i .i64 (r : Int)) ∧ fr.get (K.ofNat 8) = some (.i .i64 (t : Int))
theorem f43_ret (h64 : fs.get (K.ofNat 64) = some f64) (s : Sched n Ls) (s' : Sched n Q) (hq : AltP Ls Ls.length Q) (hu : Nrp h u ws Q) (hv : Nrp h v us Ls) : Ret fs f43 [.i .i64 (n : Int), u, v] h fun r h' => r = .b true ∧ h' = h := by
  obtain ⟨hb10, hb2⟩ := s.bd
  have hql := s.len
  have hlu : ∀ h1, lenV u h1 = .ok (.i .i64 (Q.length : Int)) h1 := fun h1 => by rw [hu.out.len, hu.len]
  have hlv : ∀ h1, lenV v h1 = .ok (.i .i64 (Q.length : Int)) h1 := fun h1 => by rw [hv.out.len, hv.len, hq.1]
  have nel : decide ((Q.length : Int) ≠ (Q.length : Int)) = false := by simp
  have hQl := hq.1
  apply ret_of rfl
  show W fs none f43_c _ _ _
  unfold f43_c
  simp (disch := omega) only [f43_r0, f43_r1, f43_r3, w_skip, w_reg, w_seq, w_cond, w_block, seqK_n, ckB_b, cbB_b, true_and, x_nil, x_mv, x_as, x_bin, x_len, kx, rvP_ok, okv_some, ev_t, ev_c, getV_some, putD_some, bin_neq, frame_3, of0, getK_set, Nat.reduceEqDiff, ↓reduceIte, Bool.false_eq_true, hlu, hlv, nel]
  refine W_loop (f43_I h n u v Q) (fun i => Q.length - i) ?_ 0 ⟨by omega, rfl, by simp (disch := omega) only [getK_set, Nat.reduceEqDiff, ↓reduceIte, and_self, Int.natCast_zero]⟩
  rintro r fr h1 ⟨hr, rfl, g0, g1, g2, g7⟩
  unfold f43_l1
  by_cases hlt : r < Q.length
  · have d0 : decide ((r : Int) < (Q.length : Int)) = true := decide_eq_true (by omega)
    have hru : r < ws.length := by rw [hu.len]; exact hlt
    have hrl : r < Ls.length := by omega
    have hrv : r < us.length := by rw [hv.len]; exact hrl
    obtain ⟨p, p1, p2⟩ := hu.out.at r hru
    obtain ⟨q, q1, q2⟩ := hv.out.at r hrv
    have p2 : loadV h1 p one? = .ok ws[r] h1 := p2
    have q2 : loadV h1 q one? = .ok us[r] h1 := q2
    have su := hu.inn r hru hlt
    have sv := hv.inn r hrv hrl
    have r1 := s'.vd.rnd _ (List.getElem_mem hlt)
    have r2 := s.vd.rnd _ (List.getElem_mem hrl)
    have l1 := s'.row _ (List.getElem_mem hlt)
    have l2 := s.row _ (List.getElem_mem hrl)
    have hfl : FlL Ls[r] Q[r] := by
      obtain ⟨x, _, e⟩ := hq.2 r hrl
      rw [getD_at hlt, getD_at hrl] at e
      rw [e]; exact ver_fl
    simp (disch := omega) only [f43_r4, f43_r5, w_skip, w_reg, w_seq, w_cond, w_block, seqK_n, ckB_b, cbB_b, true_and, x_nil, x_mv, x_as, x_bin, x_len, kx, rvP_ok, okv_some, ev_t, ev_c, getV_some, putD_some, bin_lss, of0, getK_set, Nat.reduceEqDiff, ↓reduceIte, g1, g7, hlu, d0]
    refine W_loop (f43_J h1 n u v r) (fun t => n - t) ?_ 0 ⟨by omega, rfl, by simp (disch := omega) only [getK_set, Nat.reduceEqDiff, ↓reduceIte, g0, g1, g2, g7, and_self, Int.natCast_zero]⟩
    clear g0 g1 g2 g7 fr
    rintro t fr h2 ⟨ht, rfl, g0, g1, g2, g7, g8⟩
    unfold f43_l0
    by_cases hlt2 : t < n
    · have d1 : decide ((t : Int) < (n : Int)) = true := decide_eq_true (by omega)
      have o1 : (homeP Q[r] (t : Int)).2 = opF Q[r] (t : Int) := (homeP_nd (rnd_nd r1)).2 (rnd_all r1 ⟨by omega, by omega⟩)
      have o2 : (homeP Ls[r] (t : Int)).2 = opF Ls[r] (t : Int) := (homeP_nd (rnd_nd r2)).2 (rnd_all r2 ⟨by omega, by omega⟩)
      have o3 := op_fl hfl r2 r1 hlt2
      have nex : ∀ x : Int, decide (x ≠ x) = false := fun x => by simp
      simp (disch := omega) only [f43_r6, f43_r7, w_skip, w_reg, w_seq, w_cond, w_block, seqK_n, ckB_b, cbB_b, true_and, x_nil, x_mv, x_ld, x_bin, x_iads, x_call, kx, rvP_ok, okv_some, ev_t, ev_c, evs_nil, evs_cons, getV_some, putD_some, bin_lss, getK_set, Nat.reduceEqDiff, ↓reduceIte, g0, g1, g7, g8, d1, p1, p2]
      refine (callP_0 (ef := f64) h64 rfl (f64_ret (t := (t : Int)) su (by omega))).mono ?_
      rintro r3 h3 ⟨rfl, e3⟩
      rw [e3, o1, o3]
      clear e3 h3
      simp (disch := omega) only [f43_r8, w_reg, w_seq, seqK_n, x_nil, x_mv, x_as, x_ld, x_iads, x_ext, x_call, kx, rvP_ok, okv_some, ev_t, ev_c, evs_nil, evs_cons, getV_some, putD_some, onTup_t, nth0, nth1, getK_set, Nat.reduceEqDiff, ↓reduceIte, g2, g7, g8, q1, q2]
      refine (callP_0 (ef := f64) h64 rfl (f64_ret (t := (t : Int)) sv (by omega))).mono ?_
      rintro r3 h3 ⟨rfl, e3⟩
      rw [e3, o2]
      clear e3 h3
      simp (disch := omega) only [f43_r9, f43_r11, w_skip, w_reg, w_seq, w_cond, seqK_n, atK_n, loopK_n, ckB_b, cbB_b, true_and, x_nil, x_mv, x_as, x_bin, x_ext, kx, rvP_ok, okv_some, ev_t, ev_c, getV_some, putD_some, bin_add, bin_neq, onTup_t, nth0, nth1, of1, getK_set, Nat.reduceEqDiff, ↓reduceIte, Bool.false_eq_true, g8, nex, fw64]
      exact ⟨t + 1, by omega, by omega, rfl, by simp (disch := omega) only [getK_set, Nat.reduceEqDiff, ↓reduceIte, g0, g1, g2, g7, and_self, Int.natCast_add, Int.natCast_one]⟩
    · have d1 : decide ((t : Int) < (n : Int)) = false := decide_eq_false (by omega)
      simp (disch := omega) only [f43_r6, f43_r12, w_reg, w_seq, w_cond, w_exit, seqK_n, seqK_e, atK_n, atK_e, loopK_n, loopK_e, ckB_b, cbB_b, true_and, x_nil, x_mv, x_as, x_bin, kx, rvP_ok, okv_some, ev_t, ev_c, getV_some, putD_some, bin_add, bin_lss, of1, getK_set, Nat.reduceEqDiff, ↓reduceIte, Bool.false_eq_true, g0, g7, g8, d1, fw64]
      exact ⟨r + 1, by omega, by omega, rfl, by simp (disch := omega) only [getK_set, Nat.reduceEqDiff, ↓reduceIte, g0, g1, g2, and_self, Int.natCast_add, Int.natCast_one]⟩
  · have d0 : decide ((r : Int) < (Q.length : Int)) = false := decide_eq_false (by omega)
    simp (disch := omega) only [f43_r4, f43_r13, f43_rs, w_reg, w_seq, w_cond, w_exit, w_ret, seqK_n, seqK_e, atK_e, loopK_e, ckB_b, cbB_b, retK_r, x_nil, x_mv, x_as, x_bin, x_len, kx, rvP_ok, okv_some, ev_t, ev_c, getV_some, putD_some, bin_lss, oGet_s, readRs_nil, readRs_t, retV_1, Option.some.injEq, exists_eq_left', getK_set, Nat.reduceEqDiff, ↓reduceIte, Bool.false_eq_true, g1, g7, hlu, d0, and_self]
/-- Least, of too many teams. -/
theorem f23_big (kc : CallsCh fs) (s : Sched n Ls) (hn : 6 < n) (hv : Nrp h v us Ls) (hc : HC h) : Ret fs f23 [.i .i64 (n : Int), v] h fun r h' => r = .tup [.i .i64 0, .sn, .i .i64 1] ∧ Grow h.nx.nat h h' := by
  have ne0 : decide ((0 : Int) ≠ 0) = false := rfl
  have d6 : decide ((n : Int) > 6) = true := decide_eq_true (by omega)
  apply ret_of rfl
  show W fs none f23_c _ _ _
  unfold f23_c
  simp (disch := omega) only [f23_r0, f23_r1, w_reg, w_seq, seqK_n, x_nil, x_mv, x_as, x_call, ev_t, ev_c, evs_nil, evs_cons, getV_some, putD_some, frame_2, of0, getK_set, Nat.reduceEqDiff, ↓reduceIte]
  refine (callP_0 (ef := f51) kc.c51 rfl (f51_ret kc s.ok hv s.big hc)).mono ?_
  rintro r h1 ⟨c, ws, rfl, _, hG1⟩
  simp (disch := omega) only [f23_r2, f23_r4, f23_r5, f23_rs, w_skip, w_reg, w_seq, w_cond, w_ret, seqK_n, seqK_r, ckB_b, cbB_b, true_and, retK_r, x_nil, x_mv, x_as, x_bin, x_ext, kx, rvP_ok, okv_some, ev_t, ev_c, getV_some, putD_some, bin_neq, bin_gtr, onTup_t, oGet_s, nth0, nth1, readRs_nil, readRs_t, retV_2, of0, of1, of6, Option.some.injEq, exists_eq_left', getK_set, Nat.reduceEqDiff, ↓reduceIte, Bool.false_eq_true, s.sh, ne0, d6]
  exact hG1
theorem f6_ret {B : List Int} {sd : Int} (k : CallsLe fs) (hv : Sr iE h v B) (hB : B.length ≤ 9223372036854775807) (hc : HC h) : Ret fs f6 [.i .i64 sd, v] h fun r h' => r = .b true ∧ Grow h.nx.nat h h' := by
  have aw := k.aw
  have ee : ∀ x : Int, decide (x = x) = true := fun x => by simp
  apply ret_of rfl
  show W fs none f6_c _ _ _
  unfold f6_c
  simp (disch := omega) only [f6_r0, f6_r1, w_reg, w_seq, seqK_n, x_nil, x_mv, x_as, x_call, ev_t, ev_c, evs_nil, evs_cons, getV_some, putD_some, frame_2, getK_set, Nat.reduceEqDiff, ↓reduceIte]
  refine (callP_0 (ef := f25) k.c25 rfl (f25_ret (n := sd) k.toCallsTm hv hB hc)).mono ?_
  rintro r h1 ⟨m, c, ws, rfl, hm, hS, hG1⟩
  have ho := teams_nat hm
  have s : Sched m (tameL m B) := Sched.of ho (tame_sh ho)
  obtain ⟨hb10, hb2⟩ := s.bd
  have hql := s.len
  have hc1 := hG1.hc hc
  by_cases h6 : 6 < m
  · have d6 : decide ((m : Int) > 6) = true := decide_eq_true (by omega)
    simp (disch := omega) only [f6_r2, w_reg, w_seq, seqK_n, x_nil, x_mv, x_as, x_ext, x_call, kx, rvP_ok, okv_some, ev_t, ev_c, evs_nil, evs_cons, getV_some, putD_some, onTup_t, nth0, nth1, getK_set, Nat.reduceEqDiff, ↓reduceIte]
    refine (callP_0 (ef := f23) k.w23 rfl (f23_big k.toCallsCh s h6 hS hc1)).mono ?_
    rintro r h2 ⟨rfl, hG2⟩
    simp (disch := omega) only [f6_r3, f6_r4, f6_rs, w_reg, w_seq, w_cond, w_ret, seqK_n, seqK_r, ckB_b, cbB_b, okG_b, asG_t, true_and, retK_r, x_nil, x_g, x_mv, x_as, x_pick, x_bin, x_ext, x_call, x_len, kx, rvP_ok, okv_some, ev_t, ev_c, evs_nil, getV_some, putD_some, bin_eql, bin_gtr, pick_b, onTup_t, oGet_s, nth0, nth1, nth2, len_sn, readRs_nil, readRs_t, retV_1, of0, of1, of6, Option.some.injEq, exists_eq_left', getK_set, Nat.reduceEqDiff, ↓reduceIte, decide_eq_true_eq, d6, aw]
    exact hG1.trans (hG2.low hG1.nx)
  · have d6 : decide ((m : Int) > 6) = false := decide_eq_false (by omega)
    simp (disch := omega) only [f6_r2, w_reg, w_seq, seqK_n, x_nil, x_mv, x_as, x_ext, x_call, kx, rvP_ok, okv_some, ev_t, ev_c, evs_nil, evs_cons, getV_some, putD_some, onTup_t, nth0, nth1, getK_set, Nat.reduceEqDiff, ↓reduceIte]
    refine (callP_0 (ef := f23) k.w23 rfl (f23_ok k.toCallsTd k.toCallsCh k.w60 s (by omega) hS hc1)).mono ?_
    rintro r h2 ⟨u, ys, Q, rfl, hu, ha, hmin, hG2⟩
    have hc2 := hG2.hc hc1
    have hS2 := hS.grow hc1 hG2
    have s' := alt_sched s ha
    have hql' := s'.len
    have hGa := hG1.trans (hG2.low hG1.nx)
    have hck : ckI m Q = 0 := by unfold ckI; rw [if_pos s'.sh]
    simp (disch := omega) only [f6_r3, f6_r5, w_skip, w_reg, w_seq, w_cond, seqK_n, ckB_b, cbB_b, okG_b, asG_t, true_and, x_nil, x_g, x_mv, x_as, x_bin, x_ext, x_call, kx, rvP_ok, okv_some, ev_t, ev_c, evs_nil, evs_cons, getV_some, putD_some, bin_eql, bin_gtr, onTup_t, nth0, nth1, nth2, of0, of6, getK_set, Nat.reduceEqDiff, ↓reduceIte, Bool.false_eq_true, decide_eq_true_eq, d6]
    refine (callP_0 (ef := f42) k.w42 rfl (f42_ret s hS2 hc2)).mono ?_
    rintro r h3 ⟨rfl, hG3⟩
    rw [le_min s ha hmin]
    have hc3 := hG3.hc hc2
    have hu3 := hu.grow hc2 hG3
    have hS3 := hS2.grow hc2 hG3
    have hGb := hGa.trans (hG3.low hGa.nx)
    simp (disch := omega) only [okG_b, asG_t, true_and, x_g, x_mv, x_pick, x_bin, x_call, kx, rvP_ok, okv_some, ev_t, ev_c, evs_nil, evs_cons, getV_some, putD_some, bin_eql, pick_b, getK_set, Nat.reduceEqDiff, ↓reduceIte, decide_eq_true_eq]
    refine (callP_0 (ef := f14) k.c14 rfl (f14_ret k.toCallsRc s'.ok hu3 (by omega) s'.big hc3)).mono ?_
    rintro r h4 ⟨rfl, hG4⟩
    rw [hck]
    have hc4 := hG4.hc hc3
    have hu4 := hu3.grow hc3 hG4
    have hS4 := hS3.grow hc3 hG4
    have hGc := hGb.trans (hG4.low hGb.nx)
    simp (disch := omega) only [okG_b, asG_t, true_and, x_g, x_mv, x_pick, x_bin, x_call, kx, rvP_ok, okv_some, ev_t, ev_c, evs_nil, evs_cons, getV_some, putD_some, bin_eql, pick_b, getK_set, Nat.reduceEqDiff, ↓reduceIte, decide_eq_true_eq]
    refine (callP_0 (ef := f43) k.w43 rfl (f43_ret k.c64 s s' ha hu4 hS4)).mono ?_
    rintro r h5 ⟨rfl, e5⟩
    rw [e5]
    clear e5 h5
    simp (disch := omega) only [okG_b, asG_t, true_and, x_g, x_mv, x_pick, x_call, kx, rvP_ok, ev_t, ev_c, evs_nil, evs_cons, getV_some, putD_some, pick_b, getK_set, Nat.reduceEqDiff, ↓reduceIte, decide_eq_true_eq]
    refine (callP_0 (ef := f27) k.w27 rfl (f27_ret k.w26 k.c64 (by omega) hu4 s'.vd ⟨by omega, by omega⟩ hc4)).mono ?_
    rintro r h6' ⟨rfl, hG6⟩
    rw [show smI (bkL m Q (Q.length - 1)) = brk m Q from rfl]
    simp (disch := omega) only [f6_rs, w_ret, seqK_n, okG_b, asG_t, true_and, retK_r, x_nil, x_g, x_mv, x_as, x_pick, x_bin, x_call, kx, rvP_ok, okv_some, ev_t, ev_c, evs_nil, getV_some, putD_some, bin_eql, pick_b, oGet_s, readRs_nil, readRs_t, retV_1, Option.some.injEq, exists_eq_left', getK_set, Nat.reduceEqDiff, ↓reduceIte, decide_eq_true_eq, aw]
    exact hGc.trans (hG6.low hGc.nx)
end
end Go.Ev
