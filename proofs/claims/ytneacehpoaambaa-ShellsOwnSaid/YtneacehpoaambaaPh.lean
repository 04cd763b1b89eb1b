/-
  The law ShellsOwn.
  Facts of ShellsOwn.
-/
import Derived.Test.YtneacehpoaambaaPg
import Derived.Test.YtneacehpoaambaaPf
namespace Go.Ev
open Go Go.RowKit
noncomputable def f13_r0 : List EOper := [⟨(some (K.ofNat 4)), none, .as (.c (.b false))⟩]
noncomputable def f13_r1 : List EOper := [⟨(some (K.ofNat 25)), none, .mv (.t (K.ofNat 0))⟩, ⟨(some (K.ofNat 26)), none, .mv (.t (K.ofNat 1))⟩, ⟨(some (K.ofNat 27)), none, .call (.c (.fn (K.ofNat 30) [])) [(.t (K.ofNat 25)), (.t (K.ofNat 26))]⟩, ⟨(some (K.ofNat 24)), none, .mv (.t (K.ofNat 27))⟩, ⟨(some (K.ofNat 28)), none, .ext (.t (K.ofNat 24)) 0⟩, ⟨(some (K.ofNat 29)), none, .ext (.t (K.ofNat 24)) 1⟩, ⟨(some (K.ofNat 5)), none, .as (.t (K.ofNat 28))⟩, ⟨(some (K.ofNat 6)), none, .as (.t (K.ofNat 29))⟩]
noncomputable def f13_r2 : List EOper := [⟨(some (K.ofNat 30)), none, .mv (.t (K.ofNat 6))⟩, ⟨(some (K.ofNat 31)), none, .call (.c (.fn (K.ofNat 14) [])) [(.t (K.ofNat 30)), (.c (.i .i64 (.ofNat 20)))]⟩, ⟨(some (K.ofNat 7)), none, .as (.t (K.ofNat 31))⟩]
noncomputable def f13_r3 : List EOper := [⟨(some (K.ofNat 33)), none, .mv (.t (K.ofNat 5))⟩, ⟨(some (K.ofNat 34)), none, .mv (.t (K.ofNat 6))⟩, ⟨(some (K.ofNat 35)), none, .call (.c (.fn (K.ofNat 17) [])) [(.t (K.ofNat 33)), (.t (K.ofNat 34))]⟩, ⟨(some (K.ofNat 32)), none, .mv (.t (K.ofNat 35))⟩, ⟨(some (K.ofNat 36)), none, .ext (.t (K.ofNat 32)) 0⟩, ⟨(some (K.ofNat 37)), none, .ext (.t (K.ofNat 32)) 1⟩, ⟨(some (K.ofNat 8)), none, .as (.t (K.ofNat 36))⟩, ⟨(some (K.ofNat 9)), none, .as (.t (K.ofNat 37))⟩]
noncomputable def f13_r4 : List EOper := [⟨(some (K.ofNat 39)), none, .mv (.t (K.ofNat 5))⟩, ⟨(some (K.ofNat 40)), none, .mv (.t (K.ofNat 6))⟩, ⟨(some (K.ofNat 41)), none, .call (.c (.fn (K.ofNat 48) [])) [(.t (K.ofNat 39)), (.t (K.ofNat 40))]⟩, ⟨(some (K.ofNat 38)), none, .mv (.t (K.ofNat 41))⟩, ⟨(some (K.ofNat 42)), none, .ext (.t (K.ofNat 38)) 0⟩, ⟨(some (K.ofNat 43)), none, .ext (.t (K.ofNat 38)) 1⟩, ⟨(some (K.ofNat 10)), none, .as (.t (K.ofNat 42))⟩, ⟨(some (K.ofNat 11)), none, .as (.t (K.ofNat 43))⟩]
noncomputable def f13_r5 : List EOper := [⟨(some (K.ofNat 45)), none, .mv (.t (K.ofNat 5))⟩, ⟨(some (K.ofNat 46)), none, .mv (.t (K.ofNat 6))⟩, ⟨(some (K.ofNat 47)), none, .call (.c (.fn (K.ofNat 19) [])) [(.t (K.ofNat 45)), (.t (K.ofNat 46))]⟩, ⟨(some (K.ofNat 44)), none, .mv (.t (K.ofNat 47))⟩, ⟨(some (K.ofNat 48)), none, .ext (.t (K.ofNat 44)) 0⟩, ⟨(some (K.ofNat 49)), none, .ext (.t (K.ofNat 44)) 1⟩, ⟨(some (K.ofNat 12)), none, .as (.t (K.ofNat 48))⟩, ⟨(some (K.ofNat 13)), none, .as (.t (K.ofNat 49))⟩]
noncomputable def f13_r6 : List EOper := [⟨(some (K.ofNat 51)), none, .mv (.t (K.ofNat 5))⟩, ⟨(some (K.ofNat 52)), none, .mv (.t (K.ofNat 6))⟩, ⟨(some (K.ofNat 53)), none, .call (.c (.fn (K.ofNat 21) [])) [(.t (K.ofNat 51)), (.t (K.ofNat 52))]⟩, ⟨(some (K.ofNat 50)), none, .mv (.t (K.ofNat 53))⟩, ⟨(some (K.ofNat 54)), none, .ext (.t (K.ofNat 50)) 0⟩, ⟨(some (K.ofNat 55)), none, .ext (.t (K.ofNat 50)) 1⟩, ⟨(some (K.ofNat 56)), none, .ext (.t (K.ofNat 50)) 2⟩, ⟨(some (K.ofNat 14)), none, .as (.t (K.ofNat 54))⟩, ⟨(some (K.ofNat 15)), none, .as (.t (K.ofNat 55))⟩, ⟨(some (K.ofNat 16)), none, .as (.t (K.ofNat 56))⟩]
noncomputable def f13_r7 : List EOper := [⟨(some (K.ofNat 58)), none, .mv (.t (K.ofNat 5))⟩, ⟨(some (K.ofNat 59)), none, .mv (.t (K.ofNat 6))⟩, ⟨(some (K.ofNat 60)), none, .call (.c (.fn (K.ofNat 27) [])) [(.t (K.ofNat 58)), (.t (K.ofNat 59)), (.c (.i .i64 (.ofNat 0)))]⟩, ⟨(some (K.ofNat 57)), none, .mv (.t (K.ofNat 60))⟩, ⟨(some (K.ofNat 61)), none, .ext (.t (K.ofNat 57)) 0⟩, ⟨(some (K.ofNat 62)), none, .ext (.t (K.ofNat 57)) 1⟩, ⟨(some (K.ofNat 17)), none, .as (.t (K.ofNat 61))⟩, ⟨(some (K.ofNat 18)), none, .as (.t (K.ofNat 62))⟩]
noncomputable def f13_r8 : List EOper := [⟨(some (K.ofNat 63)), none, .mv (.t (K.ofNat 8))⟩, ⟨(some (K.ofNat 64)), none, .mv (.t (K.ofNat 10))⟩, ⟨(some (K.ofNat 65)), none, .mv (.t (K.ofNat 12))⟩, ⟨(some (K.ofNat 66)), none, .mv (.t (K.ofNat 14))⟩, ⟨(some (K.ofNat 67)), none, .mv (.t (K.ofNat 17))⟩, ⟨(some (K.ofNat 68)), none, .bslice 5 1 [.sn, .sn, .sn, .sn, .sn] [(0, 1, (.t (K.ofNat 63))), (1, 1, (.t (K.ofNat 64))), (2, 1, (.t (K.ofNat 65))), (3, 1, (.t (K.ofNat 66))), (4, 1, (.t (K.ofNat 67)))]⟩, ⟨(some (K.ofNat 19)), none, .as (.t (K.ofNat 68))⟩]
noncomputable def f13_r9 : List EOper := [⟨(some (K.ofNat 20)), none, .as (.c (.i .i64 (.ofNat 0)))⟩]
noncomputable def f13_r10 : List EOper := [⟨(some (K.ofNat 69)), none, .mv (.t (K.ofNat 20))⟩, ⟨(some (K.ofNat 70)), none, .mv (.t (K.ofNat 19))⟩, ⟨(some (K.ofNat 71)), none, .len (.t (K.ofNat 70))⟩, ⟨(some (K.ofNat 72)), none, .bin .lss (.t (K.ofNat 69)) (.t (K.ofNat 71))⟩]
noncomputable def f13_r11 : List EOper := [⟨(some (K.ofNat 21)), none, .as (.c (.i .i64 (.ofNat 0)))⟩]
noncomputable def f13_r12 : List EOper := [⟨(some (K.ofNat 75)), none, .mv (.t (K.ofNat 21))⟩, ⟨(some (K.ofNat 76)), none, .mv (.t (K.ofNat 19))⟩, ⟨(some (K.ofNat 77)), none, .mv (.t (K.ofNat 20))⟩, ⟨(some (K.ofNat 78)), none, .iads 1 (.t (K.ofNat 76)) (.t (K.ofNat 77))⟩, ⟨(some (K.ofNat 79)), none, .ld (.t (K.ofNat 78))⟩, ⟨(some (K.ofNat 80)), none, .len (.t (K.ofNat 79))⟩, ⟨(some (K.ofNat 81)), none, .bin .lss (.t (K.ofNat 75)) (.t (K.ofNat 80))⟩]
noncomputable def f13_r13 : List EOper := [⟨(some (K.ofNat 84)), none, .mv (.t (K.ofNat 19))⟩, ⟨(some (K.ofNat 85)), none, .mv (.t (K.ofNat 20))⟩, ⟨(some (K.ofNat 86)), none, .iads 1 (.t (K.ofNat 84)) (.t (K.ofNat 85))⟩, ⟨(some (K.ofNat 87)), none, .ld (.t (K.ofNat 86))⟩, ⟨(some (K.ofNat 88)), none, .mv (.t (K.ofNat 21))⟩, ⟨(some (K.ofNat 89)), none, .iads 1 (.t (K.ofNat 87)) (.t (K.ofNat 88))⟩, ⟨none, none, .st 1 (.t (K.ofNat 89)) (.c (.i .i64 (.negSucc 6)))⟩]
noncomputable def f13_r14 : List EOper := [⟨(some (K.ofNat 82)), none, .mv (.t (K.ofNat 21))⟩, ⟨(some (K.ofNat 83)), none, .bin .add (.t (K.ofNat 82)) (.c (.i .i64 (.ofNat 1)))⟩, ⟨(some (K.ofNat 21)), none, .as (.t (K.ofNat 83))⟩]
noncomputable def f13_l0 : EC := (.seq (.seq (.reg f13_r12) (.cond (.t (K.ofNat 81)) .skip (.exit 2))) (.seq (.block 3 (.reg f13_r13)) (.reg f13_r14)))
noncomputable def f13_r15 : List EOper := [⟨(some (K.ofNat 73)), none, .mv (.t (K.ofNat 20))⟩, ⟨(some (K.ofNat 74)), none, .bin .add (.t (K.ofNat 73)) (.c (.i .i64 (.ofNat 1)))⟩, ⟨(some (K.ofNat 20)), none, .as (.t (K.ofNat 74))⟩]
noncomputable def f13_l1 : EC := (.seq (.seq (.reg f13_r10) (.cond (.t (K.ofNat 72)) .skip (.exit 0))) (.seq (.block 1 (.seq (.reg f13_r11) (.block 2 (.loop f13_l0)))) (.reg f13_r15)))
noncomputable def f13_r16 : List EOper := [⟨(some (K.ofNat 91)), none, .mv (.t (K.ofNat 5))⟩, ⟨(some (K.ofNat 92)), none, .mv (.t (K.ofNat 6))⟩, ⟨(some (K.ofNat 93)), none, .call (.c (.fn (K.ofNat 17) [])) [(.t (K.ofNat 91)), (.t (K.ofNat 92))]⟩, ⟨(some (K.ofNat 90)), none, .mv (.t (K.ofNat 93))⟩, ⟨(some (K.ofNat 94)), none, .ext (.t (K.ofNat 90)) 0⟩, ⟨(some (K.ofNat 95)), none, .ext (.t (K.ofNat 90)) 1⟩, ⟨(some (K.ofNat 22)), none, .as (.t (K.ofNat 94))⟩, ⟨(some (K.ofNat 23)), none, .as (.t (K.ofNat 95))⟩]
noncomputable def f13_r17 : List EOper := [⟨(some (K.ofNat 96)), none, .mv (.t (K.ofNat 9))⟩, ⟨(some (K.ofNat 97)), none, .bin .eql (.t (K.ofNat 96)) (.c (.i .i64 (.ofNat 0)))⟩, ⟨(some (K.ofNat 98)), none, .mv (.t (K.ofNat 97))⟩, ⟨(some (K.ofNat 99)), (some ((K.ofNat 98), true)), .mv (.t (K.ofNat 11))⟩, ⟨(some (K.ofNat 100)), (some ((K.ofNat 98), true)), .bin .eql (.t (K.ofNat 99)) (.c (.i .i64 (.ofNat 0)))⟩, ⟨(some (K.ofNat 101)), none, .pick (.t (K.ofNat 98)) (.t (K.ofNat 100)) (.c (.b false))⟩, ⟨(some (K.ofNat 102)), none, .mv (.t (K.ofNat 101))⟩, ⟨(some (K.ofNat 103)), (some ((K.ofNat 102), true)), .mv (.t (K.ofNat 13))⟩, ⟨(some (K.ofNat 104)), (some ((K.ofNat 102), true)), .bin .eql (.t (K.ofNat 103)) (.c (.i .i64 (.ofNat 0)))⟩, ⟨(some (K.ofNat 105)), none, .pick (.t (K.ofNat 102)) (.t (K.ofNat 104)) (.c (.b false))⟩, ⟨(some (K.ofNat 106)), none, .mv (.t (K.ofNat 105))⟩, ⟨(some (K.ofNat 107)), (some ((K.ofNat 106), true)), .mv (.t (K.ofNat 16))⟩, ⟨(some (K.ofNat 108)), (some ((K.ofNat 106), true)), .bin .eql (.t (K.ofNat 107)) (.c (.i .i64 (.ofNat 0)))⟩, ⟨(some (K.ofNat 109)), none, .pick (.t (K.ofNat 106)) (.t (K.ofNat 108)) (.c (.b false))⟩, ⟨(some (K.ofNat 110)), none, .mv (.t (K.ofNat 109))⟩, ⟨(some (K.ofNat 111)), (some ((K.ofNat 110), true)), .mv (.t (K.ofNat 18))⟩, ⟨(some (K.ofNat 112)), (some ((K.ofNat 110), true)), .bin .eql (.t (K.ofNat 111)) (.c (.i .i64 (.ofNat 0)))⟩, ⟨(some (K.ofNat 113)), none, .pick (.t (K.ofNat 110)) (.t (K.ofNat 112)) (.c (.b false))⟩, ⟨(some (K.ofNat 114)), none, .mv (.t (K.ofNat 113))⟩, ⟨(some (K.ofNat 115)), (some ((K.ofNat 114), true)), .mv (.t (K.ofNat 23))⟩, ⟨(some (K.ofNat 116)), (some ((K.ofNat 114), true)), .bin .eql (.t (K.ofNat 115)) (.c (.i .i64 (.ofNat 0)))⟩, ⟨(some (K.ofNat 117)), none, .pick (.t (K.ofNat 114)) (.t (K.ofNat 116)) (.c (.b false))⟩, ⟨(some (K.ofNat 118)), none, .mv (.t (K.ofNat 117))⟩, ⟨(some (K.ofNat 119)), (some ((K.ofNat 118), true)), .mv (.t (K.ofNat 6))⟩, ⟨(some (K.ofNat 120)), (some ((K.ofNat 118), true)), .mv (.t (K.ofNat 7))⟩, ⟨(some (K.ofNat 121)), (some ((K.ofNat 118), true)), .call (.c (.fn (K.ofNat 32) [])) [(.t (K.ofNat 119)), (.t (K.ofNat 120))]⟩, ⟨(some (K.ofNat 122)), none, .pick (.t (K.ofNat 118)) (.t (K.ofNat 121)) (.c (.b false))⟩, ⟨(some (K.ofNat 123)), none, .mv (.t (K.ofNat 122))⟩, ⟨(some (K.ofNat 124)), (some ((K.ofNat 123), true)), .mv (.t (K.ofNat 22))⟩, ⟨(some (K.ofNat 125)), (some ((K.ofNat 123), true)), .mv (.t (K.ofNat 5))⟩, ⟨(some (K.ofNat 126)), (some ((K.ofNat 123), true)), .mv (.t (K.ofNat 7))⟩, ⟨(some (K.ofNat 127)), (some ((K.ofNat 123), true)), .call (.c (.fn (K.ofNat 33) [])) [(.t (K.ofNat 125)), (.t (K.ofNat 126))]⟩, ⟨(some (K.ofNat 128)), (some ((K.ofNat 123), true)), .call (.c (.fn (K.ofNat 32) [])) [(.t (K.ofNat 124)), (.t (K.ofNat 127))]⟩, ⟨(some (K.ofNat 129)), none, .pick (.t (K.ofNat 123)) (.t (K.ofNat 128)) (.c (.b false))⟩, ⟨(some (K.ofNat 130)), none, .mv (.t (K.ofNat 129))⟩, ⟨(some (K.ofNat 131)), (some ((K.ofNat 130), true)), .call (.c (.fn (K.ofNat 29) [])) []⟩, ⟨(some (K.ofNat 132)), none, .pick (.t (K.ofNat 130)) (.t (K.ofNat 131)) (.c (.b false))⟩, ⟨(some (K.ofNat 4)), none, .as (.t (K.ofNat 132))⟩]
noncomputable def f13_c : EC := (.seq (.reg f13_r0) (.seq (.reg f13_r1) (.seq (.reg f13_r2) (.seq (.reg f13_r3) (.seq (.reg f13_r4) (.seq (.reg f13_r5) (.seq (.reg f13_r6) (.seq (.reg f13_r7) (.seq (.reg f13_r8) (.seq (.seq (.reg f13_r9) (.block 0 (.loop f13_l1))) (.seq (.reg f13_r16) (.seq (.reg f13_r17) .ret))))))))))))
noncomputable def f13 : EF := ⟨133, [.tmp (K.ofNat 4)], f13_c, none⟩
theorem f13_rs : f13.rs = [.tmp (K.ofNat 4)] := of_eq_true (eq_self _)
section
variable {fs : T EF} {ro : Option K}
theorem fill_5 {fr : Fr} {x0 x1 x2 x3 x4 : EO} {z0 z1 z2 z3 z4 v0 v1 v2 v3 v4 : V} (h0 : cellsN 1 (ev fr x0) = some [v0]) (h1 : cellsN 1 (ev fr x1) = some [v1]) (h2 : cellsN 1 (ev fr x2) = some [v2]) (h3 : cellsN 1 (ev fr x3) = some [v3]) (h4 : cellsN 1 (ev fr x4) = some [v4]) :
    fillE fr [z0, z1, z2, z3, z4] [(0, 1, x0), (1, 1, x1), (2, 1, x2), (3, 1, x3), (4, 1, x4)] = some [v0, v1, v2, v3, v4] := by
  show oGet (cellsN 1 (ev fr x0)) none (fun c0 => oGet (cellsN 1 (ev fr x1)) none fun c1 => oGet (cellsN 1 (ev fr x2)) none fun c2 => oGet (cellsN 1 (ev fr x3)) none fun c3 => oGet (cellsN 1 (ev fr x4)) none fun c4 => some (setMany (setMany (setMany (setMany (setMany [z0, z1, z2, z3, z4] 0 c0) 1 c1) 2 c2) 3 c3) 4 c4)) = _
  rw [h0, h1, h2, h3, h4]; rfl
theorem castL_len {O : List Nat} : (castL O).length = O.length := by simp [castL]
structure Calls13 (fs : T EF) : Prop extends Calls79 fs where
  p53 : ∀ a b h P, CallP fs (.fn (K.ofNat 53) []) [.i .i64 a, .i .i64 b] h P = P (.b (ptI a b)) h
  p75 : ∀ m : Nat, m < 64 → ∀ h P, CallP fs (.fn (K.ofNat 75) []) [.i .i64 (m : Int)] h P = P (.i .i64 (pop6 m : Int)) h
  aw : ∀ h P, CallP fs (.fn (K.ofNat 29) []) [] h P = P (.b true) h
  c32 : ∀ h v u L M P, Sl iE h v L → Sl iE h u M → L.length ≤ 1000000 → P (.b (decide (L = M))) h → CallP fs (.fn (K.ofNat 32) []) [v, u] h P
  c14 : fs.get (K.ofNat 14) = some f14
  c16 : fs.get (K.ofNat 16) = some f16
  c17 : fs.get (K.ofNat 17) = some f17
  c19 : fs.get (K.ofNat 19) = some f19
  c21 : fs.get (K.ofNat 21) = some f21
  c27 : fs.get (K.ofNat 27) = some f27
  c30 : fs.get (K.ofNat 30) = some f30
  c33 : fs.get (K.ofNat 33) = some f33
  c45 : fs.get (K.ofNat 45) = some f45
  c48 : fs.get (K.ofNat 48) = some f48
  c49 : fs.get (K.ofNat 49) = some f49
  c55 : fs.get (K.ofNat 55) = some f55
  c56 : fs.get (K.ofNat 56) = some f56
  c57 : fs.get (K.ofNat 57) = some f57
  c58 : fs.get (K.ofNat 58) = some f58
  c59 : fs.get (K.ofNat 59) = some f59
  c65 : fs.get (K.ofNat 65) = some f65
  c66 : fs.get (K.ofNat 66) = some f66
  c67 : fs.get (K.ofNat 67) = some f67
  c77 : fs.get (K.ofNat 77) = some f77
  c78 : fs.get (K.ofNat 78) = some f78
  c90 : fs.get (K.ofNat 90) = some f90
  c91 : fs.get (K.ofNat 91) = some alF
structure Facts13 (N : Int) (P : List Int) : Prop where
  chk : chkS N P = 0
  len : P.length ≤ 10
  made : (madeS N P).2 = 0
  mlen : (madeS N P).1.length ≤ 64
  zero : badF (famB P) 0 = false
  fac : memI (famB P) = facTo P (2 ^ N.toNat)
def f13_I (c : Nat) (s : K) (vs : List V) (h0 : H) (N : Int) (u q : V) (i : Nat) (fr : Fr) (h1 : H) : Prop := i ≤ 5 ∧ OwnSt iE c s vs h0 h1 ∧ HC h1 ∧ fr.get (K.ofNat 5) = some (.i .i64 N) ∧ fr.get (K.ofNat 6) = some (u) ∧ fr.get (K.ofNat 7) = some (q) ∧ fr.get (K.ofNat 9) = some (.i .i64 0) ∧ fr.get (K.ofNat 11) = some (.i .i64 0) ∧ fr.get (K.ofNat 13) = some (.i .i64 0) ∧ fr.get (K.ofNat 16) = some (.i .i64 0) ∧ fr.get (K.ofNat 18) = some (.i .i64 0) ∧ fr.get (K.ofNat 19) = some (.sl s 0 5 1) ∧ fr.get (K.ofNat 20) = some (.i .i64 (i : Int))
def f13_J (c : Nat) (s : K) (vs : List V) (h0 : H) (N : Int) (u q : V) (i n : Nat) (j : Nat) (fr : Fr) (h1 : H) : Prop := j ≤ n ∧ OwnSt iE c s vs h0 h1 ∧ HC h1 ∧ fr.get (K.ofNat 5) = some (.i .i64 N) ∧ fr.get (K.ofNat 6) = some (u) ∧ fr.get (K.ofNat 7) = some (q) ∧ fr.get (K.ofNat 9) = some (.i .i64 0) ∧ fr.get (K.ofNat 11) = some (.i .i64 0) ∧ fr.get (K.ofNat 13) = some (.i .i64 0) ∧ fr.get (K.ofNat 16) = some (.i .i64 0) ∧ fr.get (K.ofNat 18) = some (.i .i64 0) ∧ fr.get (K.ofNat 19) = some (.sl s 0 5 1) ∧ fr.get (K.ofNat 20) = some (.i .i64 (i : Int)) ∧ fr.get (K.ofNat 21) = some (.i .i64 (j : Int))
theorem f13_ret {h : H} {v : V} {L : List Int} {n : Int} (k : Calls13 fs) (m : ∀ n L, Facts13 (tameN n) ((tameP (tameN n) L).take 10)) (hv : Sl iE h v L) (hc : HC h) : Ret fs f13 [.i .i64 n, v] h fun u h' => u = .b true ∧ Grow h.nx.nat h h' := by
  apply ret_of rfl
  show W fs none f13_c _ _ _
  unfold f13_c
  obtain ⟨n1, n6⟩ := tameN_in n
  have cp := cpx_tame n L
  have m := m n L
  simp (disch := omega) only [f13_r0, f13_r1, w_reg, w_seq, seqK_n, x_nil, x_mv, x_as, x_call, ev_t, ev_c, evs_nil, evs_cons, getV_some, putD_some, frame_2, getK_set, Nat.reduceEqDiff, ↓reduceIte]
  refine (callP_0 (ef := f30) k.c30 rfl (f30_ret (n := n) k.p53 k.c49 hv hc)).mono ?_
  rintro r h1 ⟨u, rfl, hsu, _, gr1⟩
  generalize tameN n = N at *
  generalize (tameP N L).take 10 = P at *
  obtain ⟨mchk, mlen, mmade, mmlen, mzero, mfac⟩ := m
  have hc1 := gr1.hc hc
  have hP : P.length ≤ 1000000 := by omega
  obtain ⟨Q, hQ, an⟩ := cp.ex
  simp (disch := omega) only [f13_r2, w_reg, w_seq, seqK_n, x_nil, x_mv, x_as, x_ext, x_call, kx, rvP_ok, okv_some, ev_t, ev_c, evs_nil, evs_cons, getV_some, putD_some, onTup_t, nth0, nth1, getK_set, Nat.reduceEqDiff, ↓reduceIte]
  refine (callP_0 (ef := f14) k.c14 rfl (f14_ret (m := 20) hsu hc1 (by omega))).mono ?_
  rintro q h2 ⟨hsq, _, gr2⟩
  rw [List.take_of_length_le (by omega)] at hsq
  have hc2 := gr2.hc hc1
  have hsu2 := hsu.grow hc1 gr2
  simp (disch := omega) only [f13_r3, w_reg, w_seq, seqK_n, x_nil, x_mv, x_as, x_call, kx, ev_t, ev_c, evs_nil, evs_cons, getV_some, putD_some, getK_set, Nat.reduceEqDiff, ↓reduceIte]
  refine (callP_0 (ef := f17) k.c17 rfl (f17_ret (n := N) k.p54 k.c16 k.c55 k.c56 k.c77 k.c90 k.c78 k.c91 hsu2 hc2 hP)).mono ?_
  rintro r h3 ⟨a, rfl, hsa, hoa, gr3⟩
  have hc3 := gr3.hc hc2
  have hsu3 := hsu2.grow hc2 gr3
  simp (disch := omega) only [f13_r4, w_reg, w_seq, seqK_n, x_nil, x_mv, x_as, x_ext, x_call, kx, rvP_ok, okv_some, ev_t, ev_c, evs_nil, evs_cons, getV_some, putD_some, onTup_t, nth0, nth1, getK_set, Nat.reduceEqDiff, ↓reduceIte, mchk]
  refine (callP_0 (ef := f48) k.c48 rfl (f48_ret (n := N) k.p54 k.c55 k.c67 k.c66 k.c78 k.c91 hsu3 hc3)).mono ?_
  rintro r h4 ⟨b, rfl, hsb, gr4, hob⟩
  have hc4 := gr4.hc hc3
  have hsu4 := hsu3.grow hc3 gr4
  have hsa4 := hsa.grow hc3 gr4
  simp (disch := omega) only [f13_r5, w_reg, w_seq, seqK_n, x_nil, x_mv, x_as, x_ext, x_call, kx, rvP_ok, okv_some, ev_t, ev_c, evs_nil, evs_cons, getV_some, putD_some, onTup_t, nth0, nth1, getK_set, Nat.reduceEqDiff, ↓reduceIte, mmade]
  refine (callP_0 (ef := f19) k.c19 rfl (f19_ret (n := N) k.p54 k.p75 k.c16 k.c55 k.c57 k.c78 k.c91 hsu4 hc4 hP)).mono ?_
  rintro r h5 ⟨c, rfl, hsc, hoc, gr5⟩
  have hc5 := gr5.hc hc4
  have hsu5 := hsu4.grow hc4 gr5
  have hsa5 := hsa4.grow hc4 gr5
  have hsb5 := hsb.grow hc4 gr5
  simp (disch := omega) only [f13_r6, w_reg, w_seq, seqK_n, x_nil, x_mv, x_as, x_ext, x_call, kx, rvP_ok, okv_some, ev_t, ev_c, evs_nil, evs_cons, getV_some, putD_some, onTup_t, nth0, nth1, getK_set, Nat.reduceEqDiff, ↓reduceIte, mchk]
  refine (callP_0 (ef := f21) k.c21 rfl (f21_ret (n := N) k.toCalls79 k.p75 k.c16 k.c58 k.c59 (hQ ▸ hsu5) hc5 an (hQ ▸ mchk))).mono ?_
  rintro r h6 ⟨x, d, rfl, gr6, yes, no⟩
  have hd : (∃ D, Sl iE h6 d D ∧ D.length ≤ 64) ∧ Own h5.nx.nat d := by
    cases x
    · obtain ⟨rfl, _⟩ := no rfl
      exact ⟨⟨[], Sl.nil, by simp⟩, Own.sn⟩
    · obtain ⟨_, O, hsO, hoO, _, hOl⟩ := yes rfl
      exact ⟨⟨castL O, Sl.map (f := fun (k : Nat) => (k : Int)) hsO, by rw [castL_len, hOl]; have := an.len; omega⟩, hoO⟩
  obtain ⟨⟨D, hsd, hDl⟩, hod⟩ := hd
  have hc6 := gr6.hc hc5
  have hsu6 := hsu5.grow hc5 gr6
  have hsa6 := hsa5.grow hc5 gr6
  have hsb6 := hsb5.grow hc5 gr6
  have hsc6 := hsc.grow hc5 gr6
  simp (disch := omega) only [f13_r7, w_reg, w_seq, seqK_n, x_nil, x_mv, x_as, x_ext, x_call, kx, rvP_ok, okv_some, ev_t, ev_c, evs_nil, evs_cons, getV_some, putD_some, onTup_t, nth0, nth1, nth2, of0, getK_set, Nat.reduceEqDiff, ↓reduceIte]
  refine (callP_0 (ef := f27) k.c27 rfl (f27_ret (n := N) (f := 0) k.p54 k.c16 k.c55 k.c78 k.c91 k.c83 k.c65 k.c66 hsu6 hc6 hP mchk)).mono ?_
  rintro r h7 ⟨e, rfl, hse, hoe, gr7⟩
  have hc7 := gr7.hc hc6
  have hsa7 := hsa6.grow hc6 gr7
  have hsb7 := hsb6.grow hc6 gr7
  have hsc7 := hsc6.grow hc6 gr7
  have hsd7 := hsd.grow hc6 gr7
  have q1 := gr1.nx; have q2 := gr2.nx; have q3 := gr3.nx; have q4 := gr4.nx; have q5 := gr5.nx; have q6 := gr6.nx; have q7 := gr7.nx
  have la := hsa7.lt hc7; have lb := hsb7.lt hc7; have lc := hsc7.lt hc7; have ld := hsd7.lt hc7; have le := hse.lt hc7
  have ni : ∀ {w : V}, (∀ id off n sz, w = .sl id off n sz → id.nat < h7.nx.nat) → NotIn h7.nx w := fun hl off n sz e => by have := hl _ _ _ _ e; omega
  have g27 : Grow h2.nx.nat h2 h7 := gr3.trans ((gr4.low (by omega)).trans ((gr5.low (by omega)).trans ((gr6.low (by omega)).trans (gr7.low (by omega)))))
  have gw : Grow h2.nx.nat h7 (h7.new (.cells (5 * 1) [a, b, c, d, e])) := Grow.new (by omega) _
  have st : OwnSt iE h2.nx.nat h7.nx [a, b, c, d, e] h2 (h7.new (.cells (5 * 1) [a, b, c, d, e])) := by
    refine ⟨g27.trans gw, get_new_same, fun w hw => ?_, fun w hw => ?_, fun w hw => ?_⟩
    · simp only [List.mem_cons, List.not_mem_nil, or_false] at hw
      rcases hw with rfl | rfl | rfl | rfl | rfl
      · exact ⟨_, hsa7.new hc7 _⟩
      · exact ⟨_, hsb7.new hc7 _⟩
      · exact ⟨_, hsc7.new hc7 _⟩
      · exact ⟨_, hsd7.new hc7 _⟩
      · exact ⟨_, hse.new hc7 _⟩
    · simp only [List.mem_cons, List.not_mem_nil, or_false] at hw
      rcases hw with rfl | rfl | rfl | rfl | rfl
      · exact hoa
      · exact hob.low (by omega)
      · exact hoc.low (by omega)
      · exact hod.low (by omega)
      · exact hoe.low (by omega)
    · simp only [List.mem_cons, List.not_mem_nil, or_false] at hw
      rcases hw with rfl | rfl | rfl | rfl | rfl
      · exact ni la
      · exact ni lb
      · exact ni lc
      · exact ni ld
      · exact ni le
  have bd : ∀ w ∈ [a, b, c, d, e], vlen w ≤ 64 := by
    intro w hw
    simp only [List.mem_cons, List.not_mem_nil, or_false] at hw
    rw [if_pos mchk] at hsa hsc
    rcases hw with rfl | rfl | rfl | rfl | rfl
    · rw [hsa.vlen]; exact memI_len
    · rw [hsb.vlen]; exact mmlen
    · rw [hsc.vlen]; unfold hsS; rw [hsTo_len]; have := cntS_len (mem64 (famB P)); omega
    · rw [hsd.vlen]; exact hDl
    · rw [hse.vlen]; split
      · simp
      · exact topsTo_len
  have hc8 := (Grow.new (b := h7.nx.nat) (Nat.le_refl _) (.cells (5 * 1) [a, b, c, d, e])).hc hc7
  have one_a := hsa7.one; have one_b := hsb7.one; have one_c := hsc7.one; have one_d := hsd7.one; have one_e := hse.one
  have badz : (if badF (famB P) 0 = true then (1 : Int) else 0) = 0 := by rw [mzero]; rfl
  have fill : ∀ fr : Fr, fr.get (K.ofNat 63) = some (a) ∧ fr.get (K.ofNat 64) = some (b) ∧ fr.get (K.ofNat 65) = some (c) ∧ fr.get (K.ofNat 66) = some (d) ∧ fr.get (K.ofNat 67) = some (e) → fillE fr [.sn, .sn, .sn, .sn, .sn] [(0, 1, .t (K.ofNat 63)), (1, 1, .t (K.ofNat 64)), (2, 1, .t (K.ofNat 65)), (3, 1, .t (K.ofNat 66)), (4, 1, .t (K.ofNat 67))] = some [a, b, c, d, e] := by
    rintro fr ⟨g1, g2, g3, g4, g5⟩
    exact fill_5 (by rw [ev_t, g1]; exact one_a) (by rw [ev_t, g2]; exact one_b) (by rw [ev_t, g3]; exact one_c) (by rw [ev_t, g4]; exact one_d) (by rw [ev_t, g5]; exact one_e)
  simp (disch := omega) only [f13_r8, w_reg, w_seq, seqK_n, x_nil, x_mv, x_as, x_bslice, x_ext, kx, rvP_ok, okv_some, ev_t, getV_some, putD_some, onTup_t, nth0, nth1, getK_set, Nat.reduceEqDiff, ↓reduceIte, badz]
  rw [fill _ (by simp (disch := omega) only [getK_set, Nat.reduceEqDiff, ↓reduceIte, and_self])]
  simp (disch := omega) only [w_reg, w_seq, seqK_n, x_nil, x_as, kx, rvP_ok, ev_t, getV_some, putD_some, oGet_s, getK_set, ↓reduceIte]
  clear fill one_a one_b one_c one_d one_e badz hsa7 hsb7 hsc7 hsd7 hse la lb lc ld le ni hsa6 hsb6 hsc6 hsa5 hsb5 hsa4 hsa hsb hsc hsd hoa hob hoc hod hoe yes no gw hsu6 hsu5 hsu4 hsu3
  have l5 : ([a, b, c, d, e] : List V).length = 5 := rfl
  generalize ([a, b, c, d, e] : List V) = vs at *
  generalize h7.new (.cells (5 * 1) vs) = h8 at *
  generalize h7.nx = s at *
  simp (disch := omega) only [f13_r9, w_block, seqK_n, x_nil, x_as, ev_c, putD_some, of0]
  refine W_loop (f13_I h2.nx.nat s vs h2 N u q) (fun i => 5 - i) ?_ 0 ⟨by omega, st, hc8, by simp (disch := omega) only [getK_set, Nat.reduceEqDiff, ↓reduceIte, and_self, Int.natCast_zero]⟩
  clear st hc8
  rintro i fr h9 ⟨hi, st, hc9, g5, g6, g7, g9, g11, g13, g16, g18, g19, g20⟩
  unfold f13_l1
  by_cases hlt : i < 5
  · have hlt' : (i : Int) < 5 := by omega
    have hlt5 : (i : Int) < ((5 : Nat) : Int) := by omega
    have hvi : i < vs.length := by omega
    simp (disch := omega) only [f13_r10, f13_r11, w_skip, w_reg, w_seq, w_cond, w_block, seqK_n, ckB_b, cbB_b, true_and, x_nil, x_mv, x_as, x_bin, x_len, kx, rvP_ok, okv_some, ev_t, ev_c, getV_some, putD_some, bin_lss, len_sl, of0, getK_set, Nat.reduceEqDiff, ↓reduceIte, g19, g20, hlt5, decide_true]
    refine W_loop (f13_J h2.nx.nat s vs h2 N u q i (vlen vs[i])) (fun j => vlen vs[i] - j) ?_ 0 ⟨by omega, st, hc9, by simp (disch := omega) only [getK_set, Nat.reduceEqDiff, ↓reduceIte, g5, g6, g7, g9, g11, g13, g16, g18, g19, g20, and_self, Int.natCast_zero]⟩
    clear st hc9 g5 g6 g7 g9 g11 g13 g16 g18 g19 g20 fr h9
    rintro j fr h9 ⟨hj, st, hc9, g5, g6, g7, g9, g11, g13, g16, g18, g19, g20, g21⟩
    unfold f13_l0
    have ld := st.ld hvi
    obtain ⟨Li, hLi⟩ := st.al _ (List.getElem_mem hvi)
    have ln := hLi.len h9
    rw [← hLi.vlen] at ln
    by_cases hjl : j < vlen vs[i]
    · have hjl' : (j : Int) < ((vlen vs[i] : Nat) : Int) := by omega
      obtain ⟨p, h10, e1, e2, st2, hc10⟩ := st.st hc9 hvi hjl (x := (-7 : Int)) (z := .i .i64 (.negSucc 6)) rfl rfl
      simp (disch := omega) only [f13_r12, f13_r13, f13_r14, w_skip, w_reg, w_seq, w_cond, w_block, seqK_n, atK_n, loopK_n, ckB_b, cbB_b, true_and, x_nil, x_mv, x_as, x_ld, x_st, x_bin, x_iads, x_len, kx, rvP_ok, okv_some, ev_t, ev_c, getV_some, putD_some, putD_none, bin_add, bin_lss, iads_sl, idx_n, of1, getK_set, Nat.reduceEqDiff, ↓reduceIte, g19, g20, g21, ld, ln, hjl', decide_true, e1, e2]
      have hvb := bd _ (List.getElem_mem hvi)
      simp (disch := omega) only [fw64]
      exact ⟨j + 1, by omega, hjl, st2, hc10, by simp (disch := omega) only [getK_set, Nat.reduceEqDiff, ↓reduceIte, g5, g6, g7, g9, g11, g13, g16, g18, g19, g20, and_self, Int.natCast_add, Int.natCast_one]⟩
    · obtain rfl : j = vlen vs[i] := by omega
      simp (disch := omega) only [f13_r12, f13_r15, w_reg, w_seq, w_cond, w_exit, seqK_n, seqK_e, atK_n, atK_e, loopK_n, loopK_e, ckB_b, cbB_b, true_and, x_nil, x_mv, x_as, x_ld, x_bin, x_iads, x_len, kx, rvP_ok, okv_some, ev_t, ev_c, getV_some, putD_some, bin_add, bin_lss, iads_sl, idx_n, of1, getK_set, Nat.reduceEqDiff, ↓reduceIte, Bool.false_eq_true, g19, g20, g21, ld, ln, Int.lt_irrefl, decide_false, fw64]
      exact ⟨i + 1, by omega, hlt, st, hc9, by simp (disch := omega) only [getK_set, Nat.reduceEqDiff, ↓reduceIte, g5, g6, g7, g9, g11, g13, g16, g18, g19, and_self, Int.natCast_add, Int.natCast_one]⟩
  · obtain rfl : i = 5 := by omega
    have hlt' : ¬ ((5 : Nat) : Int) < ((5 : Nat) : Int) := by omega
    have hsu9 : Sl iE h9 u P := hsu2.grow hc2 st.gr
    have hsq9 : Sl iE h9 q P := hsq.grow hc2 st.gr
    have eq0 : decide ((0 : Int) = 0) = true := rfl
    simp (disch := omega) only [f13_r10, f13_r16, w_reg, w_seq, w_cond, w_exit, seqK_n, seqK_e, atK_e, loopK_e, ckB_b, cbB_b, true_and, x_nil, x_mv, x_bin, x_call, x_len, kx, rvP_ok, okv_some, ev_t, ev_c, evs_nil, evs_cons, getV_some, putD_some, bin_lss, len_sl, getK_set, Nat.reduceEqDiff, ↓reduceIte, Bool.false_eq_true, g5, g6, g19, g20, hlt', decide_false]
    refine (callP_0 (ef := f17) k.c17 rfl (f17_ret (n := N) k.p54 k.c16 k.c55 k.c56 k.c77 k.c90 k.c78 k.c91 hsu9 hc9 hP)).mono ?_
    rintro r h10 ⟨w, rfl, hsw, _, gr10⟩
    rw [if_pos mchk] at hsw
    have hc10 := gr10.hc hc9
    have hsu10 := hsu9.grow hc9 gr10
    have hsq10 := hsq9.grow hc9 gr10
    simp (disch := omega) only [f13_r17, w_reg, w_seq, seqK_n, okG_b, asG_t, true_and, x_nil, x_g, x_mv, x_as, x_pick, x_bin, x_ext, x_call, kx, rvP_ok, okv_some, ev_t, ev_c, evs_nil, evs_cons, getV_some, putD_some, bin_eql, pick_b, onTup_t, nth0, nth1, of0, getK_set, Nat.reduceEqDiff, ↓reduceIte, decide_eq_true_eq, g6, g7, g9, g11, g13, g16, g18, mchk]
    refine k.c32 _ _ _ _ _ _ hsu10 hsq10 hP ?_
    simp (disch := omega) only [okG_b, asG_t, true_and, x_g, x_mv, x_pick, x_call, kx, rvP_ok, ev_t, ev_c, evs_nil, evs_cons, getV_some, putD_some, pick_b, getK_set, Nat.reduceEqDiff, ↓reduceIte, g5, g7, decide_true]
    refine (callP_0 (ef := f33) k.c33 rfl (f33_ret (n := N) k.p53 k.c45 hsq10 hc10 hP n1 n6)).mono ?_
    rintro y h11 ⟨hsy, _, gr11⟩
    rw [← mfac] at hsy
    have hc11 := gr11.hc hc10
    simp (disch := omega) only [okG_b, asG_t, true_and, x_g, x_call, kx, ev_t, ev_c, evs_nil, evs_cons, getV_some, putD_some, getK_set, Nat.reduceEqDiff, ↓reduceIte]
    refine k.c32 _ _ _ _ _ _ (hsw.grow hc10 gr11) hsy (by have := memI_len (B := famB P); omega) ?_
    simp (disch := omega) only [f13_rs, w_ret, seqK_n, okG_b, asG_t, true_and, retK_r, x_nil, x_g, x_mv, x_as, x_pick, x_call, kx, rvP_ok, ev_t, ev_c, evs_nil, getV_some, putD_some, pick_b, oGet_s, readRs_nil, readRs_t, retV_1, Option.some.injEq, exists_eq_left', getK_set, Nat.reduceEqDiff, ↓reduceIte, decide_true, k.aw]
    have q10 := gr10.nx; have q9 := st.gr.nx
    exact gr1.trans ((gr2.low (by omega)).trans ((st.gr.low (by omega)).trans ((gr10.low (by omega)).trans (gr11.low (by omega)))))
end
end Go.Ev
namespace Go.Ev
open Go Go.RowKit
theorem sorted_len : ∀ (B A : List Int), A.Pairwise (· < ·) → B.Pairwise (· < ·) → (∀ x ∈ A, x ∈ B) → A.length ≤ B.length
  | [], A, _, _, h => by
    cases A with
    | nil => exact Nat.le_refl _
    | cons a A => exact absurd (h a (by simp)) (by simp)
  | b :: B, [], _, _, _ => by simp
  | b :: B, a :: A, hA, hB, h => by
    rw [List.pairwise_cons] at hA hB
    by_cases e : a = b
    · subst e
      have := sorted_len B A hA.2 hB.2 fun x hx => by
        have h1 := h x (List.mem_cons_of_mem _ hx)
        have h2 := hA.1 x hx
        rcases List.mem_cons.1 h1 with h3 | h3
        · omega
        · exact h3
      simp only [List.length_cons]; omega
    · have ha : a ∈ B := by
        rcases List.mem_cons.1 (h a (by simp)) with h3 | h3
        · exact absurd h3 e
        · exact h3
      have hab := hB.1 a ha
      have := sorted_len B (a :: A) (List.pairwise_cons.2 hA) hB.2 fun x hx => by
        rcases List.mem_cons.1 (h x hx) with h3 | h3
        · rcases List.mem_cons.1 hx with h4 | h4
          · omega
          · have := hA.1 x h4; omega
        · exact h3
      simp only [List.length_cons] at *; omega
theorem facts13 (n : Int) (L : List Int) : Facts13 (tameN n) ((tameP (tameN n) L).take 10) := by
  obtain ⟨n1, n6⟩ := tameN_in n
  obtain ⟨f1, f2, f3, f4, f5⟩ := facts_P (N := tameN n) (L := L) n1 n6
  obtain ⟨c1, c2, hsets, _, hfac, _, _, _, _⟩ := facts4 n L
  generalize (tameP (tameN n) L).take 10 = P at *
  generalize tameN n = N at *
  have hb : badMade N P = false := by
    unfold badMade
    rw [decide_eq_false (by omega), decide_eq_false (by omega), decide_eq_false (by omega)]
    have : P.all (inSet N) = true := by
      rw [List.all_eq_true]
      intro x hx
      have := f4 x hx
      unfold inSet
      rw [decide_eq_true (by omega), decide_eq_true (by omega)]; rfl
    rw [this]; rfl
  have hne := pieces_ne hsets f1
  have hm : madeS N P = (piecesTo P 64, 0) := by
    unfold madeS
    rw [if_neg (by rw [hb]; simp), tops_pieces hsets]
    have hlen := sorted_len P (piecesTo P 64) pieces_sorted f3 fun x hx => by
      obtain ⟨k, rfl, _, h, _⟩ := mem_pieces hx
      exact h
    have hl0 : ¬ (piecesTo P 64).length = 0 := fun e => hne (List.length_eq_zero_iff.1 e)
    unfold madeOf
    rw [if_neg hl0, if_neg, if_neg (by omega)]
    intro e
    obtain ⟨a, b⟩ := List.getElem?_eq_some_iff.1 e
    obtain ⟨k, hk, _, h, _⟩ := mem_pieces (List.getElem_mem a)
    rw [b] at hk
    rw [← hk] at h
    have := f4 _ h
    omega
  refine ⟨c1, c2, by rw [hm], by rw [hm]; exact piecesTo_len, ?_, hfac⟩
  unfold badF
  have : famB P (0 : Int).toNat = true := by
    show famB P 0 = true
    rw [fam_iff hsets (by omega)]
    obtain ⟨x, hx⟩ := List.exists_mem_of_ne_nil P f1
    obtain ⟨t, ht, rfl⟩ := hsets x hx
    exact ⟨t, ht, hx, Nat.zero_and t⟩
  rw [this]; rfl
end Go.Ev
