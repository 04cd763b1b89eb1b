/-
  Functions of the seat: the reference's Hs.
  The law ShellsCounts.
  What is true of the complexes that the law makes, and of their counts.
  Horner's rule and the sum with binomial coefficients give the same; so do the two sums with signs.
  The law ShellsHollows.
  What is true of complexes: links, duals, and the numbers of holes.
  What is true of shellings: which piece may come next.
  What is true of the search for a shelling: orders of pieces, each of which may come next.
-/
import Derived.Test.YtneacehpoaambaaPf
import Derived.Test.YtneacehpoaambaaPg
import Derived.Test.YtneacehpoaambaaPh
namespace Go.Ev
open Go Go.RowKit
noncomputable def f34_r0 : List EOper := [⟨(some (K.ofNat 2)), none, .as (.c .sn)⟩]
noncomputable def f34_r1 : List EOper := [⟨(some (K.ofNat 7)), none, .mv (.t (K.ofNat 0))⟩, ⟨(some (K.ofNat 8)), none, .len (.t (K.ofNat 7))⟩, ⟨(some (K.ofNat 9)), none, .bin .sub (.t (K.ofNat 8)) (.c (.i .i64 (.ofNat 1)))⟩, ⟨(some (K.ofNat 3)), none, .as (.t (K.ofNat 9))⟩]
noncomputable def f34_r2 : List EOper := [⟨(some (K.ofNat 10)), none, .mv (.t (K.ofNat 3))⟩, ⟨(some (K.ofNat 11)), none, .bin .add (.t (K.ofNat 10)) (.c (.i .i64 (.ofNat 1)))⟩, ⟨(some (K.ofNat 12)), none, .mkslice 1 [(.i .i64 (.ofNat 0))] (.t (K.ofNat 11))⟩, ⟨(some (K.ofNat 4)), none, .as (.t (K.ofNat 12))⟩]
noncomputable def f34_r3 : List EOper := [⟨(some (K.ofNat 5)), none, .as (.c (.i .i64 (.ofNat 0)))⟩]
noncomputable def f34_r4 : List EOper := [⟨(some (K.ofNat 13)), none, .mv (.t (K.ofNat 5))⟩, ⟨(some (K.ofNat 14)), none, .mv (.t (K.ofNat 3))⟩, ⟨(some (K.ofNat 15)), none, .bin .leq (.t (K.ofNat 13)) (.t (K.ofNat 14))⟩]
noncomputable def f34_r5 : List EOper := [⟨(some (K.ofNat 6)), none, .as (.c (.i .i64 (.ofNat 0)))⟩]
noncomputable def f34_r6 : List EOper := [⟨(some (K.ofNat 18)), none, .mv (.t (K.ofNat 6))⟩, ⟨(some (K.ofNat 19)), none, .mv (.t (K.ofNat 5))⟩, ⟨(some (K.ofNat 20)), none, .bin .leq (.t (K.ofNat 18)) (.t (K.ofNat 19))⟩]
noncomputable def f34_r7 : List Stage := [⟨[⟨(some (K.ofNat 23)), none, .mv (.t (K.ofNat 4))⟩, ⟨(some (K.ofNat 24)), none, .mv (.t (K.ofNat 5))⟩, ⟨(some (K.ofNat 25)), none, .mv (.t (K.ofNat 4))⟩, ⟨(some (K.ofNat 26)), none, .mv (.t (K.ofNat 5))⟩, ⟨(some (K.ofNat 27)), none, .iads 1 (.t (K.ofNat 25)) (.t (K.ofNat 26))⟩, ⟨(some (K.ofNat 28)), none, .ld (.t (K.ofNat 27))⟩, ⟨(some (K.ofNat 29)), none, .mv (.t (K.ofNat 0))⟩, ⟨(some (K.ofNat 30)), none, .mv (.t (K.ofNat 6))⟩, ⟨(some (K.ofNat 31)), none, .iads 1 (.t (K.ofNat 29)) (.t (K.ofNat 30))⟩, ⟨(some (K.ofNat 32)), none, .ld (.t (K.ofNat 31))⟩, ⟨(some (K.ofNat 33)), none, .mv (.t (K.ofNat 3))⟩, ⟨(some (K.ofNat 34)), none, .mv (.t (K.ofNat 6))⟩, ⟨(some (K.ofNat 35)), none, .bin .sub (.t (K.ofNat 33)) (.t (K.ofNat 34))⟩, ⟨(some (K.ofNat 36)), none, .mv (.t (K.ofNat 5))⟩, ⟨(some (K.ofNat 37)), none, .mv (.t (K.ofNat 6))⟩, ⟨(some (K.ofNat 38)), none, .bin .sub (.t (K.ofNat 36)) (.t (K.ofNat 37))⟩, ⟨(some (K.ofNat 41)), none, .mv (.t (K.ofNat 5))⟩, ⟨(some (K.ofNat 42)), none, .mv (.t (K.ofNat 6))⟩, ⟨(some (K.ofNat 43)), none, .bin .sub (.t (K.ofNat 41)) (.t (K.ofNat 42))⟩, ⟨(some (K.ofNat 44)), none, .bin .rem (.t (K.ofNat 43)) (.c (.i .i64 (.ofNat 2)))⟩, ⟨(some (K.ofNat 45)), none, .bin .mul (.c (.i .i64 (.ofNat 2))) (.t (K.ofNat 44))⟩, ⟨(some (K.ofNat 46)), none, .bin .sub (.c (.i .i64 (.ofNat 1))) (.t (K.ofNat 45))⟩], [], (some ⟨(some (K.ofNat 39)), none, .call (.c (.fn (K.ofNat 69) [])) [(.t (K.ofNat 35)), (.t (K.ofNat 38))]⟩), []⟩, ⟨[⟨(some (K.ofNat 40)), none, .bin .mul (.t (K.ofNat 32)) (.t (K.ofNat 39))⟩, ⟨(some (K.ofNat 47)), none, .bin .mul (.t (K.ofNat 40)) (.t (K.ofNat 46))⟩, ⟨(some (K.ofNat 48)), none, .bin .add (.t (K.ofNat 28)) (.t (K.ofNat 47))⟩, ⟨(some (K.ofNat 49)), none, .iads 1 (.t (K.ofNat 23)) (.t (K.ofNat 24))⟩], [⟨(some (K.ofNat 23)), none, .mv (.t (K.ofNat 4))⟩, ⟨(some (K.ofNat 24)), none, .mv (.t (K.ofNat 5))⟩, ⟨(some (K.ofNat 25)), none, .mv (.t (K.ofNat 4))⟩, ⟨(some (K.ofNat 26)), none, .mv (.t (K.ofNat 5))⟩, ⟨(some (K.ofNat 27)), none, .iads 1 (.t (K.ofNat 25)) (.t (K.ofNat 26))⟩, ⟨(some (K.ofNat 28)), none, .ld (.t (K.ofNat 27))⟩, ⟨(some (K.ofNat 29)), none, .mv (.t (K.ofNat 0))⟩, ⟨(some (K.ofNat 30)), none, .mv (.t (K.ofNat 6))⟩, ⟨(some (K.ofNat 31)), none, .iads 1 (.t (K.ofNat 29)) (.t (K.ofNat 30))⟩, ⟨(some (K.ofNat 32)), none, .ld (.t (K.ofNat 31))⟩, ⟨(some (K.ofNat 41)), none, .mv (.t (K.ofNat 5))⟩, ⟨(some (K.ofNat 42)), none, .mv (.t (K.ofNat 6))⟩, ⟨(some (K.ofNat 43)), none, .bin .sub (.t (K.ofNat 41)) (.t (K.ofNat 42))⟩, ⟨(some (K.ofNat 44)), none, .bin .rem (.t (K.ofNat 43)) (.c (.i .i64 (.ofNat 2)))⟩, ⟨(some (K.ofNat 45)), none, .bin .mul (.c (.i .i64 (.ofNat 2))) (.t (K.ofNat 44))⟩, ⟨(some (K.ofNat 46)), none, .bin .sub (.c (.i .i64 (.ofNat 1))) (.t (K.ofNat 45))⟩], (some ⟨none, none, .st 1 (.t (K.ofNat 49)) (.t (K.ofNat 48))⟩), []⟩, ⟨[], [], none, []⟩]
noncomputable def f34_r8 : List EOper := [⟨(some (K.ofNat 21)), none, .mv (.t (K.ofNat 6))⟩, ⟨(some (K.ofNat 22)), none, .bin .add (.t (K.ofNat 21)) (.c (.i .i64 (.ofNat 1)))⟩, ⟨(some (K.ofNat 6)), none, .as (.t (K.ofNat 22))⟩]
noncomputable def f34_l0 : EC := (.seq (.seq (.reg f34_r6) (.cond (.t (K.ofNat 20)) .skip (.exit 2))) (.seq (.block 3 (.draw f34_r7)) (.reg f34_r8)))
noncomputable def f34_r9 : List EOper := [⟨(some (K.ofNat 16)), none, .mv (.t (K.ofNat 5))⟩, ⟨(some (K.ofNat 17)), none, .bin .add (.t (K.ofNat 16)) (.c (.i .i64 (.ofNat 1)))⟩, ⟨(some (K.ofNat 5)), none, .as (.t (K.ofNat 17))⟩]
noncomputable def f34_l1 : EC := (.seq (.seq (.reg f34_r4) (.cond (.t (K.ofNat 15)) .skip (.exit 0))) (.seq (.block 1 (.seq (.reg f34_r5) (.block 2 (.loop f34_l0)))) (.reg f34_r9)))
noncomputable def f34_r10 : List EOper := [⟨(some (K.ofNat 50)), none, .mv (.t (K.ofNat 4))⟩, ⟨(some (K.ofNat 2)), none, .as (.t (K.ofNat 50))⟩]
noncomputable def f34_c : EC := (.seq (.reg f34_r0) (.seq (.reg f34_r1) (.seq (.reg f34_r2) (.seq (.seq (.reg f34_r3) (.block 0 (.loop f34_l1))) (.seq (.reg f34_r10) .ret)))))
noncomputable def f34 : EF := ⟨51, [.tmp (K.ofNat 2)], f34_c, none⟩
section
variable {fs : T EF} {ro : Option K}
def bin6 : Nat → Nat → Nat
  | _, 0 => 1
  | 0, _ + 1 => 0
  | n + 1, k + 1 => bin6 n k + bin6 n (k + 1)
noncomputable def sgnS (j : Nat) : Int := fw .i64 (1 - fw .i64 (2 * ((j : Int).tmod 2)))
noncomputable def rkS (L : List Int) (d k : Nat) : Nat → Int
  | 0 => 0
  | i + 1 => fw .i64 (rkS L d k i + fw .i64 (fw .i64 (L.getD i 0 * (bin6 (d - i) (k - i) : Int)) * sgnS (k - i)))
noncomputable def rhsS (L : List Int) : List Int := arr (fun k => rkS L (L.length - 1) k (k + 1)) L.length
end
end Go.Ev
namespace Go.Ev
open Go Go.RowKit
noncomputable def f4_r0 : List EOper := [⟨(some (K.ofNat 4)), none, .as (.c (.b false))⟩]
noncomputable def f4_r1 : List EOper := [⟨(some (K.ofNat 17)), none, .mv (.t (K.ofNat 0))⟩, ⟨(some (K.ofNat 18)), none, .mv (.t (K.ofNat 1))⟩, ⟨(some (K.ofNat 19)), none, .call (.c (.fn (K.ofNat 30) [])) [(.t (K.ofNat 17)), (.t (K.ofNat 18))]⟩, ⟨(some (K.ofNat 16)), none, .mv (.t (K.ofNat 19))⟩, ⟨(some (K.ofNat 20)), none, .ext (.t (K.ofNat 16)) 0⟩, ⟨(some (K.ofNat 21)), none, .ext (.t (K.ofNat 16)) 1⟩, ⟨(some (K.ofNat 5)), none, .as (.t (K.ofNat 20))⟩, ⟨(some (K.ofNat 6)), none, .as (.t (K.ofNat 21))⟩]
noncomputable def f4_r2 : List EOper := [⟨(some (K.ofNat 23)), none, .mv (.t (K.ofNat 5))⟩, ⟨(some (K.ofNat 24)), none, .mv (.t (K.ofNat 6))⟩, ⟨(some (K.ofNat 25)), none, .call (.c (.fn (K.ofNat 17) [])) [(.t (K.ofNat 23)), (.t (K.ofNat 24))]⟩, ⟨(some (K.ofNat 22)), none, .mv (.t (K.ofNat 25))⟩, ⟨(some (K.ofNat 26)), none, .ext (.t (K.ofNat 22)) 0⟩, ⟨(some (K.ofNat 27)), none, .ext (.t (K.ofNat 22)) 1⟩, ⟨(some (K.ofNat 7)), none, .as (.t (K.ofNat 26))⟩, ⟨(some (K.ofNat 8)), none, .as (.t (K.ofNat 27))⟩]
noncomputable def f4_r3 : List EOper := [⟨(some (K.ofNat 29)), none, .mv (.t (K.ofNat 5))⟩, ⟨(some (K.ofNat 30)), none, .mv (.t (K.ofNat 6))⟩, ⟨(some (K.ofNat 31)), none, .call (.c (.fn (K.ofNat 18) [])) [(.t (K.ofNat 29)), (.t (K.ofNat 30))]⟩, ⟨(some (K.ofNat 28)), none, .mv (.t (K.ofNat 31))⟩, ⟨(some (K.ofNat 32)), none, .ext (.t (K.ofNat 28)) 0⟩, ⟨(some (K.ofNat 33)), none, .ext (.t (K.ofNat 28)) 1⟩, ⟨(some (K.ofNat 9)), none, .as (.t (K.ofNat 32))⟩, ⟨(some (K.ofNat 10)), none, .as (.t (K.ofNat 33))⟩]
noncomputable def f4_r4 : List EOper := [⟨(some (K.ofNat 35)), none, .mv (.t (K.ofNat 5))⟩, ⟨(some (K.ofNat 36)), none, .mv (.t (K.ofNat 6))⟩, ⟨(some (K.ofNat 37)), none, .call (.c (.fn (K.ofNat 19) [])) [(.t (K.ofNat 35)), (.t (K.ofNat 36))]⟩, ⟨(some (K.ofNat 34)), none, .mv (.t (K.ofNat 37))⟩, ⟨(some (K.ofNat 38)), none, .ext (.t (K.ofNat 34)) 0⟩, ⟨(some (K.ofNat 39)), none, .ext (.t (K.ofNat 34)) 1⟩, ⟨(some (K.ofNat 11)), none, .as (.t (K.ofNat 38))⟩, ⟨(some (K.ofNat 12)), none, .as (.t (K.ofNat 39))⟩]
noncomputable def f4_r5 : List EOper := [⟨(some (K.ofNat 41)), none, .mv (.t (K.ofNat 5))⟩, ⟨(some (K.ofNat 42)), none, .mv (.t (K.ofNat 6))⟩, ⟨(some (K.ofNat 43)), none, .call (.c (.fn (K.ofNat 20) [])) [(.t (K.ofNat 41)), (.t (K.ofNat 42))]⟩, ⟨(some (K.ofNat 40)), none, .mv (.t (K.ofNat 43))⟩, ⟨(some (K.ofNat 44)), none, .ext (.t (K.ofNat 40)) 0⟩, ⟨(some (K.ofNat 45)), none, .ext (.t (K.ofNat 40)) 1⟩, ⟨(some (K.ofNat 13)), none, .as (.t (K.ofNat 44))⟩, ⟨(some (K.ofNat 14)), none, .as (.t (K.ofNat 45))⟩]
noncomputable def f4_r6 : List EOper := [⟨(some (K.ofNat 46)), none, .mv (.t (K.ofNat 5))⟩, ⟨(some (K.ofNat 47)), none, .mv (.t (K.ofNat 6))⟩, ⟨(some (K.ofNat 48)), none, .call (.c (.fn (K.ofNat 31) [])) [(.t (K.ofNat 46)), (.t (K.ofNat 47))]⟩, ⟨(some (K.ofNat 15)), none, .as (.t (K.ofNat 48))⟩]
noncomputable def f4_r7 : List EOper := [⟨(some (K.ofNat 49)), none, .mv (.t (K.ofNat 8))⟩, ⟨(some (K.ofNat 50)), none, .bin .eql (.t (K.ofNat 49)) (.c (.i .i64 (.ofNat 0)))⟩, ⟨(some (K.ofNat 51)), none, .mv (.t (K.ofNat 50))⟩, ⟨(some (K.ofNat 52)), (some ((K.ofNat 51), true)), .mv (.t (K.ofNat 7))⟩, ⟨(some (K.ofNat 53)), (some ((K.ofNat 51), true)), .mv (.t (K.ofNat 5))⟩, ⟨(some (K.ofNat 54)), (some ((K.ofNat 51), true)), .mv (.t (K.ofNat 6))⟩, ⟨(some (K.ofNat 55)), (some ((K.ofNat 51), true)), .call (.c (.fn (K.ofNat 33) [])) [(.t (K.ofNat 53)), (.t (K.ofNat 54))]⟩, ⟨(some (K.ofNat 56)), (some ((K.ofNat 51), true)), .call (.c (.fn (K.ofNat 32) [])) [(.t (K.ofNat 52)), (.t (K.ofNat 55))]⟩, ⟨(some (K.ofNat 57)), none, .pick (.t (K.ofNat 51)) (.t (K.ofNat 56)) (.c (.b false))⟩, ⟨(some (K.ofNat 58)), none, .mv (.t (K.ofNat 57))⟩, ⟨(some (K.ofNat 59)), (some ((K.ofNat 58), true)), .mv (.t (K.ofNat 10))⟩, ⟨(some (K.ofNat 60)), (some ((K.ofNat 58), true)), .bin .eql (.t (K.ofNat 59)) (.c (.i .i64 (.ofNat 0)))⟩, ⟨(some (K.ofNat 61)), none, .pick (.t (K.ofNat 58)) (.t (K.ofNat 60)) (.c (.b false))⟩, ⟨(some (K.ofNat 62)), none, .mv (.t (K.ofNat 61))⟩, ⟨(some (K.ofNat 63)), (some ((K.ofNat 62), true)), .mv (.t (K.ofNat 9))⟩, ⟨(some (K.ofNat 64)), (some ((K.ofNat 62), true)), .mv (.t (K.ofNat 15))⟩, ⟨(some (K.ofNat 65)), (some ((K.ofNat 62), true)), .call (.c (.fn (K.ofNat 32) [])) [(.t (K.ofNat 63)), (.t (K.ofNat 64))]⟩, ⟨(some (K.ofNat 66)), none, .pick (.t (K.ofNat 62)) (.t (K.ofNat 65)) (.c (.b false))⟩, ⟨(some (K.ofNat 67)), none, .mv (.t (K.ofNat 66))⟩, ⟨(some (K.ofNat 68)), (some ((K.ofNat 67), true)), .mv (.t (K.ofNat 12))⟩, ⟨(some (K.ofNat 69)), (some ((K.ofNat 67), true)), .bin .eql (.t (K.ofNat 68)) (.c (.i .i64 (.ofNat 0)))⟩, ⟨(some (K.ofNat 70)), none, .pick (.t (K.ofNat 67)) (.t (K.ofNat 69)) (.c (.b false))⟩, ⟨(some (K.ofNat 71)), none, .mv (.t (K.ofNat 70))⟩, ⟨(some (K.ofNat 72)), (some ((K.ofNat 71), true)), .mv (.t (K.ofNat 11))⟩, ⟨(some (K.ofNat 73)), (some ((K.ofNat 71), true)), .mv (.t (K.ofNat 15))⟩, ⟨(some (K.ofNat 74)), (some ((K.ofNat 71), true)), .call (.c (.fn (K.ofNat 34) [])) [(.t (K.ofNat 73))]⟩, ⟨(some (K.ofNat 75)), (some ((K.ofNat 71), true)), .call (.c (.fn (K.ofNat 32) [])) [(.t (K.ofNat 72)), (.t (K.ofNat 74))]⟩, ⟨(some (K.ofNat 76)), none, .pick (.t (K.ofNat 71)) (.t (K.ofNat 75)) (.c (.b false))⟩, ⟨(some (K.ofNat 77)), none, .mv (.t (K.ofNat 76))⟩, ⟨(some (K.ofNat 78)), (some ((K.ofNat 77), true)), .mv (.t (K.ofNat 14))⟩, ⟨(some (K.ofNat 79)), (some ((K.ofNat 77), true)), .bin .eql (.t (K.ofNat 78)) (.c (.i .i64 (.ofNat 0)))⟩, ⟨(some (K.ofNat 80)), none, .pick (.t (K.ofNat 77)) (.t (K.ofNat 79)) (.c (.b false))⟩, ⟨(some (K.ofNat 81)), none, .mv (.t (K.ofNat 80))⟩, ⟨(some (K.ofNat 82)), (some ((K.ofNat 81), true)), .mv (.t (K.ofNat 13))⟩, ⟨(some (K.ofNat 83)), (some ((K.ofNat 81), true)), .mv (.t (K.ofNat 15))⟩, ⟨(some (K.ofNat 84)), (some ((K.ofNat 81), true)), .call (.c (.fn (K.ofNat 35) [])) [(.t (K.ofNat 83))]⟩, ⟨(some (K.ofNat 85)), (some ((K.ofNat 81), true)), .bin .eql (.t (K.ofNat 82)) (.t (K.ofNat 84))⟩, ⟨(some (K.ofNat 86)), none, .pick (.t (K.ofNat 81)) (.t (K.ofNat 85)) (.c (.b false))⟩, ⟨(some (K.ofNat 87)), none, .mv (.t (K.ofNat 86))⟩, ⟨(some (K.ofNat 88)), (some ((K.ofNat 87), true)), .call (.c (.fn (K.ofNat 29) [])) []⟩, ⟨(some (K.ofNat 89)), none, .pick (.t (K.ofNat 87)) (.t (K.ofNat 88)) (.c (.b false))⟩, ⟨(some (K.ofNat 4)), none, .as (.t (K.ofNat 89))⟩]
noncomputable def f4_c : EC := (.seq (.reg f4_r0) (.seq (.reg f4_r1) (.seq (.reg f4_r2) (.seq (.reg f4_r3) (.seq (.reg f4_r4) (.seq (.reg f4_r5) (.seq (.reg f4_r6) (.seq (.reg f4_r7) .ret))))))))
noncomputable def f4 : EF := ⟨90, [.tmp (K.ofNat 4)], f4_c, none⟩
section
variable {fs : T EF} {ro : Option K}
structure Calls4 (fs : T EF) : Prop where
  p53 : ∀ a b h P, CallP fs (.fn (K.ofNat 53) []) [.i .i64 a, .i .i64 b] h P = P (.b (ptI a b)) h
  p54 : ∀ a b h P, CallP fs (.fn (K.ofNat 54) []) [.i .i64 a, .i .i64 b] h P = P (.b (ptI a b)) h
  p52 : ∀ m : Nat, m < 64 → ∀ h P, CallP fs (.fn (K.ofNat 52) []) [.i .i64 (m : Int)] h P = P (.i .i64 (pop6 m : Int)) h
  p75 : ∀ m : Nat, m < 64 → ∀ h P, CallP fs (.fn (K.ofNat 75) []) [.i .i64 (m : Int)] h P = P (.i .i64 (pop6 m : Int)) h
  ch : ∀ n k : Nat, k ≤ n → n ≤ 6 → ∀ h P, CallP fs (.fn (K.ofNat 69) []) [.i .i64 (n : Int), .i .i64 (k : Int)] h P = P (.i .i64 (bin6 n k : Int)) h
  aw : ∀ h P, CallP fs (.fn (K.ofNat 29) []) [] h P = P (.b true) h
  c32 : ∀ h v u L M P, Sl iE h v L → Sl iE h u M → L.length ≤ 1000000 → P (.b (decide (L = M))) h → CallP fs (.fn (K.ofNat 32) []) [v, u] h P
  c16 : fs.get (K.ofNat 16) = some f16
  c17 : fs.get (K.ofNat 17) = some f17
  c18 : fs.get (K.ofNat 18) = some f18
  c19 : fs.get (K.ofNat 19) = some f19
  c20 : fs.get (K.ofNat 20) = some f20
  c30 : fs.get (K.ofNat 30) = some f30
  c31 : fs.get (K.ofNat 31) = some f31
  c33 : fs.get (K.ofNat 33) = some f33
  c34 : fs.get (K.ofNat 34) = some f34
  c35 : fs.get (K.ofNat 35) = some f35
  c45 : fs.get (K.ofNat 45) = some f45
  c49 : fs.get (K.ofNat 49) = some f49
  c55 : fs.get (K.ofNat 55) = some f55
  c56 : fs.get (K.ofNat 56) = some f56
  c57 : fs.get (K.ofNat 57) = some f57
  c77 : fs.get (K.ofNat 77) = some f77
  c78 : fs.get (K.ofNat 78) = some f78
  c90 : fs.get (K.ofNat 90) = some f90
  c91 : fs.get (K.ofNat 91) = some alF
structure Facts4 (N : Int) (P : List Int) : Prop where
  chk : chkS N P = 0
  len : P.length ≤ 10
  sets : Sets P
  sz : ∀ k ∈ facN P (2 ^ N.toNat), pop6 k ≤ maxS P
  fac : memI (famB P) = facTo P (2 ^ N.toNat)
  cnt : cntS (mem64 (famB P)) = rcnt (maxS P) (facN P (2 ^ N.toNat))
  hs : hsS (cntS (mem64 (famB P))) = rhsS (cntS (mem64 (famB P)))
  eu : euS ((cntS (mem64 (famB P))).drop 1) 0 1 = reuS (cntS (mem64 (famB P))) ((cntS (mem64 (famB P))).length - 1) 1 0
  ne : 1 ≤ (cntS (mem64 (famB P))).length
end
end Go.Ev
namespace Go.Ev
open Go Go.RowKit
/-! ### The sets -/
theorem tameX_in {N x : Int} (h1 : 1 ≤ N) (h6 : N ≤ 6) : 0 ≤ tameX N x ∧ tameX N x < 2 ^ N.toNat := by
  have h0 : 0 ≤ fw .u64 x := by rw [fw_eq]; exact Int.emod_nonneg _ (by decide)
  obtain ⟨m, hm⟩ := Int.eq_ofNat_of_zero_le h0
  unfold tameX
  rw [hm]
  have key : ∀ p : Nat, 0 < p → p ≤ 64 → 0 ≤ fw .i64 (Int.tmod (m : Int) (p : Int)) ∧ fw .i64 (Int.tmod (m : Int) (p : Int)) < (p : Int) := by
    intro p hp hp2
    have e : Int.tmod (m : Int) (p : Int) = ((m % p : Nat) : Int) := rfl
    have hlt := Nat.mod_lt m hp
    rw [e, fw64 (by omega) (by omega)]
    omega
  obtain ⟨q1, q2⟩ := pow_n h1 h6
  rw [← q2]
  exact key _ (Nat.two_pow_pos _) q1
theorem tameS_in {N : Int} {L : List Int} {i : Nat} (h1 : 1 ≤ N) (h6 : N ≤ 6) : ∀ s ∈ tameS N L i, 0 ≤ s ∧ s < 2 ^ N.toNat := by
  intro s hs
  unfold tameS at hs
  rcases List.mem_cons.1 hs with rfl | hs
  · have : N = 1 ∨ N = 2 ∨ N = 3 ∨ N = 4 ∨ N = 5 ∨ N = 6 := by omega
    rcases this with rfl | rfl | rfl | rfl | rfl | rfl <;> decide
  · obtain ⟨x, _, rfl⟩ := List.mem_map.1 hs
    exact tameX_in h1 h6
theorem sets_in {N : Int} {S : List Int} (h1 : 1 ≤ N) (h6 : N ≤ 6) (h : ∀ s ∈ S, 0 ≤ s ∧ s < 2 ^ N.toNat) : Sets S := by
  intro s hs
  obtain ⟨a, b⟩ := h s hs
  obtain ⟨q1, q2⟩ := pow_n h1 h6
  exact ⟨s.toNat, by omega, by omega⟩
theorem mem_pieces {S : List Int} {x : Int} (h : x ∈ piecesTo S 64) : ∃ k : Nat, x = (k : Int) ∧ k < 64 ∧ (k : Int) ∈ S ∧ ∀ y ∈ S, y = (k : Int) ∨ ptI (k : Int) y = false := by
  unfold piecesTo at h
  obtain ⟨k, hk, rfl⟩ := List.mem_map.1 h
  rw [List.mem_filter, List.mem_range, Bool.and_eq_true] at hk
  obtain ⟨h1, h2, h3⟩ := hk
  refine ⟨k, rfl, h1, ?_, fun y hy => ?_⟩
  · unfold inP at h2
    obtain ⟨y, hy, e⟩ := List.any_eq_true.1 h2
    have : y = (k : Int) := by simpa using e
    rw [← this]; exact hy
  · unfold grP at h3
    have := List.all_eq_true.1 h3 y hy
    simpa using this
theorem pieces_ne {S : List Int} (hS : Sets S) (hne : S ≠ []) : piecesTo S 64 ≠ [] := by
  obtain ⟨m, hm, hmax⟩ := exists_max S hne
  obtain ⟨t, ht, rfl⟩ := hS m hm
  have hmem : (t : Int) ∈ piecesTo S 64 := by
    unfold piecesTo
    rw [List.mem_map]
    refine ⟨t, ?_, rfl⟩
    rw [List.mem_filter, List.mem_range, Bool.and_eq_true]
    refine ⟨ht, ?_, ?_⟩
    · unfold inP; rw [List.any_eq_true]; exact ⟨_, hm, by simp⟩
    · unfold grP; rw [List.all_eq_true]
      intro y hy
      obtain ⟨u, hu, rfl⟩ := hS y hy
      rw [ptI_nat ht hu]
      have h1 := hmax _ hy
      by_cases e : u = t
      · simp [e]
      · have : ¬ t &&& u = t := fun h2 => by have := sub_le h2; omega
        simp [this]
  intro e
  rw [e] at hmem; cases hmem
theorem pieces_sorted {S : List Int} {i : Nat} : (piecesTo S i).Pairwise (· < ·) := by
  unfold piecesTo
  rw [List.pairwise_map]
  refine List.Pairwise.imp (R := (· < ·)) (fun h => by omega) ?_
  exact List.Pairwise.filter _ List.pairwise_lt_range
theorem facts_P {N : Int} {L : List Int} (h1 : 1 ≤ N) (h6 : N ≤ 6) :
    let P := (tameP N L).take 10
    P ≠ [] ∧ P.length ≤ 10 ∧ P.Pairwise (· < ·) ∧ (∀ x ∈ P, 1 ≤ x ∧ x < 2 ^ N.toNat) ∧ ∀ x ∈ P, ∀ y ∈ P, y = x ∨ ptI x y = false := by
  intro P
  have hin := tameS_in (N := N) (L := L) (i := 10) h1 h6
  have hS := sets_in h1 h6 hin
  have hone : (1 : Int) ∈ tameS N L 10 := by unfold tameS; exact List.mem_cons_self
  have hpos : ∀ x ∈ piecesTo (tameS N L 10) 64, 1 ≤ x ∧ x < 2 ^ N.toNat := by
    intro x hx
    obtain ⟨k, rfl, hk, hks, hkm⟩ := mem_pieces hx
    have := hin _ hks
    refine ⟨?_, this.2⟩
    rcases Nat.eq_zero_or_pos k with e | e
    · subst e
      rcases hkm 1 hone with h | h
      · cases h
      · have h2 : ptI ((0 : Nat) : Int) ((1 : Nat) : Int) = false := h
        rw [ptI_nat (by omega) (by omega)] at h2
        simp at h2
    · omega
  have hP : P = (piecesTo (tameS N L 10) 64).take 10 := by
    show (tameP N L).take 10 = _
    unfold tameP
    simp only []
    rw [if_neg]
    rintro ⟨_, e⟩
    obtain ⟨a, b⟩ := List.getElem?_eq_some_iff.1 e
    have := (hpos _ (List.getElem_mem a)).1
    omega
  rw [hP]
  have sub : ∀ x ∈ (piecesTo (tameS N L 10) 64).take 10, x ∈ piecesTo (tameS N L 10) 64 := fun x hx => List.mem_of_mem_take hx
  refine ⟨fun e => ?_, by rw [List.length_take]; omega, List.Pairwise.sublist (List.take_sublist _ _) pieces_sorted, fun x hx => hpos x (sub x hx), fun x hx y hy => ?_⟩
  · have h2 := pieces_ne hS (by unfold tameS; simp)
    have h3 := congrArg List.length e
    rw [List.length_take] at h3
    have : (piecesTo (tameS N L 10) 64).length ≠ 0 := fun e => h2 (List.length_eq_zero_iff.1 e)
    have h3 : min 10 (piecesTo (tameS N L 10) 64).length = 0 := h3
    omega
  · obtain ⟨k, rfl, hk, hks, hkm⟩ := mem_pieces (sub x hx)
    obtain ⟨j, rfl, hj, hjs, hjm⟩ := mem_pieces (sub y hy)
    exact hkm _ hjs
theorem chk_good {N : Int} {P : List Int} (h1 : 1 ≤ N) (h6 : N ≤ 6) (hne : P ≠ []) (hl : P.length ≤ 10) (hs : P.Pairwise (· < ·)) (hin : ∀ x ∈ P, 1 ≤ x ∧ x < 2 ^ N.toNat) (ha : ∀ x ∈ P, ∀ y ∈ P, y = x ∨ ptI x y = false) : chkS N P = 0 := by
  unfold chkS
  rw [if_neg (by omega), if_pos]
  unfold goodS
  have h0 : P.length ≠ 0 := fun e => hne (List.length_eq_zero_iff.1 e)
  rw [decide_eq_true (by omega), decide_eq_true hl, Bool.true_and, Bool.true_and, List.all_eq_true]
  intro i hi
  have hi : i < P.length := by simpa using hi
  have hg : P.getD i 0 = P[i] := by simp [List.getD, hi]
  unfold okAt
  rw [hg]
  have hm := List.getElem_mem hi
  have hb := hin _ hm
  rw [decide_eq_true hb.1, decide_eq_true hb.2, Bool.true_and, Bool.true_and, List.all_eq_true]
  intro y hy
  obtain ⟨j, hj, rfl⟩ := List.getElem_of_mem hy
  have hj2 : j < i := by rw [List.length_take] at hj; omega
  rw [List.getElem_take]
  have hlt : P[j] < P[i] := List.pairwise_iff_getElem.1 hs j i (by omega) hi hj2
  unfold pairOk
  rw [decide_eq_true hlt]
  rcases ha P[j] (List.getElem_mem _) P[i] hm with e | e
  · omega
  · rw [e]; rfl
end Go.Ev
namespace Go.Ev
open Go Go.RowKit
end Go.Ev
namespace Go.Ev
open Go Go.RowKit
section
variable {fs : T EF} {ro : Option K}
structure Calls8 (fs : T EF) : Prop where
  p53 : ∀ a b h P, CallP fs (.fn (K.ofNat 53) []) [.i .i64 a, .i .i64 b] h P = P (.b (ptI a b)) h
  p54 : ∀ a b h P, CallP fs (.fn (K.ofNat 54) []) [.i .i64 a, .i .i64 b] h P = P (.b (ptI a b)) h
  p52 : ∀ m : Nat, m < 64 → ∀ h P, CallP fs (.fn (K.ofNat 52) []) [.i .i64 (m : Int)] h P = P (.i .i64 (pop6 m : Int)) h
  p75 : ∀ m : Nat, m < 64 → ∀ h P, CallP fs (.fn (K.ofNat 75) []) [.i .i64 (m : Int)] h P = P (.i .i64 (pop6 m : Int)) h
  aw : ∀ h P, CallP fs (.fn (K.ofNat 29) []) [] h P = P (.b true) h
  c32 : ∀ h v u L M P, Sl iE h v L → Sl iE h u M → L.length ≤ 1000000 → P (.b (decide (L = M))) h → CallP fs (.fn (K.ofNat 32) []) [v, u] h P
  pt : ∃ ef, fs.get (K.ofNat 54) = some ef ∧ ef.nv = some (flatG partG)
  c16 : fs.get (K.ofNat 16) = some f16
  c26 : fs.get (K.ofNat 26) = some f26
  c27 : fs.get (K.ofNat 27) = some f27
  c28 : fs.get (K.ofNat 28) = some f28
  c30 : fs.get (K.ofNat 30) = some f30
  c31 : fs.get (K.ofNat 31) = some f31
  c33 : fs.get (K.ofNat 33) = some f33
  c44 : fs.get (K.ofNat 44) = some f44
  c45 : fs.get (K.ofNat 45) = some f45
  c46 : fs.get (K.ofNat 46) = some f46
  c47 : fs.get (K.ofNat 47) = some f47
  c49 : fs.get (K.ofNat 49) = some f49
  c55 : fs.get (K.ofNat 55) = some f55
  c57 : fs.get (K.ofNat 57) = some f57
  c64 : fs.get (K.ofNat 64) = some f64
  c65 : fs.get (K.ofNat 65) = some f65
  c66 : fs.get (K.ofNat 66) = some f66
  c67 : fs.get (K.ofNat 67) = some f67
  c68 : fs.get (K.ofNat 68) = some f68
  c73 : fs.get (K.ofNat 73) = some f73
  c74 : fs.get (K.ofNat 74) = some f74
  c78 : fs.get (K.ofNat 78) = some f78
  c82 : fs.get (K.ofNat 82) = some f82
  c83 : fs.get (K.ofNat 83) = some f83
  c89 : fs.get (K.ofNat 89) = some f89
  c91 : fs.get (K.ofNat 91) = some alF
  c92 : fs.get (K.ofNat 92) = some coF
  c93 : fs.get (K.ofNat 93) = some f93
  c94 : fs.get (K.ofNat 94) = some f94
structure Facts8 (N : Int) (P : List Int) : Prop where
  chk : chkS N P = 0
  len : P.length ≤ 10
  sets : Sets P
  sz : ∀ k ∈ facN P (2 ^ N.toNat), pop6 k ≤ maxS P
  ne : 1 ≤ (cntS (mem64 (famB P))).length
  hol : hollS (cntS (mem64 (famB P))) (famB P) = rhTo (facN P (2 ^ N.toNat)) (maxS P)
  bad : ∀ f : Int, badF (famB P) f = (decide (f < 0) || (decide ((2 : Int) ^ N.toNat ≤ f) || !isF P f))
  lnk : ∀ f : Nat, f < 64 → famB P f = true → topsTo (linkB (famB P) f) 64 = piecesTo (lkR P f (2 ^ N.toNat)) 64
  du : topsTo (dualB (famB P) (2 ^ N.toNat - 1)) 64 = piecesTo (duR P (2 ^ N.toNat - 1) (2 ^ N.toNat - 1 + 1)) 64
  du0 : ∀ D, D = piecesTo (duR P (2 ^ N.toNat - 1) (2 ^ N.toNat - 1 + 1)) 64 → ∀ h : 0 < D.length, (D[0]? = some 0 ↔ D[D.length - 1]'(by omega) = 0)
  fne : 1 ≤ (facTo P (2 ^ N.toNat)).length
end
end Go.Ev
namespace Go.Ev
open Go Go.RowKit
theorem self_or {x f : Nat} : x &&& (x ||| f) = x := by
  apply Nat.eq_of_testBit_eq
  intro i
  simp only [Nat.testBit_and, Nat.testBit_or]
  cases x.testBit i <;> cases f.testBit i <;> rfl
theorem sets_map {l : List Nat} (h : ∀ k ∈ l, k < 64) : Sets (l.map fun (k : Nat) => (k : Int)) := by
  intro s hs
  obtain ⟨k, hk, rfl⟩ := List.mem_map.1 hs
  exact ⟨k, h k hk, rfl⟩
end Go.Ev
namespace Go.Ev
open Go Go.RowKit
theorem opp_one : ∀ x, x < 64 → ∀ z, z < 64 → x &&& z ≠ x → ∀ c ∈ cornN x, lessC x c &&& z = lessC x c → lessC x z = c := by decide +kernel
theorem one_opp : ∀ x, x < 64 → ∀ z, z < 64 → pop6 (lessC x z) = 1 → lessC x z ∈ cornN x ∧ lessC x (lessC x z) &&& z = lessC x (lessC x z) := by decide +kernel
theorem corn_pop : ∀ x, x < 64 → ∀ c ∈ cornN x, pop6 c = 1 := by decide +kernel
theorem corn_or : ∀ x, x < 64 → ∀ c ∈ cornN x, ∀ y, y < 64 → c &&& y = c ∨ c &&& y = 0 := by decide +kernel
theorem corn_ne : ∀ x, x < 64 → ∀ c ∈ cornN x, c ≠ 0 := by decide +kernel
theorem or_sub_iff {a b y : Nat} : (a ||| b) &&& y = a ||| b ↔ a &&& y = a ∧ b &&& y = b := by
  constructor
  · intro h
    constructor
    · exact sub_trans self_or h
    · exact sub_trans (by rw [Nat.or_comm]; exact self_or) h
  · rintro ⟨h1, h2⟩
    rw [Nat.and_or_distrib_right, h1, h2]
theorem fold_sub {p : Nat → Bool} {y : Nat} : ∀ (l : List Nat), ((l.foldl (fun s c => if p c = true then s ||| c else s) 0) &&& y = l.foldl (fun s c => if p c = true then s ||| c else s) 0) ↔ ∀ c ∈ l, p c = true → c &&& y = c := by
  intro l
  refine snoc_ind (P := fun l => ((l.foldl (fun s c => if p c = true then s ||| c else s) 0) &&& y = l.foldl (fun s c => if p c = true then s ||| c else s) 0) ↔ ∀ c ∈ l, p c = true → c &&& y = c) (by simp) (fun l a ih => ?_) l
  rw [List.foldl_append]
  show ((if p a = true then _ ||| a else _) &&& y = if p a = true then _ ||| a else _) ↔ _
  by_cases e : p a = true
  · rw [if_pos e, or_sub_iff, ih]
    constructor
    · rintro ⟨h1, h2⟩ c hc hp
      rcases List.mem_append.1 hc with h | h
      · exact h1 c h hp
      · rw [List.mem_singleton.1 h]; exact h2
    · intro h
      exact ⟨fun c hc hp => h c (List.mem_append_left _ hc) hp, h a (by simp) e⟩
  · rw [if_neg e, ih]
    constructor
    · intro h1 c hc hp
      rcases List.mem_append.1 hc with h | h
      · exact h1 c h hp
      · rw [List.mem_singleton.1 h] at hp; exact absurd hp e
    · intro h c hc hp
      exact h c (List.mem_append_left _ hc) hp
theorem newPS_lt {x : Nat} {S : List Int} (hx : x < 64) : newPS x S < 64 := by
  have := npTo_lt (S := S) hx (cornN x).length (Nat.le_refl _)
  rwa [show npTo x S (cornN x).length = newPS x S by unfold npTo newPS; rw [List.take_length]] at this
theorem opp_iff {x c : Nat} {B : List Nat} (hx : x < 64) (hB : ∀ z ∈ B, z < 64) : oppS x c (castL B) = true ↔ ∃ z ∈ B, lessC x c &&& z = lessC x c := by
  unfold oppS castL
  rw [List.any_eq_true]
  have hl := @less_le x c
  constructor
  · rintro ⟨s, hs, h⟩
    obtain ⟨z, hz, rfl⟩ := List.mem_map.1 hs
    have hz64 := hB z hz
    rw [ptI_nat (by omega) (by omega), decide_eq_true_eq] at h
    exact ⟨z, hz, h⟩
  · rintro ⟨z, hz, h⟩
    have hz64 := hB z hz
    exact ⟨_, List.mem_map.2 ⟨z, hz, rfl⟩, by rw [ptI_nat (by omega) (by omega), decide_eq_true_eq]; exact h⟩
/-- A piece fits if each piece before it misses a corner whose opposite side lies in some piece before. -/
theorem fits_iff {x : Nat} {B : List Nat} (hx : x < 64) (hB : ∀ z ∈ B, z < 64) (ha : ∀ z ∈ B, x &&& z ≠ x) :
    fitS x (castL B) = true ↔ ∀ y ∈ B, ∃ z ∈ B, pop6 (lessC x z) = 1 ∧ lessC x z &&& y = 0 := by
  have key : ∀ y ∈ B, (ptI (newPS x (castL B) : Int) (y : Int) = false ↔ ∃ z ∈ B, pop6 (lessC x z) = 1 ∧ lessC x z &&& y = 0) := by
    intro y hy
    have hy64 := hB y hy
    rw [ptI_nat (newPS_lt hx) hy64, decide_eq_false_iff_not]
    unfold newPS
    rw [fold_sub]
    constructor
    · intro h
      have h2 : ∃ c ∈ cornN x, oppS x c (castL B) = true ∧ ¬ c &&& y = c := by
        apply Classical.byContradiction
        intro hn
        exact h fun c hc hp => Classical.byContradiction fun hne => hn ⟨c, hc, hp, hne⟩
      obtain ⟨c, hc, ho, hne⟩ := h2
      obtain ⟨z, hz, hs⟩ := (opp_iff hx hB).1 ho
      have e := opp_one x hx z (hB z hz) (ha z hz) c hc hs
      refine ⟨z, hz, by rw [e]; exact corn_pop x hx c hc, ?_⟩
      rw [e]
      rcases corn_or x hx c hc y hy64 with h3 | h3
      · exact absurd h3 hne
      · exact h3
    · rintro ⟨z, hz, h1, h2⟩ h
      obtain ⟨hc, hs⟩ := one_opp x hx z (hB z hz) h1
      have := h _ hc ((opp_iff hx hB).2 ⟨z, hz, hs⟩)
      rw [h2] at this
      exact corn_ne x hx _ hc this.symm
  unfold fitS
  rw [List.all_eq_true]
  constructor
  · intro h y hy
    have := h _ (List.mem_map.2 ⟨y, hy, rfl⟩)
    exact (key y hy).1 (by simpa using this)
  · intro h s hs
    obtain ⟨y, hy, rfl⟩ := List.mem_map.1 hs
    have := (key y hy).2 (h y hy)
    simpa using this
theorem nextR_iff {Q : List Nat} {m i : Nat} : nextR Q m i = true ↔ ∀ a, a < Q.length → m / 2 ^ a % 2 = 1 → ∃ b, b < Q.length ∧ m / 2 ^ b % 2 = 1 ∧ pop6 (lessC (Q.getD i 0) (Q.getD b 0)) = 1 ∧ lessC (Q.getD i 0) (Q.getD b 0) &&& Q.getD a 0 = 0 := by
  unfold nextR nxB nxA nxC
  simp only [List.all_eq_true, List.mem_range, Bool.or_eq_true, decide_eq_true_eq, List.any_eq_true, Bool.and_eq_true]
  constructor
  · intro h a ha h1
    rcases h a ha with h2 | ⟨b, h3, h4, h5, h6⟩
    · omega
    · exact ⟨b, h3, h4, h5, h6⟩
  · intro h a ha
    by_cases e : m / 2 ^ a % 2 = 0
    · exact .inl e
    · obtain ⟨b, h3, h4, h5, h6⟩ := h a ha (by omega)
      exact .inr ⟨b, h3, h4, h5, h6⟩
/-- Both say the same, if m is the set of the pieces before. -/
theorem fits_next {Q B : List Nat} {m i : Nat} (hi : i < Q.length) (hQ : ∀ y ∈ Q, y < 64) (ha : ∀ j, j < Q.length → j ≠ i → Q.getD i 0 &&& Q.getD j 0 ≠ Q.getD i 0)
    (hm : m / 2 ^ i % 2 = 0) (hB : ∀ z, z ∈ B ↔ ∃ j, j < Q.length ∧ m / 2 ^ j % 2 = 1 ∧ Q.getD j 0 = z) : fitS (Q.getD i 0) (castL B) = nextR Q m i := by
  have hQ' : ∀ j, j < Q.length → Q.getD j 0 < 64 := fun j hj => by
    have := hQ _ (List.getElem_mem hj)
    simpa [List.getD, hj] using this
  have h64 : ∀ z ∈ B, z < 64 := fun z hz => by
    obtain ⟨j, hj, _, rfl⟩ := (hB z).1 hz
    exact hQ' j hj
  have hanti : ∀ z ∈ B, Q.getD i 0 &&& z ≠ Q.getD i 0 := fun z hz => by
    obtain ⟨j, hj, h1, rfl⟩ := (hB z).1 hz
    exact ha j hj fun e => by rw [e] at h1; omega
  rw [Bool.eq_iff_iff, fits_iff (hQ' i hi) h64 hanti, nextR_iff]
  constructor
  · intro h a hal h1
    obtain ⟨z, hz, h2, h3⟩ := h _ ((hB _).2 ⟨a, hal, h1, rfl⟩)
    obtain ⟨b, hb, h4, rfl⟩ := (hB z).1 hz
    exact ⟨b, hb, h4, h2, h3⟩
  · intro h y hy
    obtain ⟨a, hal, h1, rfl⟩ := (hB y).1 hy
    obtain ⟨b, hb, h2, h3, h4⟩ := h a hal h1
    exact ⟨_, (hB _).2 ⟨b, hb, h2, rfl⟩, h3, h4⟩
end Go.Ev
namespace Go.Ev
open Go Go.RowKit
/-- From m the rest can follow. -/
inductive Fin0 (Q : List Nat) : Nat → Prop
  | full : Fin0 Q (2 ^ Q.length - 1)
  | step {m i : Nat} : okN Q m i → Fin0 Q (m ||| 2 ^ i) → Fin0 Q m
theorem fin_back {Q : List Nat} {m : Nat} (h : Reach Q m) : Fin0 Q m → Fin0 Q 0 := by
  induction h with
  | zero => exact fun h => h
  | step _ ho ih => exact fun h => ih (.step ho h)
theorem fin_reach {Q : List Nat} {m : Nat} (h : Fin0 Q m) : Reach Q m → Reach Q (2 ^ Q.length - 1) := by
  induction h with
  | full => exact fun h => h
  | step ho _ ih => exact fun h => ih (.step h ho)
theorem reach_iff {Q : List Nat} : Reach Q (2 ^ Q.length - 1) ↔ Fin0 Q 0 := ⟨fun h => fin_back h .full, fun h => fin_reach h .zero⟩
/-- The set of the indices. -/
def setO (O : List Nat) : Nat := O.foldl (fun s i => s ||| 2 ^ i) 0
theorem setO_snoc {O : List Nat} {i : Nat} : setO (O ++ [i]) = setO O ||| 2 ^ i := by unfold setO; rw [List.foldl_append]; rfl
theorem setO_bit (O : List Nat) (j : Nat) : (setO O).testBit j = decide (j ∈ O) := by
  refine snoc_ind (P := fun O => (setO O).testBit j = decide (j ∈ O)) (by simp [setO]) (fun l a ih => ?_) O
  rw [setO_snoc, Nat.testBit_or, ih, Nat.testBit_two_pow]
  by_cases e : a = j
  · subst e; simp
  · by_cases e2 : j ∈ l
    · simp [e2]
    · simp [e2, e, Ne.symm e]
theorem bit_iff {m j : Nat} : m.testBit j = true ↔ m / 2 ^ j % 2 = 1 := by rw [Nat.testBit_eq_decide_div_mod_eq, decide_eq_true_eq]
theorem bit_iff0 {m j : Nat} : m.testBit j = false ↔ m / 2 ^ j % 2 = 0 := by rw [Nat.testBit_eq_decide_div_mod_eq, decide_eq_false_iff_not]; omega
theorem setO_mem {O : List Nat} {j : Nat} : setO O / 2 ^ j % 2 = 1 ↔ j ∈ O := by rw [← bit_iff, setO_bit, decide_eq_true_eq]
theorem setO_not {O : List Nat} {j : Nat} : setO O / 2 ^ j % 2 = 0 ↔ j ∉ O := by rw [← bit_iff0, setO_bit, decide_eq_false_iff_not]
theorem setO_lt {O : List Nat} {n : Nat} (h : ∀ i ∈ O, i < n) : setO O < 2 ^ n := by
  revert h
  refine snoc_ind (P := fun O => (∀ i ∈ O, i < n) → setO O < 2 ^ n) (fun _ => Nat.two_pow_pos n) (fun l a ih h => ?_) O
  rw [setO_snoc]
  exact Nat.or_lt_two_pow (ih fun i hi => h i (List.mem_append_left _ hi)) (Nat.pow_lt_pow_right (by omega) (h a (by simp)))
/-- An order in which each piece may come next. -/
inductive Ord (Q : List Nat) : List Nat → Prop
  | nil : Ord Q []
  | snoc {O : List Nat} {i : Nat} : Ord Q O → okN Q (setO O) i → Ord Q (O ++ [i])
theorem Ord.lt {Q O : List Nat} (h : Ord Q O) : ∀ i ∈ O, i < Q.length := by
  induction h with
  | nil => intro i hi; cases hi
  | snoc _ ho ih =>
    intro i hi
    rcases List.mem_append.1 hi with h | h
    · exact ih i h
    · rw [List.mem_singleton.1 h]; exact ho.1
theorem nodup_len : ∀ (n : Nat) (O : List Nat), O.Nodup → (∀ i ∈ O, i < n) → O.length ≤ n ∧ (O.length = n → ∀ j, j < n → j ∈ O)
  | 0, [], _, _ => ⟨Nat.le_refl _, fun _ j hj => by omega⟩
  | 0, a :: l, _, h => absurd (h a List.mem_cons_self) (by omega)
  | n + 1, O, hd, h => by
    have hd2 : (O.erase n).Nodup := hd.erase n
    have h2 : ∀ i ∈ O.erase n, i < n := fun i hi => by
      have h3 := h i (List.mem_of_mem_erase hi)
      have h4 : i ≠ n := ((List.Nodup.mem_erase_iff hd).1 hi).1
      omega
    obtain ⟨q1, q2⟩ := nodup_len n (O.erase n) hd2 h2
    by_cases e : n ∈ O
    · have hl := List.length_erase_of_mem e
      have : 1 ≤ O.length := List.length_pos_of_mem e
      refine ⟨by omega, fun h5 j hj => ?_⟩
      by_cases e2 : j = n
      · rw [e2]; exact e
      · exact List.mem_of_mem_erase (q2 (by omega) j (by omega))
    · rw [List.erase_of_not_mem e] at q1 q2
      refine ⟨by omega, fun h5 => by omega⟩
theorem Ord.nodup {Q O : List Nat} (h : Ord Q O) : O.Nodup := by
  induction h with
  | nil => exact List.nodup_nil
  | snoc hh ho ih =>
    rw [List.nodup_append]
    refine ⟨ih, by simp, ?_⟩
    intro a ha b hb e
    rw [List.mem_singleton.1 hb] at e
    subst e
    exact setO_not.1 ho.2.1 ha
theorem Ord.len {Q O : List Nat} (h : Ord Q O) : O.length ≤ Q.length := (nodup_len _ _ h.nodup h.lt).1
theorem Ord.full {Q O : List Nat} (h : Ord Q O) (hl : O.length = Q.length) : setO O = 2 ^ Q.length - 1 := by
  apply Nat.eq_of_testBit_eq
  intro j
  rw [setO_bit, Nat.testBit_two_pow_sub_one]
  by_cases e : j < Q.length
  · rw [decide_eq_true e, decide_eq_true ((nodup_len _ _ h.nodup h.lt).2 hl j e)]
  · rw [decide_eq_false e, decide_eq_false fun hm => e (h.lt j hm)]
theorem Ord.fin {Q O : List Nat} (h : Ord Q O) : Fin0 Q (setO O) → Fin0 Q 0 := by
  induction h with
  | nil => exact fun h => h
  | snoc _ ho ih => exact fun h => ih (.step ho (by rw [← setO_snoc]; exact h))
/-- The reference's test of such an order. -/
theorem shT_app {Q : List Nat} : ∀ (A B : List Int) (m : Nat), shT Q (A ++ B) m = (shT Q A m && shT Q B (A.foldl (fun s i => s ||| 2 ^ i.toNat) m))
  | [], B, m => rfl
  | o :: A, B, m => by
    show shT Q (o :: (A ++ B)) m = _
    rw [shT, shT_app A B, shT]
    show _ = ((_ && _) && shT Q B (A.foldl _ (m ||| 2 ^ o.toNat)))
    cases decide (o < 0) <;> cases decide ((Q.length : Int) ≤ o) <;> cases decide (m / 2 ^ o.toNat % 2 = 1) <;> cases nextR Q m o.toNat <;> simp
theorem foldO (O : List Nat) : ∀ m, (castL O).foldl (fun s i => s ||| 2 ^ i.toNat) m = O.foldl (fun s i => s ||| 2 ^ i) m := by
  induction O with
  | nil => intro m; rfl
  | cons a l ih => intro m; exact ih _
theorem Ord.sh {Q O : List Nat} (h : Ord Q O) : shT Q (castL O) 0 = true := by
  induction h with
  | nil => rfl
  | @snoc O i _ ho ih =>
    have e : castL (O ++ [i]) = castL O ++ [(i : Int)] := by unfold castL; rw [List.map_append]; rfl
    rw [e, shT_app, ih, foldO]
    show (true && shT Q [(i : Int)] (setO O)) = true
    have h1 : ¬ (i : Int) < 0 := by omega
    have h2 : ¬ (Q.length : Int) ≤ (i : Int) := by have := ho.1; omega
    have h3 : ¬ setO O / 2 ^ i % 2 = 1 := by have := ho.2.1; omega
    rw [shT, shT, decide_eq_false h1, decide_eq_false h2, show ((i : Int)).toNat = i from rfl, decide_eq_false h3, ho.2.2]; rfl
theorem Ord.shell {Q O : List Nat} (h : Ord Q O) (hl : O.length = Q.length) (hp : pureS (castL Q) = true) : shellR Q (castL O) = true := by
  unfold shellR
  rw [h.sh, hp, decide_eq_true (show (castL O).length = Q.length by unfold castL; rw [List.length_map]; exact hl)]; rfl
/-- What was tried: sets from which the rest can't follow, or those of a beginning of the order. -/
structure Tri (Q : List Nat) (M : List (List Bool)) (O : List Nat) : Prop where
  len : ∀ x ∈ M, x.length = 10
  bad : ∀ x ∈ M, (∃ m, m < 1024 ∧ x = arr (fun i => m.testBit i) 10 ∧ ¬ Fin0 Q m) ∨ ∃ k, k < O.length ∧ x = arr (fun i => (setO (O.take k)).testBit i) 10
theorem arr_bits {a b : Nat} (ha : a < 1024) (hb : b < 1024) (h : arr (fun i => a.testBit i) 10 = arr (fun i => b.testBit i) 10) : a = b := by
  apply Nat.eq_of_testBit_eq
  intro j
  by_cases e : j < 10
  · have := congrArg (fun l => l[j]?) h
    simpa [arr, e] using this
  · have h1 : (2 : Nat) ^ 10 ≤ 2 ^ j := Nat.pow_le_pow_right (by omega) (by omega)
    rw [Nat.testBit_lt_two_pow (by omega), Nat.testBit_lt_two_pow (by omega)]
theorem setO_len {O : List Nat} (hd : O.Nodup) {k : Nat} (hk : k < O.length) : setO (O.take k) ≠ setO O := by
  intro e
  have h1 : O[k] ∈ O := List.getElem_mem hk
  have h2 := setO_mem.2 h1
  rw [← e] at h2
  have h3 := setO_mem.1 h2
  rw [List.nodup_iff_pairwise_ne, List.pairwise_iff_getElem] at hd
  obtain ⟨j, hj, e2⟩ := List.getElem_of_mem h3
  have hj' : j < k := by simp at hj; omega
  rw [List.getElem_take] at e2
  exact hd j k (by omega) hk hj' e2
theorem Tri.hit {Q M : List _} {O : List Nat} (t : Tri Q M O) (ho : Ord Q O) (hQ : Q.length ≤ 10) (hm : arr (fun i => (setO O).testBit i) 10 ∈ M) : ¬ Fin0 Q (setO O) := by
  have h10 : ∀ {P : List Nat}, (∀ i ∈ P, i < Q.length) → setO P < 1024 := fun {P} h => by
    have := setO_lt h
    have h2 : 2 ^ Q.length ≤ 2 ^ 10 := Nat.pow_le_pow_right (by omega) hQ
    omega
  rcases t.bad _ hm with ⟨m, h1, h2, h3⟩ | ⟨k, h1, h2⟩
  · rw [arr_bits (h10 ho.lt) h1 h2]; exact h3
  · have := arr_bits (h10 ho.lt) (h10 fun i hi => ho.lt i (List.mem_of_mem_take hi)) h2
    exact absurd this.symm (setO_len ho.nodup h1)
theorem Tri.enter {Q M : List _} {O : List Nat} {i : Nat} (t : Tri Q M O) : Tri Q (M ++ [arr (fun i => (setO O).testBit i) 10]) (O ++ [i]) := by
  refine ⟨fun x hx => ?_, fun x hx => ?_⟩
  · rcases List.mem_append.1 hx with h | h
    · exact t.len x h
    · rw [List.mem_singleton.1 h, arr_len]
  · rcases List.mem_append.1 hx with h | h
    · rcases t.bad x h with h2 | ⟨k, h2, h3⟩
      · exact .inl h2
      · exact .inr ⟨k, by simp; omega, by rw [List.take_append_of_le_length (by omega)]; exact h3⟩
    · rw [List.mem_singleton.1 h]
      exact .inr ⟨O.length, by simp, by rw [List.take_append_of_le_length (by omega), List.take_length]⟩
/-- While the pieces are gone through: the set itself is there too. -/
structure Tri1 (Q : List Nat) (M : List (List Bool)) (O : List Nat) : Prop where
  len : ∀ x ∈ M, x.length = 10
  bad : ∀ x ∈ M, (∃ m, m < 1024 ∧ x = arr (fun i => m.testBit i) 10 ∧ ¬ Fin0 Q m) ∨ ∃ k, k ≤ O.length ∧ x = arr (fun i => (setO (O.take k)).testBit i) 10
theorem Tri.add {Q M : List _} {O : List Nat} (t : Tri Q M O) : Tri1 Q (M ++ [arr (fun i => (setO O).testBit i) 10]) O := by
  refine ⟨fun x hx => ?_, fun x hx => ?_⟩
  · rcases List.mem_append.1 hx with h | h
    · exact t.len x h
    · rw [List.mem_singleton.1 h, arr_len]
  · rcases List.mem_append.1 hx with h | h
    · rcases t.bad x h with h2 | ⟨k, h2, h3⟩
      · exact .inl h2
      · exact .inr ⟨k, by omega, h3⟩
    · rw [List.mem_singleton.1 h]
      exact .inr ⟨O.length, Nat.le_refl _, by rw [List.take_length]⟩
theorem Tri1.down {Q M : List _} {O : List Nat} {i : Nat} (t : Tri1 Q M O) : Tri Q M (O ++ [i]) :=
  ⟨t.len, fun x hx => by
    rcases t.bad x hx with h2 | ⟨k, h2, h3⟩
    · exact .inl h2
    · exact .inr ⟨k, by simp; omega, by rw [List.take_append_of_le_length (by omega)]; exact h3⟩⟩
theorem Tri.up {Q M : List _} {O : List Nat} {i : Nat} (t : Tri Q M (O ++ [i])) : Tri1 Q M O :=
  ⟨t.len, fun x hx => by
    rcases t.bad x hx with h2 | ⟨k, h2, h3⟩
    · exact .inl h2
    · simp only [List.length_append, List.length_cons, List.length_nil] at h2
      exact .inr ⟨k, by omega, by rw [List.take_append_of_le_length (by omega)] at h3; exact h3⟩⟩
theorem Tri1.out {Q M : List _} {O : List Nat} (t : Tri1 Q M O) (ho : Ord Q O) (hQ : Q.length ≤ 10) (hf : ¬ Fin0 Q (setO O)) : Tri Q M O :=
  ⟨t.len, fun x hx => by
    rcases t.bad x hx with h2 | ⟨k, h2, h3⟩
    · exact .inl h2
    · by_cases e : k = O.length
      · subst e
        rw [List.take_length] at h3
        have h4 := setO_lt ho.lt
        have h5 : 2 ^ Q.length ≤ 2 ^ 10 := Nat.pow_le_pow_right (by omega) hQ
        exact .inl ⟨_, by omega, h3, hf⟩
      · exact .inr ⟨k, by omega, h3⟩⟩
theorem cover_len : ∀ (n : Nat) (O : List Nat), (∀ j, j < n → j ∈ O) → n ≤ O.length
  | 0, _, _ => Nat.zero_le _
  | n + 1, O, h => by
    have e := h n (by omega)
    have hl := List.length_erase_of_mem e
    have : 1 ≤ O.length := List.length_pos_of_mem e
    have := cover_len n (O.erase n) fun j hj => (List.mem_erase_of_ne (by omega)).2 (h j (by omega))
    omega
/-- If no piece can come next such that the rest can follow, and some are left, the rest can't follow. -/
theorem no_fin {Q O : List Nat} (ho : Ord Q O) (hl : O.length < Q.length) (h : ∀ i, i < Q.length → okN Q (setO O) i → ¬ Fin0 Q (setO (O ++ [i]))) : ¬ Fin0 Q (setO O) := by
  intro hf
  generalize hm : setO O = m at hf
  cases hf with
  | full =>
    have h1 : ∀ j, j < Q.length → j ∈ O := fun j hj => by
      have : (setO O).testBit j = true := by rw [hm, Nat.testBit_two_pow_sub_one, decide_eq_true hj]
      rwa [setO_bit, decide_eq_true_eq] at this
    have : Q.length ≤ O.length := by
      exact cover_len _ _ h1
    omega
  | step hk hf => exact h _ hk.1 (by rw [hm]; exact hk) (by rw [setO_snoc, hm]; exact hf)
end Go.Ev
