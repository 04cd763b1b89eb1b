/-
  Rounds: whether a schedule is balanced; follow numbers of the reference.
  Rounds: the follow numbers of the reference.
  Rounds: rings.
  slices.Sort of few numbers.
  Rounds: rings, of the program.
  Rounds: rings, of the reference.
  Rounds: one ring, whichever round is the first.
  Rounds: whether a schedule is perfect; rings of two rounds.
  Rounds: schedules that are made.
  Rounds: is it a round, a beginning, a schedule? (the reference)
  Rounds: schedules that are made, checked by the reference.
  Rounds: the law RoundsFollows.
  Rounds: sums of follow numbers; other names.
  Rounds: Rings of the program; the law RoundsSums.
  Rounds: few; what is no schedule gives the same error.
-/
import Derived.Test.YthememdeglgnpaaPf
namespace Go.Ev
open Go Go.RowKit
noncomputable def f55_r0 : List EOper := [⟨(some (K.ofNat 4)), none, .as (.c (.b false))⟩]
noncomputable def f55_r1 : List EOper := [⟨(some (K.ofNat 9)), none, .mv (.t (K.ofNat 0))⟩, ⟨(some (K.ofNat 10)), none, .mv (.t (K.ofNat 1))⟩, ⟨(some (K.ofNat 11)), none, .call (.c (.fn (K.ofNat 54) [])) [(.t (K.ofNat 9)), (.t (K.ofNat 10))]⟩, ⟨(some (K.ofNat 12)), none, .len (.t (K.ofNat 11))⟩, ⟨(some (K.ofNat 13)), none, .mv (.c (.i .i64 (.ofNat 0)))⟩]
noncomputable def f55_r2 : List EOper := [⟨(some (K.ofNat 14)), none, .bin .lss (.t (K.ofNat 13)) (.t (K.ofNat 12))⟩]
noncomputable def f55_r3 : List EOper := [⟨(some (K.ofNat 15)), none, .mv (.t (K.ofNat 13))⟩, ⟨(some (K.ofNat 16)), none, .iads 1 (.t (K.ofNat 11)) (.t (K.ofNat 13))⟩, ⟨(some (K.ofNat 17)), none, .ld (.t (K.ofNat 16))⟩, ⟨(some (K.ofNat 5)), none, .as (.t (K.ofNat 15))⟩, ⟨(some (K.ofNat 6)), none, .as (.t (K.ofNat 17))⟩]
noncomputable def f55_r4 : List EOper := [⟨(some (K.ofNat 18)), none, .mv (.t (K.ofNat 6))⟩, ⟨(some (K.ofNat 19)), none, .len (.t (K.ofNat 18))⟩, ⟨(some (K.ofNat 20)), none, .mv (.c (.i .i64 (.ofNat 0)))⟩]
noncomputable def f55_r5 : List EOper := [⟨(some (K.ofNat 21)), none, .bin .lss (.t (K.ofNat 20)) (.t (K.ofNat 19))⟩]
noncomputable def f55_r6 : List EOper := [⟨(some (K.ofNat 22)), none, .mv (.t (K.ofNat 20))⟩, ⟨(some (K.ofNat 23)), none, .iads 1 (.t (K.ofNat 18)) (.t (K.ofNat 20))⟩, ⟨(some (K.ofNat 24)), none, .ld (.t (K.ofNat 23))⟩, ⟨(some (K.ofNat 7)), none, .as (.t (K.ofNat 22))⟩, ⟨(some (K.ofNat 8)), none, .as (.t (K.ofNat 24))⟩]
noncomputable def f55_r7 : List EOper := [⟨(some (K.ofNat 25)), none, .mv (.t (K.ofNat 5))⟩, ⟨(some (K.ofNat 26)), none, .mv (.t (K.ofNat 7))⟩, ⟨(some (K.ofNat 27)), none, .bin .neq (.t (K.ofNat 25)) (.t (K.ofNat 26))⟩, ⟨(some (K.ofNat 28)), none, .mv (.t (K.ofNat 27))⟩, ⟨(some (K.ofNat 29)), (some ((K.ofNat 28), true)), .mv (.t (K.ofNat 8))⟩, ⟨(some (K.ofNat 30)), (some ((K.ofNat 28), true)), .bin .neq (.t (K.ofNat 29)) (.c (.i .i64 (.ofNat 1)))⟩, ⟨(some (K.ofNat 31)), none, .pick (.t (K.ofNat 28)) (.t (K.ofNat 30)) (.c (.b false))⟩]
noncomputable def f55_r8 : List EOper := [⟨(some (K.ofNat 4)), none, .as (.c (.b false))⟩]
noncomputable def f55_r9 : List EOper := [⟨(some (K.ofNat 32)), none, .bin .add (.t (K.ofNat 20)) (.c (.i .i64 (.ofNat 1)))⟩, ⟨(some (K.ofNat 20)), none, .mv (.t (K.ofNat 32))⟩]
noncomputable def f55_l0 : EC := (.seq (.reg f55_r5) (.seq (.cond (.t (K.ofNat 21)) .skip (.exit 2)) (.seq (.block 3 (.seq (.reg f55_r6) (.seq (.reg f55_r7) (.cond (.t (K.ofNat 31)) (.seq (.reg f55_r8) .ret) .skip)))) (.reg f55_r9))))
noncomputable def f55_r10 : List EOper := [⟨(some (K.ofNat 33)), none, .bin .add (.t (K.ofNat 13)) (.c (.i .i64 (.ofNat 1)))⟩, ⟨(some (K.ofNat 13)), none, .mv (.t (K.ofNat 33))⟩]
noncomputable def f55_l1 : EC := (.seq (.reg f55_r2) (.seq (.cond (.t (K.ofNat 14)) .skip (.exit 0)) (.seq (.block 1 (.seq (.reg f55_r3) (.seq (.reg f55_r4) (.block 2 (.loop f55_l0))))) (.reg f55_r10))))
noncomputable def f55_r11 : List EOper := [⟨(some (K.ofNat 4)), none, .as (.c (.b true))⟩]
noncomputable def f55_c : EC := (.seq (.reg f55_r0) (.seq (.seq (.reg f55_r1) (.block 0 (.loop f55_l1))) (.seq (.reg f55_r11) .ret)))
noncomputable def f55 : EF := ⟨34, [.tmp (K.ofNat 4)], f55_c, none⟩
noncomputable def f38_r0 : List EOper := [⟨(some (K.ofNat 2)), none, .as (.c (.b false))⟩]
noncomputable def f38_r1 : List EOper := [⟨(some (K.ofNat 3)), none, .as (.c (.i .i64 (.ofNat 0)))⟩]
noncomputable def f38_r2 : List EOper := [⟨(some (K.ofNat 5)), none, .mv (.t (K.ofNat 3))⟩, ⟨(some (K.ofNat 6)), none, .mv (.t (K.ofNat 0))⟩, ⟨(some (K.ofNat 7)), none, .len (.t (K.ofNat 6))⟩, ⟨(some (K.ofNat 8)), none, .bin .lss (.t (K.ofNat 5)) (.t (K.ofNat 7))⟩]
noncomputable def f38_r3 : List EOper := [⟨(some (K.ofNat 4)), none, .as (.c (.i .i64 (.ofNat 0)))⟩]
noncomputable def f38_r4 : List EOper := [⟨(some (K.ofNat 11)), none, .mv (.t (K.ofNat 4))⟩, ⟨(some (K.ofNat 12)), none, .mv (.t (K.ofNat 0))⟩, ⟨(some (K.ofNat 13)), none, .mv (.t (K.ofNat 3))⟩, ⟨(some (K.ofNat 14)), none, .iads 1 (.t (K.ofNat 12)) (.t (K.ofNat 13))⟩, ⟨(some (K.ofNat 15)), none, .ld (.t (K.ofNat 14))⟩, ⟨(some (K.ofNat 16)), none, .len (.t (K.ofNat 15))⟩, ⟨(some (K.ofNat 17)), none, .bin .lss (.t (K.ofNat 11)) (.t (K.ofNat 16))⟩]
noncomputable def f38_r5 : List EOper := [⟨(some (K.ofNat 20)), none, .mv (.t (K.ofNat 3))⟩, ⟨(some (K.ofNat 21)), none, .mv (.t (K.ofNat 4))⟩, ⟨(some (K.ofNat 22)), none, .bin .neq (.t (K.ofNat 20)) (.t (K.ofNat 21))⟩, ⟨(some (K.ofNat 23)), none, .mv (.t (K.ofNat 22))⟩, ⟨(some (K.ofNat 24)), (some ((K.ofNat 23), true)), .mv (.t (K.ofNat 0))⟩, ⟨(some (K.ofNat 25)), (some ((K.ofNat 23), true)), .mv (.t (K.ofNat 3))⟩, ⟨(some (K.ofNat 26)), (some ((K.ofNat 23), true)), .iads 1 (.t (K.ofNat 24)) (.t (K.ofNat 25))⟩, ⟨(some (K.ofNat 27)), (some ((K.ofNat 23), true)), .ld (.t (K.ofNat 26))⟩, ⟨(some (K.ofNat 28)), (some ((K.ofNat 23), true)), .mv (.t (K.ofNat 4))⟩, ⟨(some (K.ofNat 29)), (some ((K.ofNat 23), true)), .iads 1 (.t (K.ofNat 27)) (.t (K.ofNat 28))⟩, ⟨(some (K.ofNat 30)), (some ((K.ofNat 23), true)), .ld (.t (K.ofNat 29))⟩, ⟨(some (K.ofNat 31)), (some ((K.ofNat 23), true)), .bin .neq (.t (K.ofNat 30)) (.c (.i .i64 (.ofNat 1)))⟩, ⟨(some (K.ofNat 32)), none, .pick (.t (K.ofNat 23)) (.t (K.ofNat 31)) (.c (.b false))⟩]
noncomputable def f38_r6 : List EOper := [⟨(some (K.ofNat 2)), none, .as (.c (.b false))⟩]
noncomputable def f38_r7 : List EOper := [⟨(some (K.ofNat 18)), none, .mv (.t (K.ofNat 4))⟩, ⟨(some (K.ofNat 19)), none, .bin .add (.t (K.ofNat 18)) (.c (.i .i64 (.ofNat 1)))⟩, ⟨(some (K.ofNat 4)), none, .as (.t (K.ofNat 19))⟩]
noncomputable def f38_l0 : EC := (.seq (.seq (.reg f38_r4) (.cond (.t (K.ofNat 17)) .skip (.exit 2))) (.seq (.block 3 (.seq (.reg f38_r5) (.cond (.t (K.ofNat 32)) (.seq (.reg f38_r6) .ret) .skip))) (.reg f38_r7)))
noncomputable def f38_r8 : List EOper := [⟨(some (K.ofNat 9)), none, .mv (.t (K.ofNat 3))⟩, ⟨(some (K.ofNat 10)), none, .bin .add (.t (K.ofNat 9)) (.c (.i .i64 (.ofNat 1)))⟩, ⟨(some (K.ofNat 3)), none, .as (.t (K.ofNat 10))⟩]
noncomputable def f38_l1 : EC := (.seq (.seq (.reg f38_r2) (.cond (.t (K.ofNat 8)) .skip (.exit 0))) (.seq (.block 1 (.seq (.reg f38_r3) (.block 2 (.loop f38_l0)))) (.reg f38_r8)))
noncomputable def f38_r9 : List EOper := [⟨(some (K.ofNat 2)), none, .as (.c (.b true))⟩]
noncomputable def f38_c : EC := (.seq (.reg f38_r0) (.seq (.seq (.reg f38_r1) (.block 0 (.loop f38_l1))) (.seq (.reg f38_r9) .ret)))
noncomputable def f38 : EF := ⟨33, [.tmp (K.ofNat 2)], f38_c, none⟩
noncomputable def f18_r0 : List EOper := [⟨(some (K.ofNat 4)), none, .as (.c .sn)⟩, ⟨(some (K.ofNat 5)), none, .as (.c (.i .i64 (.ofNat 0)))⟩]
noncomputable def f18_r1 : List EOper := [⟨(some (K.ofNat 9)), none, .mv (.t (K.ofNat 0))⟩, ⟨(some (K.ofNat 10)), none, .mv (.t (K.ofNat 1))⟩, ⟨(some (K.ofNat 11)), none, .call (.c (.fn (K.ofNat 51) [])) [(.t (K.ofNat 9)), (.t (K.ofNat 10))]⟩, ⟨(some (K.ofNat 8)), none, .mv (.t (K.ofNat 11))⟩, ⟨(some (K.ofNat 12)), none, .ext (.t (K.ofNat 8)) 0⟩, ⟨(some (K.ofNat 13)), none, .ext (.t (K.ofNat 8)) 1⟩, ⟨(some (K.ofNat 6)), none, .as (.t (K.ofNat 12))⟩, ⟨(some (K.ofNat 7)), none, .as (.t (K.ofNat 13))⟩]
noncomputable def f18_r2 : List EOper := [⟨(some (K.ofNat 14)), none, .mv (.t (K.ofNat 7))⟩, ⟨(some (K.ofNat 15)), none, .bin .neq (.t (K.ofNat 14)) (.c (.i .i64 (.ofNat 0)))⟩]
noncomputable def f18_r3 : List EOper := [⟨(some (K.ofNat 16)), none, .mv (.t (K.ofNat 7))⟩, ⟨(some (K.ofNat 4)), none, .as (.c .sn)⟩, ⟨(some (K.ofNat 5)), none, .as (.t (K.ofNat 16))⟩]
noncomputable def f18_r4 : List EOper := [⟨(some (K.ofNat 17)), none, .mv (.t (K.ofNat 6))⟩, ⟨(some (K.ofNat 18)), none, .mv (.t (K.ofNat 0))⟩, ⟨(some (K.ofNat 19)), none, .call (.c (.fn (K.ofNat 54) [])) [(.t (K.ofNat 17)), (.t (K.ofNat 18))]⟩, ⟨(some (K.ofNat 4)), none, .as (.t (K.ofNat 19))⟩, ⟨(some (K.ofNat 5)), none, .as (.c (.i .i64 (.ofNat 0)))⟩]
noncomputable def f18_c : EC := (.seq (.reg f18_r0) (.seq (.reg f18_r1) (.seq (.seq (.reg f18_r2) (.cond (.t (K.ofNat 15)) (.seq (.reg f18_r3) .ret) .skip)) (.seq (.reg f18_r4) .ret))))
noncomputable def f18 : EF := ⟨20, [.tmp (K.ofNat 4), .tmp (K.ofNat 5)], f18_c, none⟩
noncomputable def f19_r0 : List EOper := [⟨(some (K.ofNat 4)), none, .as (.c (.b false))⟩, ⟨(some (K.ofNat 5)), none, .as (.c (.i .i64 (.ofNat 0)))⟩]
noncomputable def f19_r1 : List EOper := [⟨(some (K.ofNat 9)), none, .mv (.t (K.ofNat 0))⟩, ⟨(some (K.ofNat 10)), none, .mv (.t (K.ofNat 1))⟩, ⟨(some (K.ofNat 11)), none, .call (.c (.fn (K.ofNat 51) [])) [(.t (K.ofNat 9)), (.t (K.ofNat 10))]⟩, ⟨(some (K.ofNat 8)), none, .mv (.t (K.ofNat 11))⟩, ⟨(some (K.ofNat 12)), none, .ext (.t (K.ofNat 8)) 0⟩, ⟨(some (K.ofNat 13)), none, .ext (.t (K.ofNat 8)) 1⟩, ⟨(some (K.ofNat 6)), none, .as (.t (K.ofNat 12))⟩, ⟨(some (K.ofNat 7)), none, .as (.t (K.ofNat 13))⟩]
noncomputable def f19_r2 : List EOper := [⟨(some (K.ofNat 14)), none, .mv (.t (K.ofNat 7))⟩, ⟨(some (K.ofNat 15)), none, .bin .neq (.t (K.ofNat 14)) (.c (.i .i64 (.ofNat 0)))⟩]
noncomputable def f19_r3 : List EOper := [⟨(some (K.ofNat 16)), none, .mv (.t (K.ofNat 7))⟩, ⟨(some (K.ofNat 4)), none, .as (.c (.b false))⟩, ⟨(some (K.ofNat 5)), none, .as (.t (K.ofNat 16))⟩]
noncomputable def f19_r4 : List EOper := [⟨(some (K.ofNat 17)), none, .mv (.t (K.ofNat 6))⟩, ⟨(some (K.ofNat 18)), none, .mv (.t (K.ofNat 0))⟩, ⟨(some (K.ofNat 19)), none, .call (.c (.fn (K.ofNat 55) [])) [(.t (K.ofNat 17)), (.t (K.ofNat 18))]⟩, ⟨(some (K.ofNat 4)), none, .as (.t (K.ofNat 19))⟩, ⟨(some (K.ofNat 5)), none, .as (.c (.i .i64 (.ofNat 0)))⟩]
noncomputable def f19_c : EC := (.seq (.reg f19_r0) (.seq (.reg f19_r1) (.seq (.seq (.reg f19_r2) (.cond (.t (K.ofNat 15)) (.seq (.reg f19_r3) .ret) .skip)) (.seq (.reg f19_r4) .ret))))
noncomputable def f19 : EF := ⟨20, [.tmp (K.ofNat 4), .tmp (K.ofNat 5)], f19_c, none⟩
section
variable {fs : T EF} {h : H} {w : V} {xs : List V} {T : List (List Int)}
end
section
variable {fs : T EF} {h : H} {v : V} {us : List V} {Ls : List (List (Int × Int))} {n : Nat}
structure CallsBa (fs : T EF) : Prop extends CallsF5 fs where
  c54 : fs.get (K.ofNat 54) = some f54
structure CallsFw (fs : T EF) : Prop extends CallsCh fs, CallsBa fs where
  c18 : fs.get (K.ofNat 18) = some f18
  c19 : fs.get (K.ofNat 19) = some f19
  c55 : fs.get (K.ofNat 55) = some f55
end
end Go.Ev
namespace Go.Ev
open Go Go.RowKit
noncomputable def f39_r0 : List EOper := [⟨(some (K.ofNat 4)), none, .as (.c .sn)⟩]
noncomputable def f39_r1 : List EOper := [⟨(some (K.ofNat 5)), none, .as (.c .sn)⟩]
noncomputable def f39_r2 : List EOper := [⟨(some (K.ofNat 6)), none, .as (.c (.i .i64 (.ofNat 0)))⟩]
noncomputable def f39_r3 : List EOper := [⟨(some (K.ofNat 13)), none, .mv (.t (K.ofNat 6))⟩, ⟨(some (K.ofNat 14)), none, .mv (.t (K.ofNat 0))⟩, ⟨(some (K.ofNat 15)), none, .bin .lss (.t (K.ofNat 13)) (.t (K.ofNat 14))⟩]
noncomputable def f39_r4 : List EOper := [⟨(some (K.ofNat 18)), none, .mv (.t (K.ofNat 0))⟩, ⟨(some (K.ofNat 19)), none, .mkslice 1 [(.i .i64 (.ofNat 0))] (.t (K.ofNat 18))⟩, ⟨(some (K.ofNat 7)), none, .as (.t (K.ofNat 19))⟩]
noncomputable def f39_r5 : List EOper := [⟨(some (K.ofNat 8)), none, .as (.c (.i .i64 (.ofNat 0)))⟩]
noncomputable def f39_r6 : List EOper := [⟨(some (K.ofNat 20)), none, .mv (.t (K.ofNat 8))⟩, ⟨(some (K.ofNat 21)), none, .mv (.t (K.ofNat 1))⟩, ⟨(some (K.ofNat 22)), none, .len (.t (K.ofNat 21))⟩, ⟨(some (K.ofNat 23)), none, .bin .lss (.t (K.ofNat 20)) (.t (K.ofNat 22))⟩]
noncomputable def f39_r7 : List EOper := [⟨(some (K.ofNat 27)), none, .mv (.t (K.ofNat 1))⟩, ⟨(some (K.ofNat 28)), none, .mv (.t (K.ofNat 8))⟩, ⟨(some (K.ofNat 29)), none, .iads 1 (.t (K.ofNat 27)) (.t (K.ofNat 28))⟩, ⟨(some (K.ofNat 30)), none, .ld (.t (K.ofNat 29))⟩, ⟨(some (K.ofNat 31)), none, .mv (.t (K.ofNat 6))⟩, ⟨(some (K.ofNat 32)), none, .call (.c (.fn (K.ofNat 64) [])) [(.t (K.ofNat 30)), (.t (K.ofNat 31))]⟩, ⟨(some (K.ofNat 26)), none, .mv (.t (K.ofNat 32))⟩, ⟨(some (K.ofNat 33)), none, .ext (.t (K.ofNat 26)) 0⟩, ⟨(some (K.ofNat 34)), none, .ext (.t (K.ofNat 26)) 1⟩, ⟨(some (K.ofNat 9)), none, .as (.t (K.ofNat 33))⟩, ⟨(some (K.ofNat 10)), none, .as (.t (K.ofNat 34))⟩]
noncomputable def f39_r8 : List EOper := [⟨(some (K.ofNat 36)), none, .mv (.t (K.ofNat 1))⟩, ⟨(some (K.ofNat 37)), none, .mv (.t (K.ofNat 8))⟩, ⟨(some (K.ofNat 38)), none, .bin .add (.t (K.ofNat 37)) (.c (.i .i64 (.ofNat 1)))⟩, ⟨(some (K.ofNat 39)), none, .mv (.t (K.ofNat 1))⟩, ⟨(some (K.ofNat 40)), none, .len (.t (K.ofNat 39))⟩, ⟨(some (K.ofNat 41)), none, .bin .rem (.t (K.ofNat 38)) (.t (K.ofNat 40))⟩, ⟨(some (K.ofNat 42)), none, .iads 1 (.t (K.ofNat 36)) (.t (K.ofNat 41))⟩, ⟨(some (K.ofNat 43)), none, .ld (.t (K.ofNat 42))⟩, ⟨(some (K.ofNat 44)), none, .mv (.t (K.ofNat 10))⟩, ⟨(some (K.ofNat 45)), none, .call (.c (.fn (K.ofNat 64) [])) [(.t (K.ofNat 43)), (.t (K.ofNat 44))]⟩, ⟨(some (K.ofNat 35)), none, .mv (.t (K.ofNat 45))⟩, ⟨(some (K.ofNat 46)), none, .ext (.t (K.ofNat 35)) 0⟩, ⟨(some (K.ofNat 47)), none, .ext (.t (K.ofNat 35)) 1⟩, ⟨(some (K.ofNat 11)), none, .as (.t (K.ofNat 46))⟩, ⟨(some (K.ofNat 12)), none, .as (.t (K.ofNat 47))⟩]
noncomputable def f39_r9 : List EOper := [⟨(some (K.ofNat 48)), none, .mv (.t (K.ofNat 7))⟩, ⟨(some (K.ofNat 49)), none, .mv (.t (K.ofNat 12))⟩, ⟨(some (K.ofNat 50)), none, .iads 1 (.t (K.ofNat 48)) (.t (K.ofNat 49))⟩, ⟨(some (K.ofNat 51)), none, .ld (.t (K.ofNat 50))⟩, ⟨(some (K.ofNat 52)), none, .bin .add (.t (K.ofNat 51)) (.c (.i .i64 (.ofNat 1)))⟩, ⟨(some (K.ofNat 53)), none, .iads 1 (.t (K.ofNat 48)) (.t (K.ofNat 49))⟩, ⟨none, none, .st 1 (.t (K.ofNat 53)) (.t (K.ofNat 52))⟩]
noncomputable def f39_r10 : List EOper := [⟨(some (K.ofNat 24)), none, .mv (.t (K.ofNat 8))⟩, ⟨(some (K.ofNat 25)), none, .bin .add (.t (K.ofNat 24)) (.c (.i .i64 (.ofNat 1)))⟩, ⟨(some (K.ofNat 8)), none, .as (.t (K.ofNat 25))⟩]
noncomputable def f39_l0 : EC := (.seq (.seq (.reg f39_r6) (.cond (.t (K.ofNat 23)) .skip (.exit 2))) (.seq (.block 3 (.seq (.reg f39_r7) (.seq (.reg f39_r8) (.reg f39_r9)))) (.reg f39_r10)))
noncomputable def f39_r11 : List EOper := [⟨(some (K.ofNat 54)), none, .mv (.t (K.ofNat 5))⟩, ⟨(some (K.ofNat 55)), none, .mv (.t (K.ofNat 7))⟩, ⟨(some (K.ofNat 56)), none, .bslice 1 1 [.sn] [(0, 1, (.t (K.ofNat 55)))]⟩, ⟨(some (K.ofNat 57)), none, .app 1 (.t (K.ofNat 54)) (.t (K.ofNat 56))⟩, ⟨(some (K.ofNat 5)), none, .as (.t (K.ofNat 57))⟩]
noncomputable def f39_r12 : List EOper := [⟨(some (K.ofNat 16)), none, .mv (.t (K.ofNat 6))⟩, ⟨(some (K.ofNat 17)), none, .bin .add (.t (K.ofNat 16)) (.c (.i .i64 (.ofNat 1)))⟩, ⟨(some (K.ofNat 6)), none, .as (.t (K.ofNat 17))⟩]
noncomputable def f39_l1 : EC := (.seq (.seq (.reg f39_r3) (.cond (.t (K.ofNat 15)) .skip (.exit 0))) (.seq (.block 1 (.seq (.reg f39_r4) (.seq (.seq (.reg f39_r5) (.block 2 (.loop f39_l0))) (.reg f39_r11)))) (.reg f39_r12)))
noncomputable def f39_r13 : List EOper := [⟨(some (K.ofNat 58)), none, .mv (.t (K.ofNat 5))⟩, ⟨(some (K.ofNat 4)), none, .as (.t (K.ofNat 58))⟩]
noncomputable def f39_c : EC := (.seq (.reg f39_r0) (.seq (.reg f39_r1) (.seq (.seq (.reg f39_r2) (.block 0 (.loop f39_l1))) (.seq (.reg f39_r13) .ret))))
noncomputable def f39 : EF := ⟨59, [.tmp (K.ofNat 4)], f39_c, none⟩
section
variable {fs : T EF} {h : H} {v : V} {us : List V} {Ls : List (List (Int × Int))} {n : Nat}
end
end Go.Ev
namespace Go.Ev
open Go Go.RowKit
section
variable {A B : Int → Int} {n : Nat} {t x : Int} {L : List Int}
end
end Go.Ev
namespace Go.Ev
open Go Go.RowKit
noncomputable def f103_r0 : List EOper := [⟨(some (K.ofNat 2)), none, .as (.c (.b false))⟩]
noncomputable def f103_r1 : List EOper := [⟨(some (K.ofNat 3)), none, .mv (.t (K.ofNat 0))⟩, ⟨(some (K.ofNat 4)), none, .mv (.t (K.ofNat 0))⟩, ⟨(some (K.ofNat 5)), none, .bin .neq (.t (K.ofNat 3)) (.t (K.ofNat 4))⟩, ⟨(some (K.ofNat 2)), none, .as (.t (K.ofNat 5))⟩]
noncomputable def f103_c : EC := (.seq (.reg f103_r0) (.seq (.reg f103_r1) .ret))
noncomputable def f103 : EF := ⟨6, [.tmp (K.ofNat 2)], f103_c, none⟩
theorem f103_rs : f103.rs = [.tmp (K.ofNat 2)] := of_eq_true (eq_self _)
noncomputable def f110_r0 : List EOper := [⟨(some (K.ofNat 4)), none, .as (.c (.b false))⟩]
noncomputable def f110_r1 : List EOper := [⟨(some (K.ofNat 5)), none, .mv (.t (K.ofNat 0))⟩, ⟨(some (K.ofNat 6)), none, .call (.c (.fn (K.ofNat 103) [])) [(.t (K.ofNat 5))]⟩, ⟨(some (K.ofNat 7)), none, .mv (.t (K.ofNat 6))⟩, ⟨(some (K.ofNat 8)), (some ((K.ofNat 7), true)), .mv (.t (K.ofNat 1))⟩, ⟨(some (K.ofNat 9)), (some ((K.ofNat 7), true)), .call (.c (.fn (K.ofNat 103) [])) [(.t (K.ofNat 8))]⟩, ⟨(some (K.ofNat 10)), (some ((K.ofNat 7), true)), .not (.t (K.ofNat 9))⟩, ⟨(some (K.ofNat 11)), none, .pick (.t (K.ofNat 7)) (.t (K.ofNat 10)) (.c (.b false))⟩, ⟨(some (K.ofNat 12)), none, .mv (.t (K.ofNat 11))⟩, ⟨(some (K.ofNat 13)), (some ((K.ofNat 12), false)), .mv (.t (K.ofNat 0))⟩, ⟨(some (K.ofNat 14)), (some ((K.ofNat 12), false)), .mv (.t (K.ofNat 1))⟩, ⟨(some (K.ofNat 15)), (some ((K.ofNat 12), false)), .bin .lss (.t (K.ofNat 13)) (.t (K.ofNat 14))⟩, ⟨(some (K.ofNat 16)), none, .pick (.t (K.ofNat 12)) (.c (.b true)) (.t (K.ofNat 15))⟩, ⟨(some (K.ofNat 4)), none, .as (.t (K.ofNat 16))⟩]
noncomputable def f110_c : EC := (.seq (.reg f110_r0) (.seq (.reg f110_r1) .ret))
noncomputable def f110 : EF := ⟨17, [.tmp (K.ofNat 4)], f110_c, none⟩
noncomputable def f104_r0 : List EOper := [⟨(some (K.ofNat 8)), none, .mv (.t (K.ofNat 1))⟩, ⟨(some (K.ofNat 9)), none, .bin .add (.t (K.ofNat 8)) (.c (.i .i64 (.ofNat 1)))⟩, ⟨(some (K.ofNat 6)), none, .as (.t (K.ofNat 9))⟩]
noncomputable def f104_r1 : List EOper := [⟨(some (K.ofNat 10)), none, .mv (.t (K.ofNat 6))⟩, ⟨(some (K.ofNat 11)), none, .mv (.t (K.ofNat 2))⟩, ⟨(some (K.ofNat 12)), none, .bin .lss (.t (K.ofNat 10)) (.t (K.ofNat 11))⟩]
noncomputable def f104_r2 : List EOper := [⟨(some (K.ofNat 15)), none, .mv (.t (K.ofNat 6))⟩, ⟨(some (K.ofNat 7)), none, .as (.t (K.ofNat 15))⟩]
noncomputable def f104_r3 : List Stage := [⟨[⟨(some (K.ofNat 16)), none, .mv (.t (K.ofNat 7))⟩, ⟨(some (K.ofNat 17)), none, .mv (.t (K.ofNat 1))⟩, ⟨(some (K.ofNat 18)), none, .bin .gtr (.t (K.ofNat 16)) (.t (K.ofNat 17))⟩, ⟨(some (K.ofNat 19)), none, .mv (.t (K.ofNat 18))⟩, ⟨(some (K.ofNat 20)), (some ((K.ofNat 19), true)), .mv (.t (K.ofNat 0))⟩, ⟨(some (K.ofNat 21)), (some ((K.ofNat 19), true)), .mv (.t (K.ofNat 7))⟩, ⟨(some (K.ofNat 22)), (some ((K.ofNat 19), true)), .iads 1 (.t (K.ofNat 20)) (.t (K.ofNat 21))⟩, ⟨(some (K.ofNat 23)), (some ((K.ofNat 19), true)), .ld (.t (K.ofNat 22))⟩, ⟨(some (K.ofNat 24)), (some ((K.ofNat 19), true)), .mv (.t (K.ofNat 0))⟩, ⟨(some (K.ofNat 25)), (some ((K.ofNat 19), true)), .mv (.t (K.ofNat 7))⟩, ⟨(some (K.ofNat 26)), (some ((K.ofNat 19), true)), .bin .sub (.t (K.ofNat 25)) (.c (.i .i64 (.ofNat 1)))⟩, ⟨(some (K.ofNat 27)), (some ((K.ofNat 19), true)), .iads 1 (.t (K.ofNat 24)) (.t (K.ofNat 26))⟩, ⟨(some (K.ofNat 28)), (some ((K.ofNat 19), true)), .ld (.t (K.ofNat 27))⟩], [], (some ⟨(some (K.ofNat 29)), (some ((K.ofNat 19), true)), .call (.c (.fn (K.ofNat 110) [])) [(.t (K.ofNat 23)), (.t (K.ofNat 28))]⟩), []⟩, ⟨[⟨(some (K.ofNat 30)), none, .pick (.t (K.ofNat 19)) (.t (K.ofNat 29)) (.c (.b false))⟩], [], none, []⟩]
noncomputable def f104_r4 : List Stage := [⟨[⟨(some (K.ofNat 33)), none, .mv (.t (K.ofNat 0))⟩, ⟨(some (K.ofNat 34)), none, .mv (.t (K.ofNat 7))⟩, ⟨(some (K.ofNat 35)), none, .mv (.t (K.ofNat 0))⟩, ⟨(some (K.ofNat 36)), none, .mv (.t (K.ofNat 7))⟩, ⟨(some (K.ofNat 37)), none, .bin .sub (.t (K.ofNat 36)) (.c (.i .i64 (.ofNat 1)))⟩, ⟨(some (K.ofNat 38)), none, .mv (.t (K.ofNat 0))⟩, ⟨(some (K.ofNat 39)), none, .mv (.t (K.ofNat 7))⟩, ⟨(some (K.ofNat 40)), none, .bin .sub (.t (K.ofNat 39)) (.c (.i .i64 (.ofNat 1)))⟩, ⟨(some (K.ofNat 41)), none, .iads 1 (.t (K.ofNat 38)) (.t (K.ofNat 40))⟩, ⟨(some (K.ofNat 42)), none, .ld (.t (K.ofNat 41))⟩, ⟨(some (K.ofNat 43)), none, .mv (.t (K.ofNat 0))⟩, ⟨(some (K.ofNat 44)), none, .mv (.t (K.ofNat 7))⟩, ⟨(some (K.ofNat 45)), none, .iads 1 (.t (K.ofNat 43)) (.t (K.ofNat 44))⟩, ⟨(some (K.ofNat 46)), none, .ld (.t (K.ofNat 45))⟩, ⟨(some (K.ofNat 47)), none, .iads 1 (.t (K.ofNat 33)) (.t (K.ofNat 34))⟩], [], (some ⟨none, none, .st 1 (.t (K.ofNat 47)) (.t (K.ofNat 42))⟩), []⟩, ⟨[⟨(some (K.ofNat 48)), none, .iads 1 (.t (K.ofNat 35)) (.t (K.ofNat 37))⟩], [⟨(some (K.ofNat 35)), none, .mv (.t (K.ofNat 0))⟩, ⟨(some (K.ofNat 36)), none, .mv (.t (K.ofNat 7))⟩, ⟨(some (K.ofNat 37)), none, .bin .sub (.t (K.ofNat 36)) (.c (.i .i64 (.ofNat 1)))⟩], (some ⟨none, none, .st 1 (.t (K.ofNat 48)) (.t (K.ofNat 46))⟩), []⟩, ⟨[], [], none, []⟩]
noncomputable def f104_r5 : List EOper := [⟨(some (K.ofNat 31)), none, .mv (.t (K.ofNat 7))⟩, ⟨(some (K.ofNat 32)), none, .bin .sub (.t (K.ofNat 31)) (.c (.i .i64 (.ofNat 1)))⟩, ⟨(some (K.ofNat 7)), none, .as (.t (K.ofNat 32))⟩]
noncomputable def f104_l0 : EC := (.seq (.seq (.draw f104_r3) (.cond (.t (K.ofNat 30)) .skip (.exit 2))) (.seq (.block 3 (.draw f104_r4)) (.reg f104_r5)))
noncomputable def f104_r6 : List EOper := [⟨(some (K.ofNat 13)), none, .mv (.t (K.ofNat 6))⟩, ⟨(some (K.ofNat 14)), none, .bin .add (.t (K.ofNat 13)) (.c (.i .i64 (.ofNat 1)))⟩, ⟨(some (K.ofNat 6)), none, .as (.t (K.ofNat 14))⟩]
noncomputable def f104_l1 : EC := (.seq (.seq (.reg f104_r1) (.cond (.t (K.ofNat 12)) .skip (.exit 0))) (.seq (.block 1 (.seq (.reg f104_r2) (.block 2 (.loop f104_l0)))) (.reg f104_r6)))
noncomputable def f104_c : EC := (.seq (.reg f104_r0) (.block 0 (.loop f104_l1)))
noncomputable def f104 : EF := ⟨49, [], f104_c, none⟩
noncomputable def f114_r0 : List EOper := [⟨(some (K.ofNat 2)), none, .as (.c (.i .i64 (.ofNat 0)))⟩]
noncomputable def f114_r1 : List EOper := [⟨(some (K.ofNat 3)), none, .mv (.t (K.ofNat 0))⟩, ⟨(some (K.ofNat 4)), none, .bin .geq (.t (K.ofNat 3)) (.c (.i .u64 (.ofNat 4294967296)))⟩]
noncomputable def f114_r2 : List EOper := [⟨(some (K.ofNat 5)), none, .mv (.t (K.ofNat 0))⟩, ⟨(some (K.ofNat 6)), none, .bin .shr (.t (K.ofNat 5)) (.c (.i .u64 (.ofNat 32)))⟩, ⟨(some (K.ofNat 0)), none, .as (.t (K.ofNat 6))⟩]
noncomputable def f114_r3 : List EOper := [⟨(some (K.ofNat 2)), none, .as (.c (.i .i64 (.ofNat 32)))⟩]
noncomputable def f114_r4 : List EOper := [⟨(some (K.ofNat 7)), none, .mv (.t (K.ofNat 0))⟩, ⟨(some (K.ofNat 8)), none, .bin .geq (.t (K.ofNat 7)) (.c (.i .u64 (.ofNat 65536)))⟩]
noncomputable def f114_r5 : List EOper := [⟨(some (K.ofNat 9)), none, .mv (.t (K.ofNat 0))⟩, ⟨(some (K.ofNat 10)), none, .bin .shr (.t (K.ofNat 9)) (.c (.i .u64 (.ofNat 16)))⟩, ⟨(some (K.ofNat 0)), none, .as (.t (K.ofNat 10))⟩]
noncomputable def f114_r6 : List EOper := [⟨(some (K.ofNat 11)), none, .mv (.t (K.ofNat 2))⟩, ⟨(some (K.ofNat 12)), none, .bin .add (.t (K.ofNat 11)) (.c (.i .i64 (.ofNat 16)))⟩, ⟨(some (K.ofNat 2)), none, .as (.t (K.ofNat 12))⟩]
noncomputable def f114_r7 : List EOper := [⟨(some (K.ofNat 13)), none, .mv (.t (K.ofNat 0))⟩, ⟨(some (K.ofNat 14)), none, .bin .geq (.t (K.ofNat 13)) (.c (.i .u64 (.ofNat 256)))⟩]
noncomputable def f114_r8 : List EOper := [⟨(some (K.ofNat 15)), none, .mv (.t (K.ofNat 0))⟩, ⟨(some (K.ofNat 16)), none, .bin .shr (.t (K.ofNat 15)) (.c (.i .u64 (.ofNat 8)))⟩, ⟨(some (K.ofNat 0)), none, .as (.t (K.ofNat 16))⟩]
noncomputable def f114_r9 : List EOper := [⟨(some (K.ofNat 17)), none, .mv (.t (K.ofNat 2))⟩, ⟨(some (K.ofNat 18)), none, .bin .add (.t (K.ofNat 17)) (.c (.i .i64 (.ofNat 8)))⟩, ⟨(some (K.ofNat 2)), none, .as (.t (K.ofNat 18))⟩]
noncomputable def f114_r10 : List EOper := [⟨(some (K.ofNat 19)), none, .mv (.t (K.ofNat 2))⟩, ⟨(some (K.ofNat 20)), none, .mv (.t (K.ofNat 0))⟩, ⟨(some (K.ofNat 21)), none, .conv .u8 (.t (K.ofNat 20))⟩, ⟨(some (K.ofNat 22)), none, .pr .sidx (.c (.s ⟨#[0, 1, 2, 2, 3, 3, 3, 3, 4, 4, 4, 4, 4, 4, 4, 4, 5, 5, 5, 5, 5, 5, 5, 5, 5, 5, 5, 5, 5, 5, 5, 5, 6, 6, 6, 6, 6, 6, 6, 6, 6, 6, 6, 6, 6, 6, 6, 6, 6, 6, 6, 6, 6, 6, 6, 6, 6, 6, 6, 6, 6, 6, 6, 6, 7, 7, 7, 7, 7, 7, 7, 7, 7, 7, 7, 7, 7, 7, 7, 7, 7, 7, 7, 7, 7, 7, 7, 7, 7, 7, 7, 7, 7, 7, 7, 7, 7, 7, 7, 7, 7, 7, 7, 7, 7, 7, 7, 7, 7, 7, 7, 7, 7, 7, 7, 7, 7, 7, 7, 7, 7, 7, 7, 7, 7, 7, 7, 7, 8, 8, 8, 8, 8, 8, 8, 8, 8, 8, 8, 8, 8, 8, 8, 8, 8, 8, 8, 8, 8, 8, 8, 8, 8, 8, 8, 8, 8, 8, 8, 8, 8, 8, 8, 8, 8, 8, 8, 8, 8, 8, 8, 8, 8, 8, 8, 8, 8, 8, 8, 8, 8, 8, 8, 8, 8, 8, 8, 8, 8, 8, 8, 8, 8, 8, 8, 8, 8, 8, 8, 8, 8, 8, 8, 8, 8, 8, 8, 8, 8, 8, 8, 8, 8, 8, 8, 8, 8, 8, 8, 8, 8, 8, 8, 8, 8, 8, 8, 8, 8, 8, 8, 8, 8, 8, 8, 8, 8, 8, 8, 8, 8, 8, 8, 8, 8, 8, 8, 8, 8, 8, 8, 8, 8, 8, 8, 8]⟩)) (.t (K.ofNat 21))⟩, ⟨(some (K.ofNat 23)), none, .conv .i64 (.t (K.ofNat 22))⟩, ⟨(some (K.ofNat 24)), none, .bin .add (.t (K.ofNat 19)) (.t (K.ofNat 23))⟩, ⟨(some (K.ofNat 2)), none, .as (.t (K.ofNat 24))⟩]
noncomputable def f114_c : EC := (.seq (.reg f114_r0) (.seq (.seq (.reg f114_r1) (.cond (.t (K.ofNat 4)) (.seq (.reg f114_r2) (.reg f114_r3)) .skip)) (.seq (.seq (.reg f114_r4) (.cond (.t (K.ofNat 8)) (.seq (.reg f114_r5) (.reg f114_r6)) .skip)) (.seq (.seq (.reg f114_r7) (.cond (.t (K.ofNat 14)) (.seq (.reg f114_r8) (.reg f114_r9)) .skip)) (.seq (.reg f114_r10) .ret)))))
noncomputable def f114 : EF := ⟨25, [.tmp (K.ofNat 2)], f114_c, none⟩
noncomputable def f99_r0 : List EOper := [⟨(some (K.ofNat 2)), none, .as (.c (.i .i64 (.ofNat 0)))⟩]
noncomputable def f99_r1 : List EOper := [⟨(some (K.ofNat 3)), none, .mv (.t (K.ofNat 0))⟩, ⟨(some (K.ofNat 4)), none, .conv .u32 (.t (K.ofNat 3))⟩, ⟨(some (K.ofNat 5)), none, .call (.c (.fn (K.ofNat 113) [])) [(.t (K.ofNat 4))]⟩, ⟨(some (K.ofNat 2)), none, .as (.t (K.ofNat 5))⟩]
noncomputable def f99_r2 : List EOper := [⟨(some (K.ofNat 6)), none, .mv (.t (K.ofNat 0))⟩, ⟨(some (K.ofNat 7)), none, .call (.c (.fn (K.ofNat 114) [])) [(.t (K.ofNat 6))]⟩, ⟨(some (K.ofNat 2)), none, .as (.t (K.ofNat 7))⟩]
noncomputable def f99_c : EC := (.seq (.reg f99_r0) (.seq (.cond (.c (.b false)) (.seq (.reg f99_r1) .ret) .skip) (.seq (.reg f99_r2) .ret)))
noncomputable def f99 : EF := ⟨8, [.tmp (K.ofNat 2)], f99_c, none⟩
noncomputable def f98_r0 : List EOper := [⟨(some (K.ofNat 8)), none, .as (.c (.b true))⟩]
noncomputable def f98_r1 : List EOper := [⟨(some (K.ofNat 9)), none, .as (.c (.b true))⟩]
noncomputable def f98_r2 : List EOper := [⟨(some (K.ofNat 19)), none, .mv (.t (K.ofNat 2))⟩, ⟨(some (K.ofNat 20)), none, .mv (.t (K.ofNat 1))⟩, ⟨(some (K.ofNat 21)), none, .bin .sub (.t (K.ofNat 19)) (.t (K.ofNat 20))⟩, ⟨(some (K.ofNat 10)), none, .as (.t (K.ofNat 21))⟩]
noncomputable def f98_r3 : List EOper := [⟨(some (K.ofNat 22)), none, .mv (.t (K.ofNat 10))⟩, ⟨(some (K.ofNat 23)), none, .bin .leq (.t (K.ofNat 22)) (.c (.i .i64 (.ofNat 12)))⟩]
noncomputable def f98_r4 : List EOper := [⟨(some (K.ofNat 24)), none, .mv (.t (K.ofNat 0))⟩, ⟨(some (K.ofNat 25)), none, .mv (.t (K.ofNat 1))⟩, ⟨(some (K.ofNat 26)), none, .mv (.t (K.ofNat 2))⟩, ⟨(some (K.ofNat 27)), none, .call (.c (.fn (K.ofNat 104) [])) [(.t (K.ofNat 24)), (.t (K.ofNat 25)), (.t (K.ofNat 26))]⟩]
noncomputable def f98_r5 : List EOper := [⟨(some (K.ofNat 28)), none, .mv (.t (K.ofNat 3))⟩, ⟨(some (K.ofNat 29)), none, .bin .eql (.t (K.ofNat 28)) (.c (.i .i64 (.ofNat 0)))⟩]
noncomputable def f98_r6 : List EOper := [⟨(some (K.ofNat 30)), none, .mv (.t (K.ofNat 0))⟩, ⟨(some (K.ofNat 31)), none, .mv (.t (K.ofNat 1))⟩, ⟨(some (K.ofNat 32)), none, .mv (.t (K.ofNat 2))⟩, ⟨(some (K.ofNat 33)), none, .call (.c (.fn (K.ofNat 105) [])) [(.t (K.ofNat 30)), (.t (K.ofNat 31)), (.t (K.ofNat 32))]⟩]
noncomputable def f98_r7 : List EOper := [⟨(some (K.ofNat 34)), none, .mv (.t (K.ofNat 8))⟩, ⟨(some (K.ofNat 35)), none, .not (.t (K.ofNat 34))⟩]
noncomputable def f98_r8 : List EOper := [⟨(some (K.ofNat 36)), none, .mv (.t (K.ofNat 0))⟩, ⟨(some (K.ofNat 37)), none, .mv (.t (K.ofNat 1))⟩, ⟨(some (K.ofNat 38)), none, .mv (.t (K.ofNat 2))⟩, ⟨(some (K.ofNat 39)), none, .call (.c (.fn (K.ofNat 106) [])) [(.t (K.ofNat 36)), (.t (K.ofNat 37)), (.t (K.ofNat 38))]⟩]
noncomputable def f98_r9 : List EOper := [⟨(some (K.ofNat 40)), none, .mv (.t (K.ofNat 3))⟩, ⟨(some (K.ofNat 41)), none, .bin .sub (.t (K.ofNat 40)) (.c (.i .i64 (.ofNat 1)))⟩, ⟨(some (K.ofNat 3)), none, .as (.t (K.ofNat 41))⟩]
noncomputable def f98_r10 : List EOper := [⟨(some (K.ofNat 43)), none, .mv (.t (K.ofNat 0))⟩, ⟨(some (K.ofNat 44)), none, .mv (.t (K.ofNat 1))⟩, ⟨(some (K.ofNat 45)), none, .mv (.t (K.ofNat 2))⟩, ⟨(some (K.ofNat 46)), none, .call (.c (.fn (K.ofNat 107) [])) [(.t (K.ofNat 43)), (.t (K.ofNat 44)), (.t (K.ofNat 45))]⟩, ⟨(some (K.ofNat 42)), none, .mv (.t (K.ofNat 46))⟩, ⟨(some (K.ofNat 47)), none, .ext (.t (K.ofNat 42)) 0⟩, ⟨(some (K.ofNat 48)), none, .ext (.t (K.ofNat 42)) 1⟩, ⟨(some (K.ofNat 11)), none, .as (.t (K.ofNat 47))⟩, ⟨(some (K.ofNat 12)), none, .as (.t (K.ofNat 48))⟩]
noncomputable def f98_r11 : List EOper := [⟨(some (K.ofNat 49)), none, .mv (.t (K.ofNat 12))⟩, ⟨(some (K.ofNat 50)), none, .bin .eql (.t (K.ofNat 49)) (.c (.i .i64 (.ofNat 2)))⟩]
noncomputable def f98_r12 : List EOper := [⟨(some (K.ofNat 51)), none, .mv (.t (K.ofNat 0))⟩, ⟨(some (K.ofNat 52)), none, .mv (.t (K.ofNat 1))⟩, ⟨(some (K.ofNat 53)), none, .mv (.t (K.ofNat 2))⟩, ⟨(some (K.ofNat 54)), none, .call (.c (.fn (K.ofNat 108) [])) [(.t (K.ofNat 51)), (.t (K.ofNat 52)), (.t (K.ofNat 53))]⟩]
noncomputable def f98_r13 : List EOper := [⟨(some (K.ofNat 55)), none, .mv (.t (K.ofNat 2))⟩, ⟨(some (K.ofNat 56)), none, .bin .sub (.t (K.ofNat 55)) (.c (.i .i64 (.ofNat 1)))⟩, ⟨(some (K.ofNat 57)), none, .mv (.t (K.ofNat 11))⟩, ⟨(some (K.ofNat 58)), none, .mv (.t (K.ofNat 1))⟩, ⟨(some (K.ofNat 59)), none, .bin .sub (.t (K.ofNat 57)) (.t (K.ofNat 58))⟩, ⟨(some (K.ofNat 60)), none, .bin .sub (.t (K.ofNat 56)) (.t (K.ofNat 59))⟩, ⟨(some (K.ofNat 11)), none, .as (.t (K.ofNat 60))⟩]
noncomputable def f98_r14 : List EOper := [⟨(some (K.ofNat 12)), none, .as (.c (.i .i64 (.ofNat 1)))⟩]
noncomputable def f98_r15 : List EOper := [⟨(some (K.ofNat 61)), none, .mv (.t (K.ofNat 8))⟩, ⟨(some (K.ofNat 62)), none, .mv (.t (K.ofNat 61))⟩, ⟨(some (K.ofNat 63)), (some ((K.ofNat 62), true)), .mv (.t (K.ofNat 9))⟩, ⟨(some (K.ofNat 64)), none, .pick (.t (K.ofNat 62)) (.t (K.ofNat 63)) (.c (.b false))⟩, ⟨(some (K.ofNat 65)), none, .mv (.t (K.ofNat 64))⟩, ⟨(some (K.ofNat 66)), (some ((K.ofNat 65), true)), .mv (.t (K.ofNat 12))⟩, ⟨(some (K.ofNat 67)), (some ((K.ofNat 65), true)), .bin .eql (.t (K.ofNat 66)) (.c (.i .i64 (.ofNat 1)))⟩, ⟨(some (K.ofNat 68)), none, .pick (.t (K.ofNat 65)) (.t (K.ofNat 67)) (.c (.b false))⟩]
noncomputable def f98_r16 : List EOper := [⟨(some (K.ofNat 69)), none, .mv (.t (K.ofNat 0))⟩, ⟨(some (K.ofNat 70)), none, .mv (.t (K.ofNat 1))⟩, ⟨(some (K.ofNat 71)), none, .mv (.t (K.ofNat 2))⟩, ⟨(some (K.ofNat 72)), none, .call (.c (.fn (K.ofNat 109) [])) [(.t (K.ofNat 69)), (.t (K.ofNat 70)), (.t (K.ofNat 71))]⟩]
noncomputable def f98_r17 : List Stage := [⟨[⟨(some (K.ofNat 73)), none, .mv (.t (K.ofNat 1))⟩, ⟨(some (K.ofNat 74)), none, .bin .gtr (.t (K.ofNat 73)) (.c (.i .i64 (.ofNat 0)))⟩, ⟨(some (K.ofNat 75)), none, .mv (.t (K.ofNat 74))⟩, ⟨(some (K.ofNat 76)), (some ((K.ofNat 75), true)), .mv (.t (K.ofNat 0))⟩, ⟨(some (K.ofNat 77)), (some ((K.ofNat 75), true)), .mv (.t (K.ofNat 1))⟩, ⟨(some (K.ofNat 78)), (some ((K.ofNat 75), true)), .bin .sub (.t (K.ofNat 77)) (.c (.i .i64 (.ofNat 1)))⟩, ⟨(some (K.ofNat 79)), (some ((K.ofNat 75), true)), .iads 1 (.t (K.ofNat 76)) (.t (K.ofNat 78))⟩, ⟨(some (K.ofNat 80)), (some ((K.ofNat 75), true)), .ld (.t (K.ofNat 79))⟩, ⟨(some (K.ofNat 81)), (some ((K.ofNat 75), true)), .mv (.t (K.ofNat 0))⟩, ⟨(some (K.ofNat 82)), (some ((K.ofNat 75), true)), .mv (.t (K.ofNat 11))⟩, ⟨(some (K.ofNat 83)), (some ((K.ofNat 75), true)), .iads 1 (.t (K.ofNat 81)) (.t (K.ofNat 82))⟩, ⟨(some (K.ofNat 84)), (some ((K.ofNat 75), true)), .ld (.t (K.ofNat 83))⟩], [], (some ⟨(some (K.ofNat 85)), (some ((K.ofNat 75), true)), .call (.c (.fn (K.ofNat 110) [])) [(.t (K.ofNat 80)), (.t (K.ofNat 84))]⟩), []⟩, ⟨[⟨(some (K.ofNat 86)), (some ((K.ofNat 75), true)), .not (.t (K.ofNat 85))⟩, ⟨(some (K.ofNat 87)), none, .pick (.t (K.ofNat 75)) (.t (K.ofNat 86)) (.c (.b false))⟩], [], none, []⟩]
noncomputable def f98_r18 : List EOper := [⟨(some (K.ofNat 88)), none, .mv (.t (K.ofNat 0))⟩, ⟨(some (K.ofNat 89)), none, .mv (.t (K.ofNat 1))⟩, ⟨(some (K.ofNat 90)), none, .mv (.t (K.ofNat 2))⟩, ⟨(some (K.ofNat 91)), none, .mv (.t (K.ofNat 11))⟩, ⟨(some (K.ofNat 92)), none, .call (.c (.fn (K.ofNat 111) [])) [(.t (K.ofNat 88)), (.t (K.ofNat 89)), (.t (K.ofNat 90)), (.t (K.ofNat 91))]⟩, ⟨(some (K.ofNat 13)), none, .as (.t (K.ofNat 92))⟩]
noncomputable def f98_r19 : List EOper := [⟨(some (K.ofNat 93)), none, .mv (.t (K.ofNat 13))⟩, ⟨(some (K.ofNat 1)), none, .as (.t (K.ofNat 93))⟩]
noncomputable def f98_r20 : List EOper := [⟨(some (K.ofNat 95)), none, .mv (.t (K.ofNat 0))⟩, ⟨(some (K.ofNat 96)), none, .mv (.t (K.ofNat 1))⟩, ⟨(some (K.ofNat 97)), none, .mv (.t (K.ofNat 2))⟩, ⟨(some (K.ofNat 98)), none, .mv (.t (K.ofNat 11))⟩, ⟨(some (K.ofNat 99)), none, .call (.c (.fn (K.ofNat 112) [])) [(.t (K.ofNat 95)), (.t (K.ofNat 96)), (.t (K.ofNat 97)), (.t (K.ofNat 98))]⟩, ⟨(some (K.ofNat 94)), none, .mv (.t (K.ofNat 99))⟩, ⟨(some (K.ofNat 100)), none, .ext (.t (K.ofNat 94)) 0⟩, ⟨(some (K.ofNat 101)), none, .ext (.t (K.ofNat 94)) 1⟩, ⟨(some (K.ofNat 14)), none, .as (.t (K.ofNat 100))⟩, ⟨(some (K.ofNat 15)), none, .as (.t (K.ofNat 101))⟩]
noncomputable def f98_r21 : List EOper := [⟨(some (K.ofNat 102)), none, .mv (.t (K.ofNat 15))⟩, ⟨(some (K.ofNat 9)), none, .as (.t (K.ofNat 102))⟩]
noncomputable def f98_r22 : List EOper := [⟨(some (K.ofNat 103)), none, .mv (.t (K.ofNat 14))⟩, ⟨(some (K.ofNat 104)), none, .mv (.t (K.ofNat 1))⟩, ⟨(some (K.ofNat 105)), none, .bin .sub (.t (K.ofNat 103)) (.t (K.ofNat 104))⟩, ⟨(some (K.ofNat 106)), none, .mv (.t (K.ofNat 2))⟩, ⟨(some (K.ofNat 107)), none, .mv (.t (K.ofNat 14))⟩, ⟨(some (K.ofNat 108)), none, .bin .sub (.t (K.ofNat 106)) (.t (K.ofNat 107))⟩, ⟨(some (K.ofNat 16)), none, .as (.t (K.ofNat 105))⟩, ⟨(some (K.ofNat 17)), none, .as (.t (K.ofNat 108))⟩]
noncomputable def f98_r23 : List EOper := [⟨(some (K.ofNat 109)), none, .mv (.t (K.ofNat 10))⟩, ⟨(some (K.ofNat 110)), none, .bin .quo (.t (K.ofNat 109)) (.c (.i .i64 (.ofNat 8)))⟩, ⟨(some (K.ofNat 18)), none, .as (.t (K.ofNat 110))⟩]
noncomputable def f98_r24 : List EOper := [⟨(some (K.ofNat 111)), none, .mv (.t (K.ofNat 16))⟩, ⟨(some (K.ofNat 112)), none, .mv (.t (K.ofNat 17))⟩, ⟨(some (K.ofNat 113)), none, .bin .lss (.t (K.ofNat 111)) (.t (K.ofNat 112))⟩]
noncomputable def f98_r25 : List EOper := [⟨(some (K.ofNat 114)), none, .mv (.t (K.ofNat 16))⟩, ⟨(some (K.ofNat 115)), none, .mv (.t (K.ofNat 18))⟩, ⟨(some (K.ofNat 116)), none, .bin .geq (.t (K.ofNat 114)) (.t (K.ofNat 115))⟩, ⟨(some (K.ofNat 8)), none, .as (.t (K.ofNat 116))⟩]
noncomputable def f98_r26 : List EOper := [⟨(some (K.ofNat 117)), none, .mv (.t (K.ofNat 0))⟩, ⟨(some (K.ofNat 118)), none, .mv (.t (K.ofNat 1))⟩, ⟨(some (K.ofNat 119)), none, .mv (.t (K.ofNat 14))⟩, ⟨(some (K.ofNat 120)), none, .mv (.t (K.ofNat 3))⟩, ⟨(some (K.ofNat 121)), none, .call (.c (.fn (K.ofNat 98) [])) [(.t (K.ofNat 117)), (.t (K.ofNat 118)), (.t (K.ofNat 119)), (.t (K.ofNat 120))]⟩]
noncomputable def f98_r27 : List EOper := [⟨(some (K.ofNat 122)), none, .mv (.t (K.ofNat 14))⟩, ⟨(some (K.ofNat 123)), none, .bin .add (.t (K.ofNat 122)) (.c (.i .i64 (.ofNat 1)))⟩, ⟨(some (K.ofNat 1)), none, .as (.t (K.ofNat 123))⟩]
noncomputable def f98_r28 : List EOper := [⟨(some (K.ofNat 124)), none, .mv (.t (K.ofNat 17))⟩, ⟨(some (K.ofNat 125)), none, .mv (.t (K.ofNat 18))⟩, ⟨(some (K.ofNat 126)), none, .bin .geq (.t (K.ofNat 124)) (.t (K.ofNat 125))⟩, ⟨(some (K.ofNat 8)), none, .as (.t (K.ofNat 126))⟩]
noncomputable def f98_r29 : List EOper := [⟨(some (K.ofNat 127)), none, .mv (.t (K.ofNat 0))⟩, ⟨(some (K.ofNat 128)), none, .mv (.t (K.ofNat 14))⟩, ⟨(some (K.ofNat 129)), none, .bin .add (.t (K.ofNat 128)) (.c (.i .i64 (.ofNat 1)))⟩, ⟨(some (K.ofNat 130)), none, .mv (.t (K.ofNat 2))⟩, ⟨(some (K.ofNat 131)), none, .mv (.t (K.ofNat 3))⟩, ⟨(some (K.ofNat 132)), none, .call (.c (.fn (K.ofNat 98) [])) [(.t (K.ofNat 127)), (.t (K.ofNat 129)), (.t (K.ofNat 130)), (.t (K.ofNat 131))]⟩]
noncomputable def f98_r30 : List EOper := [⟨(some (K.ofNat 133)), none, .mv (.t (K.ofNat 14))⟩, ⟨(some (K.ofNat 2)), none, .as (.t (K.ofNat 133))⟩]
noncomputable def f98_l0 : EC := (.block 1 (.seq (.reg f98_r2) (.seq (.seq (.reg f98_r3) (.cond (.t (K.ofNat 23)) (.seq (.reg f98_r4) .ret) .skip)) (.seq (.seq (.reg f98_r5) (.cond (.t (K.ofNat 29)) (.seq (.reg f98_r6) .ret) .skip)) (.seq (.seq (.reg f98_r7) (.cond (.t (K.ofNat 35)) (.seq (.reg f98_r8) (.reg f98_r9)) .skip)) (.seq (.reg f98_r10) (.seq (.seq (.reg f98_r11) (.cond (.t (K.ofNat 50)) (.seq (.reg f98_r12) (.seq (.reg f98_r13) (.reg f98_r14))) .skip)) (.seq (.seq (.reg f98_r15) (.cond (.t (K.ofNat 68)) (.seq (.reg f98_r16) (.cond (.t (K.ofNat 72)) .ret .skip)) .skip)) (.seq (.seq (.draw f98_r17) (.cond (.t (K.ofNat 87)) (.seq (.reg f98_r18) (.seq (.reg f98_r19) (.exit 1))) .skip)) (.seq (.reg f98_r20) (.seq (.reg f98_r21) (.seq (.reg f98_r22) (.seq (.reg f98_r23) (.seq (.reg f98_r24) (.cond (.t (K.ofNat 113)) (.seq (.reg f98_r25) (.seq (.reg f98_r26) (.reg f98_r27))) (.seq (.reg f98_r28) (.seq (.reg f98_r29) (.reg f98_r30))))))))))))))))))
noncomputable def f98_c : EC := (.seq (.reg f98_r0) (.seq (.reg f98_r1) (.block 0 (.loop f98_l0))))
noncomputable def f98 : EF := ⟨134, [], f98_c, none⟩
noncomputable def f86_r0 : List EOper := [⟨(some (K.ofNat 3)), none, .mv (.t (K.ofNat 0))⟩, ⟨(some (K.ofNat 4)), none, .len (.t (K.ofNat 3))⟩, ⟨(some (K.ofNat 2)), none, .as (.t (K.ofNat 4))⟩]
noncomputable def f86_r1 : List EOper := [⟨(some (K.ofNat 5)), none, .mv (.t (K.ofNat 0))⟩, ⟨(some (K.ofNat 6)), none, .mv (.t (K.ofNat 2))⟩, ⟨(some (K.ofNat 7)), none, .mv (.t (K.ofNat 2))⟩, ⟨(some (K.ofNat 8)), none, .conv .u64 (.t (K.ofNat 7))⟩, ⟨(some (K.ofNat 9)), none, .call (.c (.fn (K.ofNat 99) [])) [(.t (K.ofNat 8))]⟩, ⟨(some (K.ofNat 10)), none, .call (.c (.fn (K.ofNat 98) [])) [(.t (K.ofNat 5)), (.c (.i .i64 (.ofNat 0))), (.t (K.ofNat 6)), (.t (K.ofNat 9))]⟩]
noncomputable def f86_c : EC := (.seq (.reg f86_r0) (.reg f86_r1))
noncomputable def f86 : EF := ⟨11, [], f86_c, none⟩
structure CallsSr (fs : T EF) : Prop where
  c_nan : fs.get (K.ofNat 103) = some f103
  c_less : fs.get (K.ofNat 110) = some f110
  c_ins : fs.get (K.ofNat 104) = some f104
  c_l64 : fs.get (K.ofNat 114) = some f114
  c_blen : fs.get (K.ofNat 99) = some f99
  c_pdq : fs.get (K.ofNat 98) = some f98
section
variable {fs : T EF} {h : H} {v : V} {S : List Int}
theorem nan_ret {x : Int} : Ret fs f103 [.i .i64 x] h fun r h' => r = .b false ∧ h' = h := by
  apply ret_of rfl
  show W fs none f103_c _ _ _
  unfold f103_c
  have d : decide (x ≠ x) = false := by simp
  simp (disch := omega) only [f103_r0, f103_r1, f103_rs, w_reg, w_seq, w_ret, seqK_n, retK_r, x_nil, x_mv, x_as, x_bin, kx, rvP_ok, okv_some, ev_t, ev_c, getV_some, putD_some, bin_neq, oGet_s, readRs_nil, readRs_t, retV_1, frame_1, Option.some.injEq, exists_eq_left', getK_set, Nat.reduceEqDiff, ↓reduceIte, d, and_self]
end
end Go.Ev
namespace Go.Ev
open Go Go.RowKit
noncomputable def f85_r0 : List EOper := [⟨(some (K.ofNat 6)), none, .as (.c (.i .u16 (.ofNat 0)))⟩]
noncomputable def f85_r1 : List EOper := [⟨(some (K.ofNat 7)), none, .as (.c (.i .u16 (.ofNat 0)))⟩]
noncomputable def f85_r2 : List EOper := [⟨(some (K.ofNat 9)), none, .mv (.t (K.ofNat 0))⟩, ⟨(some (K.ofNat 8)), none, .as (.t (K.ofNat 9))⟩]
noncomputable def f85_r3 : List EOper := [⟨(some (K.ofNat 10)), none, .mv (.t (K.ofNat 7))⟩, ⟨(some (K.ofNat 11)), none, .mv (.t (K.ofNat 8))⟩, ⟨(some (K.ofNat 12)), none, .call (.c (.fn (K.ofNat 76) [])) [(.t (K.ofNat 10)), (.t (K.ofNat 11))]⟩, ⟨(some (K.ofNat 13)), none, .not (.t (K.ofNat 12))⟩]
noncomputable def f85_r4 : List EOper := [⟨(some (K.ofNat 19)), none, .mv (.t (K.ofNat 7))⟩, ⟨(some (K.ofNat 20)), none, .mv (.t (K.ofNat 8))⟩, ⟨(some (K.ofNat 21)), none, .call (.c (.fn (K.ofNat 83) [])) [(.t (K.ofNat 19)), (.t (K.ofNat 20))]⟩, ⟨(some (K.ofNat 22)), none, .mv (.t (K.ofNat 1))⟩, ⟨(some (K.ofNat 23)), none, .mv (.t (K.ofNat 8))⟩, ⟨(some (K.ofNat 24)), none, .call (.t (K.ofNat 22)) [(.t (K.ofNat 23))]⟩, ⟨(some (K.ofNat 25)), none, .call (.c (.fn (K.ofNat 83) [])) [(.t (K.ofNat 21)), (.t (K.ofNat 24))]⟩, ⟨(some (K.ofNat 7)), none, .as (.t (K.ofNat 25))⟩]
noncomputable def f85_r5 : List EOper := [⟨(some (K.ofNat 14)), none, .mv (.t (K.ofNat 2))⟩, ⟨(some (K.ofNat 15)), none, .mv (.t (K.ofNat 1))⟩, ⟨(some (K.ofNat 16)), none, .mv (.t (K.ofNat 8))⟩, ⟨(some (K.ofNat 17)), none, .call (.t (K.ofNat 15)) [(.t (K.ofNat 16))]⟩, ⟨(some (K.ofNat 18)), none, .call (.t (K.ofNat 14)) [(.t (K.ofNat 17))]⟩, ⟨(some (K.ofNat 8)), none, .as (.t (K.ofNat 18))⟩]
noncomputable def f85_l0 : EC := (.seq (.seq (.reg f85_r3) (.cond (.t (K.ofNat 13)) .skip (.exit 0))) (.seq (.block 1 (.reg f85_r4)) (.reg f85_r5)))
noncomputable def f85_r6 : List EOper := [⟨(some (K.ofNat 26)), none, .mv (.t (K.ofNat 7))⟩, ⟨(some (K.ofNat 6)), none, .as (.t (K.ofNat 26))⟩]
noncomputable def f85_c : EC := (.seq (.reg f85_r0) (.seq (.reg f85_r1) (.seq (.seq (.reg f85_r2) (.block 0 (.loop f85_l0))) (.seq (.reg f85_r6) .ret))))
noncomputable def f85 : EF := ⟨27, [.tmp (K.ofNat 6)], f85_c, none⟩
noncomputable def f69_r0 : List EOper := [⟨(some (K.ofNat 6)), none, .as (.c .sn)⟩]
noncomputable def f69_r1 : List EOper := [⟨(some (K.ofNat 7)), none, .as (.c .sn)⟩]
noncomputable def f69_r2 : List EOper := [⟨(some (K.ofNat 8)), none, .as (.c (.i .u16 (.ofNat 0)))⟩]
noncomputable def f69_r3 : List EOper := [⟨(some (K.ofNat 11)), none, .mv (.t (K.ofNat 0))⟩, ⟨(some (K.ofNat 12)), none, .mv (.c (.i .i64 (.ofNat 0)))⟩]
noncomputable def f69_r4 : List EOper := [⟨(some (K.ofNat 13)), none, .bin .lss (.t (K.ofNat 12)) (.t (K.ofNat 11))⟩]
noncomputable def f69_r5 : List EOper := [⟨(some (K.ofNat 14)), none, .mv (.t (K.ofNat 12))⟩, ⟨(some (K.ofNat 9)), none, .as (.t (K.ofNat 14))⟩]
noncomputable def f69_r6 : List EOper := [⟨(some (K.ofNat 15)), none, .mv (.t (K.ofNat 8))⟩, ⟨(some (K.ofNat 16)), none, .mv (.t (K.ofNat 9))⟩, ⟨(some (K.ofNat 17)), none, .call (.c (.fn (K.ofNat 76) [])) [(.t (K.ofNat 15)), (.t (K.ofNat 16))]⟩]
noncomputable def f69_r7 : List EOper := [⟨(some (K.ofNat 18)), none, .mv (.t (K.ofNat 9))⟩, ⟨(some (K.ofNat 19)), none, .mv (.t (K.ofNat 1))⟩, ⟨(some (K.ofNat 20)), none, .mkbf (K.ofNat 58) [(.t (K.ofNat 19))] []⟩, ⟨(some (K.ofNat 21)), none, .mv (.t (K.ofNat 2))⟩, ⟨(some (K.ofNat 22)), none, .mkbf (K.ofNat 58) [(.t (K.ofNat 21))] []⟩, ⟨(some (K.ofNat 23)), none, .call (.c (.fn (K.ofNat 85) [])) [(.t (K.ofNat 18)), (.t (K.ofNat 20)), (.t (K.ofNat 22))]⟩, ⟨(some (K.ofNat 10)), none, .as (.t (K.ofNat 23))⟩]
noncomputable def f69_r8 : List EOper := [⟨(some (K.ofNat 24)), none, .mv (.t (K.ofNat 8))⟩, ⟨(some (K.ofNat 25)), none, .mv (.t (K.ofNat 10))⟩, ⟨(some (K.ofNat 26)), none, .bin .or (.t (K.ofNat 24)) (.t (K.ofNat 25))⟩, ⟨(some (K.ofNat 8)), none, .as (.t (K.ofNat 26))⟩]
noncomputable def f69_r9 : List EOper := [⟨(some (K.ofNat 27)), none, .mv (.t (K.ofNat 7))⟩, ⟨(some (K.ofNat 28)), none, .mv (.t (K.ofNat 10))⟩, ⟨(some (K.ofNat 29)), none, .call (.c (.fn (K.ofNat 74) [])) [(.t (K.ofNat 28))]⟩, ⟨(some (K.ofNat 30)), none, .bslice 1 1 [(.i .i64 (.ofNat 0))] [(0, 1, (.t (K.ofNat 29)))]⟩, ⟨(some (K.ofNat 31)), none, .app 1 (.t (K.ofNat 27)) (.t (K.ofNat 30))⟩, ⟨(some (K.ofNat 7)), none, .as (.t (K.ofNat 31))⟩]
noncomputable def f69_r10 : List EOper := [⟨(some (K.ofNat 32)), none, .bin .add (.t (K.ofNat 12)) (.c (.i .i64 (.ofNat 1)))⟩, ⟨(some (K.ofNat 12)), none, .mv (.t (K.ofNat 32))⟩]
noncomputable def f69_l0 : EC := (.seq (.reg f69_r4) (.seq (.cond (.t (K.ofNat 13)) .skip (.exit 0)) (.seq (.block 1 (.seq (.reg f69_r5) (.seq (.seq (.reg f69_r6) (.cond (.t (K.ofNat 17)) (.exit 1) .skip)) (.seq (.reg f69_r7) (.seq (.reg f69_r8) (.reg f69_r9)))))) (.reg f69_r10))))
noncomputable def f69_r11 : List EOper := [⟨(some (K.ofNat 33)), none, .mv (.t (K.ofNat 7))⟩, ⟨(some (K.ofNat 34)), none, .call (.c (.fn (K.ofNat 86) [])) [(.t (K.ofNat 33))]⟩]
noncomputable def f69_r12 : List EOper := [⟨(some (K.ofNat 35)), none, .mv (.t (K.ofNat 7))⟩, ⟨(some (K.ofNat 6)), none, .as (.t (K.ofNat 35))⟩]
noncomputable def f69_c : EC := (.seq (.reg f69_r0) (.seq (.reg f69_r1) (.seq (.reg f69_r2) (.seq (.seq (.reg f69_r3) (.block 0 (.loop f69_l0))) (.seq (.reg f69_r11) (.seq (.reg f69_r12) .ret))))))
noncomputable def f69 : EF := ⟨36, [.tmp (K.ofNat 6)], f69_c, none⟩
structure CallsRg (fs : T EF) : Prop extends CallsAa fs, CallsSr fs where
  c58 : fs.get (K.ofNat 58) = some f58
  c74 : fs.get (K.ofNat 74) = some f74
  c85 : fs.get (K.ofNat 85) = some f85
  c86 : fs.get (K.ofNat 86) = some f86
  c92 : fs.get (K.ofNat 92) = some f92
section
variable {fs : T EF} {h : H} {va vb : V} {a b : List (Int × Int)} {n : Nat}
end
end Go.Ev
namespace Go.Ev
open Go Go.RowKit
noncomputable def f46_r0 : List EOper := [⟨(some (K.ofNat 6)), none, .as (.c .sn)⟩]
noncomputable def f46_r1 : List EOper := [⟨(some (K.ofNat 16)), none, .mv (.t (K.ofNat 0))⟩, ⟨(some (K.ofNat 17)), none, .mkslice 1 [(.b false)] (.t (K.ofNat 16))⟩, ⟨(some (K.ofNat 7)), none, .as (.t (K.ofNat 17))⟩]
noncomputable def f46_r2 : List EOper := [⟨(some (K.ofNat 8)), none, .as (.c .sn)⟩]
noncomputable def f46_r3 : List EOper := [⟨(some (K.ofNat 9)), none, .as (.c (.i .i64 (.ofNat 0)))⟩]
noncomputable def f46_r4 : List EOper := [⟨(some (K.ofNat 18)), none, .mv (.t (K.ofNat 9))⟩, ⟨(some (K.ofNat 19)), none, .mv (.t (K.ofNat 0))⟩, ⟨(some (K.ofNat 20)), none, .bin .lss (.t (K.ofNat 18)) (.t (K.ofNat 19))⟩]
noncomputable def f46_r5 : List EOper := [⟨(some (K.ofNat 10)), none, .as (.c (.i .i64 (.ofNat 0)))⟩]
noncomputable def f46_r6 : List EOper := [⟨(some (K.ofNat 23)), none, .mv (.t (K.ofNat 9))⟩, ⟨(some (K.ofNat 11)), none, .as (.t (K.ofNat 23))⟩]
noncomputable def f46_r7 : List EOper := [⟨(some (K.ofNat 24)), none, .mv (.t (K.ofNat 7))⟩, ⟨(some (K.ofNat 25)), none, .mv (.t (K.ofNat 11))⟩, ⟨(some (K.ofNat 26)), none, .iads 1 (.t (K.ofNat 24)) (.t (K.ofNat 25))⟩, ⟨(some (K.ofNat 27)), none, .ld (.t (K.ofNat 26))⟩, ⟨(some (K.ofNat 28)), none, .not (.t (K.ofNat 27))⟩]
noncomputable def f46_r8 : List EOper := [⟨(some (K.ofNat 29)), none, .mv (.t (K.ofNat 7))⟩, ⟨(some (K.ofNat 30)), none, .mv (.t (K.ofNat 11))⟩, ⟨(some (K.ofNat 31)), none, .iads 1 (.t (K.ofNat 29)) (.t (K.ofNat 30))⟩, ⟨none, none, .st 1 (.t (K.ofNat 31)) (.c (.b true))⟩]
noncomputable def f46_r9 : List EOper := [⟨(some (K.ofNat 33)), none, .mv (.t (K.ofNat 1))⟩, ⟨(some (K.ofNat 34)), none, .mv (.t (K.ofNat 11))⟩, ⟨(some (K.ofNat 35)), none, .call (.c (.fn (K.ofNat 64) [])) [(.t (K.ofNat 33)), (.t (K.ofNat 34))]⟩, ⟨(some (K.ofNat 32)), none, .mv (.t (K.ofNat 35))⟩, ⟨(some (K.ofNat 36)), none, .ext (.t (K.ofNat 32)) 0⟩, ⟨(some (K.ofNat 37)), none, .ext (.t (K.ofNat 32)) 1⟩, ⟨(some (K.ofNat 12)), none, .as (.t (K.ofNat 36))⟩, ⟨(some (K.ofNat 13)), none, .as (.t (K.ofNat 37))⟩]
noncomputable def f46_r10 : List EOper := [⟨(some (K.ofNat 38)), none, .mv (.t (K.ofNat 7))⟩, ⟨(some (K.ofNat 39)), none, .mv (.t (K.ofNat 13))⟩, ⟨(some (K.ofNat 40)), none, .iads 1 (.t (K.ofNat 38)) (.t (K.ofNat 39))⟩, ⟨none, none, .st 1 (.t (K.ofNat 40)) (.c (.b true))⟩]
noncomputable def f46_r11 : List EOper := [⟨(some (K.ofNat 42)), none, .mv (.t (K.ofNat 2))⟩, ⟨(some (K.ofNat 43)), none, .mv (.t (K.ofNat 13))⟩, ⟨(some (K.ofNat 44)), none, .call (.c (.fn (K.ofNat 64) [])) [(.t (K.ofNat 42)), (.t (K.ofNat 43))]⟩, ⟨(some (K.ofNat 41)), none, .mv (.t (K.ofNat 44))⟩, ⟨(some (K.ofNat 45)), none, .ext (.t (K.ofNat 41)) 0⟩, ⟨(some (K.ofNat 46)), none, .ext (.t (K.ofNat 41)) 1⟩, ⟨(some (K.ofNat 11)), none, .as (.t (K.ofNat 46))⟩]
noncomputable def f46_r12 : List EOper := [⟨(some (K.ofNat 47)), none, .mv (.t (K.ofNat 10))⟩, ⟨(some (K.ofNat 48)), none, .bin .add (.t (K.ofNat 47)) (.c (.i .i64 (.ofNat 2)))⟩, ⟨(some (K.ofNat 10)), none, .as (.t (K.ofNat 48))⟩]
noncomputable def f46_l0 : EC := (.seq (.seq (.reg f46_r7) (.cond (.t (K.ofNat 28)) .skip (.exit 2))) (.block 3 (.seq (.reg f46_r8) (.seq (.reg f46_r9) (.seq (.reg f46_r10) (.seq (.reg f46_r11) (.reg f46_r12)))))))
noncomputable def f46_r13 : List EOper := [⟨(some (K.ofNat 49)), none, .mv (.t (K.ofNat 10))⟩, ⟨(some (K.ofNat 50)), none, .bin .eql (.t (K.ofNat 49)) (.c (.i .i64 (.ofNat 0)))⟩]
noncomputable def f46_r14 : List EOper := [⟨(some (K.ofNat 14)), none, .as (.c (.i .i64 (.ofNat 0)))⟩]
noncomputable def f46_r15 : List EOper := [⟨(some (K.ofNat 51)), none, .mv (.t (K.ofNat 14))⟩, ⟨(some (K.ofNat 52)), none, .mv (.t (K.ofNat 8))⟩, ⟨(some (K.ofNat 53)), none, .len (.t (K.ofNat 52))⟩, ⟨(some (K.ofNat 54)), none, .bin .lss (.t (K.ofNat 51)) (.t (K.ofNat 53))⟩, ⟨(some (K.ofNat 55)), none, .mv (.t (K.ofNat 54))⟩, ⟨(some (K.ofNat 56)), (some ((K.ofNat 55), true)), .mv (.t (K.ofNat 8))⟩, ⟨(some (K.ofNat 57)), (some ((K.ofNat 55), true)), .mv (.t (K.ofNat 14))⟩, ⟨(some (K.ofNat 58)), (some ((K.ofNat 55), true)), .iads 1 (.t (K.ofNat 56)) (.t (K.ofNat 57))⟩, ⟨(some (K.ofNat 59)), (some ((K.ofNat 55), true)), .ld (.t (K.ofNat 58))⟩, ⟨(some (K.ofNat 60)), (some ((K.ofNat 55), true)), .mv (.t (K.ofNat 10))⟩, ⟨(some (K.ofNat 61)), (some ((K.ofNat 55), true)), .bin .leq (.t (K.ofNat 59)) (.t (K.ofNat 60))⟩, ⟨(some (K.ofNat 62)), none, .pick (.t (K.ofNat 55)) (.t (K.ofNat 61)) (.c (.b false))⟩]
noncomputable def f46_r16 : List EOper := [⟨(some (K.ofNat 63)), none, .mv (.t (K.ofNat 14))⟩, ⟨(some (K.ofNat 64)), none, .bin .add (.t (K.ofNat 63)) (.c (.i .i64 (.ofNat 1)))⟩, ⟨(some (K.ofNat 14)), none, .as (.t (K.ofNat 64))⟩]
noncomputable def f46_l1 : EC := (.seq (.seq (.reg f46_r15) (.cond (.t (K.ofNat 62)) .skip (.exit 4))) (.block 5 (.reg f46_r16)))
noncomputable def f46_r17 : List EOper := [⟨(some (K.ofNat 15)), none, .as (.c .sn)⟩]
noncomputable def f46_r18 : List EOper := [⟨(some (K.ofNat 65)), none, .mv (.t (K.ofNat 15))⟩, ⟨(some (K.ofNat 66)), none, .mv (.t (K.ofNat 8))⟩, ⟨(some (K.ofNat 67)), none, .mv (.t (K.ofNat 14))⟩, ⟨(some (K.ofNat 68)), none, .slice 1 (.t (K.ofNat 66)) none (some (.t (K.ofNat 67))) none⟩, ⟨(some (K.ofNat 69)), none, .app 1 (.t (K.ofNat 65)) (.t (K.ofNat 68))⟩, ⟨(some (K.ofNat 15)), none, .as (.t (K.ofNat 69))⟩]
noncomputable def f46_r19 : List EOper := [⟨(some (K.ofNat 70)), none, .mv (.t (K.ofNat 15))⟩, ⟨(some (K.ofNat 71)), none, .mv (.t (K.ofNat 10))⟩, ⟨(some (K.ofNat 72)), none, .bslice 1 1 [(.i .i64 (.ofNat 0))] [(0, 1, (.t (K.ofNat 71)))]⟩, ⟨(some (K.ofNat 73)), none, .app 1 (.t (K.ofNat 70)) (.t (K.ofNat 72))⟩, ⟨(some (K.ofNat 15)), none, .as (.t (K.ofNat 73))⟩]
noncomputable def f46_r20 : List EOper := [⟨(some (K.ofNat 74)), none, .mv (.t (K.ofNat 15))⟩, ⟨(some (K.ofNat 75)), none, .mv (.t (K.ofNat 8))⟩, ⟨(some (K.ofNat 76)), none, .mv (.t (K.ofNat 14))⟩, ⟨(some (K.ofNat 77)), none, .slice 1 (.t (K.ofNat 75)) (some (.t (K.ofNat 76))) none none⟩, ⟨(some (K.ofNat 78)), none, .app 1 (.t (K.ofNat 74)) (.t (K.ofNat 77))⟩, ⟨(some (K.ofNat 8)), none, .as (.t (K.ofNat 78))⟩]
noncomputable def f46_r21 : List EOper := [⟨(some (K.ofNat 21)), none, .mv (.t (K.ofNat 9))⟩, ⟨(some (K.ofNat 22)), none, .bin .add (.t (K.ofNat 21)) (.c (.i .i64 (.ofNat 1)))⟩, ⟨(some (K.ofNat 9)), none, .as (.t (K.ofNat 22))⟩]
noncomputable def f46_l2 : EC := (.seq (.seq (.reg f46_r4) (.cond (.t (K.ofNat 20)) .skip (.exit 0))) (.seq (.block 1 (.seq (.reg f46_r5) (.seq (.seq (.reg f46_r6) (.block 2 (.loop f46_l0))) (.seq (.seq (.reg f46_r13) (.cond (.t (K.ofNat 50)) (.exit 1) .skip)) (.seq (.reg f46_r14) (.seq (.block 4 (.loop f46_l1)) (.seq (.reg f46_r17) (.seq (.reg f46_r18) (.seq (.reg f46_r19) (.reg f46_r20)))))))))) (.reg f46_r21)))
noncomputable def f46_r22 : List EOper := [⟨(some (K.ofNat 79)), none, .mv (.t (K.ofNat 8))⟩, ⟨(some (K.ofNat 6)), none, .as (.t (K.ofNat 79))⟩]
noncomputable def f46_c : EC := (.seq (.reg f46_r0) (.seq (.reg f46_r1) (.seq (.reg f46_r2) (.seq (.seq (.reg f46_r3) (.block 0 (.loop f46_l2))) (.seq (.reg f46_r22) .ret)))))
noncomputable def f46 : EF := ⟨80, [.tmp (K.ofNat 6)], f46_c, none⟩
section
variable {fs : T EF} {h : H} {va vb : V} {a b : List (Int × Int)} {n : Nat}
end
end Go.Ev
namespace Go.Ev
open Go Go.RowKit
section
variable {A B : Int → Int} {n : Nat}
end
end Go.Ev
namespace Go.Ev
open Go Go.RowKit
noncomputable def f56_r0 : List EOper := [⟨(some (K.ofNat 4)), none, .as (.c (.b false))⟩]
noncomputable def f56_r1 : List EOper := [⟨(some (K.ofNat 9)), none, .mv (.t (K.ofNat 0))⟩, ⟨(some (K.ofNat 10)), none, .len (.t (K.ofNat 9))⟩, ⟨(some (K.ofNat 11)), none, .mv (.c (.i .i64 (.ofNat 0)))⟩]
noncomputable def f56_r2 : List EOper := [⟨(some (K.ofNat 12)), none, .bin .lss (.t (K.ofNat 11)) (.t (K.ofNat 10))⟩]
noncomputable def f56_r3 : List EOper := [⟨(some (K.ofNat 13)), none, .mv (.t (K.ofNat 11))⟩, ⟨(some (K.ofNat 14)), none, .iads 1 (.t (K.ofNat 9)) (.t (K.ofNat 11))⟩, ⟨(some (K.ofNat 15)), none, .ld (.t (K.ofNat 14))⟩, ⟨(some (K.ofNat 5)), none, .as (.t (K.ofNat 13))⟩, ⟨(some (K.ofNat 6)), none, .as (.t (K.ofNat 15))⟩]
noncomputable def f56_r4 : List EOper := [⟨(some (K.ofNat 16)), none, .mv (.t (K.ofNat 0))⟩, ⟨(some (K.ofNat 17)), none, .mv (.t (K.ofNat 5))⟩, ⟨(some (K.ofNat 18)), none, .slice 1 (.t (K.ofNat 16)) none (some (.t (K.ofNat 17))) none⟩, ⟨(some (K.ofNat 19)), none, .len (.t (K.ofNat 18))⟩, ⟨(some (K.ofNat 20)), none, .mv (.c (.i .i64 (.ofNat 0)))⟩]
noncomputable def f56_r5 : List EOper := [⟨(some (K.ofNat 21)), none, .bin .lss (.t (K.ofNat 20)) (.t (K.ofNat 19))⟩]
noncomputable def f56_r6 : List EOper := [⟨(some (K.ofNat 22)), none, .iads 1 (.t (K.ofNat 18)) (.t (K.ofNat 20))⟩, ⟨(some (K.ofNat 23)), none, .ld (.t (K.ofNat 22))⟩, ⟨(some (K.ofNat 8)), none, .as (.t (K.ofNat 23))⟩]
noncomputable def f56_r7 : List EOper := [⟨(some (K.ofNat 24)), none, .mv (.t (K.ofNat 1))⟩, ⟨(some (K.ofNat 25)), none, .mv (.t (K.ofNat 8))⟩, ⟨(some (K.ofNat 26)), none, .mv (.t (K.ofNat 6))⟩, ⟨(some (K.ofNat 27)), none, .call (.c (.fn (K.ofNat 69) [])) [(.t (K.ofNat 24)), (.t (K.ofNat 25)), (.t (K.ofNat 26))]⟩, ⟨(some (K.ofNat 28)), none, .len (.t (K.ofNat 27))⟩, ⟨(some (K.ofNat 29)), none, .bin .gtr (.t (K.ofNat 28)) (.c (.i .i64 (.ofNat 1)))⟩]
noncomputable def f56_r8 : List EOper := [⟨(some (K.ofNat 4)), none, .as (.c (.b false))⟩]
noncomputable def f56_r9 : List EOper := [⟨(some (K.ofNat 30)), none, .bin .add (.t (K.ofNat 20)) (.c (.i .i64 (.ofNat 1)))⟩, ⟨(some (K.ofNat 20)), none, .mv (.t (K.ofNat 30))⟩]
noncomputable def f56_l0 : EC := (.seq (.reg f56_r5) (.seq (.cond (.t (K.ofNat 21)) .skip (.exit 2)) (.seq (.block 3 (.seq (.reg f56_r6) (.seq (.reg f56_r7) (.cond (.t (K.ofNat 29)) (.seq (.reg f56_r8) .ret) .skip)))) (.reg f56_r9))))
noncomputable def f56_r10 : List EOper := [⟨(some (K.ofNat 31)), none, .bin .add (.t (K.ofNat 11)) (.c (.i .i64 (.ofNat 1)))⟩, ⟨(some (K.ofNat 11)), none, .mv (.t (K.ofNat 31))⟩]
noncomputable def f56_l1 : EC := (.seq (.reg f56_r2) (.seq (.cond (.t (K.ofNat 12)) .skip (.exit 0)) (.seq (.block 1 (.seq (.reg f56_r3) (.seq (.reg f56_r4) (.block 2 (.loop f56_l0))))) (.reg f56_r10))))
noncomputable def f56_r11 : List EOper := [⟨(some (K.ofNat 4)), none, .as (.c (.b true))⟩]
noncomputable def f56_c : EC := (.seq (.reg f56_r0) (.seq (.seq (.reg f56_r1) (.block 0 (.loop f56_l1))) (.seq (.reg f56_r11) .ret)))
noncomputable def f56 : EF := ⟨32, [.tmp (K.ofNat 4)], f56_c, none⟩
noncomputable def f20_r0 : List EOper := [⟨(some (K.ofNat 4)), none, .as (.c (.b false))⟩, ⟨(some (K.ofNat 5)), none, .as (.c (.i .i64 (.ofNat 0)))⟩]
noncomputable def f20_r1 : List EOper := [⟨(some (K.ofNat 9)), none, .mv (.t (K.ofNat 0))⟩, ⟨(some (K.ofNat 10)), none, .mv (.t (K.ofNat 1))⟩, ⟨(some (K.ofNat 11)), none, .call (.c (.fn (K.ofNat 51) [])) [(.t (K.ofNat 9)), (.t (K.ofNat 10))]⟩, ⟨(some (K.ofNat 8)), none, .mv (.t (K.ofNat 11))⟩, ⟨(some (K.ofNat 12)), none, .ext (.t (K.ofNat 8)) 0⟩, ⟨(some (K.ofNat 13)), none, .ext (.t (K.ofNat 8)) 1⟩, ⟨(some (K.ofNat 6)), none, .as (.t (K.ofNat 12))⟩, ⟨(some (K.ofNat 7)), none, .as (.t (K.ofNat 13))⟩]
noncomputable def f20_r2 : List EOper := [⟨(some (K.ofNat 14)), none, .mv (.t (K.ofNat 7))⟩, ⟨(some (K.ofNat 15)), none, .bin .neq (.t (K.ofNat 14)) (.c (.i .i64 (.ofNat 0)))⟩]
noncomputable def f20_r3 : List EOper := [⟨(some (K.ofNat 16)), none, .mv (.t (K.ofNat 7))⟩, ⟨(some (K.ofNat 4)), none, .as (.c (.b false))⟩, ⟨(some (K.ofNat 5)), none, .as (.t (K.ofNat 16))⟩]
noncomputable def f20_r4 : List EOper := [⟨(some (K.ofNat 17)), none, .mv (.t (K.ofNat 6))⟩, ⟨(some (K.ofNat 18)), none, .mv (.t (K.ofNat 0))⟩, ⟨(some (K.ofNat 19)), none, .call (.c (.fn (K.ofNat 56) [])) [(.t (K.ofNat 17)), (.t (K.ofNat 18))]⟩, ⟨(some (K.ofNat 4)), none, .as (.t (K.ofNat 19))⟩, ⟨(some (K.ofNat 5)), none, .as (.c (.i .i64 (.ofNat 0)))⟩]
noncomputable def f20_c : EC := (.seq (.reg f20_r0) (.seq (.reg f20_r1) (.seq (.seq (.reg f20_r2) (.cond (.t (K.ofNat 15)) (.seq (.reg f20_r3) .ret) .skip)) (.seq (.reg f20_r4) .ret))))
noncomputable def f20 : EF := ⟨20, [.tmp (K.ofNat 4), .tmp (K.ofNat 5)], f20_c, none⟩
noncomputable def f40_r0 : List EOper := [⟨(some (K.ofNat 4)), none, .as (.c (.b false))⟩]
noncomputable def f40_r1 : List EOper := [⟨(some (K.ofNat 5)), none, .as (.c (.i .i64 (.ofNat 0)))⟩]
noncomputable def f40_r2 : List EOper := [⟨(some (K.ofNat 7)), none, .mv (.t (K.ofNat 5))⟩, ⟨(some (K.ofNat 8)), none, .mv (.t (K.ofNat 1))⟩, ⟨(some (K.ofNat 9)), none, .len (.t (K.ofNat 8))⟩, ⟨(some (K.ofNat 10)), none, .bin .lss (.t (K.ofNat 7)) (.t (K.ofNat 9))⟩]
noncomputable def f40_r3 : List EOper := [⟨(some (K.ofNat 6)), none, .as (.c (.i .i64 (.ofNat 0)))⟩]
noncomputable def f40_r4 : List EOper := [⟨(some (K.ofNat 13)), none, .mv (.t (K.ofNat 6))⟩, ⟨(some (K.ofNat 14)), none, .mv (.t (K.ofNat 5))⟩, ⟨(some (K.ofNat 15)), none, .bin .lss (.t (K.ofNat 13)) (.t (K.ofNat 14))⟩]
noncomputable def f40_r5 : List Stage := [⟨[⟨(some (K.ofNat 18)), none, .mv (.t (K.ofNat 0))⟩, ⟨(some (K.ofNat 19)), none, .mv (.t (K.ofNat 1))⟩, ⟨(some (K.ofNat 20)), none, .mv (.t (K.ofNat 5))⟩, ⟨(some (K.ofNat 21)), none, .iads 1 (.t (K.ofNat 19)) (.t (K.ofNat 20))⟩, ⟨(some (K.ofNat 22)), none, .ld (.t (K.ofNat 21))⟩, ⟨(some (K.ofNat 23)), none, .mv (.t (K.ofNat 1))⟩, ⟨(some (K.ofNat 24)), none, .mv (.t (K.ofNat 6))⟩, ⟨(some (K.ofNat 25)), none, .iads 1 (.t (K.ofNat 23)) (.t (K.ofNat 24))⟩, ⟨(some (K.ofNat 26)), none, .ld (.t (K.ofNat 25))⟩], [], (some ⟨(some (K.ofNat 27)), none, .call (.c (.fn (K.ofNat 46) [])) [(.t (K.ofNat 18)), (.t (K.ofNat 22)), (.t (K.ofNat 26))]⟩), []⟩, ⟨[⟨(some (K.ofNat 28)), none, .len (.t (K.ofNat 27))⟩, ⟨(some (K.ofNat 29)), none, .bin .neq (.t (K.ofNat 28)) (.c (.i .i64 (.ofNat 1)))⟩], [], none, []⟩]
noncomputable def f40_r6 : List EOper := [⟨(some (K.ofNat 4)), none, .as (.c (.b false))⟩]
noncomputable def f40_r7 : List EOper := [⟨(some (K.ofNat 16)), none, .mv (.t (K.ofNat 6))⟩, ⟨(some (K.ofNat 17)), none, .bin .add (.t (K.ofNat 16)) (.c (.i .i64 (.ofNat 1)))⟩, ⟨(some (K.ofNat 6)), none, .as (.t (K.ofNat 17))⟩]
noncomputable def f40_l0 : EC := (.seq (.seq (.reg f40_r4) (.cond (.t (K.ofNat 15)) .skip (.exit 2))) (.seq (.block 3 (.seq (.draw f40_r5) (.cond (.t (K.ofNat 29)) (.seq (.reg f40_r6) .ret) .skip))) (.reg f40_r7)))
noncomputable def f40_r8 : List EOper := [⟨(some (K.ofNat 11)), none, .mv (.t (K.ofNat 5))⟩, ⟨(some (K.ofNat 12)), none, .bin .add (.t (K.ofNat 11)) (.c (.i .i64 (.ofNat 1)))⟩, ⟨(some (K.ofNat 5)), none, .as (.t (K.ofNat 12))⟩]
noncomputable def f40_l1 : EC := (.seq (.seq (.reg f40_r2) (.cond (.t (K.ofNat 10)) .skip (.exit 0))) (.seq (.block 1 (.seq (.reg f40_r3) (.block 2 (.loop f40_l0)))) (.reg f40_r8)))
noncomputable def f40_r9 : List EOper := [⟨(some (K.ofNat 4)), none, .as (.c (.b true))⟩]
noncomputable def f40_c : EC := (.seq (.reg f40_r0) (.seq (.seq (.reg f40_r1) (.block 0 (.loop f40_l1))) (.seq (.reg f40_r9) .ret)))
noncomputable def f40 : EF := ⟨30, [.tmp (K.ofNat 4)], f40_c, none⟩
section
variable {fs : T EF} {h : H} {v : V} {us : List V} {Ls : List (List (Int × Int))} {n : Nat}
structure CallsPf (fs : T EF) : Prop extends CallsRg fs where
  c69 : fs.get (K.ofNat 69) = some f69
end
end Go.Ev
namespace Go.Ev
open Go Go.RowKit
noncomputable def f66_r0 : List EOper := [⟨(some (K.ofNat 2)), none, .as (.c .sn)⟩]
noncomputable def f66_r1 : List EOper := [⟨(some (K.ofNat 9)), none, .mv (.t (K.ofNat 0))⟩, ⟨(some (K.ofNat 10)), none, .bin .sub (.t (K.ofNat 9)) (.c (.i .i64 (.ofNat 1)))⟩, ⟨(some (K.ofNat 3)), none, .as (.t (K.ofNat 10))⟩]
noncomputable def f66_r2 : List EOper := [⟨(some (K.ofNat 11)), none, .mv (.t (K.ofNat 3))⟩, ⟨(some (K.ofNat 12)), none, .mkslice 1 [.sn] (.t (K.ofNat 11))⟩, ⟨(some (K.ofNat 4)), none, .as (.t (K.ofNat 12))⟩]
noncomputable def f66_r3 : List EOper := [⟨(some (K.ofNat 13)), none, .mv (.t (K.ofNat 3))⟩, ⟨(some (K.ofNat 14)), none, .mv (.c (.i .i64 (.ofNat 0)))⟩]
noncomputable def f66_r4 : List EOper := [⟨(some (K.ofNat 15)), none, .bin .lss (.t (K.ofNat 14)) (.t (K.ofNat 13))⟩]
noncomputable def f66_r5 : List EOper := [⟨(some (K.ofNat 16)), none, .mv (.t (K.ofNat 14))⟩, ⟨(some (K.ofNat 5)), none, .as (.t (K.ofNat 16))⟩]
noncomputable def f66_r6 : List EOper := [⟨(some (K.ofNat 17)), none, .mv (.t (K.ofNat 5))⟩, ⟨(some (K.ofNat 18)), none, .mv (.t (K.ofNat 0))⟩, ⟨(some (K.ofNat 19)), none, .bin .sub (.t (K.ofNat 18)) (.c (.i .i64 (.ofNat 1)))⟩, ⟨(some (K.ofNat 20)), none, .build [(.i .i64 (.ofNat 0)), (.i .i64 (.ofNat 0))] [(0, 1, (.t (K.ofNat 17))), (1, 1, (.t (K.ofNat 19)))]⟩, ⟨(some (K.ofNat 6)), none, .alloc 2 [(.i .i64 (.ofNat 0)), (.i .i64 (.ofNat 0))]⟩, ⟨none, none, .st 2 (.t (K.ofNat 6)) (.t (K.ofNat 20))⟩]
noncomputable def f66_r7 : List EOper := [⟨(some (K.ofNat 21)), none, .mv (.t (K.ofNat 5))⟩, ⟨(some (K.ofNat 22)), none, .bin .rem (.t (K.ofNat 21)) (.c (.i .i64 (.ofNat 2)))⟩, ⟨(some (K.ofNat 23)), none, .bin .eql (.t (K.ofNat 22)) (.c (.i .i64 (.ofNat 1)))⟩]
noncomputable def f66_r8 : List EOper := [⟨(some (K.ofNat 24)), none, .ldn 2 (.t (K.ofNat 6))⟩, ⟨(some (K.ofNat 25)), none, .call (.c (.fn (K.ofNat 84) [])) [(.t (K.ofNat 24))]⟩, ⟨none, none, .st 2 (.t (K.ofNat 6)) (.t (K.ofNat 25))⟩]
noncomputable def f66_r9 : List EOper := [⟨(some (K.ofNat 26)), none, .mv (.t (K.ofNat 4))⟩, ⟨(some (K.ofNat 27)), none, .mv (.t (K.ofNat 5))⟩, ⟨(some (K.ofNat 28)), none, .ldn 2 (.t (K.ofNat 6))⟩, ⟨(some (K.ofNat 29)), none, .bslice 1 2 [(.i .i64 (.ofNat 0)), (.i .i64 (.ofNat 0))] [(0, 2, (.t (K.ofNat 28)))]⟩, ⟨(some (K.ofNat 30)), none, .iads 1 (.t (K.ofNat 26)) (.t (K.ofNat 27))⟩, ⟨none, none, .st 1 (.t (K.ofNat 30)) (.t (K.ofNat 29))⟩]
noncomputable def f66_r10 : List EOper := [⟨(some (K.ofNat 7)), none, .as (.c (.i .i64 (.ofNat 1)))⟩]
noncomputable def f66_r11 : List EOper := [⟨(some (K.ofNat 31)), none, .mv (.t (K.ofNat 7))⟩, ⟨(some (K.ofNat 32)), none, .mv (.t (K.ofNat 0))⟩, ⟨(some (K.ofNat 33)), none, .bin .quo (.t (K.ofNat 32)) (.c (.i .i64 (.ofNat 2)))⟩, ⟨(some (K.ofNat 34)), none, .bin .lss (.t (K.ofNat 31)) (.t (K.ofNat 33))⟩]
noncomputable def f66_r12 : List Stage := [⟨[⟨(some (K.ofNat 37)), none, .mv (.t (K.ofNat 5))⟩, ⟨(some (K.ofNat 38)), none, .mv (.t (K.ofNat 7))⟩, ⟨(some (K.ofNat 39)), none, .bin .add (.t (K.ofNat 37)) (.t (K.ofNat 38))⟩, ⟨(some (K.ofNat 40)), none, .mv (.t (K.ofNat 3))⟩, ⟨(some (K.ofNat 41)), none, .bin .rem (.t (K.ofNat 39)) (.t (K.ofNat 40))⟩, ⟨(some (K.ofNat 42)), none, .mv (.t (K.ofNat 5))⟩, ⟨(some (K.ofNat 43)), none, .mv (.t (K.ofNat 7))⟩, ⟨(some (K.ofNat 44)), none, .bin .sub (.t (K.ofNat 42)) (.t (K.ofNat 43))⟩, ⟨(some (K.ofNat 45)), none, .mv (.t (K.ofNat 3))⟩, ⟨(some (K.ofNat 46)), none, .bin .add (.t (K.ofNat 44)) (.t (K.ofNat 45))⟩, ⟨(some (K.ofNat 47)), none, .mv (.t (K.ofNat 3))⟩, ⟨(some (K.ofNat 48)), none, .bin .rem (.t (K.ofNat 46)) (.t (K.ofNat 47))⟩, ⟨(some (K.ofNat 49)), none, .build [(.i .i64 (.ofNat 0)), (.i .i64 (.ofNat 0))] [(0, 1, (.t (K.ofNat 41))), (1, 1, (.t (K.ofNat 48)))]⟩, ⟨(some (K.ofNat 8)), none, .alloc 2 [(.i .i64 (.ofNat 0)), (.i .i64 (.ofNat 0))]⟩], [], (some ⟨none, none, .st 2 (.t (K.ofNat 8)) (.t (K.ofNat 49))⟩), [(K.ofNat 8)]⟩, ⟨[], [], none, []⟩]
noncomputable def f66_r13 : List EOper := [⟨(some (K.ofNat 50)), none, .mv (.t (K.ofNat 7))⟩, ⟨(some (K.ofNat 51)), none, .bin .rem (.t (K.ofNat 50)) (.c (.i .i64 (.ofNat 2)))⟩, ⟨(some (K.ofNat 52)), none, .bin .eql (.t (K.ofNat 51)) (.c (.i .i64 (.ofNat 0)))⟩]
noncomputable def f66_r14 : List EOper := [⟨(some (K.ofNat 53)), none, .ldn 2 (.t (K.ofNat 8))⟩, ⟨(some (K.ofNat 54)), none, .call (.c (.fn (K.ofNat 84) [])) [(.t (K.ofNat 53))]⟩, ⟨none, none, .st 2 (.t (K.ofNat 8)) (.t (K.ofNat 54))⟩]
noncomputable def f66_r15 : List Stage := [⟨[⟨(some (K.ofNat 55)), none, .mv (.t (K.ofNat 4))⟩, ⟨(some (K.ofNat 56)), none, .mv (.t (K.ofNat 5))⟩, ⟨(some (K.ofNat 57)), none, .mv (.t (K.ofNat 4))⟩, ⟨(some (K.ofNat 58)), none, .mv (.t (K.ofNat 5))⟩, ⟨(some (K.ofNat 59)), none, .iads 1 (.t (K.ofNat 57)) (.t (K.ofNat 58))⟩, ⟨(some (K.ofNat 60)), none, .ld (.t (K.ofNat 59))⟩, ⟨(some (K.ofNat 61)), none, .ldn 2 (.t (K.ofNat 8))⟩, ⟨(some (K.ofNat 62)), none, .bslice 1 2 [(.i .i64 (.ofNat 0)), (.i .i64 (.ofNat 0))] [(0, 2, (.t (K.ofNat 61)))]⟩], [], (some ⟨(some (K.ofNat 63)), none, .app 2 (.t (K.ofNat 60)) (.t (K.ofNat 62))⟩), [(K.ofNat 62)]⟩, ⟨[⟨(some (K.ofNat 64)), none, .iads 1 (.t (K.ofNat 55)) (.t (K.ofNat 56))⟩], [⟨(some (K.ofNat 55)), none, .mv (.t (K.ofNat 4))⟩, ⟨(some (K.ofNat 56)), none, .mv (.t (K.ofNat 5))⟩], (some ⟨none, none, .st 1 (.t (K.ofNat 64)) (.t (K.ofNat 63))⟩), []⟩, ⟨[], [], none, []⟩]
noncomputable def f66_r16 : List EOper := [⟨(some (K.ofNat 35)), none, .mv (.t (K.ofNat 7))⟩, ⟨(some (K.ofNat 36)), none, .bin .add (.t (K.ofNat 35)) (.c (.i .i64 (.ofNat 1)))⟩, ⟨(some (K.ofNat 7)), none, .as (.t (K.ofNat 36))⟩]
noncomputable def f66_l0 : EC := (.seq (.seq (.reg f66_r11) (.cond (.t (K.ofNat 34)) .skip (.exit 2))) (.seq (.block 3 (.seq (.draw f66_r12) (.seq (.seq (.reg f66_r13) (.cond (.t (K.ofNat 52)) (.reg f66_r14) .skip)) (.draw f66_r15)))) (.reg f66_r16)))
noncomputable def f66_r17 : List EOper := [⟨(some (K.ofNat 65)), none, .bin .add (.t (K.ofNat 14)) (.c (.i .i64 (.ofNat 1)))⟩, ⟨(some (K.ofNat 14)), none, .mv (.t (K.ofNat 65))⟩]
noncomputable def f66_l1 : EC := (.seq (.reg f66_r4) (.seq (.cond (.t (K.ofNat 15)) .skip (.exit 0)) (.seq (.block 1 (.seq (.reg f66_r5) (.seq (.reg f66_r6) (.seq (.seq (.reg f66_r7) (.cond (.t (K.ofNat 23)) (.reg f66_r8) .skip)) (.seq (.reg f66_r9) (.seq (.reg f66_r10) (.block 2 (.loop f66_l0)))))))) (.reg f66_r17))))
noncomputable def f66_r18 : List EOper := [⟨(some (K.ofNat 66)), none, .mv (.t (K.ofNat 4))⟩, ⟨(some (K.ofNat 2)), none, .as (.t (K.ofNat 66))⟩]
noncomputable def f66_c : EC := (.seq (.reg f66_r0) (.seq (.reg f66_r1) (.seq (.reg f66_r2) (.seq (.seq (.reg f66_r3) (.block 0 (.loop f66_l1))) (.seq (.reg f66_r18) .ret)))))
noncomputable def f66 : EF := ⟨67, [.tmp (K.ofNat 2)], f66_c, none⟩
noncomputable def f67_r0 : List EOper := [⟨(some (K.ofNat 2)), none, .as (.c .sn)⟩]
noncomputable def f67_r1 : List EOper := [⟨(some (K.ofNat 8)), none, .mv (.t (K.ofNat 0))⟩, ⟨(some (K.ofNat 9)), none, .bin .sub (.t (K.ofNat 8)) (.c (.i .i64 (.ofNat 1)))⟩, ⟨(some (K.ofNat 10)), none, .mkslice 1 [.sn] (.t (K.ofNat 9))⟩, ⟨(some (K.ofNat 3)), none, .as (.t (K.ofNat 10))⟩]
noncomputable def f67_r2 : List EOper := [⟨(some (K.ofNat 4)), none, .as (.c (.i .i64 (.ofNat 1)))⟩]
noncomputable def f67_r3 : List EOper := [⟨(some (K.ofNat 11)), none, .mv (.t (K.ofNat 3))⟩, ⟨(some (K.ofNat 12)), none, .len (.t (K.ofNat 11))⟩, ⟨(some (K.ofNat 13)), none, .mv (.c (.i .i64 (.ofNat 0)))⟩]
noncomputable def f67_r4 : List EOper := [⟨(some (K.ofNat 14)), none, .bin .lss (.t (K.ofNat 13)) (.t (K.ofNat 12))⟩]
noncomputable def f67_r5 : List EOper := [⟨(some (K.ofNat 15)), none, .mv (.t (K.ofNat 13))⟩, ⟨(some (K.ofNat 5)), none, .as (.t (K.ofNat 15))⟩]
noncomputable def f67_r6 : List EOper := [⟨(some (K.ofNat 16)), none, .mv (.t (K.ofNat 0))⟩, ⟨(some (K.ofNat 17)), none, .mv (.c (.i .i64 (.ofNat 0)))⟩]
noncomputable def f67_r7 : List EOper := [⟨(some (K.ofNat 18)), none, .bin .lss (.t (K.ofNat 17)) (.t (K.ofNat 16))⟩]
noncomputable def f67_r8 : List EOper := [⟨(some (K.ofNat 19)), none, .mv (.t (K.ofNat 17))⟩, ⟨(some (K.ofNat 6)), none, .as (.t (K.ofNat 19))⟩]
noncomputable def f67_r9 : List EOper := [⟨(some (K.ofNat 20)), none, .mv (.t (K.ofNat 6))⟩, ⟨(some (K.ofNat 21)), none, .mv (.t (K.ofNat 4))⟩, ⟨(some (K.ofNat 22)), none, .bin .xor (.t (K.ofNat 20)) (.t (K.ofNat 21))⟩, ⟨(some (K.ofNat 7)), none, .as (.t (K.ofNat 22))⟩]
noncomputable def f67_r10 : List EOper := [⟨(some (K.ofNat 23)), none, .mv (.t (K.ofNat 6))⟩, ⟨(some (K.ofNat 24)), none, .mv (.t (K.ofNat 7))⟩, ⟨(some (K.ofNat 25)), none, .bin .lss (.t (K.ofNat 23)) (.t (K.ofNat 24))⟩]
noncomputable def f67_r11 : List EOper := [⟨(some (K.ofNat 26)), none, .mv (.t (K.ofNat 3))⟩, ⟨(some (K.ofNat 27)), none, .mv (.t (K.ofNat 5))⟩, ⟨(some (K.ofNat 28)), none, .mv (.t (K.ofNat 3))⟩, ⟨(some (K.ofNat 29)), none, .mv (.t (K.ofNat 5))⟩, ⟨(some (K.ofNat 30)), none, .iads 1 (.t (K.ofNat 28)) (.t (K.ofNat 29))⟩, ⟨(some (K.ofNat 31)), none, .ld (.t (K.ofNat 30))⟩, ⟨(some (K.ofNat 32)), none, .mv (.t (K.ofNat 6))⟩, ⟨(some (K.ofNat 33)), none, .mv (.t (K.ofNat 7))⟩, ⟨(some (K.ofNat 34)), none, .build [(.i .i64 (.ofNat 0)), (.i .i64 (.ofNat 0))] [(0, 1, (.t (K.ofNat 32))), (1, 1, (.t (K.ofNat 33)))]⟩, ⟨(some (K.ofNat 35)), none, .bslice 1 2 [(.i .i64 (.ofNat 0)), (.i .i64 (.ofNat 0))] [(0, 2, (.t (K.ofNat 34)))]⟩, ⟨(some (K.ofNat 36)), none, .app 2 (.t (K.ofNat 31)) (.t (K.ofNat 35))⟩, ⟨(some (K.ofNat 37)), none, .iads 1 (.t (K.ofNat 26)) (.t (K.ofNat 27))⟩, ⟨none, none, .st 1 (.t (K.ofNat 37)) (.t (K.ofNat 36))⟩]
noncomputable def f67_r12 : List EOper := [⟨(some (K.ofNat 38)), none, .bin .add (.t (K.ofNat 17)) (.c (.i .i64 (.ofNat 1)))⟩, ⟨(some (K.ofNat 17)), none, .mv (.t (K.ofNat 38))⟩]
noncomputable def f67_l0 : EC := (.seq (.reg f67_r7) (.seq (.cond (.t (K.ofNat 18)) .skip (.exit 2)) (.seq (.block 3 (.seq (.reg f67_r8) (.seq (.reg f67_r9) (.seq (.reg f67_r10) (.cond (.t (K.ofNat 25)) (.reg f67_r11) .skip))))) (.reg f67_r12))))
noncomputable def f67_r13 : List EOper := [⟨(some (K.ofNat 39)), none, .mv (.t (K.ofNat 4))⟩, ⟨(some (K.ofNat 40)), none, .bin .mul (.t (K.ofNat 39)) (.c (.i .i64 (.ofNat 2)))⟩, ⟨(some (K.ofNat 4)), none, .as (.t (K.ofNat 40))⟩]
noncomputable def f67_r14 : List EOper := [⟨(some (K.ofNat 41)), none, .mv (.t (K.ofNat 4))⟩, ⟨(some (K.ofNat 42)), none, .mv (.t (K.ofNat 0))⟩, ⟨(some (K.ofNat 43)), none, .bin .geq (.t (K.ofNat 41)) (.t (K.ofNat 42))⟩]
noncomputable def f67_r15 : List EOper := [⟨(some (K.ofNat 44)), none, .mv (.t (K.ofNat 4))⟩, ⟨(some (K.ofNat 45)), none, .mv (.t (K.ofNat 0))⟩, ⟨(some (K.ofNat 46)), none, .bin .or (.t (K.ofNat 45)) (.c (.i .i64 (.ofNat 3)))⟩, ⟨(some (K.ofNat 47)), none, .bin .xor (.t (K.ofNat 44)) (.t (K.ofNat 46))⟩, ⟨(some (K.ofNat 4)), none, .as (.t (K.ofNat 47))⟩]
noncomputable def f67_r16 : List EOper := [⟨(some (K.ofNat 48)), none, .bin .add (.t (K.ofNat 13)) (.c (.i .i64 (.ofNat 1)))⟩, ⟨(some (K.ofNat 13)), none, .mv (.t (K.ofNat 48))⟩]
noncomputable def f67_l1 : EC := (.seq (.reg f67_r4) (.seq (.cond (.t (K.ofNat 14)) .skip (.exit 0)) (.seq (.block 1 (.seq (.reg f67_r5) (.seq (.seq (.reg f67_r6) (.block 2 (.loop f67_l0))) (.seq (.reg f67_r13) (.seq (.reg f67_r14) (.cond (.t (K.ofNat 43)) (.reg f67_r15) .skip)))))) (.reg f67_r16))))
noncomputable def f67_r17 : List EOper := [⟨(some (K.ofNat 49)), none, .mv (.t (K.ofNat 3))⟩, ⟨(some (K.ofNat 2)), none, .as (.t (K.ofNat 49))⟩]
noncomputable def f67_c : EC := (.seq (.reg f67_r0) (.seq (.reg f67_r1) (.seq (.reg f67_r2) (.seq (.seq (.reg f67_r3) (.block 0 (.loop f67_l1))) (.seq (.reg f67_r17) .ret)))))
noncomputable def f67 : EF := ⟨50, [.tmp (K.ofNat 2)], f67_c, none⟩
section
variable {h h' : H} {v u : V} {us : List V} {Ls : List (List (Int × Int))} {L : List (Int × Int)} {b : Nat}
end
theorem bin_quo2 {n : Nat} (hn : n ≤ 1000000) : binV .quo (.i .i64 (n : Int)) (.i .i64 2) = some (.i .i64 ((n / 2 : Nat) : Int)) := by
  show (bif ieq 2 0 then none else some (V.i .i64 (fw .i64 ((n : Int).tdiv 2)))) = _
  rw [show (n : Int).tdiv 2 = ((n / 2 : Nat) : Int) from rfl, fw64 (by omega) (by omega)]; rfl
section
variable {fs : T EF} {h : H}
end
theorem bin_or64 {a b : Nat} (ha : a ≤ 1000000) (hb : b ≤ 1000000) : binV .or (.i .i64 (a : Int)) (.i .i64 (b : Int)) = some (.i .i64 ((a ||| b : Nat) : Int)) := by
  show some (V.i .i64 (bif Nat.ble a 9223372036854775807 && Nat.ble b 9223372036854775807 then Int.ofNat (Nat.lor a b) else _)) = _
  rw [Nat.ble_eq_true_of_le (by omega), Nat.ble_eq_true_of_le (by omega)]; rfl
section
variable {fs : T EF} {h : H}
end
end Go.Ev
namespace Go.Ev
open Go Go.RowKit
noncomputable def f45_r0 : List EOper := [⟨(some (K.ofNat 4)), none, .as (.c (.b false))⟩]
noncomputable def f45_r1 : List EOper := [⟨(some (K.ofNat 5)), none, .as (.c (.i .i64 (.ofNat 0)))⟩]
noncomputable def f45_r2 : List EOper := [⟨(some (K.ofNat 6)), none, .as (.c (.i .i64 (.ofNat 0)))⟩]
noncomputable def f45_r3 : List EOper := [⟨(some (K.ofNat 9)), none, .mv (.t (K.ofNat 6))⟩, ⟨(some (K.ofNat 10)), none, .mv (.t (K.ofNat 1))⟩, ⟨(some (K.ofNat 11)), none, .len (.t (K.ofNat 10))⟩, ⟨(some (K.ofNat 12)), none, .bin .lss (.t (K.ofNat 9)) (.t (K.ofNat 11))⟩]
noncomputable def f45_r4 : List Stage := [⟨[⟨(some (K.ofNat 15)), none, .mv (.t (K.ofNat 1))⟩, ⟨(some (K.ofNat 16)), none, .mv (.t (K.ofNat 6))⟩, ⟨(some (K.ofNat 17)), none, .iads 2 (.t (K.ofNat 15)) (.t (K.ofNat 16))⟩, ⟨(some (K.ofNat 18)), none, .iadr 2 1 (.t (K.ofNat 17)) (.c (.i .i64 (.ofNat 0)))⟩, ⟨(some (K.ofNat 19)), none, .ld (.t (K.ofNat 18))⟩, ⟨(some (K.ofNat 20)), none, .mv (.t (K.ofNat 1))⟩, ⟨(some (K.ofNat 21)), none, .mv (.t (K.ofNat 6))⟩, ⟨(some (K.ofNat 22)), none, .iads 2 (.t (K.ofNat 20)) (.t (K.ofNat 21))⟩, ⟨(some (K.ofNat 23)), none, .iadr 2 1 (.t (K.ofNat 22)) (.c (.i .i64 (.ofNat 1)))⟩, ⟨(some (K.ofNat 24)), none, .ld (.t (K.ofNat 23))⟩], [], (some ⟨(some (K.ofNat 7)), none, .as (.t (K.ofNat 19))⟩), []⟩, ⟨[], [⟨(some (K.ofNat 20)), none, .mv (.t (K.ofNat 1))⟩, ⟨(some (K.ofNat 21)), none, .mv (.t (K.ofNat 6))⟩, ⟨(some (K.ofNat 22)), none, .iads 2 (.t (K.ofNat 20)) (.t (K.ofNat 21))⟩, ⟨(some (K.ofNat 23)), none, .iadr 2 1 (.t (K.ofNat 22)) (.c (.i .i64 (.ofNat 1)))⟩, ⟨(some (K.ofNat 24)), none, .ld (.t (K.ofNat 23))⟩], (some ⟨(some (K.ofNat 8)), none, .as (.t (K.ofNat 24))⟩), []⟩, ⟨[], [], none, []⟩]
noncomputable def f45_r5 : List EOper := [⟨(some (K.ofNat 25)), none, .mv (.t (K.ofNat 7))⟩, ⟨(some (K.ofNat 26)), none, .bin .lss (.t (K.ofNat 25)) (.c (.i .i64 (.ofNat 0)))⟩, ⟨(some (K.ofNat 27)), none, .mv (.t (K.ofNat 26))⟩, ⟨(some (K.ofNat 28)), (some ((K.ofNat 27), false)), .mv (.t (K.ofNat 8))⟩, ⟨(some (K.ofNat 29)), (some ((K.ofNat 27), false)), .bin .lss (.t (K.ofNat 28)) (.c (.i .i64 (.ofNat 0)))⟩, ⟨(some (K.ofNat 30)), none, .pick (.t (K.ofNat 27)) (.c (.b true)) (.t (K.ofNat 29))⟩, ⟨(some (K.ofNat 31)), none, .mv (.t (K.ofNat 30))⟩, ⟨(some (K.ofNat 32)), (some ((K.ofNat 31), false)), .mv (.t (K.ofNat 7))⟩, ⟨(some (K.ofNat 33)), (some ((K.ofNat 31), false)), .mv (.t (K.ofNat 0))⟩, ⟨(some (K.ofNat 34)), (some ((K.ofNat 31), false)), .bin .geq (.t (K.ofNat 32)) (.t (K.ofNat 33))⟩, ⟨(some (K.ofNat 35)), none, .pick (.t (K.ofNat 31)) (.c (.b true)) (.t (K.ofNat 34))⟩, ⟨(some (K.ofNat 36)), none, .mv (.t (K.ofNat 35))⟩, ⟨(some (K.ofNat 37)), (some ((K.ofNat 36), false)), .mv (.t (K.ofNat 8))⟩, ⟨(some (K.ofNat 38)), (some ((K.ofNat 36), false)), .mv (.t (K.ofNat 0))⟩, ⟨(some (K.ofNat 39)), (some ((K.ofNat 36), false)), .bin .geq (.t (K.ofNat 37)) (.t (K.ofNat 38))⟩, ⟨(some (K.ofNat 40)), none, .pick (.t (K.ofNat 36)) (.c (.b true)) (.t (K.ofNat 39))⟩, ⟨(some (K.ofNat 41)), none, .mv (.t (K.ofNat 40))⟩, ⟨(some (K.ofNat 42)), (some ((K.ofNat 41), false)), .mv (.t (K.ofNat 7))⟩, ⟨(some (K.ofNat 43)), (some ((K.ofNat 41), false)), .mv (.t (K.ofNat 8))⟩, ⟨(some (K.ofNat 44)), (some ((K.ofNat 41), false)), .bin .eql (.t (K.ofNat 42)) (.t (K.ofNat 43))⟩, ⟨(some (K.ofNat 45)), none, .pick (.t (K.ofNat 41)) (.c (.b true)) (.t (K.ofNat 44))⟩, ⟨(some (K.ofNat 46)), none, .mv (.t (K.ofNat 45))⟩, ⟨(some (K.ofNat 47)), (some ((K.ofNat 46), false)), .mv (.t (K.ofNat 5))⟩, ⟨(some (K.ofNat 48)), (some ((K.ofNat 46), false)), .mv (.t (K.ofNat 7))⟩, ⟨(some (K.ofNat 49)), (some ((K.ofNat 46), false)), .bin .shr (.t (K.ofNat 47)) (.t (K.ofNat 48))⟩, ⟨(some (K.ofNat 50)), (some ((K.ofNat 46), false)), .bin .rem (.t (K.ofNat 49)) (.c (.i .i64 (.ofNat 2)))⟩, ⟨(some (K.ofNat 51)), (some ((K.ofNat 46), false)), .bin .eql (.t (K.ofNat 50)) (.c (.i .i64 (.ofNat 1)))⟩, ⟨(some (K.ofNat 52)), none, .pick (.t (K.ofNat 46)) (.c (.b true)) (.t (K.ofNat 51))⟩, ⟨(some (K.ofNat 53)), none, .mv (.t (K.ofNat 52))⟩, ⟨(some (K.ofNat 54)), (some ((K.ofNat 53), false)), .mv (.t (K.ofNat 5))⟩, ⟨(some (K.ofNat 55)), (some ((K.ofNat 53), false)), .mv (.t (K.ofNat 8))⟩, ⟨(some (K.ofNat 56)), (some ((K.ofNat 53), false)), .bin .shr (.t (K.ofNat 54)) (.t (K.ofNat 55))⟩, ⟨(some (K.ofNat 57)), (some ((K.ofNat 53), false)), .bin .rem (.t (K.ofNat 56)) (.c (.i .i64 (.ofNat 2)))⟩, ⟨(some (K.ofNat 58)), (some ((K.ofNat 53), false)), .bin .eql (.t (K.ofNat 57)) (.c (.i .i64 (.ofNat 1)))⟩, ⟨(some (K.ofNat 59)), none, .pick (.t (K.ofNat 53)) (.c (.b true)) (.t (K.ofNat 58))⟩]
noncomputable def f45_r6 : List EOper := [⟨(some (K.ofNat 4)), none, .as (.c (.b false))⟩]
noncomputable def f45_r7 : List Stage := [⟨[⟨(some (K.ofNat 60)), none, .mv (.t (K.ofNat 5))⟩, ⟨(some (K.ofNat 61)), none, .mv (.t (K.ofNat 7))⟩, ⟨(some (K.ofNat 62)), none, .bin .shl (.c (.i .i64 (.ofNat 1))) (.t (K.ofNat 61))⟩, ⟨(some (K.ofNat 63)), none, .bin .or (.t (K.ofNat 60)) (.t (K.ofNat 62))⟩, ⟨(some (K.ofNat 64)), none, .mv (.t (K.ofNat 8))⟩, ⟨(some (K.ofNat 65)), none, .bin .shl (.c (.i .i64 (.ofNat 1))) (.t (K.ofNat 64))⟩, ⟨(some (K.ofNat 66)), none, .bin .or (.t (K.ofNat 63)) (.t (K.ofNat 65))⟩], [], (some ⟨(some (K.ofNat 5)), none, .as (.t (K.ofNat 66))⟩), []⟩, ⟨[], [], none, []⟩]
noncomputable def f45_r8 : List EOper := [⟨(some (K.ofNat 13)), none, .mv (.t (K.ofNat 6))⟩, ⟨(some (K.ofNat 14)), none, .bin .add (.t (K.ofNat 13)) (.c (.i .i64 (.ofNat 1)))⟩, ⟨(some (K.ofNat 6)), none, .as (.t (K.ofNat 14))⟩]
noncomputable def f45_l0 : EC := (.seq (.seq (.reg f45_r3) (.cond (.t (K.ofNat 12)) .skip (.exit 0))) (.seq (.block 1 (.seq (.draw f45_r4) (.seq (.seq (.reg f45_r5) (.cond (.t (K.ofNat 59)) (.seq (.reg f45_r6) .ret) .skip)) (.draw f45_r7)))) (.reg f45_r8)))
noncomputable def f45_r9 : List EOper := [⟨(some (K.ofNat 67)), none, .mv (.t (K.ofNat 1))⟩, ⟨(some (K.ofNat 68)), none, .len (.t (K.ofNat 67))⟩, ⟨(some (K.ofNat 69)), none, .mv (.t (K.ofNat 0))⟩, ⟨(some (K.ofNat 70)), none, .bin .quo (.t (K.ofNat 69)) (.c (.i .i64 (.ofNat 2)))⟩, ⟨(some (K.ofNat 71)), none, .bin .eql (.t (K.ofNat 68)) (.t (K.ofNat 70))⟩, ⟨(some (K.ofNat 4)), none, .as (.t (K.ofNat 71))⟩]
noncomputable def f45_c : EC := (.seq (.reg f45_r0) (.seq (.reg f45_r1) (.seq (.seq (.reg f45_r2) (.block 0 (.loop f45_l0))) (.seq (.reg f45_r9) .ret))))
noncomputable def f45 : EF := ⟨72, [.tmp (K.ofNat 4)], f45_c, none⟩
theorem f45_rs : f45.rs = [.tmp (K.ofNat 4)] := of_eq_true (eq_self _)
noncomputable def f48_r0 : List EOper := [⟨(some (K.ofNat 4)), none, .as (.c (.b false))⟩]
noncomputable def f48_r1 : List EOper := [⟨(some (K.ofNat 5)), none, .alloc 100 (List.replicate 100 (.b false))⟩]
noncomputable def f48_r2 : List EOper := [⟨(some (K.ofNat 6)), none, .as (.c (.i .i64 (.ofNat 0)))⟩]
noncomputable def f48_r3 : List EOper := [⟨(some (K.ofNat 11)), none, .mv (.t (K.ofNat 6))⟩, ⟨(some (K.ofNat 12)), none, .mv (.t (K.ofNat 1))⟩, ⟨(some (K.ofNat 13)), none, .len (.t (K.ofNat 12))⟩, ⟨(some (K.ofNat 14)), none, .bin .lss (.t (K.ofNat 11)) (.t (K.ofNat 13))⟩]
noncomputable def f48_r4 : List EOper := [⟨(some (K.ofNat 17)), none, .mv (.t (K.ofNat 0))⟩, ⟨(some (K.ofNat 18)), none, .mv (.t (K.ofNat 1))⟩, ⟨(some (K.ofNat 19)), none, .mv (.t (K.ofNat 6))⟩, ⟨(some (K.ofNat 20)), none, .iads 1 (.t (K.ofNat 18)) (.t (K.ofNat 19))⟩, ⟨(some (K.ofNat 21)), none, .ld (.t (K.ofNat 20))⟩, ⟨(some (K.ofNat 22)), none, .call (.c (.fn (K.ofNat 45) [])) [(.t (K.ofNat 17)), (.t (K.ofNat 21))]⟩, ⟨(some (K.ofNat 23)), none, .not (.t (K.ofNat 22))⟩]
noncomputable def f48_r5 : List EOper := [⟨(some (K.ofNat 4)), none, .as (.c (.b false))⟩]
noncomputable def f48_r6 : List EOper := [⟨(some (K.ofNat 7)), none, .as (.c (.i .i64 (.ofNat 0)))⟩]
noncomputable def f48_r7 : List EOper := [⟨(some (K.ofNat 24)), none, .mv (.t (K.ofNat 7))⟩, ⟨(some (K.ofNat 25)), none, .mv (.t (K.ofNat 1))⟩, ⟨(some (K.ofNat 26)), none, .mv (.t (K.ofNat 6))⟩, ⟨(some (K.ofNat 27)), none, .iads 1 (.t (K.ofNat 25)) (.t (K.ofNat 26))⟩, ⟨(some (K.ofNat 28)), none, .ld (.t (K.ofNat 27))⟩, ⟨(some (K.ofNat 29)), none, .len (.t (K.ofNat 28))⟩, ⟨(some (K.ofNat 30)), none, .bin .lss (.t (K.ofNat 24)) (.t (K.ofNat 29))⟩]
noncomputable def f48_r8 : List Stage := [⟨[⟨(some (K.ofNat 33)), none, .mv (.t (K.ofNat 1))⟩, ⟨(some (K.ofNat 34)), none, .mv (.t (K.ofNat 6))⟩, ⟨(some (K.ofNat 35)), none, .iads 1 (.t (K.ofNat 33)) (.t (K.ofNat 34))⟩, ⟨(some (K.ofNat 36)), none, .ld (.t (K.ofNat 35))⟩, ⟨(some (K.ofNat 37)), none, .mv (.t (K.ofNat 7))⟩, ⟨(some (K.ofNat 38)), none, .iads 2 (.t (K.ofNat 36)) (.t (K.ofNat 37))⟩, ⟨(some (K.ofNat 39)), none, .iadr 2 1 (.t (K.ofNat 38)) (.c (.i .i64 (.ofNat 0)))⟩, ⟨(some (K.ofNat 40)), none, .ld (.t (K.ofNat 39))⟩, ⟨(some (K.ofNat 41)), none, .mv (.t (K.ofNat 1))⟩, ⟨(some (K.ofNat 42)), none, .mv (.t (K.ofNat 6))⟩, ⟨(some (K.ofNat 43)), none, .iads 1 (.t (K.ofNat 41)) (.t (K.ofNat 42))⟩, ⟨(some (K.ofNat 44)), none, .ld (.t (K.ofNat 43))⟩, ⟨(some (K.ofNat 45)), none, .mv (.t (K.ofNat 7))⟩, ⟨(some (K.ofNat 46)), none, .iads 2 (.t (K.ofNat 44)) (.t (K.ofNat 45))⟩, ⟨(some (K.ofNat 47)), none, .iadr 2 1 (.t (K.ofNat 46)) (.c (.i .i64 (.ofNat 1)))⟩, ⟨(some (K.ofNat 48)), none, .ld (.t (K.ofNat 47))⟩], [], (some ⟨(some (K.ofNat 8)), none, .as (.t (K.ofNat 40))⟩), []⟩, ⟨[], [⟨(some (K.ofNat 41)), none, .mv (.t (K.ofNat 1))⟩, ⟨(some (K.ofNat 42)), none, .mv (.t (K.ofNat 6))⟩, ⟨(some (K.ofNat 43)), none, .iads 1 (.t (K.ofNat 41)) (.t (K.ofNat 42))⟩, ⟨(some (K.ofNat 44)), none, .ld (.t (K.ofNat 43))⟩, ⟨(some (K.ofNat 45)), none, .mv (.t (K.ofNat 7))⟩, ⟨(some (K.ofNat 46)), none, .iads 2 (.t (K.ofNat 44)) (.t (K.ofNat 45))⟩, ⟨(some (K.ofNat 47)), none, .iadr 2 1 (.t (K.ofNat 46)) (.c (.i .i64 (.ofNat 1)))⟩, ⟨(some (K.ofNat 48)), none, .ld (.t (K.ofNat 47))⟩], (some ⟨(some (K.ofNat 9)), none, .as (.t (K.ofNat 48))⟩), []⟩, ⟨[], [], none, []⟩]
noncomputable def f48_r9 : List EOper := [⟨(some (K.ofNat 49)), none, .mv (.t (K.ofNat 8))⟩, ⟨(some (K.ofNat 50)), none, .mv (.t (K.ofNat 9))⟩, ⟨(some (K.ofNat 51)), none, .min (.t (K.ofNat 49)) (.t (K.ofNat 50))⟩, ⟨(some (K.ofNat 52)), none, .bin .mul (.t (K.ofNat 51)) (.c (.i .i64 (.ofNat 10)))⟩, ⟨(some (K.ofNat 53)), none, .mv (.t (K.ofNat 8))⟩, ⟨(some (K.ofNat 54)), none, .mv (.t (K.ofNat 9))⟩, ⟨(some (K.ofNat 55)), none, .max (.t (K.ofNat 53)) (.t (K.ofNat 54))⟩, ⟨(some (K.ofNat 56)), none, .bin .add (.t (K.ofNat 52)) (.t (K.ofNat 55))⟩, ⟨(some (K.ofNat 10)), none, .as (.t (K.ofNat 56))⟩]
noncomputable def f48_r10 : List EOper := [⟨(some (K.ofNat 57)), none, .mv (.t (K.ofNat 10))⟩, ⟨(some (K.ofNat 58)), none, .iadr 100 1 (.t (K.ofNat 5)) (.t (K.ofNat 57))⟩, ⟨(some (K.ofNat 59)), none, .ld (.t (K.ofNat 58))⟩]
noncomputable def f48_r11 : List EOper := [⟨(some (K.ofNat 4)), none, .as (.c (.b false))⟩]
noncomputable def f48_r12 : List EOper := [⟨(some (K.ofNat 60)), none, .mv (.t (K.ofNat 10))⟩, ⟨(some (K.ofNat 61)), none, .iadr 100 1 (.t (K.ofNat 5)) (.t (K.ofNat 60))⟩, ⟨none, none, .st 1 (.t (K.ofNat 61)) (.c (.b true))⟩]
noncomputable def f48_r13 : List EOper := [⟨(some (K.ofNat 31)), none, .mv (.t (K.ofNat 7))⟩, ⟨(some (K.ofNat 32)), none, .bin .add (.t (K.ofNat 31)) (.c (.i .i64 (.ofNat 1)))⟩, ⟨(some (K.ofNat 7)), none, .as (.t (K.ofNat 32))⟩]
noncomputable def f48_l0 : EC := (.seq (.seq (.reg f48_r7) (.cond (.t (K.ofNat 30)) .skip (.exit 2))) (.seq (.block 3 (.seq (.draw f48_r8) (.seq (.reg f48_r9) (.seq (.seq (.reg f48_r10) (.cond (.t (K.ofNat 59)) (.seq (.reg f48_r11) .ret) .skip)) (.reg f48_r12))))) (.reg f48_r13)))
noncomputable def f48_r14 : List EOper := [⟨(some (K.ofNat 15)), none, .mv (.t (K.ofNat 6))⟩, ⟨(some (K.ofNat 16)), none, .bin .add (.t (K.ofNat 15)) (.c (.i .i64 (.ofNat 1)))⟩, ⟨(some (K.ofNat 6)), none, .as (.t (K.ofNat 16))⟩]
noncomputable def f48_l1 : EC := (.seq (.seq (.reg f48_r3) (.cond (.t (K.ofNat 14)) .skip (.exit 0))) (.seq (.block 1 (.seq (.seq (.reg f48_r4) (.cond (.t (K.ofNat 23)) (.seq (.reg f48_r5) .ret) .skip)) (.seq (.reg f48_r6) (.block 2 (.loop f48_l0))))) (.reg f48_r14)))
noncomputable def f48_r15 : List EOper := [⟨(some (K.ofNat 62)), none, .mv (.t (K.ofNat 1))⟩, ⟨(some (K.ofNat 63)), none, .len (.t (K.ofNat 62))⟩, ⟨(some (K.ofNat 64)), none, .mv (.t (K.ofNat 0))⟩, ⟨(some (K.ofNat 65)), none, .bin .lss (.t (K.ofNat 63)) (.t (K.ofNat 64))⟩, ⟨(some (K.ofNat 4)), none, .as (.t (K.ofNat 65))⟩]
noncomputable def f48_c : EC := (.seq (.reg f48_r0) (.seq (.reg f48_r1) (.seq (.seq (.reg f48_r2) (.block 0 (.loop f48_l1))) (.seq (.reg f48_r15) .ret))))
noncomputable def f48 : EF := ⟨66, [.tmp (K.ofNat 4)], f48_c, none⟩
theorem f48_rs : f48.rs = [.tmp (K.ofNat 4)] := of_eq_true (eq_self _)
noncomputable def f14_r0 : List EOper := [⟨(some (K.ofNat 4)), none, .as (.c (.i .i64 (.ofNat 0)))⟩]
noncomputable def f14_r1 : List EOper := [⟨(some (K.ofNat 6)), none, .mv (.t (K.ofNat 0))⟩, ⟨(some (K.ofNat 7)), none, .call (.c (.fn (K.ofNat 37) [])) [(.t (K.ofNat 6))]⟩, ⟨(some (K.ofNat 8)), none, .not (.t (K.ofNat 7))⟩, ⟨(some (K.ofNat 5)), none, .as (.t (K.ofNat 8))⟩]
noncomputable def f14_r2 : List EOper := [⟨(some (K.ofNat 4)), none, .as (.c (.i .i64 (.ofNat 1)))⟩]
noncomputable def f14_r3 : List EOper := [⟨(some (K.ofNat 10)), none, .mv (.t (K.ofNat 1))⟩, ⟨(some (K.ofNat 11)), none, .len (.t (K.ofNat 10))⟩, ⟨(some (K.ofNat 12)), none, .mv (.t (K.ofNat 0))⟩, ⟨(some (K.ofNat 13)), none, .bin .sub (.t (K.ofNat 12)) (.c (.i .i64 (.ofNat 1)))⟩, ⟨(some (K.ofNat 14)), none, .bin .neq (.t (K.ofNat 11)) (.t (K.ofNat 13))⟩, ⟨(some (K.ofNat 15)), none, .mv (.t (K.ofNat 14))⟩, ⟨(some (K.ofNat 16)), (some ((K.ofNat 15), false)), .mv (.t (K.ofNat 0))⟩, ⟨(some (K.ofNat 17)), (some ((K.ofNat 15), false)), .mv (.t (K.ofNat 1))⟩, ⟨(some (K.ofNat 18)), (some ((K.ofNat 15), false)), .call (.c (.fn (K.ofNat 48) [])) [(.t (K.ofNat 16)), (.t (K.ofNat 17))]⟩, ⟨(some (K.ofNat 19)), (some ((K.ofNat 15), false)), .not (.t (K.ofNat 18))⟩, ⟨(some (K.ofNat 20)), none, .pick (.t (K.ofNat 15)) (.c (.b true)) (.t (K.ofNat 19))⟩, ⟨(some (K.ofNat 9)), none, .as (.t (K.ofNat 20))⟩]
noncomputable def f14_r4 : List EOper := [⟨(some (K.ofNat 4)), none, .as (.c (.i .i64 (.ofNat 40)))⟩]
noncomputable def f14_r5 : List EOper := [⟨(some (K.ofNat 4)), none, .as (.c (.i .i64 (.ofNat 0)))⟩]
noncomputable def f14_c : EC := (.seq (.reg f14_r0) (.seq (.block 0 (.seq (.reg f14_r1) (.cond (.t (K.ofNat 5)) (.seq (.reg f14_r2) .ret) (.seq (.reg f14_r3) (.cond (.t (K.ofNat 9)) (.seq (.reg f14_r4) .ret) .skip))))) (.seq (.reg f14_r5) .ret)))
noncomputable def f14 : EF := ⟨21, [.tmp (K.ofNat 4)], f14_c, none⟩
theorem f14_rs : f14.rs = [.tmp (K.ofNat 4)] := of_eq_true (eq_self _)
section
variable {fs : T EF} {h : H} {v : V} {us : List V} {Ls : List (List (Int × Int))} {l : List (Int × Int)} {n : Nat}
/-- One bit of a mask. -/
theorem bit_i {m x : Nat} (hx : x ≤ 15) : binV .shr (.i .i64 (m : Int)) (.i .i64 (x : Int)) = some (.i .i64 ((m / 2 ^ x : Nat) : Int)) ∧ ((m / 2 ^ x : Nat) : Int).tmod 2 = ((m / 2 ^ x % 2 : Nat) : Int) ∧ decide (((m / 2 ^ x % 2 : Nat) : Int) = 1) = m.testBit x ∧ binV .shl (.i .i64 1) (.i .i64 (x : Int)) = some (.i .i64 ((2 ^ x : Nat) : Int)) ∧ 2 ^ x ≤ 32768 := by
  have hp : 2 ^ x ≤ 2 ^ 15 := Nat.pow_le_pow_right (by omega) hx
  have hp2' : 2 ^ 15 = 32768 := by decide
  refine ⟨by rw [bin_shr, show min x (IntKind.bits .i64) = x by show min x 64 = x; omega], rfl, ?_, ?_, by omega⟩
  · rw [Nat.testBit_eq_decide_div_mod_eq]
    congr 1
    apply propext
    omega
  · rw [bin_shl (by omega), show min ((x : Int).toNat) (IntKind.bits .i64) = x by show min ((x : Int).toNat) 64 = x; omega, Int.one_mul]
    have hz : (2 : Int) ^ x = ((2 ^ x : Nat) : Int) := by rw [Int.natCast_pow]; rfl
    rw [hz, fw64 (by have : (0 : Int) ≤ ((2 ^ x : Nat) : Int) := Int.natCast_nonneg _; omega) (by omega)]
theorem aa_no {n : Nat} {L : List Int} (h : ¬ ((∀ x ∈ L, 0 ≤ x ∧ x < (n : Int)) ∧ L.Nodup)) : aaB (n : Int) L = false := by
  rw [Bool.eq_false_iff]
  intro hh
  unfold aaB at hh
  simp only [Bool.and_eq_true, decide_eq_true_iff] at hh
  exact h hh.2
def f45_I (h : H) (n : Nat) (v : V) (l : List (Int × Int)) (i : Nat) (fr : Fr) (h1 : H) : Prop := i ≤ l.length ∧ h1 = h ∧ (∀ x ∈ plL (l.take i), 0 ≤ x ∧ x < (n : Int)) ∧ (plL (l.take i)).Nodup ∧ ∃ m, Msk m (plL (l.take i)) ∧ fr.get (K.ofNat 0) = some (.i .i64 (n : Int)) ∧ fr.get (K.ofNat 1) = some (v) ∧ fr.get (K.ofNat 5) = some (.i .i64 (m : Int)) ∧ fr.get (K.ofNat 6) = some (.i .i64 (i : Int))
theorem f45_ret (hn : n ≤ 10) (he : n % 2 = 0) (hv : Srp h v l) (hL : l.length ≤ 9223372036854775807) : Ret fs f45 [.i .i64 (n : Int), v] h fun r h' => r = .b (rndB n l) ∧ h' = h := by
  apply ret_of rfl
  show W fs none f45_c _ _ _
  unfold f45_c
  have hlen := hv.len
  have hvb := hv.beq
  have hk : kmax .i64 = 9223372036854775807 := rfl
  simp (disch := omega) only [f45_r0, f45_r1, f45_r2, w_reg, w_seq, w_block, seqK_n, x_nil, x_as, ev_c, putD_some, frame_2, of0]
  refine W_loop (f45_I h n v l) (fun i => l.length - i) ?_ 0 ⟨by omega, rfl, by simp [plL], by simp [plL], 0, Msk.nil, by simp (disch := omega) only [getK_set, Nat.reduceEqDiff, ↓reduceIte, and_self, Int.natCast_zero]⟩
  rintro i fr h1 ⟨hi, rfl, hin, hnd, m, hm, g0, g1, g5, g6⟩
  unfold f45_l0
  by_cases hlt : i < l.length
  · have d0 : decide ((i : Int) < (l.length : Int)) = true := by simpa using hlt
    obtain ⟨ida, q, hp1, _, hp3, hp4⟩ := hv.at2 hlt
    have htk := plL_snoc hlt
    have hsub : (plL (l.take (i + 1))).Sublist (plL l) := by
      conv => rhs; rw [← List.take_append_drop (i + 1) l]
      unfold plL
      rw [List.flatMap_append]
      exact List.sublist_append_left _ _
    have bad : ¬ ((∀ x ∈ plL (l.take (i + 1)), 0 ≤ x ∧ x < (n : Int)) ∧ (plL (l.take (i + 1))).Nodup) → rndB n l = false := fun hb => by
      have := aa_no (n := n) (L := plL l) fun hh => hb ⟨fun x hx => hh.1 x (hsub.subset hx), List.Pairwise.sublist hsub hh.2⟩
      unfold rndB
      rw [this, Bool.and_false]
    have hpl : i ≤ 16 := by
      have h1 := nodup_le (m := (List.range n).map fun (k : Nat) => (k : Int)) hnd fun z hz => by
        obtain ⟨h1, h2⟩ := hin z hz
        exact List.mem_map.2 ⟨z.toNat, by simp; omega, by omega⟩
      rw [plL_len, List.length_take] at h1
      simp at h1
      omega
    rw [htk] at bad
    generalize l[i] = e at *
    have b1 : ¬ (0 ≤ e.1 ∧ e.1 < (n : Int)) → rndB n l = false := fun hb => bad fun hh => hb (hh.1 e.1 (by simp))
    have b2 : ¬ (0 ≤ e.2 ∧ e.2 < (n : Int)) → rndB n l = false := fun hb => bad fun hh => hb (hh.1 e.2 (by simp))
    have b3 : ¬ (plL (l.take i) ++ [e.1, e.2]).Nodup → rndB n l = false := fun hb => bad fun hh => hb hh.2
    obtain ⟨a, b⟩ := e
    simp only at hp3 hp4 b1 b2 b3 htk
    simp (disch := omega) only [f45_r3, f45_r4, w_skip, w_reg, w_draw, w_seq, w_cond, w_block, seqK_n, ckB_b, cbB_b, true_and, x_nil, x_mv, x_as, x_bin, x_len, kx, kg, xg_nil, xg_mv, xg_ld, xg_iadr, xg_iads, xd_cons, fresh_nil, stK_n, stK_s, stay_nil, stay_cons, again_ok, stay_mv, beq_i, stay_iads, stay_ld, beq_p, rvP_ok, okv_some, ev_t, ev_c, getV_some, putD_some, bin_lss, onP_p, of0, of1, getK_set, Nat.reduceEqDiff, ↓reduceIte, stay_iadr, ix2_0, ix2_1, g1, g6, hlen, d0, hp1, hp3, hp4, hvb]
    by_cases h1 : a < 0
    · have d1 : decide (a < 0) = true := decide_eq_true h1
      have hno := b1 (by omega)
      simp (disch := omega) only [f45_r5, f45_r6, f45_rs, w_reg, w_seq, w_cond, w_ret, seqK_n, seqK_r, atK_r, loopK_r, ckB_b, cbB_b, okG_b, asG_f, retK_r, x_nil, x_g, x_mv, x_as, x_pick, x_bin, kx, rvP_ok, okv_some, ev_t, ev_c, getV_some, putD_some, bin_lss, pick_b, oGet_s, readRs_nil, readRs_t, retV_1, of0, of1, of2, Option.some.injEq, exists_eq_left', getK_set, Nat.reduceEqDiff, ↓reduceIte, Bool.false_eq_true, Bool.not_true, d1, hno, and_self]
    have d1 : decide (a < 0) = false := decide_eq_false h1
    by_cases h2 : b < 0
    · have d2 : decide (b < 0) = true := decide_eq_true h2
      have hno := b2 (by omega)
      simp (disch := omega) only [f45_r5, f45_r6, f45_rs, w_reg, w_seq, w_cond, w_ret, seqK_n, seqK_r, atK_r, loopK_r, ckB_b, cbB_b, okG_b, asG_f, retK_r, x_nil, x_g, x_mv, x_as, x_pick, x_bin, kx, rvP_ok, okv_some, ev_t, ev_c, getV_some, putD_some, bin_lss, pick_b, oGet_s, readRs_nil, readRs_t, retV_1, of0, of1, of2, Option.some.injEq, exists_eq_left', getK_set, Nat.reduceEqDiff, ↓reduceIte, Bool.false_eq_true, Bool.not_true, Bool.not_false, d1, d2, hno, and_self]
    have d2 : decide (b < 0) = false := decide_eq_false h2
    by_cases h3 : a ≥ (n : Int)
    · have d3 : decide (a ≥ (n : Int)) = true := decide_eq_true h3
      have hno := b1 (by omega)
      simp (disch := omega) only [f45_r5, f45_r6, f45_rs, w_reg, w_seq, w_cond, w_ret, seqK_n, seqK_r, atK_r, loopK_r, ckB_b, cbB_b, okG_b, asG_f, retK_r, x_nil, x_g, x_mv, x_as, x_pick, x_bin, kx, rvP_ok, okv_some, ev_t, ev_c, getV_some, putD_some, bin_lss, bin_geq, pick_b, oGet_s, readRs_nil, readRs_t, retV_1, of0, of1, of2, Option.some.injEq, exists_eq_left', getK_set, Nat.reduceEqDiff, ↓reduceIte, Bool.false_eq_true, Bool.not_true, Bool.not_false, g0, d1, d2, d3, hno, and_self]
    have d3 : decide (a ≥ (n : Int)) = false := decide_eq_false h3
    by_cases h4 : b ≥ (n : Int)
    · have d4 : decide (b ≥ (n : Int)) = true := decide_eq_true h4
      have hno := b2 (by omega)
      simp (disch := omega) only [f45_r5, f45_r6, f45_rs, w_reg, w_seq, w_cond, w_ret, seqK_n, seqK_r, atK_r, loopK_r, ckB_b, cbB_b, okG_b, asG_f, retK_r, x_nil, x_g, x_mv, x_as, x_pick, x_bin, kx, rvP_ok, okv_some, ev_t, ev_c, getV_some, putD_some, bin_lss, bin_geq, pick_b, oGet_s, readRs_nil, readRs_t, retV_1, of0, of1, of2, Option.some.injEq, exists_eq_left', getK_set, Nat.reduceEqDiff, ↓reduceIte, Bool.false_eq_true, Bool.not_true, Bool.not_false, g0, d1, d2, d3, d4, hno, and_self]
    have d4 : decide (b ≥ (n : Int)) = false := decide_eq_false h4
    by_cases h5 : a = b
    · have d5 : decide (a = b) = true := decide_eq_true h5
      have hno := b3 (by rw [h5, List.nodup_append]; simp)
      simp (disch := omega) only [f45_r5, f45_r6, f45_rs, w_reg, w_seq, w_cond, w_ret, seqK_n, seqK_r, atK_r, loopK_r, ckB_b, cbB_b, okG_b, asG_f, retK_r, x_nil, x_g, x_mv, x_as, x_pick, x_bin, kx, rvP_ok, okv_some, ev_t, ev_c, getV_some, putD_some, bin_eql, bin_lss, bin_geq, pick_b, oGet_s, readRs_nil, readRs_t, retV_1, of0, of1, of2, Option.some.injEq, exists_eq_left', getK_set, Nat.reduceEqDiff, ↓reduceIte, Bool.false_eq_true, Bool.not_true, Bool.not_false, g0, d1, d2, d3, d4, d5, hno, and_self]
    have d5 : decide (a = b) = false := decide_eq_false h5
    obtain ⟨x, rfl⟩ : ∃ x : Nat, a = (x : Int) := ⟨a.toNat, by omega⟩
    obtain ⟨y, rfl⟩ : ∃ y : Nat, b = (y : Int) := ⟨b.toNat, by omega⟩
    have hm1 := hm.1
    obtain ⟨s1, s2, s3, s4, s5⟩ := bit_i (m := m) (show x ≤ 15 by omega)
    obtain ⟨t1, t2, t3, t4, t5⟩ := bit_i (m := m) (show y ≤ 15 by omega)
    rw [hm.2 x (by omega)] at s3
    rw [hm.2 y (by omega)] at t3
    by_cases h6 : (x : Int) ∈ plL (l.take i)
    · rw [decide_eq_true h6] at s3
      have hno := b3 (by rw [List.nodup_append]; exact fun hh => hh.2.2 _ h6 _ (by simp) rfl)
      simp (disch := omega) only [f45_r5, f45_r6, f45_rs, w_reg, w_seq, w_cond, w_ret, seqK_n, seqK_r, atK_r, loopK_r, ckB_b, cbB_b, okG_b, asG_f, retK_r, x_nil, x_g, x_mv, x_as, x_pick, x_bin, kx, rvP_ok, okv_some, ev_t, ev_c, getV_some, putD_some, bin_eql, bin_lss, bin_geq, bin_rem, pick_b, oGet_s, readRs_nil, readRs_t, retV_1, of0, of1, of2, Option.some.injEq, exists_eq_left', getK_set, Nat.reduceEqDiff, ↓reduceIte, Bool.false_eq_true, Bool.not_true, Bool.not_false, g0, g5, d1, d2, d3, d4, d5, s1, s2, s3, hno, and_self]
    rw [decide_eq_false h6] at s3
    by_cases h7 : (y : Int) ∈ plL (l.take i)
    · rw [decide_eq_true h7] at t3
      have hno := b3 (by rw [List.nodup_append]; exact fun hh => hh.2.2 _ h7 _ (by simp) rfl)
      simp (disch := omega) only [f45_r5, f45_r6, f45_rs, w_reg, w_seq, w_cond, w_ret, seqK_n, seqK_r, atK_r, loopK_r, ckB_b, cbB_b, okG_b, asG_f, retK_r, x_nil, x_g, x_mv, x_as, x_pick, x_bin, kx, rvP_ok, okv_some, ev_t, ev_c, getV_some, putD_some, bin_eql, bin_lss, bin_geq, bin_rem, pick_b, oGet_s, readRs_nil, readRs_t, retV_1, of0, of1, of2, Option.some.injEq, exists_eq_left', getK_set, Nat.reduceEqDiff, ↓reduceIte, Bool.false_eq_true, Bool.not_false, g0, g5, d1, d2, d3, d4, d5, s1, s2, s3, t1, t2, t3, hno, and_self]
    rw [decide_eq_false h7] at t3
    have hm2 := hm.snoc (show x ≤ 15 by omega)
    have hm3 := hm2.snoc (show y ≤ 15 by omega)
    rw [List.append_assoc] at hm3
    have q1 : binV .or (.i .i64 (m : Int)) (.i .i64 ((2 ^ x : Nat) : Int)) = some (.i .i64 ((m ||| 2 ^ x : Nat) : Int)) := bin_or (by omega) (by omega)
    have q2 : binV .or (.i .i64 ((m ||| 2 ^ x : Nat) : Int)) (.i .i64 ((2 ^ y : Nat) : Int)) = some (.i .i64 ((m ||| 2 ^ x ||| 2 ^ y : Nat) : Int)) := bin_or (by have := hm2.1; omega) (by omega)
    simp (disch := omega) only [f45_r5, w_skip, w_draw, w_cond, seqK_n, ckB_b, cbB_b, okG_b, asG_f, true_and, x_nil, x_g, x_mv, x_pick, x_bin, kx, rvP_ok, okv_some, ev_t, ev_c, getV_some, putD_some, bin_eql, bin_lss, bin_geq, bin_rem, pick_b, of0, of1, of2, getK_set, Nat.reduceEqDiff, ↓reduceIte, Bool.false_eq_true, Bool.not_false, g0, g5, d1, d2, d3, d4, d5, s1, s2, s3, t1, t2, t3]
    simp (disch := omega) only [f45_r7, f45_r8, w_reg, seqK_n, atK_n, loopK_n, true_and, x_nil, x_mv, x_as, x_bin, kx, kg, xg_nil, xg_mv, xg_bin, xd_cons, fresh_nil, stK_n, stK_s, stay_nil, rvP_ok, okv_some, ev_t, ev_c, getV_some, putD_some, bin_add, of1, getK_set, Nat.reduceEqDiff, ↓reduceIte, g5, g6, s4, t4, q1, q2, fw64]
    refine ⟨i + 1, by omega, by omega, rfl, ?_, ?_, _, by rw [htk]; exact hm3, by simp (disch := omega) only [getK_set, Nat.reduceEqDiff, ↓reduceIte, g0, g1, and_self, Int.natCast_add, Int.natCast_one]⟩
    · rw [htk]
      intro z hz
      rcases List.mem_append.1 hz with hz | hz
      · exact hin z hz
      · rcases List.mem_cons.1 hz with rfl | hz
        · omega
        · rw [List.mem_singleton.1 hz]; omega
    · rw [htk, List.nodup_append]
      refine ⟨hnd, by simpa using h5, fun p hp r hr er => ?_⟩
      rcases List.mem_cons.1 hr with rfl | hr
      · exact h6 (er ▸ hp)
      · rw [List.mem_singleton.1 hr] at er; exact h7 (er ▸ hp)
  · have d0 : decide ((i : Int) < (l.length : Int)) = false := by simpa using hlt
    have ei : i = l.length := by omega
    rw [ei, List.take_length] at hin hnd
    have hq2 : binV .quo (.i .i64 (n : Int)) (.i .i64 2) = some (.i .i64 ((n / 2 : Nat) : Int)) := bin_quo2 (by omega)
    have hyes : decide ((l.length : Int) = ((n / 2 : Nat) : Int)) = rndB n l := by
      unfold rndB aaB
      rw [decide_eq_true hin, decide_eq_true hnd, Bool.and_true, Bool.and_true, plL_len, Bool.eq_iff_iff]
      simp only [Bool.and_eq_true, decide_eq_true_iff]
      omega
    simp (disch := omega) only [f45_r3, f45_r9, f45_rs, w_reg, w_seq, w_cond, w_exit, w_ret, seqK_n, seqK_e, atK_e, loopK_e, ckB_b, cbB_b, retK_r, x_nil, x_mv, x_as, x_bin, x_len, kx, rvP_ok, okv_some, ev_t, ev_c, getV_some, putD_some, bin_eql, bin_lss, oGet_s, readRs_nil, readRs_t, retV_1, of2, Option.some.injEq, exists_eq_left', getK_set, Nat.reduceEqDiff, ↓reduceIte, Bool.false_eq_true, g0, g1, g6, hlen, d0, hq2, hyes, and_self]
/-- Which pairs have met. -/
structure MetB (T : List Bool) (P : List (Int × Int)) : Prop where
  len : T.length = 100
  at' : ∀ x y : Nat, x < y → y < 10 → T.getD (x * 10 + y) false = decide (((x : Int), (y : Int)) ∈ P ∨ ((y : Int), (x : Int)) ∈ P)
theorem MetB.nil : MetB (List.replicate 100 false) [] := ⟨by simp, fun x y _ hy => by
  rw [List.getD_eq_getElem?_getD, List.getElem?_replicate]
  split <;> simp⟩
theorem MetB.add {T : List Bool} {P : List (Int × Int)} {a b : Nat} (m : MetB T P) (ha : a < b) (hb : b < 10) {e : Int × Int} (he : e = ((a : Int), (b : Int)) ∨ e = ((b : Int), (a : Int))) : MetB (T.set (a * 10 + b) true) (P ++ [e]) := by
  refine ⟨by rw [List.length_set]; exact m.len, fun x y hxy hy => ?_⟩
  rw [List.getD_eq_getElem?_getD, List.getElem?_set]
  by_cases h : a * 10 + b = x * 10 + y
  · have h1 : a = x := by omega
    have h2 : b = y := by omega
    subst h1; subst h2
    rw [if_pos rfl, if_pos (by rw [m.len]; omega)]
    refine (decide_eq_true ?_).symm
    rcases he with rfl | rfl <;> simp
  · rw [if_neg h, ← List.getD_eq_getElem?_getD, m.at' x y hxy hy]
    congr 1
    refine propext ⟨fun h => ?_, fun h => ?_⟩
    · rcases h with h | h
      · exact .inl (List.mem_append_left _ h)
      · exact .inr (List.mem_append_left _ h)
    · have key : ∀ z : Int × Int, (z = ((x : Int), (y : Int)) ∨ z = ((y : Int), (x : Int))) → z ≠ e := by
        intro z hz q
        rw [q] at hz
        rcases he with rfl | rfl <;> rcases hz with hz | hz <;> simp only [Prod.mk.injEq] at hz <;> omega
      rcases h with h | h
      · rcases List.mem_append.1 h with h | h
        · exact .inl h
        · exact absurd (List.mem_singleton.1 h) (key _ (.inl rfl))
      · rcases List.mem_append.1 h with h | h
        · exact .inr h
        · exact absurd (List.mem_singleton.1 h) (key _ (.inr rfl))
theorem rep_b100 : List.replicate 100 (V.b false) = (List.replicate 100 false).map (fun b => V.b b) := by rw [List.map_replicate]
theorem bg_no {n : Nat} {Ls : List (List (Int × Int))} (h : ¬ ((∀ l ∈ Ls, rndB n l = true) ∧ Ls.flatten.Pairwise dsR)) : bgB n Ls = false := by
  rw [Bool.eq_false_iff]
  intro hh
  unfold bgB at hh
  simp only [Bool.and_eq_true, decide_eq_true_iff, List.all_eq_true] at hh
  exact h hh.2
def f48_I (h : H) (n : Nat) (v : V) (Ls : List (List (Int × Int))) (i : Nat) (fr : Fr) (h1 : H) : Prop := i ≤ Ls.length ∧ Grow h.nx.nat h h1 ∧ (∀ l ∈ Ls.take i, rndB n l = true) ∧ (Ls.take i).flatten.Pairwise dsR ∧ ∃ T, Ar (fun b => V.b b) h1 h.nx T ∧ MetB T (Ls.take i).flatten ∧ h.nx.nat < h1.nx.nat ∧ fr.get (K.ofNat 0) = some (.i .i64 (n : Int)) ∧ fr.get (K.ofNat 1) = some (v) ∧ fr.get (K.ofNat 5) = some (.p h.nx 0) ∧ fr.get (K.ofNat 6) = some (.i .i64 (i : Int))
def f48_J (h : H) (n : Nat) (v : V) (P l : List (Int × Int)) (i j : Nat) (fr : Fr) (h1 : H) : Prop := j ≤ l.length ∧ Grow h.nx.nat h h1 ∧ (P ++ l.take j).Pairwise dsR ∧ ∃ T, Ar (fun b => V.b b) h1 h.nx T ∧ MetB T (P ++ l.take j) ∧ h.nx.nat < h1.nx.nat ∧ fr.get (K.ofNat 0) = some (.i .i64 (n : Int)) ∧ fr.get (K.ofNat 1) = some (v) ∧ fr.get (K.ofNat 5) = some (.p h.nx 0) ∧ fr.get (K.ofNat 6) = some (.i .i64 (i : Int)) ∧ fr.get (K.ofNat 7) = some (.i .i64 (j : Int))
theorem f48_ret (h45 : fs.get (K.ofNat 45) = some f45) (hn : n ≤ 10) (hn1 : 1 ≤ n) (he : n % 2 = 0) (hv : Nrp h v us Ls) (hL : Ls.length ≤ 1000000) (hL2 : ∀ l ∈ Ls, l.length ≤ 9223372036854775807) (hc : HC h) : Ret fs f48 [.i .i64 (n : Int), v] h fun r h' => r = .b (bgB n Ls) ∧ Grow h.nx.nat h h' := by
  have hlen : ∀ h1, lenV v h1 = .ok (.i .i64 (Ls.length : Int)) h1 := fun h1 => by rw [hv.out.len, hv.len]
  have hvb := hv.out.beq
  apply ret_of rfl
  show W fs none f48_c _ _ _
  unfold f48_c
  have n1 := nx_new h (.cells 100 (List.replicate 100 (.b false)))
  have e1 : Ar (fun b => V.b b) (h.new (.cells 100 (List.replicate 100 (.b false)))) h.nx (List.replicate 100 false) := by
    unfold Ar
    rw [get_new_same, rep_b100]
    rfl
  have gA := Grow.new (Nat.le_refl h.nx.nat) (.cells 100 (List.replicate 100 (.b false)))
  simp (disch := omega) only [f48_r0, f48_r1, f48_r2, w_reg, w_seq, w_block, seqK_n, x_nil, x_as, x_alloc, ev_c, putD_some, frame_2, of0]
  refine W_loop (f48_I h n v Ls) (fun i => Ls.length - i) ?_ 0 ⟨by omega, gA, by simp, by simp, _, e1, MetB.nil, by omega, by simp (disch := omega) only [getK_set, Nat.reduceEqDiff, ↓reduceIte, and_self, Int.natCast_zero]⟩
  clear n1 e1 gA
  rintro i fr h1 ⟨hi, hG, hall, hpw, T, hT, hM, hnx, g0, g1, g5, g6⟩
  have hv1 := hv.grow hc hG
  unfold f48_l1
  by_cases hlt : i < Ls.length
  · have d0 : decide ((i : Int) < (Ls.length : Int)) = true := by simpa using hlt
    have hiu : i < us.length := by rw [hv.len]; exact hlt
    obtain ⟨p, hp1, hp2'⟩ := hv1.out.at i hiu
    have hp2 : loadV h1 p one? = .ok us[i] h1 := hp2'
    clear hp2'
    have hui := hv.inn i hiu hlt
    have hl2 := hL2 Ls[i] (List.getElem_mem hlt)
    have hsn : Ls.take (i + 1) = Ls.take i ++ [Ls[i]] := List.take_succ_eq_append_getElem hlt
    have hbad : rndB n Ls[i] = false → bgB n Ls = false := fun hr => bg_no fun hh => by
      have := hh.1 _ (List.getElem_mem hlt)
      rw [hr] at this; cases this
    have hfl : Ls.flatten = ((Ls.take i).flatten ++ Ls[i]) ++ (Ls.drop (i + 1)).flatten := by
      conv => lhs; rw [← List.take_append_drop (i + 1) Ls, hsn]
      rw [List.flatten_append, List.flatten_append]; simp
    simp (disch := omega) only [f48_r3, f48_r4, w_skip, w_reg, w_seq, w_cond, w_block, seqK_n, ckB_b, cbB_b, true_and, x_nil, x_mv, x_ld, x_bin, x_iads, x_call, x_len, kx, rvP_ok, okv_some, ev_t, ev_c, evs_nil, evs_cons, getV_some, putD_some, bin_lss, getK_set, Nat.reduceEqDiff, ↓reduceIte, g0, g1, g6, hlen, d0, hp1, hp2]
    refine (callP_0 (ef := f45) h45 rfl (f45_ret hn he (hui.grow hc hG) hl2)).mono ?_
    rintro r h2 ⟨rfl, rfl⟩
    cases hr : rndB n Ls[i] with
    | false =>
      have hno := hbad hr
      simp (disch := omega) only [f48_r5, f48_rs, w_reg, w_seq, w_cond, w_ret, seqK_n, seqK_r, atK_r, loopK_r, ckB_b, cbB_b, true_and, retK_r, x_nil, x_as, x_not, kx, rvP_ok, ev_t, ev_c, getV_some, putD_some, onB_b, oGet_s, readRs_nil, readRs_t, retV_1, Option.some.injEq, exists_eq_left', getK_set, ↓reduceIte, Bool.not_false, Bool.not_false, hno, true_and]
      exact hG
    | true =>
      have hre := rnd_e hr
      have hll : Ls[i].length = n / 2 := by
        unfold rndB at hr
        simp only [Bool.and_eq_true, decide_eq_true_iff] at hr
        exact hr.1
      have hfin : ∀ h3, Grow h.nx.nat h h3 → loadV h3 p one? = .ok us[i] h3 := fun h3 hG3 => by
        obtain ⟨p', a1, a2⟩ := (hv.grow hc hG3).out.at i hiu
        obtain rfl : p = p' := by have := (hp1 .i64 h3).symm.trans (a1 .i64 h3); injection this
        exact a2
      generalize us[i] = u at *
      generalize Ls[i] = l at *
      have hlu := hui.len
      have hub := hui.beq
      simp (disch := omega) only [f48_r6, w_skip, w_reg, w_seq, w_cond, w_block, seqK_n, ckB_b, cbB_b, true_and, x_nil, x_as, x_not, kx, rvP_ok, ev_t, ev_c, getV_some, putD_some, onB_b, of0, getK_set, ↓reduceIte, Bool.false_eq_true, Bool.not_true, Bool.not_true]
      refine W_loop (f48_J h n v (Ls.take i).flatten l i) (fun j => l.length - j) ?_ 0 ⟨by omega, hG, by simpa using hpw, T, hT, by simpa using hM, hnx, by simp (disch := omega) only [getK_set, Nat.reduceEqDiff, ↓reduceIte, g0, g1, g5, g6, and_self, Int.natCast_zero]⟩
      clear g0 g1 g5 g6 fr hG hT hM hnx hp2 hv1 hpw
      clear T
      rintro j fr h3 ⟨hj, hG, hpw, T, hT, hM, hnx, g0, g1, g5, g6, g7⟩
      have hp2 := hfin h3 hG
      unfold f48_l0
      by_cases hlt2 : j < l.length
      · have d1 : decide ((j : Int) < (l.length : Int)) = true := by simpa using hlt2
        obtain ⟨ida, q, hq1, _, hq3, hq4⟩ := (hui.grow hc hG).at2 hlt2
        obtain ⟨r1, r2, r3⟩ := hre l[j] (List.getElem_mem hlt2)
        have htk : (Ls.take i).flatten ++ l.take (j + 1) = ((Ls.take i).flatten ++ l.take j) ++ [l[j]] := by rw [List.take_succ_eq_append_getElem hlt2, List.append_assoc]
        have hds := ds_snoc (e := l[j]) hpw
        rw [← htk] at hds
        have hbad2 : (l[j] ∈ (Ls.take i).flatten ++ l.take j ∨ (l[j].2, l[j].1) ∈ (Ls.take i).flatten ++ l.take j) → bgB n Ls = false := fun hb => bg_no fun hh => by
          have h1 := hh.2
          rw [hfl, ← List.take_append_drop (j + 1) l, ← List.append_assoc, List.append_assoc] at h1
          exact absurd hb (hds.1 (List.pairwise_append.1 h1).1)
        obtain ⟨x, hx⟩ : ∃ x : Nat, l[j].1 = (x : Int) := ⟨l[j].1.toNat, by omega⟩
        obtain ⟨y, hy⟩ : ∃ y : Nat, l[j].2 = (y : Int) := ⟨l[j].2.toNat, by omega⟩
        have hee : l[j] = ((x : Int), (y : Int)) := Prod.ext hx hy
        rw [hee] at htk hds hbad2 hq3 hq4 r1 r2 r3
        simp only at r1 r2 r3 hbad2 hds
        obtain ⟨a, b, hab, hb10, hmin, hmax, hor⟩ : ∃ a b : Nat, a < b ∧ b < 10 ∧ min (x : Int) (y : Int) = (a : Int) ∧ max (x : Int) (y : Int) = (b : Int) ∧ ((((x : Int), (y : Int)) : Int × Int) = ((a : Int), (b : Int)) ∨ (((x : Int), (y : Int)) : Int × Int) = ((b : Int), (a : Int))) := by
          rcases Nat.lt_or_ge x y with h | h
          · exact ⟨x, y, h, by omega, by omega, by omega, .inl rfl⟩
          · exact ⟨y, x, by omega, by omega, by omega, by omega, .inr rfl⟩
        have hid : (a : Int) * 10 + (b : Int) = ((a * 10 + b : Nat) : Int) := by omega
        have hil : a * 10 + b < T.length := by rw [hM.len]; omega
        have hil2 : a * 10 + b < 100 := by omega
        have hl0 := hT.ld hil
        have hat := hM.at' a b hab hb10
        rw [getD_at hil] at hat
        have heq : decide (((a : Int), (b : Int)) ∈ (Ls.take i).flatten ++ l.take j ∨ ((b : Int), (a : Int)) ∈ (Ls.take i).flatten ++ l.take j) = decide (((x : Int), (y : Int)) ∈ (Ls.take i).flatten ++ l.take j ∨ ((y : Int), (x : Int)) ∈ (Ls.take i).flatten ++ l.take j) := by
          congr 1
          rcases hor with h | h
          · injection h with h1 h2; rw [h1, h2]
          · injection h with h1 h2; rw [h1, h2]; exact propext Or.comm
        rw [heq] at hat
        rw [hat] at hl0
        obtain ⟨hst, hT2⟩ := hT.st hil (x := true) (c := .b true) rfl rfl
        have hM2 := hM.add hab hb10 hor
        rw [← htk] at hM2
        have e10 : (a : Int) * 10 = ((a * 10 : Nat) : Int) := by omega
        have e11 : ((a * 10 : Nat) : Int) + (b : Int) = ((a * 10 + b : Nat) : Int) := by omega
        have hpb : beqV p p = true := by
          obtain ⟨p2, z1, _, z3⟩ := (hv.grow hc hG).out.atb i hiu
          obtain rfl : p = p2 := by have := (hp1 .i64 h3).symm.trans (z1 .i64 h3); injection this
          exact z3
        cases hd : decide (((x : Int), (y : Int)) ∈ (Ls.take i).flatten ++ l.take j ∨ ((y : Int), (x : Int)) ∈ (Ls.take i).flatten ++ l.take j) with
        | true =>
          rw [hd] at hl0
          have hno := hbad2 (of_decide_eq_true hd)
          simp (disch := omega) only [f48_r7, f48_r8, f48_r9, f48_r10, f48_r11, f48_rs, w_skip, w_reg, w_draw, w_seq, w_cond, w_block, w_ret, seqK_n, seqK_r, atK_r, loopK_r, ckB_b, cbB_b, true_and, retK_r, x_nil, x_mv, x_as, x_ld, x_bin, x_iadr, x_iads, x_len, x_min, x_max, kx, kg, xg_nil, xg_mv, xg_ld, xg_iadr, xg_iads, xd_cons, fresh_nil, stK_n, stK_s, stay_nil, stay_cons, again_ok, stay_mv, beq_i, stay_iads, stay_ld, beq_p, rvP_ok, okv_some, ev_t, ev_c, getV_some, putD_some, bin_add, bin_mul, bin_lss, onP_p, oGet_s, idx_n, min_ii, max_ii, readRs_nil, readRs_t, retV_1, of0, of1, of10, Option.some.injEq, exists_eq_left', getK_set, Nat.reduceEqDiff, ↓reduceIte, stay_iadr, ix2_0, ix2_1, g1, g5, g6, g7, hp1, hp2, hlu, d1, hq1, hq3, hq4, hvb, hub, hpb, hmin, hmax, e10, e11, hl0, hno, true_and, fw64]
          exact hG
        | false =>
          rw [hd] at hl0
          simp (disch := omega) only [f48_r7, f48_r8, f48_r9, f48_r10, w_skip, w_reg, w_draw, w_seq, w_cond, w_block, seqK_n, ckB_b, cbB_b, true_and, x_nil, x_mv, x_as, x_ld, x_bin, x_iadr, x_iads, x_len, x_min, x_max, kx, kg, xg_nil, xg_mv, xg_ld, xg_iadr, xg_iads, xd_cons, fresh_nil, stK_n, stK_s, stay_nil, stay_cons, again_ok, stay_mv, beq_i, stay_iads, stay_ld, beq_p, rvP_ok, okv_some, ev_t, ev_c, getV_some, putD_some, bin_add, bin_mul, bin_lss, onP_p, idx_n, min_ii, max_ii, of0, of1, of10, getK_set, Nat.reduceEqDiff, ↓reduceIte, Bool.false_eq_true, stay_iadr, ix2_0, ix2_1, g1, g5, g6, g7, hp1, hp2, hlu, d1, hq1, hq3, hq4, hvb, hub, hpb, hmin, hmax, e10, e11, hl0, fw64]
          simp (disch := omega) only [f48_r12, f48_r13, w_reg, seqK_n, atK_n, loopK_n, x_nil, x_mv, x_as, x_st, x_bin, x_iadr, kx, rvP_ok, okv_some, ev_t, ev_c, getV_some, putD_some, putD_none, bin_add, onP_p, idx_n, of1, getK_set, Nat.reduceEqDiff, ↓reduceIte, g5, g7, hst, fw64]
          exact ⟨j + 1, by omega, by omega, hG.trans (Grow.put (Nat.le_refl _) hnx _), hds.2 (of_decide_eq_false hd), _, hT2, hM2, hnx, by simp (disch := omega) only [getK_set, Nat.reduceEqDiff, ↓reduceIte, g0, g1, g5, g6, and_self, Int.natCast_add, Int.natCast_one]⟩
      · have d1 : decide ((j : Int) < (l.length : Int)) = false := by simpa using hlt2
        have ej : j = l.length := by omega
        have hfl2 : (Ls.take (i + 1)).flatten = (Ls.take i).flatten ++ l := by rw [hsn, List.flatten_append]; simp
        rw [ej, List.take_length, ← hfl2] at hM hpw
        simp (disch := omega) only [f48_r7, f48_r14, w_reg, w_seq, w_cond, w_exit, seqK_n, seqK_e, atK_n, atK_e, loopK_n, loopK_e, ckB_b, cbB_b, true_and, x_nil, x_mv, x_as, x_ld, x_bin, x_iads, x_len, kx, rvP_ok, okv_some, ev_t, ev_c, getV_some, putD_some, bin_add, bin_lss, of1, getK_set, Nat.reduceEqDiff, ↓reduceIte, Bool.false_eq_true, g1, g6, g7, hp1, hp2, hlu, d1, fw64]
        exact ⟨i + 1, by omega, by omega, hG, fun l' hl' => by
          rw [hsn] at hl'
          rcases List.mem_append.1 hl' with hl' | hl'
          · exact hall _ hl'
          · rw [List.mem_singleton.1 hl']; exact hr, hpw, T, hT, hM, hnx, by simp (disch := omega) only [getK_set, Nat.reduceEqDiff, ↓reduceIte, g0, g1, g5, and_self, Int.natCast_add, Int.natCast_one]⟩
  · have d0 : decide ((i : Int) < (Ls.length : Int)) = false := by simpa using hlt
    have ei : i = Ls.length := by omega
    rw [ei, List.take_length] at hall hpw
    have hyes : decide ((Ls.length : Int) < (n : Int)) = bgB n Ls := by
      unfold bgB
      rw [List.all_eq_true.2 hall, decide_eq_true hpw, Bool.and_true, Bool.and_true, Bool.eq_iff_iff]
      simp only [decide_eq_true_iff]
      omega
    simp (disch := omega) only [f48_r3, f48_r15, f48_rs, w_reg, w_seq, w_cond, w_exit, w_ret, seqK_n, seqK_e, atK_e, loopK_e, ckB_b, cbB_b, true_and, retK_r, x_nil, x_mv, x_as, x_bin, x_len, kx, rvP_ok, okv_some, ev_t, getV_some, putD_some, bin_lss, oGet_s, readRs_nil, readRs_t, retV_1, Option.some.injEq, exists_eq_left', getK_set, Nat.reduceEqDiff, ↓reduceIte, Bool.false_eq_true, g0, g1, g6, hlen, d0, hyes, true_and]
    exact hG
end
end Go.Ev
namespace Go.Ev
open Go Go.RowKit
section
variable {fs : T EF} {h : H} {v : V} {us : List V} {Ls : List (List (Int × Int))} {n : Nat}
theorem f37_ok {n : Int} (hn : ok5 n) : Ret fs f37 [.i .i64 n] h fun r h' => r = .b true ∧ h' = h := by
  unfold ok5 at hn
  have d1 : decide (n ≥ 2) = true := decide_eq_true (by omega)
  have d2 : decide (n ≤ 10) = true := decide_eq_true (by omega)
  have d3 : decide (n.tmod 2 = 0) = true := by rcases hn with rfl | rfl | rfl | rfl | rfl <;> rfl
  apply ret_of rfl
  show W fs none f37_c _ _ _
  unfold f37_c
  simp (disch := omega) only [f37_r0, f37_r1, f37_rs, w_reg, w_seq, w_ret, seqK_n, okG_b, asG_t, retK_r, x_nil, x_g, x_mv, x_as, x_pick, x_bin, kx, rvP_ok, okv_some, ev_t, ev_c, getV_some, putD_some, bin_eql, bin_leq, bin_geq, bin_rem, pick_b, oGet_s, readRs_nil, readRs_t, retV_1, frame_1, of0, of2, of10, Option.some.injEq, exists_eq_left', getK_set, Nat.reduceEqDiff, ↓reduceIte, d1, d2, d3, and_self]
/-- What Check says. -/
def ckI (n : Nat) (Ls : List (List (Int × Int))) : Int := if shB n Ls = true then 0 else 40
structure CallsRc (fs : T EF) : Prop where
  c14 : fs.get (K.ofNat 14) = some f14
  c37 : fs.get (K.ofNat 37) = some f37
  c45 : fs.get (K.ofNat 45) = some f45
  c48 : fs.get (K.ofNat 48) = some f48
theorem f14_ret (k : CallsRc fs) (hn : ok5 (n : Int)) (hv : Nrp h v us Ls) (hL : Ls.length ≤ 1000000) (hL2 : ∀ l ∈ Ls, l.length ≤ 9223372036854775807) (hc : HC h) : Ret fs f14 [.i .i64 (n : Int), v] h fun r h' => r = .i .i64 (ckI n Ls) ∧ Grow h.nx.nat h h' := by
  have hlen : ∀ h1, lenV v h1 = .ok (.i .i64 (Ls.length : Int)) h1 := fun h1 => by rw [hv.out.len, hv.len]
  have hn' := hn
  unfold ok5 at hn'
  apply ret_of rfl
  show W fs none f14_c _ _ _
  unfold f14_c
  simp (disch := omega) only [f14_r0, f14_r1, w_reg, w_seq, w_block, seqK_n, x_nil, x_mv, x_as, x_call, ev_t, ev_c, evs_nil, evs_cons, getV_some, putD_some, frame_2, of0, getK_set, Nat.reduceEqDiff, ↓reduceIte]
  refine (callP_0 (ef := f37) k.c37 rfl (f37_ok hn)).mono ?_
  rintro r h1 ⟨rfl, e1⟩
  rw [e1]
  clear e1 h1
  have en1 : (n : Int) - 1 = ((n - 1 : Nat) : Int) := by omega
  unfold ckI shB
  by_cases hl : Ls.length = n - 1
  · have d1 : decide ((Ls.length : Int) ≠ ((n - 1 : Nat) : Int)) = false := decide_eq_false (by omega)
    simp (disch := omega) only [f14_r3, w_reg, w_seq, w_cond, seqK_n, ckB_b, cbB_b, okG_b, asG_f, true_and, x_nil, x_g, x_mv, x_as, x_bin, x_not, x_call, x_len, kx, rvP_ok, okv_some, ev_t, ev_c, evs_nil, evs_cons, getV_some, putD_some, bin_sub, bin_neq, onB_b, of1, getK_set, Nat.reduceEqDiff, ↓reduceIte, Bool.false_eq_true, Bool.not_true, Bool.not_false, hlen, en1, d1, Bool.not_true, fw64]
    refine (callP_0 (ef := f48) k.c48 rfl (f48_ret k.c45 (by omega) (by omega) (by omega) hv hL hL2 hc)).mono ?_
    rintro r h2 ⟨rfl, hG⟩
    cases hb : bgB n Ls with
    | true =>
      have e0 : (if (true && decide (Ls.length = n - 1)) = true then (0 : Int) else 40) = 0 := by simp [hl]
      simp (disch := omega) only [f14_r5, f14_rs, w_skip, w_reg, w_seq, w_cond, w_ret, seqK_n, atK_n, ckB_b, cbB_b, okG_b, asG_f, true_and, retK_r, x_nil, x_g, x_as, x_pick, x_not, kx, rvP_ok, ev_t, ev_c, getV_some, putD_some, pick_b, onB_b, oGet_s, readRs_nil, readRs_t, retV_1, of0, Option.some.injEq, exists_eq_left', getK_set, Nat.reduceEqDiff, ↓reduceIte, Bool.false_eq_true, Bool.not_true, Bool.not_false, Bool.not_true, e0, true_and]
      exact hG
    | false =>
      have e0 : (if (false && decide (Ls.length = n - 1)) = true then (0 : Int) else 40) = 40 := by simp
      simp (disch := omega) only [f14_r4, f14_rs, w_reg, w_seq, w_cond, w_ret, seqK_n, seqK_r, atK_r, ckB_b, cbB_b, okG_b, asG_f, true_and, retK_r, x_nil, x_g, x_as, x_pick, x_not, kx, rvP_ok, ev_t, ev_c, getV_some, putD_some, pick_b, onB_b, oGet_s, readRs_nil, readRs_t, retV_1, Option.some.injEq, exists_eq_left', getK_set, Nat.reduceEqDiff, ↓reduceIte, Bool.false_eq_true, Bool.not_false, of40, Bool.not_false, of40, e0, true_and]
      exact hG
  · have d1 : decide ((Ls.length : Int) ≠ ((n - 1 : Nat) : Int)) = true := decide_eq_true (by omega)
    have e0 : (if (bgB n Ls && decide (Ls.length = n - 1)) = true then (0 : Int) else 40) = 40 := by simp [hl]
    simp (disch := omega) only [f14_r3, f14_r4, f14_rs, w_reg, w_seq, w_cond, w_ret, seqK_n, seqK_r, atK_r, ckB_b, cbB_b, okG_b, asG_f, true_and, retK_r, x_nil, x_g, x_mv, x_as, x_pick, x_bin, x_not, x_len, kx, rvP_ok, okv_some, ev_t, ev_c, getV_some, putD_some, bin_sub, bin_neq, pick_b, onB_b, oGet_s, readRs_nil, readRs_t, retV_1, of1, Option.some.injEq, exists_eq_left', getK_set, Nat.reduceEqDiff, ↓reduceIte, Bool.false_eq_true, Bool.not_true, of40, hlen, en1, d1, Bool.not_true, of40, e0, true_and, fw64]
    exact Grow.refl _ _
structure CallsMk (fs : T EF) : Prop where
  c34 : fs.get (K.ofNat 34) = some f34
  c35 : fs.get (K.ofNat 35) = some f35
  c36 : fs.get (K.ofNat 36) = some f36
  c60 : fs.get (K.ofNat 60) = some f60
  c65 : fs.get (K.ofNat 65) = some f65
  c66 : fs.get (K.ofNat 66) = some f66
  c67 : fs.get (K.ofNat 67) = some f67
  c84 : fs.get (K.ofNat 84) = some f84
end
end Go.Ev
namespace Go.Ev
open Go Go.RowKit
structure CallsFo (fs : T EF) : Prop extends CallsTm fs, CallsFw fs, CallsPf fs, CallsRc fs, CallsMk fs where
  c20 : fs.get (K.ofNat 20) = some f20
  c25 : fs.get (K.ofNat 25) = some f25
  c28 : fs.get (K.ofNat 28) = some f28
  c38 : fs.get (K.ofNat 38) = some f38
  c39 : fs.get (K.ofNat 39) = some f39
  c40 : fs.get (K.ofNat 40) = some f40
  c46 : fs.get (K.ofNat 46) = some f46
  c56 : fs.get (K.ofNat 56) = some f56
  c64 : fs.get (K.ofNat 64) = some f64
  aw : ∀ h P, CallP fs (.fn (K.ofNat 22) []) [] h P = P (.b true) h
section
variable {fs : T EF} {n : Nat} {Q : List (List (Int × Int))}
structure Sched (n : Nat) (Q : List (List (Int × Int))) : Prop where
  ok : ok5 (n : Int)
  sh : shB n Q = true
  vd : Vld n Q
  len : Q.length = n - 1
  row : ∀ l ∈ Q, l.length ≤ 100
  big : ∀ l ∈ Q, l.length ≤ 9223372036854775807
  bd : n ≤ 10 ∧ 2 ≤ n
theorem Sched.of (hn : ok5 (n : Int)) (hs : shB n Q = true) : Sched n Q := by
  obtain ⟨hv, hl⟩ := sh_vld hs
  have hn' := hn
  unfold ok5 at hn'
  have hf := hv.few (by omega) (by omega)
  exact ⟨hn, hs, hv, hl, fun l hl => (hf.2 l hl).1, fun l hl => by have := (hf.2 l hl).1; omega, by omega, by omega⟩
theorem Sched.inn (s : Sched n Q) {M : List Int} (hM : M.length = n) : InN M.length Q := fun l hl e he => by
  have := rnd_e (s.vd.rnd l hl) e he
  omega
/-- The next schedule. -/
def nx4 (k : Nat) : Nat := 4 + 4 * (k % 2)
end
end Go.Ev
namespace Go.Ev
open Go Go.RowKit
section
variable {n : Nat} {Q : List (List (Int × Int))}
end
end Go.Ev
namespace Go.Ev
open Go Go.RowKit
section
variable {fs : T EF} {h : H} {va vb : V} {a b : List (Int × Int)} {n : Nat}
end
section
variable {fs : T EF}
end
end Go.Ev
namespace Go.Ev
open Go Go.RowKit
noncomputable def f23_r0 : List EOper := [⟨(some (K.ofNat 4)), none, .as (.c (.i .i64 (.ofNat 0)))⟩, ⟨(some (K.ofNat 5)), none, .as (.c .sn)⟩, ⟨(some (K.ofNat 6)), none, .as (.c (.i .i64 (.ofNat 0)))⟩]
noncomputable def f23_r1 : List EOper := [⟨(some (K.ofNat 11)), none, .mv (.t (K.ofNat 0))⟩, ⟨(some (K.ofNat 12)), none, .mv (.t (K.ofNat 1))⟩, ⟨(some (K.ofNat 13)), none, .call (.c (.fn (K.ofNat 51) [])) [(.t (K.ofNat 11)), (.t (K.ofNat 12))]⟩, ⟨(some (K.ofNat 10)), none, .mv (.t (K.ofNat 13))⟩, ⟨(some (K.ofNat 14)), none, .ext (.t (K.ofNat 10)) 0⟩, ⟨(some (K.ofNat 15)), none, .ext (.t (K.ofNat 10)) 1⟩, ⟨(some (K.ofNat 7)), none, .as (.t (K.ofNat 14))⟩, ⟨(some (K.ofNat 8)), none, .as (.t (K.ofNat 15))⟩]
noncomputable def f23_r2 : List EOper := [⟨(some (K.ofNat 16)), none, .mv (.t (K.ofNat 8))⟩, ⟨(some (K.ofNat 17)), none, .bin .neq (.t (K.ofNat 16)) (.c (.i .i64 (.ofNat 0)))⟩]
noncomputable def f23_r3 : List EOper := [⟨(some (K.ofNat 18)), none, .mv (.t (K.ofNat 8))⟩, ⟨(some (K.ofNat 4)), none, .as (.c (.i .i64 (.ofNat 0)))⟩, ⟨(some (K.ofNat 5)), none, .as (.c .sn)⟩, ⟨(some (K.ofNat 6)), none, .as (.t (K.ofNat 18))⟩]
noncomputable def f23_r4 : List EOper := [⟨(some (K.ofNat 19)), none, .mv (.t (K.ofNat 0))⟩, ⟨(some (K.ofNat 20)), none, .bin .gtr (.t (K.ofNat 19)) (.c (.i .i64 (.ofNat 6)))⟩]
noncomputable def f23_r5 : List EOper := [⟨(some (K.ofNat 4)), none, .as (.c (.i .i64 (.ofNat 0)))⟩, ⟨(some (K.ofNat 5)), none, .as (.c .sn)⟩, ⟨(some (K.ofNat 6)), none, .as (.c (.i .i64 (.ofNat 1)))⟩]
noncomputable def f23_r6 : List EOper := [⟨(some (K.ofNat 21)), none, .mv (.t (K.ofNat 7))⟩, ⟨(some (K.ofNat 22)), none, .mv (.t (K.ofNat 0))⟩, ⟨(some (K.ofNat 23)), none, .call (.c (.fn (K.ofNat 59) [])) [(.t (K.ofNat 21)), (.t (K.ofNat 22))]⟩, ⟨(some (K.ofNat 9)), none, .as (.t (K.ofNat 23))⟩]
noncomputable def f23_r7 : List EOper := [⟨(some (K.ofNat 24)), none, .mv (.t (K.ofNat 9))⟩, ⟨(some (K.ofNat 25)), none, .mv (.t (K.ofNat 0))⟩, ⟨(some (K.ofNat 26)), none, .call (.c (.fn (K.ofNat 52) [])) [(.t (K.ofNat 24)), (.t (K.ofNat 25))]⟩, ⟨(some (K.ofNat 27)), none, .mv (.t (K.ofNat 9))⟩, ⟨(some (K.ofNat 28)), none, .call (.c (.fn (K.ofNat 60) [])) [(.t (K.ofNat 27))]⟩, ⟨(some (K.ofNat 4)), none, .as (.t (K.ofNat 26))⟩, ⟨(some (K.ofNat 5)), none, .as (.t (K.ofNat 28))⟩, ⟨(some (K.ofNat 6)), none, .as (.c (.i .i64 (.ofNat 0)))⟩]
noncomputable def f23_c : EC := (.seq (.reg f23_r0) (.seq (.reg f23_r1) (.seq (.seq (.reg f23_r2) (.cond (.t (K.ofNat 17)) (.seq (.reg f23_r3) .ret) .skip)) (.seq (.seq (.reg f23_r4) (.cond (.t (K.ofNat 20)) (.seq (.reg f23_r5) .ret) .skip)) (.seq (.reg f23_r6) (.seq (.reg f23_r7) .ret))))))
noncomputable def f23 : EF := ⟨29, [.tmp (K.ofNat 4), .tmp (K.ofNat 5), .tmp (K.ofNat 6)], f23_c, none⟩
theorem f23_rs : f23.rs = [.tmp (K.ofNat 4), .tmp (K.ofNat 5), .tmp (K.ofNat 6)] := of_eq_true (eq_self _)
section
variable {fs : T EF} {h : H} {v : V} {us : List V} {Ls : List (List (Int × Int))}
instance ok5_dec {n : Int} : Decidable (ok5 n) := inferInstanceAs (Decidable (n = 2 ∨ n = 4 ∨ n = 6 ∨ n = 8 ∨ n = 10))
end
end Go.Ev
