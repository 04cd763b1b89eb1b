/-
  Rounds: is it a round, a beginning, a schedule? (the reference)
  Rounds: schedules that are made, checked by the reference.
  Rounds: the law RoundsFollows.
  Rounds: sums of follow numbers; other names.
  Rounds: Rings of the program; the law RoundsSums.
  Rounds: few; what is no schedule gives the same error.
  Rounds: the laws RoundsChecks and RoundsRings.
-/
import Derived.Test.YthememdeglgnpaaPg
namespace Go.Ev
open Go Go.RowKit
noncomputable def f45_r0 : List EOper := [⟨(some (K.ofNat 4)), none, .as (.c (.b false))⟩]
noncomputable def f45_r1 : List EOper := [⟨(some (K.ofNat 5)), none, .as (.c (.i .i64 (.ofNat 0)))⟩]
noncomputable def f45_r2 : List EOper := [⟨(some (K.ofNat 6)), none, .as (.c (.i .i64 (.ofNat 0)))⟩]
noncomputable def f45_r3 : List EOper := [⟨(some (K.ofNat 9)), none, .mv (.t (K.ofNat 6))⟩, ⟨(some (K.ofNat 10)), none, .mv (.t (K.ofNat 1))⟩, ⟨(some (K.ofNat 11)), none, .len (.t (K.ofNat 10))⟩, ⟨(some (K.ofNat 12)), none, .bin .lss (.t (K.ofNat 9)) (.t (K.ofNat 11))⟩]
noncomputable def f45_r4 : List Stage := [⟨[⟨(some (K.ofNat 15)), none, .mv (.t (K.ofNat 1))⟩, ⟨(some (K.ofNat 16)), none, .mv (.t (K.ofNat 6))⟩, ⟨(some (K.ofNat 17)), none, .iads 2 (.t (K.ofNat 15)) (.t (K.ofNat 16))⟩, ⟨(some (K.ofNat 18)), none, .iadr 2 1 (.t (K.ofNat 17)) (.c (.i .i64 (.ofNat 0)))⟩, ⟨(some (K.ofNat 19)), none, .ld (.t (K.ofNat 18))⟩, ⟨(some (K.ofNat 20)), none, .mv (.t (K.ofNat 1))⟩, ⟨(some (K.ofNat 21)), none, .mv (.t (K.ofNat 6))⟩, ⟨(some (K.ofNat 22)), none, .iads 2 (.t (K.ofNat 20)) (.t (K.ofNat 21))⟩, ⟨(some (K.ofNat 23)), none, .iadr 2 1 (.t (K.ofNat 22)) (.c (.i .i64 (.ofNat 1)))⟩, ⟨(some (K.ofNat 24)), none, .ld (.t (K.ofNat 23))⟩], [], (some ⟨(some (K.ofNat 7)), none, .as (.t (K.ofNat 19))⟩), []⟩, ⟨[], [⟨(some (K.ofNat 20)), none, .mv (.t (K.ofNat 1))⟩, ⟨(some (K.ofNat 21)), none, .mv (.t (K.ofNat 6))⟩, ⟨(some (K.ofNat 22)), none, .iads 2 (.t (K.ofNat 20)) (.t (K.ofNat 21))⟩, ⟨(some (K.ofNat 23)), none, .iadr 2 1 (.t (K.ofNat 22)) (.c (.i .i64 (.ofNat 1)))⟩, ⟨(some (K.ofNat 24)), none, .ld (.t (K.ofNat 23))⟩], (some ⟨(some (K.ofNat 8)), none, .as (.t (K.ofNat 24))⟩), []⟩, ⟨[], [], none, []⟩]
noncomputable def f45_r5 : List EOper := [⟨(some (K.ofNat 25)), none, .mv (.t (K.ofNat 7))⟩, ⟨(some (K.ofNat 26)), none, .bin .lss (.t (K.ofNat 25)) (.c (.i .i64 (.ofNat 0)))⟩, ⟨(some (K.ofNat 27)), none, .mv (.t (K.ofNat 26))⟩, ⟨(some (K.ofNat 28)), (some ((K.ofNat 27), false)), .mv (.t (K.ofNat 8))⟩, ⟨(some (K.ofNat 29)), (some ((K.ofNat 27), false)), .bin .lss (.t (K.ofNat 28)) (.c (.i .i64 (.ofNat 0)))⟩, ⟨(some (K.ofNat 30)), none, .pick (.t (K.ofNat 27)) (.c (.b true)) (.t (K.ofNat 29))⟩, ⟨(some (K.ofNat 31)), none, .mv (.t (K.ofNat 30))⟩, ⟨(some (K.ofNat 32)), (some ((K.ofNat 31), false)), .mv (.t (K.ofNat 7))⟩, ⟨(some (K.ofNat 33)), (some ((K.ofNat 31), false)), .mv (.t (K.ofNat 0))⟩, ⟨(some (K.ofNat 34)), (some ((K.ofNat 31), false)), .bin .geq (.t (K.ofNat 32)) (.t (K.ofNat 33))⟩, ⟨(some (K.ofNat 35)), none, .pick (.t (K.ofNat 31)) (.c (.b true)) (.t (K.ofNat 34))⟩, ⟨(some (K.ofNat 36)), none, .mv (.t (K.ofNat 35))⟩, ⟨(some (K.ofNat 37)), (some ((K.ofNat 36), false)), .mv (.t (K.ofNat 8))⟩, ⟨(some (K.ofNat 38)), (some ((K.ofNat 36), false)), .mv (.t (K.ofNat 0))⟩, ⟨(some (K.ofNat 39)), (some ((K.ofNat 36), false)), .bin .geq (.t (K.ofNat 37)) (.t (K.ofNat 38))⟩, ⟨(some (K.ofNat 40)), none, .pick (.t (K.ofNat 36)) (.c (.b true)) (.t (K.ofNat 39))⟩, ⟨(some (K.ofNat 41)), none, .mv (.t (K.ofNat 40))⟩, ⟨(some (K.ofNat 42)), (some ((K.ofNat 41), false)), .mv (.t (K.ofNat 7))⟩, ⟨(some (K.ofNat 43)), (some ((K.ofNat 41), false)), .mv (.t (K.ofNat 8))⟩, ⟨(some (K.ofNat 44)), (some ((K.ofNat 41), false)), .bin .eql (.t (K.ofNat 42)) (.t (K.ofNat 43))⟩, ⟨(some (K.ofNat 45)), none, .pick (.t (K.ofNat 41)) (.c (.b true)) (.t (K.ofNat 44))⟩, ⟨(some (K.ofNat 46)), none, .mv (.t (K.ofNat 45))⟩, ⟨(some (K.ofNat 47)), (some ((K.ofNat 46), false)), .mv (.t (K.ofNat 5))⟩, ⟨(some (K.ofNat 48)), (some ((K.ofNat 46), false)), .mv (.t (K.ofNat 7))⟩, ⟨(some (K.ofNat 49)), (some ((K.ofNat 46), false)), .bin .shr (.t (K.ofNat 47)) (.t (K.ofNat 48))⟩, ⟨(some (K.ofNat 50)), (some ((K.ofNat 46), false)), .bin .rem (.t (K.ofNat 49)) (.c (.i .i64 (.ofNat 2)))⟩, ⟨(some (K.ofNat 51)), (some ((K.ofNat 46), false)), .bin .eql (.t (K.ofNat 50)) (.c (.i .i64 (.ofNat 1)))⟩, ⟨(some (K.ofNat 52)), none, .pick (.t (K.ofNat 46)) (.c (.b true)) (.t (K.ofNat 51))⟩, ⟨(some (K.ofNat 53)), none, .mv (.t (K.ofNat 52))⟩, ⟨(some (K.ofNat 54)), (some ((K.ofNat 53), false)), .mv (.t (K.ofNat 5))⟩, ⟨(some (K.ofNat 55)), (some ((K.ofNat 53), false)), .mv (.t (K.ofNat 8))⟩, ⟨(some (K.ofNat 56)), (some ((K.ofNat 53), false)), .bin .shr (.t (K.ofNat 54)) (.t (K.ofNat 55))⟩, ⟨(some (K.ofNat 57)), (some ((K.ofNat 53), false)), .bin .rem (.t (K.ofNat 56)) (.c (.i .i64 (.ofNat 2)))⟩, ⟨(some (K.ofNat 58)), (some ((K.ofNat 53), false)), .bin .eql (.t (K.ofNat 57)) (.c (.i .i64 (.ofNat 1)))⟩, ⟨(some (K.ofNat 59)), none, .pick (.t (K.ofNat 53)) (.c (.b true)) (.t (K.ofNat 58))⟩]
noncomputable def f45_r6 : List EOper := [⟨(some (K.ofNat 4)), none, .as (.c (.b false))⟩]
noncomputable def f45_r7 : List Stage := [⟨[⟨(some (K.ofNat 60)), none, .mv (.t (K.ofNat 5))⟩, ⟨(some (K.ofNat 61)), none, .mv (.t (K.ofNat 7))⟩, ⟨(some (K.ofNat 62)), none, .bin .shl (.c (.i .i64 (.ofNat 1))) (.t (K.ofNat 61))⟩, ⟨(some (K.ofNat 63)), none, .bin .or (.t (K.ofNat 60)) (.t (K.ofNat 62))⟩, ⟨(some (K.ofNat 64)), none, .mv (.t (K.ofNat 8))⟩, ⟨(some (K.ofNat 65)), none, .bin .shl (.c (.i .i64 (.ofNat 1))) (.t (K.ofNat 64))⟩, ⟨(some (K.ofNat 66)), none, .bin .or (.t (K.ofNat 63)) (.t (K.ofNat 65))⟩], [], (some ⟨(some (K.ofNat 5)), none, .as (.t (K.ofNat 66))⟩), []⟩, ⟨[], [], none, []⟩]
noncomputable def f45_r8 : List EOper := [⟨(some (K.ofNat 13)), none, .mv (.t (K.ofNat 6))⟩, ⟨(some (K.ofNat 14)), none, .bin .add (.t (K.ofNat 13)) (.c (.i .i64 (.ofNat 1)))⟩, ⟨(some (K.ofNat 6)), none, .as (.t (K.ofNat 14))⟩]
noncomputable def f45_l0 : EC := (.seq (.seq (.reg f45_r3) (.cond (.t (K.ofNat 12)) .skip (.exit 0))) (.seq (.block 1 (.seq (.draw f45_r4) (.seq (.seq (.reg f45_r5) (.cond (.t (K.ofNat 59)) (.seq (.reg f45_r6) .ret) .skip)) (.draw f45_r7)))) (.reg f45_r8)))
noncomputable def f45_r9 : List EOper := [⟨(some (K.ofNat 67)), none, .mv (.t (K.ofNat 1))⟩, ⟨(some (K.ofNat 68)), none, .len (.t (K.ofNat 67))⟩, ⟨(some (K.ofNat 69)), none, .mv (.t (K.ofNat 0))⟩, ⟨(some (K.ofNat 70)), none, .bin .quo (.t (K.ofNat 69)) (.c (.i .i64 (.ofNat 2)))⟩, ⟨(some (K.ofNat 71)), none, .bin .eql (.t (K.ofNat 68)) (.t (K.ofNat 70))⟩, ⟨(some (K.ofNat 4)), none, .as (.t (K.ofNat 71))⟩]
noncomputable def f45_c : EC := (.seq (.reg f45_r0) (.seq (.reg f45_r1) (.seq (.seq (.reg f45_r2) (.block 0 (.loop f45_l0))) (.seq (.reg f45_r9) .ret))))
noncomputable def f45 : EF := ⟨72, [.tmp (K.ofNat 4)], f45_c, none⟩
theorem f45_rs : f45.rs = [.tmp (K.ofNat 4)] := of_eq_true (eq_self _)
noncomputable def f48_r0 : List EOper := [⟨(some (K.ofNat 4)), none, .as (.c (.b false))⟩]
noncomputable def f48_r1 : List EOper := [⟨(some (K.ofNat 5)), none, .alloc 100 (List.replicate 100 (.b false))⟩]
noncomputable def f48_r2 : List EOper := [⟨(some (K.ofNat 6)), none, .as (.c (.i .i64 (.ofNat 0)))⟩]
noncomputable def f48_r3 : List EOper := [⟨(some (K.ofNat 11)), none, .mv (.t (K.ofNat 6))⟩, ⟨(some (K.ofNat 12)), none, .mv (.t (K.ofNat 1))⟩, ⟨(some (K.ofNat 13)), none, .len (.t (K.ofNat 12))⟩, ⟨(some (K.ofNat 14)), none, .bin .lss (.t (K.ofNat 11)) (.t (K.ofNat 13))⟩]
noncomputable def f48_r4 : List EOper := [⟨(some (K.ofNat 17)), none, .mv (.t (K.ofNat 0))⟩, ⟨(some (K.ofNat 18)), none, .mv (.t (K.ofNat 1))⟩, ⟨(some (K.ofNat 19)), none, .mv (.t (K.ofNat 6))⟩, ⟨(some (K.ofNat 20)), none, .iads 1 (.t (K.ofNat 18)) (.t (K.ofNat 19))⟩, ⟨(some (K.ofNat 21)), none, .ld (.t (K.ofNat 20))⟩, ⟨(some (K.ofNat 22)), none, .call (.c (.fn (K.ofNat 45) [])) [(.t (K.ofNat 17)), (.t (K.ofNat 21))]⟩, ⟨(some (K.ofNat 23)), none, .not (.t (K.ofNat 22))⟩]
noncomputable def f48_r5 : List EOper := [⟨(some (K.ofNat 4)), none, .as (.c (.b false))⟩]
noncomputable def f48_r6 : List EOper := [⟨(some (K.ofNat 7)), none, .as (.c (.i .i64 (.ofNat 0)))⟩]
noncomputable def f48_r7 : List EOper := [⟨(some (K.ofNat 24)), none, .mv (.t (K.ofNat 7))⟩, ⟨(some (K.ofNat 25)), none, .mv (.t (K.ofNat 1))⟩, ⟨(some (K.ofNat 26)), none, .mv (.t (K.ofNat 6))⟩, ⟨(some (K.ofNat 27)), none, .iads 1 (.t (K.ofNat 25)) (.t (K.ofNat 26))⟩, ⟨(some (K.ofNat 28)), none, .ld (.t (K.ofNat 27))⟩, ⟨(some (K.ofNat 29)), none, .len (.t (K.ofNat 28))⟩, ⟨(some (K.ofNat 30)), none, .bin .lss (.t (K.ofNat 24)) (.t (K.ofNat 29))⟩]
noncomputable def f48_r8 : List Stage := [⟨[⟨(some (K.ofNat 33)), none, .mv (.t (K.ofNat 1))⟩, ⟨(some (K.ofNat 34)), none, .mv (.t (K.ofNat 6))⟩, ⟨(some (K.ofNat 35)), none, .iads 1 (.t (K.ofNat 33)) (.t (K.ofNat 34))⟩, ⟨(some (K.ofNat 36)), none, .ld (.t (K.ofNat 35))⟩, ⟨(some (K.ofNat 37)), none, .mv (.t (K.ofNat 7))⟩, ⟨(some (K.ofNat 38)), none, .iads 2 (.t (K.ofNat 36)) (.t (K.ofNat 37))⟩, ⟨(some (K.ofNat 39)), none, .iadr 2 1 (.t (K.ofNat 38)) (.c (.i .i64 (.ofNat 0)))⟩, ⟨(some (K.ofNat 40)), none, .ld (.t (K.ofNat 39))⟩, ⟨(some (K.ofNat 41)), none, .mv (.t (K.ofNat 1))⟩, ⟨(some (K.ofNat 42)), none, .mv (.t (K.ofNat 6))⟩, ⟨(some (K.ofNat 43)), none, .iads 1 (.t (K.ofNat 41)) (.t (K.ofNat 42))⟩, ⟨(some (K.ofNat 44)), none, .ld (.t (K.ofNat 43))⟩, ⟨(some (K.ofNat 45)), none, .mv (.t (K.ofNat 7))⟩, ⟨(some (K.ofNat 46)), none, .iads 2 (.t (K.ofNat 44)) (.t (K.ofNat 45))⟩, ⟨(some (K.ofNat 47)), none, .iadr 2 1 (.t (K.ofNat 46)) (.c (.i .i64 (.ofNat 1)))⟩, ⟨(some (K.ofNat 48)), none, .ld (.t (K.ofNat 47))⟩], [], (some ⟨(some (K.ofNat 8)), none, .as (.t (K.ofNat 40))⟩), []⟩, ⟨[], [⟨(some (K.ofNat 41)), none, .mv (.t (K.ofNat 1))⟩, ⟨(some (K.ofNat 42)), none, .mv (.t (K.ofNat 6))⟩, ⟨(some (K.ofNat 43)), none, .iads 1 (.t (K.ofNat 41)) (.t (K.ofNat 42))⟩, ⟨(some (K.ofNat 44)), none, .ld (.t (K.ofNat 43))⟩, ⟨(some (K.ofNat 45)), none, .mv (.t (K.ofNat 7))⟩, ⟨(some (K.ofNat 46)), none, .iads 2 (.t (K.ofNat 44)) (.t (K.ofNat 45))⟩, ⟨(some (K.ofNat 47)), none, .iadr 2 1 (.t (K.ofNat 46)) (.c (.i .i64 (.ofNat 1)))⟩, ⟨(some (K.ofNat 48)), none, .ld (.t (K.ofNat 47))⟩], (some ⟨(some (K.ofNat 9)), none, .as (.t (K.ofNat 48))⟩), []⟩, ⟨[], [], none, []⟩]
noncomputable def f48_r9 : List EOper := [⟨(some (K.ofNat 49)), none, .mv (.t (K.ofNat 8))⟩, ⟨(some (K.ofNat 50)), none, .mv (.t (K.ofNat 9))⟩, ⟨(some (K.ofNat 51)), none, .min (.t (K.ofNat 49)) (.t (K.ofNat 50))⟩, ⟨(some (K.ofNat 52)), none, .bin .mul (.t (K.ofNat 51)) (.c (.i .i64 (.ofNat 10)))⟩, ⟨(some (K.ofNat 53)), none, .mv (.t (K.ofNat 8))⟩, ⟨(some (K.ofNat 54)), none, .mv (.t (K.ofNat 9))⟩, ⟨(some (K.ofNat 55)), none, .max (.t (K.ofNat 53)) (.t (K.ofNat 54))⟩, ⟨(some (K.ofNat 56)), none, .bin .add (.t (K.ofNat 52)) (.t (K.ofNat 55))⟩, ⟨(some (K.ofNat 10)), none, .as (.t (K.ofNat 56))⟩]
noncomputable def f48_r10 : List EOper := [⟨(some (K.ofNat 57)), none, .mv (.t (K.ofNat 10))⟩, ⟨(some (K.ofNat 58)), none, .iadr 100 1 (.t (K.ofNat 5)) (.t (K.ofNat 57))⟩, ⟨(some (K.ofNat 59)), none, .ld (.t (K.ofNat 58))⟩]
noncomputable def f48_r11 : List EOper := [⟨(some (K.ofNat 4)), none, .as (.c (.b false))⟩]
noncomputable def f48_r12 : List EOper := [⟨(some (K.ofNat 60)), none, .mv (.t (K.ofNat 10))⟩, ⟨(some (K.ofNat 61)), none, .iadr 100 1 (.t (K.ofNat 5)) (.t (K.ofNat 60))⟩, ⟨none, none, .st 1 (.t (K.ofNat 61)) (.c (.b true))⟩]
noncomputable def f48_r13 : List EOper := [⟨(some (K.ofNat 31)), none, .mv (.t (K.ofNat 7))⟩, ⟨(some (K.ofNat 32)), none, .bin .add (.t (K.ofNat 31)) (.c (.i .i64 (.ofNat 1)))⟩, ⟨(some (K.ofNat 7)), none, .as (.t (K.ofNat 32))⟩]
noncomputable def f48_l0 : EC := (.seq (.seq (.reg f48_r7) (.cond (.t (K.ofNat 30)) .skip (.exit 2))) (.seq (.block 3 (.seq (.draw f48_r8) (.seq (.reg f48_r9) (.seq (.seq (.reg f48_r10) (.cond (.t (K.ofNat 59)) (.seq (.reg f48_r11) .ret) .skip)) (.reg f48_r12))))) (.reg f48_r13)))
noncomputable def f48_r14 : List EOper := [⟨(some (K.ofNat 15)), none, .mv (.t (K.ofNat 6))⟩, ⟨(some (K.ofNat 16)), none, .bin .add (.t (K.ofNat 15)) (.c (.i .i64 (.ofNat 1)))⟩, ⟨(some (K.ofNat 6)), none, .as (.t (K.ofNat 16))⟩]
noncomputable def f48_l1 : EC := (.seq (.seq (.reg f48_r3) (.cond (.t (K.ofNat 14)) .skip (.exit 0))) (.seq (.block 1 (.seq (.seq (.reg f48_r4) (.cond (.t (K.ofNat 23)) (.seq (.reg f48_r5) .ret) .skip)) (.seq (.reg f48_r6) (.block 2 (.loop f48_l0))))) (.reg f48_r14)))
noncomputable def f48_r15 : List EOper := [⟨(some (K.ofNat 62)), none, .mv (.t (K.ofNat 1))⟩, ⟨(some (K.ofNat 63)), none, .len (.t (K.ofNat 62))⟩, ⟨(some (K.ofNat 64)), none, .mv (.t (K.ofNat 0))⟩, ⟨(some (K.ofNat 65)), none, .bin .lss (.t (K.ofNat 63)) (.t (K.ofNat 64))⟩, ⟨(some (K.ofNat 4)), none, .as (.t (K.ofNat 65))⟩]
noncomputable def f48_c : EC := (.seq (.reg f48_r0) (.seq (.reg f48_r1) (.seq (.seq (.reg f48_r2) (.block 0 (.loop f48_l1))) (.seq (.reg f48_r15) .ret))))
noncomputable def f48 : EF := ⟨66, [.tmp (K.ofNat 4)], f48_c, none⟩
theorem f48_rs : f48.rs = [.tmp (K.ofNat 4)] := of_eq_true (eq_self _)
noncomputable def f14_r0 : List EOper := [⟨(some (K.ofNat 4)), none, .as (.c (.i .i64 (.ofNat 0)))⟩]
noncomputable def f14_r1 : List EOper := [⟨(some (K.ofNat 6)), none, .mv (.t (K.ofNat 0))⟩, ⟨(some (K.ofNat 7)), none, .call (.c (.fn (K.ofNat 37) [])) [(.t (K.ofNat 6))]⟩, ⟨(some (K.ofNat 8)), none, .not (.t (K.ofNat 7))⟩, ⟨(some (K.ofNat 5)), none, .as (.t (K.ofNat 8))⟩]
noncomputable def f14_r2 : List EOper := [⟨(some (K.ofNat 4)), none, .as (.c (.i .i64 (.ofNat 1)))⟩]
noncomputable def f14_r3 : List EOper := [⟨(some (K.ofNat 10)), none, .mv (.t (K.ofNat 1))⟩, ⟨(some (K.ofNat 11)), none, .len (.t (K.ofNat 10))⟩, ⟨(some (K.ofNat 12)), none, .mv (.t (K.ofNat 0))⟩, ⟨(some (K.ofNat 13)), none, .bin .sub (.t (K.ofNat 12)) (.c (.i .i64 (.ofNat 1)))⟩, ⟨(some (K.ofNat 14)), none, .bin .neq (.t (K.ofNat 11)) (.t (K.ofNat 13))⟩, ⟨(some (K.ofNat 15)), none, .mv (.t (K.ofNat 14))⟩, ⟨(some (K.ofNat 16)), (some ((K.ofNat 15), false)), .mv (.t (K.ofNat 0))⟩, ⟨(some (K.ofNat 17)), (some ((K.ofNat 15), false)), .mv (.t (K.ofNat 1))⟩, ⟨(some (K.ofNat 18)), (some ((K.ofNat 15), false)), .call (.c (.fn (K.ofNat 48) [])) [(.t (K.ofNat 16)), (.t (K.ofNat 17))]⟩, ⟨(some (K.ofNat 19)), (some ((K.ofNat 15), false)), .not (.t (K.ofNat 18))⟩, ⟨(some (K.ofNat 20)), none, .pick (.t (K.ofNat 15)) (.c (.b true)) (.t (K.ofNat 19))⟩, ⟨(some (K.ofNat 9)), none, .as (.t (K.ofNat 20))⟩]
noncomputable def f14_r4 : List EOper := [⟨(some (K.ofNat 4)), none, .as (.c (.i .i64 (.ofNat 40)))⟩]
noncomputable def f14_r5 : List EOper := [⟨(some (K.ofNat 4)), none, .as (.c (.i .i64 (.ofNat 0)))⟩]
noncomputable def f14_c : EC := (.seq (.reg f14_r0) (.seq (.block 0 (.seq (.reg f14_r1) (.cond (.t (K.ofNat 5)) (.seq (.reg f14_r2) .ret) (.seq (.reg f14_r3) (.cond (.t (K.ofNat 9)) (.seq (.reg f14_r4) .ret) .skip))))) (.seq (.reg f14_r5) .ret)))
noncomputable def f14 : EF := ⟨21, [.tmp (K.ofNat 4)], f14_c, none⟩
theorem f14_rs : f14.rs = [.tmp (K.ofNat 4)] := of_eq_true (eq_self _)
section
variable {fs : T EF} {h : H} {v : V} {us : List V} {Ls : List (List (Int × Int))} {l : List (Int × Int)} {n : Nat}
/-- One bit of a mask. -/
theorem bit_i {m x : Nat} (hx : x ≤ 15) : binV .shr (.i .i64 (m : Int)) (.i .i64 (x : Int)) = some (.i .i64 ((m / 2 ^ x : Nat) : Int)) ∧ ((m / 2 ^ x : Nat) : Int).tmod 2 = ((m / 2 ^ x % 2 : Nat) : Int) ∧ decide (((m / 2 ^ x % 2 : Nat) : Int) = 1) = m.testBit x ∧ binV .shl (.i .i64 1) (.i .i64 (x : Int)) = some (.i .i64 ((2 ^ x : Nat) : Int)) ∧ 2 ^ x ≤ 32768 := by
  have hp : 2 ^ x ≤ 2 ^ 15 := Nat.pow_le_pow_right (by omega) hx
  have hp2' : 2 ^ 15 = 32768 := by decide
  refine ⟨by rw [bin_shr, show min x (IntKind.bits .i64) = x by show min x 64 = x; omega], rfl, ?_, ?_, by omega⟩
  · rw [Nat.testBit_eq_decide_div_mod_eq]
    congr 1
    apply propext
    omega
  · rw [bin_shl (by omega), show min ((x : Int).toNat) (IntKind.bits .i64) = x by show min ((x : Int).toNat) 64 = x; omega, Int.one_mul]
    have hz : (2 : Int) ^ x = ((2 ^ x : Nat) : Int) := by rw [Int.natCast_pow]; rfl
    rw [hz, fw64 (by have : (0 : Int) ≤ ((2 ^ x : Nat) : Int) := Int.natCast_nonneg _; omega) (by omega)]
theorem aa_no {n : Nat} {L : List Int} (h : ¬ ((∀ x ∈ L, 0 ≤ x ∧ x < (n : Int)) ∧ L.Nodup)) : aaB (n : Int) L = false := by
  rw [Bool.eq_false_iff]
  intro hh
  unfold aaB at hh
  simp only [Bool.and_eq_true, decide_eq_true_iff] at hh
  exact h hh.2
def f45_I (h : H) (n : Nat) (v : V) (l : List (Int × Int)) (i : Nat) (fr : Fr) (h1 : H) : Prop := i ≤ l.length ∧ h1 = h ∧ (∀ x ∈ plL (l.take i), 0 ≤ x ∧ x < (n : Int)) ∧ (plL (l.take i)).Nodup ∧ ∃ m, Msk m (plL (l.take i)) ∧ fr.get (K.ofNat 0) = some (.i .i64 (n : Int)) ∧ fr.get (K.ofNat 1) = some (v) ∧ fr.get (K.ofNat 5) = some (.i .i64 (m : Int)) ∧ fr.get (K.ofNat 6) = some (.i .i64 (i : Int))
theorem f45_ret (hn : n ≤ 10) (he : n % 2 = 0) (hv : Srp h v l) (hL : l.length ≤ 9223372036854775807) : Ret fs f45 [.i .i64 (n : Int), v] h fun r h' => r = .b (rndB n l) ∧ h' = h := by
  apply ret_of rfl
  show W fs none f45_c _ _ _
  unfold f45_c
  have hlen := hv.len
  have hvb := hv.beq
  have hk : kmax .i64 = 9223372036854775807 := rfl
  simp (disch := omega) only [f45_r0, f45_r1, f45_r2, w_reg, w_seq, w_block, seqK_n, x_nil, x_as, ev_c, putD_some, frame_2, of0]
  refine W_loop (f45_I h n v l) (fun i => l.length - i) ?_ 0 ⟨by omega, rfl, by simp [plL], by simp [plL], 0, Msk.nil, by simp (disch := omega) only [getK_set, Nat.reduceEqDiff, ↓reduceIte, and_self, Int.natCast_zero]⟩
  rintro i fr h1 ⟨hi, rfl, hin, hnd, m, hm, g0, g1, g5, g6⟩
  unfold f45_l0
  by_cases hlt : i < l.length
  · have d0 : decide ((i : Int) < (l.length : Int)) = true := by simpa using hlt
    obtain ⟨ida, q, hp1, _, hp3, hp4⟩ := hv.at2 hlt
    have htk := plL_snoc hlt
    have hsub : (plL (l.take (i + 1))).Sublist (plL l) := by
      conv => rhs; rw [← List.take_append_drop (i + 1) l]
      unfold plL
      rw [List.flatMap_append]
      exact List.sublist_append_left _ _
    have bad : ¬ ((∀ x ∈ plL (l.take (i + 1)), 0 ≤ x ∧ x < (n : Int)) ∧ (plL (l.take (i + 1))).Nodup) → rndB n l = false := fun hb => by
      have := aa_no (n := n) (L := plL l) fun hh => hb ⟨fun x hx => hh.1 x (hsub.subset hx), List.Pairwise.sublist hsub hh.2⟩
      unfold rndB
      rw [this, Bool.and_false]
    have hpl : i ≤ 16 := by
      have h1 := nodup_le (m := (List.range n).map fun (k : Nat) => (k : Int)) hnd fun z hz => by
        obtain ⟨h1, h2⟩ := hin z hz
        exact List.mem_map.2 ⟨z.toNat, by simp; omega, by omega⟩
      rw [plL_len, List.length_take] at h1
      simp at h1
      omega
    rw [htk] at bad
    generalize l[i] = e at *
    have b1 : ¬ (0 ≤ e.1 ∧ e.1 < (n : Int)) → rndB n l = false := fun hb => bad fun hh => hb (hh.1 e.1 (by simp))
    have b2 : ¬ (0 ≤ e.2 ∧ e.2 < (n : Int)) → rndB n l = false := fun hb => bad fun hh => hb (hh.1 e.2 (by simp))
    have b3 : ¬ (plL (l.take i) ++ [e.1, e.2]).Nodup → rndB n l = false := fun hb => bad fun hh => hb hh.2
    obtain ⟨a, b⟩ := e
    simp only at hp3 hp4 b1 b2 b3 htk
    simp (disch := omega) only [f45_r3, f45_r4, w_skip, w_reg, w_draw, w_seq, w_cond, w_block, seqK_n, ckB_b, cbB_b, true_and, x_nil, x_mv, x_as, x_bin, x_len, kx, kg, xg_nil, xg_mv, xg_ld, xg_iadr, xg_iads, xd_cons, fresh_nil, stK_n, stK_s, stay_nil, stay_cons, again_ok, stay_mv, beq_i, stay_iads, stay_ld, beq_p, rvP_ok, okv_some, ev_t, ev_c, getV_some, putD_some, bin_lss, onP_p, of0, of1, getK_set, Nat.reduceEqDiff, ↓reduceIte, stay_iadr, ix2_0, ix2_1, g1, g6, hlen, d0, hp1, hp3, hp4, hvb]
    by_cases h1 : a < 0
    · have d1 : decide (a < 0) = true := decide_eq_true h1
      have hno := b1 (by omega)
      simp (disch := omega) only [f45_r5, f45_r6, f45_rs, w_reg, w_seq, w_cond, w_ret, seqK_n, seqK_r, atK_r, loopK_r, ckB_b, cbB_b, okG_b, asG_f, retK_r, x_nil, x_g, x_mv, x_as, x_pick, x_bin, kx, rvP_ok, okv_some, ev_t, ev_c, getV_some, putD_some, bin_lss, pick_b, oGet_s, readRs_nil, readRs_t, retV_1, of0, of1, of2, Option.some.injEq, exists_eq_left', getK_set, Nat.reduceEqDiff, ↓reduceIte, Bool.false_eq_true, Bool.not_true, d1, hno, and_self]
    have d1 : decide (a < 0) = false := decide_eq_false h1
    by_cases h2 : b < 0
    · have d2 : decide (b < 0) = true := decide_eq_true h2
      have hno := b2 (by omega)
      simp (disch := omega) only [f45_r5, f45_r6, f45_rs, w_reg, w_seq, w_cond, w_ret, seqK_n, seqK_r, atK_r, loopK_r, ckB_b, cbB_b, okG_b, asG_f, retK_r, x_nil, x_g, x_mv, x_as, x_pick, x_bin, kx, rvP_ok, okv_some, ev_t, ev_c, getV_some, putD_some, bin_lss, pick_b, oGet_s, readRs_nil, readRs_t, retV_1, of0, of1, of2, Option.some.injEq, exists_eq_left', getK_set, Nat.reduceEqDiff, ↓reduceIte, Bool.false_eq_true, Bool.not_true, Bool.not_false, d1, d2, hno, and_self]
    have d2 : decide (b < 0) = false := decide_eq_false h2
    by_cases h3 : a ≥ (n : Int)
    · have d3 : decide (a ≥ (n : Int)) = true := decide_eq_true h3
      have hno := b1 (by omega)
      simp (disch := omega) only [f45_r5, f45_r6, f45_rs, w_reg, w_seq, w_cond, w_ret, seqK_n, seqK_r, atK_r, loopK_r, ckB_b, cbB_b, okG_b, asG_f, retK_r, x_nil, x_g, x_mv, x_as, x_pick, x_bin, kx, rvP_ok, okv_some, ev_t, ev_c, getV_some, putD_some, bin_lss, bin_geq, pick_b, oGet_s, readRs_nil, readRs_t, retV_1, of0, of1, of2, Option.some.injEq, exists_eq_left', getK_set, Nat.reduceEqDiff, ↓reduceIte, Bool.false_eq_true, Bool.not_true, Bool.not_false, g0, d1, d2, d3, hno, and_self]
    have d3 : decide (a ≥ (n : Int)) = false := decide_eq_false h3
    by_cases h4 : b ≥ (n : Int)
    · have d4 : decide (b ≥ (n : Int)) = true := decide_eq_true h4
      have hno := b2 (by omega)
      simp (disch := omega) only [f45_r5, f45_r6, f45_rs, w_reg, w_seq, w_cond, w_ret, seqK_n, seqK_r, atK_r, loopK_r, ckB_b, cbB_b, okG_b, asG_f, retK_r, x_nil, x_g, x_mv, x_as, x_pick, x_bin, kx, rvP_ok, okv_some, ev_t, ev_c, getV_some, putD_some, bin_lss, bin_geq, pick_b, oGet_s, readRs_nil, readRs_t, retV_1, of0, of1, of2, Option.some.injEq, exists_eq_left', getK_set, Nat.reduceEqDiff, ↓reduceIte, Bool.false_eq_true, Bool.not_true, Bool.not_false, g0, d1, d2, d3, d4, hno, and_self]
    have d4 : decide (b ≥ (n : Int)) = false := decide_eq_false h4
    by_cases h5 : a = b
    · have d5 : decide (a = b) = true := decide_eq_true h5
      have hno := b3 (by rw [h5, List.nodup_append]; simp)
      simp (disch := omega) only [f45_r5, f45_r6, f45_rs, w_reg, w_seq, w_cond, w_ret, seqK_n, seqK_r, atK_r, loopK_r, ckB_b, cbB_b, okG_b, asG_f, retK_r, x_nil, x_g, x_mv, x_as, x_pick, x_bin, kx, rvP_ok, okv_some, ev_t, ev_c, getV_some, putD_some, bin_eql, bin_lss, bin_geq, pick_b, oGet_s, readRs_nil, readRs_t, retV_1, of0, of1, of2, Option.some.injEq, exists_eq_left', getK_set, Nat.reduceEqDiff, ↓reduceIte, Bool.false_eq_true, Bool.not_true, Bool.not_false, g0, d1, d2, d3, d4, d5, hno, and_self]
    have d5 : decide (a = b) = false := decide_eq_false h5
    obtain ⟨x, rfl⟩ : ∃ x : Nat, a = (x : Int) := ⟨a.toNat, by omega⟩
    obtain ⟨y, rfl⟩ : ∃ y : Nat, b = (y : Int) := ⟨b.toNat, by omega⟩
    have hm1 := hm.1
    obtain ⟨s1, s2, s3, s4, s5⟩ := bit_i (m := m) (show x ≤ 15 by omega)
    obtain ⟨t1, t2, t3, t4, t5⟩ := bit_i (m := m) (show y ≤ 15 by omega)
    rw [hm.2 x (by omega)] at s3
    rw [hm.2 y (by omega)] at t3
    by_cases h6 : (x : Int) ∈ plL (l.take i)
    · rw [decide_eq_true h6] at s3
      have hno := b3 (by rw [List.nodup_append]; exact fun hh => hh.2.2 _ h6 _ (by simp) rfl)
      simp (disch := omega) only [f45_r5, f45_r6, f45_rs, w_reg, w_seq, w_cond, w_ret, seqK_n, seqK_r, atK_r, loopK_r, ckB_b, cbB_b, okG_b, asG_f, retK_r, x_nil, x_g, x_mv, x_as, x_pick, x_bin, kx, rvP_ok, okv_some, ev_t, ev_c, getV_some, putD_some, bin_eql, bin_lss, bin_geq, bin_rem, pick_b, oGet_s, readRs_nil, readRs_t, retV_1, of0, of1, of2, Option.some.injEq, exists_eq_left', getK_set, Nat.reduceEqDiff, ↓reduceIte, Bool.false_eq_true, Bool.not_true, Bool.not_false, g0, g5, d1, d2, d3, d4, d5, s1, s2, s3, hno, and_self]
    rw [decide_eq_false h6] at s3
    by_cases h7 : (y : Int) ∈ plL (l.take i)
    · rw [decide_eq_true h7] at t3
      have hno := b3 (by rw [List.nodup_append]; exact fun hh => hh.2.2 _ h7 _ (by simp) rfl)
      simp (disch := omega) only [f45_r5, f45_r6, f45_rs, w_reg, w_seq, w_cond, w_ret, seqK_n, seqK_r, atK_r, loopK_r, ckB_b, cbB_b, okG_b, asG_f, retK_r, x_nil, x_g, x_mv, x_as, x_pick, x_bin, kx, rvP_ok, okv_some, ev_t, ev_c, getV_some, putD_some, bin_eql, bin_lss, bin_geq, bin_rem, pick_b, oGet_s, readRs_nil, readRs_t, retV_1, of0, of1, of2, Option.some.injEq, exists_eq_left', getK_set, Nat.reduceEqDiff, ↓reduceIte, Bool.false_eq_true, Bool.not_false, g0, g5, d1, d2, d3, d4, d5, s1, s2, s3, t1, t2, t3, hno, and_self]
    rw [decide_eq_false h7] at t3
    have hm2 := hm.snoc (show x ≤ 15 by omega)
    have hm3 := hm2.snoc (show y ≤ 15 by omega)
    rw [List.append_assoc] at hm3
    have q1 : binV .or (.i .i64 (m : Int)) (.i .i64 ((2 ^ x : Nat) : Int)) = some (.i .i64 ((m ||| 2 ^ x : Nat) : Int)) := bin_or (by omega) (by omega)
    have q2 : binV .or (.i .i64 ((m ||| 2 ^ x : Nat) : Int)) (.i .i64 ((2 ^ y : Nat) : Int)) = some (.i .i64 ((m ||| 2 ^ x ||| 2 ^ y : Nat) : Int)) := bin_or (by have := hm2.1; omega) (by omega)
    simp (disch := omega) only [f45_r5, w_skip, w_draw, w_cond, seqK_n, ckB_b, cbB_b, okG_b, asG_f, true_and, x_nil, x_g, x_mv, x_pick, x_bin, kx, rvP_ok, okv_some, ev_t, ev_c, getV_some, putD_some, bin_eql, bin_lss, bin_geq, bin_rem, pick_b, of0, of1, of2, getK_set, Nat.reduceEqDiff, ↓reduceIte, Bool.false_eq_true, Bool.not_false, g0, g5, d1, d2, d3, d4, d5, s1, s2, s3, t1, t2, t3]
    simp (disch := omega) only [f45_r7, f45_r8, w_reg, seqK_n, atK_n, loopK_n, true_and, x_nil, x_mv, x_as, x_bin, kx, kg, xg_nil, xg_mv, xg_bin, xd_cons, fresh_nil, stK_n, stK_s, stay_nil, rvP_ok, okv_some, ev_t, ev_c, getV_some, putD_some, bin_add, of1, getK_set, Nat.reduceEqDiff, ↓reduceIte, g5, g6, s4, t4, q1, q2, fw64]
    refine ⟨i + 1, by omega, by omega, rfl, ?_, ?_, _, by rw [htk]; exact hm3, by simp (disch := omega) only [getK_set, Nat.reduceEqDiff, ↓reduceIte, g0, g1, and_self, Int.natCast_add, Int.natCast_one]⟩
    · rw [htk]
      intro z hz
      rcases List.mem_append.1 hz with hz | hz
      · exact hin z hz
      · rcases List.mem_cons.1 hz with rfl | hz
        · omega
        · rw [List.mem_singleton.1 hz]; omega
    · rw [htk, List.nodup_append]
      refine ⟨hnd, by simpa using h5, fun p hp r hr er => ?_⟩
      rcases List.mem_cons.1 hr with rfl | hr
      · exact h6 (er ▸ hp)
      · rw [List.mem_singleton.1 hr] at er; exact h7 (er ▸ hp)
  · have d0 : decide ((i : Int) < (l.length : Int)) = false := by simpa using hlt
    have ei : i = l.length := by omega
    rw [ei, List.take_length] at hin hnd
    have hq2 : binV .quo (.i .i64 (n : Int)) (.i .i64 2) = some (.i .i64 ((n / 2 : Nat) : Int)) := bin_quo2 (by omega)
    have hyes : decide ((l.length : Int) = ((n / 2 : Nat) : Int)) = rndB n l := by
      unfold rndB aaB
      rw [decide_eq_true hin, decide_eq_true hnd, Bool.and_true, Bool.and_true, plL_len, Bool.eq_iff_iff]
      simp only [Bool.and_eq_true, decide_eq_true_iff]
      omega
    simp (disch := omega) only [f45_r3, f45_r9, f45_rs, w_reg, w_seq, w_cond, w_exit, w_ret, seqK_n, seqK_e, atK_e, loopK_e, ckB_b, cbB_b, retK_r, x_nil, x_mv, x_as, x_bin, x_len, kx, rvP_ok, okv_some, ev_t, ev_c, getV_some, putD_some, bin_eql, bin_lss, oGet_s, readRs_nil, readRs_t, retV_1, of2, Option.some.injEq, exists_eq_left', getK_set, Nat.reduceEqDiff, ↓reduceIte, Bool.false_eq_true, g0, g1, g6, hlen, d0, hq2, hyes, and_self]
/-- Which pairs have met. -/
structure MetB (T : List Bool) (P : List (Int × Int)) : Prop where
  len : T.length = 100
  at' : ∀ x y : Nat, x < y → y < 10 → T.getD (x * 10 + y) false = decide (((x : Int), (y : Int)) ∈ P ∨ ((y : Int), (x : Int)) ∈ P)
theorem MetB.nil : MetB (List.replicate 100 false) [] := ⟨by simp, fun x y _ hy => by
  rw [List.getD_eq_getElem?_getD, List.getElem?_replicate]
  split <;> simp⟩
theorem MetB.add {T : List Bool} {P : List (Int × Int)} {a b : Nat} (m : MetB T P) (ha : a < b) (hb : b < 10) {e : Int × Int} (he : e = ((a : Int), (b : Int)) ∨ e = ((b : Int), (a : Int))) : MetB (T.set (a * 10 + b) true) (P ++ [e]) := by
  refine ⟨by rw [List.length_set]; exact m.len, fun x y hxy hy => ?_⟩
  rw [List.getD_eq_getElem?_getD, List.getElem?_set]
  by_cases h : a * 10 + b = x * 10 + y
  · have h1 : a = x := by omega
    have h2 : b = y := by omega
    subst h1; subst h2
    rw [if_pos rfl, if_pos (by rw [m.len]; omega)]
    refine (decide_eq_true ?_).symm
    rcases he with rfl | rfl <;> simp
  · rw [if_neg h, ← List.getD_eq_getElem?_getD, m.at' x y hxy hy]
    congr 1
    refine propext ⟨fun h => ?_, fun h => ?_⟩
    · rcases h with h | h
      · exact .inl (List.mem_append_left _ h)
      · exact .inr (List.mem_append_left _ h)
    · have key : ∀ z : Int × Int, (z = ((x : Int), (y : Int)) ∨ z = ((y : Int), (x : Int))) → z ≠ e := by
        intro z hz q
        rw [q] at hz
        rcases he with rfl | rfl <;> rcases hz with hz | hz <;> simp only [Prod.mk.injEq] at hz <;> omega
      rcases h with h | h
      · rcases List.mem_append.1 h with h | h
        · exact .inl h
        · exact absurd (List.mem_singleton.1 h) (key _ (.inl rfl))
      · rcases List.mem_append.1 h with h | h
        · exact .inr h
        · exact absurd (List.mem_singleton.1 h) (key _ (.inr rfl))
theorem rep_b100 : List.replicate 100 (V.b false) = (List.replicate 100 false).map (fun b => V.b b) := by rw [List.map_replicate]
theorem bg_no {n : Nat} {Ls : List (List (Int × Int))} (h : ¬ ((∀ l ∈ Ls, rndB n l = true) ∧ Ls.flatten.Pairwise dsR)) : bgB n Ls = false := by
  rw [Bool.eq_false_iff]
  intro hh
  unfold bgB at hh
  simp only [Bool.and_eq_true, decide_eq_true_iff, List.all_eq_true] at hh
  exact h hh.2
def f48_I (h : H) (n : Nat) (v : V) (Ls : List (List (Int × Int))) (i : Nat) (fr : Fr) (h1 : H) : Prop := i ≤ Ls.length ∧ Grow h.nx.nat h h1 ∧ (∀ l ∈ Ls.take i, rndB n l = true) ∧ (Ls.take i).flatten.Pairwise dsR ∧ ∃ T, Ar (fun b => V.b b) h1 h.nx T ∧ MetB T (Ls.take i).flatten ∧ h.nx.nat < h1.nx.nat ∧ fr.get (K.ofNat 0) = some (.i .i64 (n : Int)) ∧ fr.get (K.ofNat 1) = some (v) ∧ fr.get (K.ofNat 5) = some (.p h.nx 0) ∧ fr.get (K.ofNat 6) = some (.i .i64 (i : Int))
def f48_J (h : H) (n : Nat) (v : V) (P l : List (Int × Int)) (i j : Nat) (fr : Fr) (h1 : H) : Prop := j ≤ l.length ∧ Grow h.nx.nat h h1 ∧ (P ++ l.take j).Pairwise dsR ∧ ∃ T, Ar (fun b => V.b b) h1 h.nx T ∧ MetB T (P ++ l.take j) ∧ h.nx.nat < h1.nx.nat ∧ fr.get (K.ofNat 0) = some (.i .i64 (n : Int)) ∧ fr.get (K.ofNat 1) = some (v) ∧ fr.get (K.ofNat 5) = some (.p h.nx 0) ∧ fr.get (K.ofNat 6) = some (.i .i64 (i : Int)) ∧ fr.get (K.ofNat 7) = some (.i .i64 (j : Int))
theorem f48_ret (h45 : fs.get (K.ofNat 45) = some f45) (hn : n ≤ 10) (hn1 : 1 ≤ n) (he : n % 2 = 0) (hv : Nrp h v us Ls) (hL : Ls.length ≤ 1000000) (hL2 : ∀ l ∈ Ls, l.length ≤ 9223372036854775807) (hc : HC h) : Ret fs f48 [.i .i64 (n : Int), v] h fun r h' => r = .b (bgB n Ls) ∧ Grow h.nx.nat h h' := by
  have hlen : ∀ h1, lenV v h1 = .ok (.i .i64 (Ls.length : Int)) h1 := fun h1 => by rw [hv.out.len, hv.len]
  have hvb := hv.out.beq
  apply ret_of rfl
  show W fs none f48_c _ _ _
  unfold f48_c
  have n1 := nx_new h (.cells 100 (List.replicate 100 (.b false)))
  have e1 : Ar (fun b => V.b b) (h.new (.cells 100 (List.replicate 100 (.b false)))) h.nx (List.replicate 100 false) := by
    unfold Ar
    rw [get_new_same, rep_b100]
    rfl
  have gA := Grow.new (Nat.le_refl h.nx.nat) (.cells 100 (List.replicate 100 (.b false)))
  simp (disch := omega) only [f48_r0, f48_r1, f48_r2, w_reg, w_seq, w_block, seqK_n, x_nil, x_as, x_alloc, ev_c, putD_some, frame_2, of0]
  refine W_loop (f48_I h n v Ls) (fun i => Ls.length - i) ?_ 0 ⟨by omega, gA, by simp, by simp, _, e1, MetB.nil, by omega, by simp (disch := omega) only [getK_set, Nat.reduceEqDiff, ↓reduceIte, and_self, Int.natCast_zero]⟩
  clear n1 e1 gA
  rintro i fr h1 ⟨hi, hG, hall, hpw, T, hT, hM, hnx, g0, g1, g5, g6⟩
  have hv1 := hv.grow hc hG
  unfold f48_l1
  by_cases hlt : i < Ls.length
  · have d0 : decide ((i : Int) < (Ls.length : Int)) = true := by simpa using hlt
    have hiu : i < us.length := by rw [hv.len]; exact hlt
    obtain ⟨p, hp1, hp2'⟩ := hv1.out.at i hiu
    have hp2 : loadV h1 p one? = .ok us[i] h1 := hp2'
    clear hp2'
    have hui := hv.inn i hiu hlt
    have hl2 := hL2 Ls[i] (List.getElem_mem hlt)
    have hsn : Ls.take (i + 1) = Ls.take i ++ [Ls[i]] := List.take_succ_eq_append_getElem hlt
    have hbad : rndB n Ls[i] = false → bgB n Ls = false := fun hr => bg_no fun hh => by
      have := hh.1 _ (List.getElem_mem hlt)
      rw [hr] at this; cases this
    have hfl : Ls.flatten = ((Ls.take i).flatten ++ Ls[i]) ++ (Ls.drop (i + 1)).flatten := by
      conv => lhs; rw [← List.take_append_drop (i + 1) Ls, hsn]
      rw [List.flatten_append, List.flatten_append]; simp
    simp (disch := omega) only [f48_r3, f48_r4, w_skip, w_reg, w_seq, w_cond, w_block, seqK_n, ckB_b, cbB_b, true_and, x_nil, x_mv, x_ld, x_bin, x_iads, x_call, x_len, kx, rvP_ok, okv_some, ev_t, ev_c, evs_nil, evs_cons, getV_some, putD_some, bin_lss, getK_set, Nat.reduceEqDiff, ↓reduceIte, g0, g1, g6, hlen, d0, hp1, hp2]
    refine (callP_0 (ef := f45) h45 rfl (f45_ret hn he (hui.grow hc hG) hl2)).mono ?_
    rintro r h2 ⟨rfl, rfl⟩
    cases hr : rndB n Ls[i] with
    | false =>
      have hno := hbad hr
      simp (disch := omega) only [f48_r5, f48_rs, w_reg, w_seq, w_cond, w_ret, seqK_n, seqK_r, atK_r, loopK_r, ckB_b, cbB_b, true_and, retK_r, x_nil, x_as, x_not, kx, rvP_ok, ev_t, ev_c, getV_some, putD_some, onB_b, oGet_s, readRs_nil, readRs_t, retV_1, Option.some.injEq, exists_eq_left', getK_set, ↓reduceIte, Bool.not_false, Bool.not_false, hno, true_and]
      exact hG
    | true =>
      have hre := rnd_e hr
      have hll : Ls[i].length = n / 2 := by
        unfold rndB at hr
        simp only [Bool.and_eq_true, decide_eq_true_iff] at hr
        exact hr.1
      have hfin : ∀ h3, Grow h.nx.nat h h3 → loadV h3 p one? = .ok us[i] h3 := fun h3 hG3 => by
        obtain ⟨p', a1, a2⟩ := (hv.grow hc hG3).out.at i hiu
        obtain rfl : p = p' := by have := (hp1 .i64 h3).symm.trans (a1 .i64 h3); injection this
        exact a2
      generalize us[i] = u at *
      generalize Ls[i] = l at *
      have hlu := hui.len
      have hub := hui.beq
      simp (disch := omega) only [f48_r6, w_skip, w_reg, w_seq, w_cond, w_block, seqK_n, ckB_b, cbB_b, true_and, x_nil, x_as, x_not, kx, rvP_ok, ev_t, ev_c, getV_some, putD_some, onB_b, of0, getK_set, ↓reduceIte, Bool.false_eq_true, Bool.not_true, Bool.not_true]
      refine W_loop (f48_J h n v (Ls.take i).flatten l i) (fun j => l.length - j) ?_ 0 ⟨by omega, hG, by simpa using hpw, T, hT, by simpa using hM, hnx, by simp (disch := omega) only [getK_set, Nat.reduceEqDiff, ↓reduceIte, g0, g1, g5, g6, and_self, Int.natCast_zero]⟩
      clear g0 g1 g5 g6 fr hG hT hM hnx hp2 hv1 hpw
      clear T
      rintro j fr h3 ⟨hj, hG, hpw, T, hT, hM, hnx, g0, g1, g5, g6, g7⟩
      have hp2 := hfin h3 hG
      unfold f48_l0
      by_cases hlt2 : j < l.length
      · have d1 : decide ((j : Int) < (l.length : Int)) = true := by simpa using hlt2
        obtain ⟨ida, q, hq1, _, hq3, hq4⟩ := (hui.grow hc hG).at2 hlt2
        obtain ⟨r1, r2, r3⟩ := hre l[j] (List.getElem_mem hlt2)
        have htk : (Ls.take i).flatten ++ l.take (j + 1) = ((Ls.take i).flatten ++ l.take j) ++ [l[j]] := by rw [List.take_succ_eq_append_getElem hlt2, List.append_assoc]
        have hds := ds_snoc (e := l[j]) hpw
        rw [← htk] at hds
        have hbad2 : (l[j] ∈ (Ls.take i).flatten ++ l.take j ∨ (l[j].2, l[j].1) ∈ (Ls.take i).flatten ++ l.take j) → bgB n Ls = false := fun hb => bg_no fun hh => by
          have h1 := hh.2
          rw [hfl, ← List.take_append_drop (j + 1) l, ← List.append_assoc, List.append_assoc] at h1
          exact absurd hb (hds.1 (List.pairwise_append.1 h1).1)
        obtain ⟨x, hx⟩ : ∃ x : Nat, l[j].1 = (x : Int) := ⟨l[j].1.toNat, by omega⟩
        obtain ⟨y, hy⟩ : ∃ y : Nat, l[j].2 = (y : Int) := ⟨l[j].2.toNat, by omega⟩
        have hee : l[j] = ((x : Int), (y : Int)) := Prod.ext hx hy
        rw [hee] at htk hds hbad2 hq3 hq4 r1 r2 r3
        simp only at r1 r2 r3 hbad2 hds
        obtain ⟨a, b, hab, hb10, hmin, hmax, hor⟩ : ∃ a b : Nat, a < b ∧ b < 10 ∧ min (x : Int) (y : Int) = (a : Int) ∧ max (x : Int) (y : Int) = (b : Int) ∧ ((((x : Int), (y : Int)) : Int × Int) = ((a : Int), (b : Int)) ∨ (((x : Int), (y : Int)) : Int × Int) = ((b : Int), (a : Int))) := by
          rcases Nat.lt_or_ge x y with h | h
          · exact ⟨x, y, h, by omega, by omega, by omega, .inl rfl⟩
          · exact ⟨y, x, by omega, by omega, by omega, by omega, .inr rfl⟩
        have hid : (a : Int) * 10 + (b : Int) = ((a * 10 + b : Nat) : Int) := by omega
        have hil : a * 10 + b < T.length := by rw [hM.len]; omega
        have hil2 : a * 10 + b < 100 := by omega
        have hl0 := hT.ld hil
        have hat := hM.at' a b hab hb10
        rw [getD_at hil] at hat
        have heq : decide (((a : Int), (b : Int)) ∈ (Ls.take i).flatten ++ l.take j ∨ ((b : Int), (a : Int)) ∈ (Ls.take i).flatten ++ l.take j) = decide (((x : Int), (y : Int)) ∈ (Ls.take i).flatten ++ l.take j ∨ ((y : Int), (x : Int)) ∈ (Ls.take i).flatten ++ l.take j) := by
          congr 1
          rcases hor with h | h
          · injection h with h1 h2; rw [h1, h2]
          · injection h with h1 h2; rw [h1, h2]; exact propext Or.comm
        rw [heq] at hat
        rw [hat] at hl0
        obtain ⟨hst, hT2⟩ := hT.st hil (x := true) (c := .b true) rfl rfl
        have hM2 := hM.add hab hb10 hor
        rw [← htk] at hM2
        have e10 : (a : Int) * 10 = ((a * 10 : Nat) : Int) := by omega
        have e11 : ((a * 10 : Nat) : Int) + (b : Int) = ((a * 10 + b : Nat) : Int) := by omega
        have hpb : beqV p p = true := by
          obtain ⟨p2, z1, _, z3⟩ := (hv.grow hc hG).out.atb i hiu
          obtain rfl : p = p2 := by have := (hp1 .i64 h3).symm.trans (z1 .i64 h3); injection this
          exact z3
        cases hd : decide (((x : Int), (y : Int)) ∈ (Ls.take i).flatten ++ l.take j ∨ ((y : Int), (x : Int)) ∈ (Ls.take i).flatten ++ l.take j) with
        | true =>
          rw [hd] at hl0
          have hno := hbad2 (of_decide_eq_true hd)
          simp (disch := omega) only [f48_r7, f48_r8, f48_r9, f48_r10, f48_r11, f48_rs, w_skip, w_reg, w_draw, w_seq, w_cond, w_block, w_ret, seqK_n, seqK_r, atK_r, loopK_r, ckB_b, cbB_b, true_and, retK_r, x_nil, x_mv, x_as, x_ld, x_bin, x_iadr, x_iads, x_len, x_min, x_max, kx, kg, xg_nil, xg_mv, xg_ld, xg_iadr, xg_iads, xd_cons, fresh_nil, stK_n, stK_s, stay_nil, stay_cons, again_ok, stay_mv, beq_i, stay_iads, stay_ld, beq_p, rvP_ok, okv_some, ev_t, ev_c, getV_some, putD_some, bin_add, bin_mul, bin_lss, onP_p, oGet_s, idx_n, min_ii, max_ii, readRs_nil, readRs_t, retV_1, of0, of1, of10, Option.some.injEq, exists_eq_left', getK_set, Nat.reduceEqDiff, ↓reduceIte, stay_iadr, ix2_0, ix2_1, g1, g5, g6, g7, hp1, hp2, hlu, d1, hq1, hq3, hq4, hvb, hub, hpb, hmin, hmax, e10, e11, hl0, hno, true_and, fw64]
          exact hG
        | false =>
          rw [hd] at hl0
          simp (disch := omega) only [f48_r7, f48_r8, f48_r9, f48_r10, w_skip, w_reg, w_draw, w_seq, w_cond, w_block, seqK_n, ckB_b, cbB_b, true_and, x_nil, x_mv, x_as, x_ld, x_bin, x_iadr, x_iads, x_len, x_min, x_max, kx, kg, xg_nil, xg_mv, xg_ld, xg_iadr, xg_iads, xd_cons, fresh_nil, stK_n, stK_s, stay_nil, stay_cons, again_ok, stay_mv, beq_i, stay_iads, stay_ld, beq_p, rvP_ok, okv_some, ev_t, ev_c, getV_some, putD_some, bin_add, bin_mul, bin_lss, onP_p, idx_n, min_ii, max_ii, of0, of1, of10, getK_set, Nat.reduceEqDiff, ↓reduceIte, Bool.false_eq_true, stay_iadr, ix2_0, ix2_1, g1, g5, g6, g7, hp1, hp2, hlu, d1, hq1, hq3, hq4, hvb, hub, hpb, hmin, hmax, e10, e11, hl0, fw64]
          simp (disch := omega) only [f48_r12, f48_r13, w_reg, seqK_n, atK_n, loopK_n, x_nil, x_mv, x_as, x_st, x_bin, x_iadr, kx, rvP_ok, okv_some, ev_t, ev_c, getV_some, putD_some, putD_none, bin_add, onP_p, idx_n, of1, getK_set, Nat.reduceEqDiff, ↓reduceIte, g5, g7, hst, fw64]
          exact ⟨j + 1, by omega, by omega, hG.trans (Grow.put (Nat.le_refl _) hnx _), hds.2 (of_decide_eq_false hd), _, hT2, hM2, hnx, by simp (disch := omega) only [getK_set, Nat.reduceEqDiff, ↓reduceIte, g0, g1, g5, g6, and_self, Int.natCast_add, Int.natCast_one]⟩
      · have d1 : decide ((j : Int) < (l.length : Int)) = false := by simpa using hlt2
        have ej : j = l.length := by omega
        have hfl2 : (Ls.take (i + 1)).flatten = (Ls.take i).flatten ++ l := by rw [hsn, List.flatten_append]; simp
        rw [ej, List.take_length, ← hfl2] at hM hpw
        simp (disch := omega) only [f48_r7, f48_r14, w_reg, w_seq, w_cond, w_exit, seqK_n, seqK_e, atK_n, atK_e, loopK_n, loopK_e, ckB_b, cbB_b, true_and, x_nil, x_mv, x_as, x_ld, x_bin, x_iads, x_len, kx, rvP_ok, okv_some, ev_t, ev_c, getV_some, putD_some, bin_add, bin_lss, of1, getK_set, Nat.reduceEqDiff, ↓reduceIte, Bool.false_eq_true, g1, g6, g7, hp1, hp2, hlu, d1, fw64]
        exact ⟨i + 1, by omega, by omega, hG, fun l' hl' => by
          rw [hsn] at hl'
          rcases List.mem_append.1 hl' with hl' | hl'
          · exact hall _ hl'
          · rw [List.mem_singleton.1 hl']; exact hr, hpw, T, hT, hM, hnx, by simp (disch := omega) only [getK_set, Nat.reduceEqDiff, ↓reduceIte, g0, g1, g5, and_self, Int.natCast_add, Int.natCast_one]⟩
  · have d0 : decide ((i : Int) < (Ls.length : Int)) = false := by simpa using hlt
    have ei : i = Ls.length := by omega
    rw [ei, List.take_length] at hall hpw
    have hyes : decide ((Ls.length : Int) < (n : Int)) = bgB n Ls := by
      unfold bgB
      rw [List.all_eq_true.2 hall, decide_eq_true hpw, Bool.and_true, Bool.and_true, Bool.eq_iff_iff]
      simp only [decide_eq_true_iff]
      omega
    simp (disch := omega) only [f48_r3, f48_r15, f48_rs, w_reg, w_seq, w_cond, w_exit, w_ret, seqK_n, seqK_e, atK_e, loopK_e, ckB_b, cbB_b, true_and, retK_r, x_nil, x_mv, x_as, x_bin, x_len, kx, rvP_ok, okv_some, ev_t, getV_some, putD_some, bin_lss, oGet_s, readRs_nil, readRs_t, retV_1, Option.some.injEq, exists_eq_left', getK_set, Nat.reduceEqDiff, ↓reduceIte, Bool.false_eq_true, g0, g1, g6, hlen, d0, hyes, true_and]
    exact hG
end
end Go.Ev
namespace Go.Ev
open Go Go.RowKit
section
variable {fs : T EF} {h : H} {v : V} {us : List V} {Ls : List (List (Int × Int))} {n : Nat}
theorem f37_ok {n : Int} (hn : ok5 n) : Ret fs f37 [.i .i64 n] h fun r h' => r = .b true ∧ h' = h := by
  unfold ok5 at hn
  have d1 : decide (n ≥ 2) = true := decide_eq_true (by omega)
  have d2 : decide (n ≤ 10) = true := decide_eq_true (by omega)
  have d3 : decide (n.tmod 2 = 0) = true := by rcases hn with rfl | rfl | rfl | rfl | rfl <;> rfl
  apply ret_of rfl
  show W fs none f37_c _ _ _
  unfold f37_c
  simp (disch := omega) only [f37_r0, f37_r1, f37_rs, w_reg, w_seq, w_ret, seqK_n, okG_b, asG_t, retK_r, x_nil, x_g, x_mv, x_as, x_pick, x_bin, kx, rvP_ok, okv_some, ev_t, ev_c, getV_some, putD_some, bin_eql, bin_leq, bin_geq, bin_rem, pick_b, oGet_s, readRs_nil, readRs_t, retV_1, frame_1, of0, of2, of10, Option.some.injEq, exists_eq_left', getK_set, Nat.reduceEqDiff, ↓reduceIte, d1, d2, d3, and_self]
/-- What Check says. -/
def ckI (n : Nat) (Ls : List (List (Int × Int))) : Int := if shB n Ls = true then 0 else 40
structure CallsRc (fs : T EF) : Prop where
  c14 : fs.get (K.ofNat 14) = some f14
  c37 : fs.get (K.ofNat 37) = some f37
  c45 : fs.get (K.ofNat 45) = some f45
  c48 : fs.get (K.ofNat 48) = some f48
theorem f14_ret (k : CallsRc fs) (hn : ok5 (n : Int)) (hv : Nrp h v us Ls) (hL : Ls.length ≤ 1000000) (hL2 : ∀ l ∈ Ls, l.length ≤ 9223372036854775807) (hc : HC h) : Ret fs f14 [.i .i64 (n : Int), v] h fun r h' => r = .i .i64 (ckI n Ls) ∧ Grow h.nx.nat h h' := by
  have hlen : ∀ h1, lenV v h1 = .ok (.i .i64 (Ls.length : Int)) h1 := fun h1 => by rw [hv.out.len, hv.len]
  have hn' := hn
  unfold ok5 at hn'
  apply ret_of rfl
  show W fs none f14_c _ _ _
  unfold f14_c
  simp (disch := omega) only [f14_r0, f14_r1, w_reg, w_seq, w_block, seqK_n, x_nil, x_mv, x_as, x_call, ev_t, ev_c, evs_nil, evs_cons, getV_some, putD_some, frame_2, of0, getK_set, Nat.reduceEqDiff, ↓reduceIte]
  refine (callP_0 (ef := f37) k.c37 rfl (f37_ok hn)).mono ?_
  rintro r h1 ⟨rfl, e1⟩
  rw [e1]
  clear e1 h1
  have en1 : (n : Int) - 1 = ((n - 1 : Nat) : Int) := by omega
  unfold ckI shB
  by_cases hl : Ls.length = n - 1
  · have d1 : decide ((Ls.length : Int) ≠ ((n - 1 : Nat) : Int)) = false := decide_eq_false (by omega)
    simp (disch := omega) only [f14_r3, w_reg, w_seq, w_cond, seqK_n, ckB_b, cbB_b, okG_b, asG_f, true_and, x_nil, x_g, x_mv, x_as, x_bin, x_not, x_call, x_len, kx, rvP_ok, okv_some, ev_t, ev_c, evs_nil, evs_cons, getV_some, putD_some, bin_sub, bin_neq, onB_b, of1, getK_set, Nat.reduceEqDiff, ↓reduceIte, Bool.false_eq_true, Bool.not_true, Bool.not_false, hlen, en1, d1, Bool.not_true, fw64]
    refine (callP_0 (ef := f48) k.c48 rfl (f48_ret k.c45 (by omega) (by omega) (by omega) hv hL hL2 hc)).mono ?_
    rintro r h2 ⟨rfl, hG⟩
    cases hb : bgB n Ls with
    | true =>
      have e0 : (if (true && decide (Ls.length = n - 1)) = true then (0 : Int) else 40) = 0 := by simp [hl]
      simp (disch := omega) only [f14_r5, f14_rs, w_skip, w_reg, w_seq, w_cond, w_ret, seqK_n, atK_n, ckB_b, cbB_b, okG_b, asG_f, true_and, retK_r, x_nil, x_g, x_as, x_pick, x_not, kx, rvP_ok, ev_t, ev_c, getV_some, putD_some, pick_b, onB_b, oGet_s, readRs_nil, readRs_t, retV_1, of0, Option.some.injEq, exists_eq_left', getK_set, Nat.reduceEqDiff, ↓reduceIte, Bool.false_eq_true, Bool.not_true, Bool.not_false, Bool.not_true, e0, true_and]
      exact hG
    | false =>
      have e0 : (if (false && decide (Ls.length = n - 1)) = true then (0 : Int) else 40) = 40 := by simp
      simp (disch := omega) only [f14_r4, f14_rs, w_reg, w_seq, w_cond, w_ret, seqK_n, seqK_r, atK_r, ckB_b, cbB_b, okG_b, asG_f, true_and, retK_r, x_nil, x_g, x_as, x_pick, x_not, kx, rvP_ok, ev_t, ev_c, getV_some, putD_some, pick_b, onB_b, oGet_s, readRs_nil, readRs_t, retV_1, Option.some.injEq, exists_eq_left', getK_set, Nat.reduceEqDiff, ↓reduceIte, Bool.false_eq_true, Bool.not_false, of40, Bool.not_false, of40, e0, true_and]
      exact hG
  · have d1 : decide ((Ls.length : Int) ≠ ((n - 1 : Nat) : Int)) = true := decide_eq_true (by omega)
    have e0 : (if (bgB n Ls && decide (Ls.length = n - 1)) = true then (0 : Int) else 40) = 40 := by simp [hl]
    simp (disch := omega) only [f14_r3, f14_r4, f14_rs, w_reg, w_seq, w_cond, w_ret, seqK_n, seqK_r, atK_r, ckB_b, cbB_b, okG_b, asG_f, true_and, retK_r, x_nil, x_g, x_mv, x_as, x_pick, x_bin, x_not, x_len, kx, rvP_ok, okv_some, ev_t, ev_c, getV_some, putD_some, bin_sub, bin_neq, pick_b, onB_b, oGet_s, readRs_nil, readRs_t, retV_1, of1, Option.some.injEq, exists_eq_left', getK_set, Nat.reduceEqDiff, ↓reduceIte, Bool.false_eq_true, Bool.not_true, of40, hlen, en1, d1, Bool.not_true, of40, e0, true_and, fw64]
    exact Grow.refl _ _
theorem f14_no {n : Int} (k : CallsRc fs) (hn : ¬ ok5 n) : Ret fs f14 [.i .i64 n, v] h fun r h' => r = .i .i64 1 ∧ h' = h := by
  apply ret_of rfl
  show W fs none f14_c _ _ _
  unfold f14_c
  simp (disch := omega) only [f14_r0, f14_r1, w_reg, w_seq, w_block, seqK_n, x_nil, x_mv, x_as, x_call, ev_t, ev_c, evs_nil, evs_cons, getV_some, putD_some, frame_2, of0, getK_set, Nat.reduceEqDiff, ↓reduceIte]
  refine (callP_0 (ef := f37) k.c37 rfl (f37_no hn)).mono ?_
  rintro r h1 ⟨rfl, e1⟩
  rw [e1]
  clear e1 h1
  simp (disch := omega) only [f14_r2, f14_rs, w_reg, w_seq, w_cond, w_ret, seqK_n, seqK_r, atK_r, ckB_b, cbB_b, retK_r, x_nil, x_as, x_not, kx, rvP_ok, ev_t, ev_c, getV_some, putD_some, onB_b, oGet_s, readRs_nil, readRs_t, retV_1, of1, Option.some.injEq, exists_eq_left', getK_set, ↓reduceIte, Bool.not_false, Bool.not_false, and_self]
end
end Go.Ev
namespace Go.Ev
open Go Go.RowKit
section
variable {fs : T EF} {n : Nat} {Q : List (List (Int × Int))}
structure Sched (n : Nat) (Q : List (List (Int × Int))) : Prop where
  ok : ok5 (n : Int)
  sh : shB n Q = true
  vd : Vld n Q
  len : Q.length = n - 1
  row : ∀ l ∈ Q, l.length ≤ 100
  big : ∀ l ∈ Q, l.length ≤ 9223372036854775807
  bd : n ≤ 10 ∧ 2 ≤ n
theorem Sched.inn (s : Sched n Q) {M : List Int} (hM : M.length = n) : InN M.length Q := fun l hl e he => by
  have := rnd_e (s.vd.rnd l hl) e he
  omega
/-- The next schedule. -/
def nx4 (k : Nat) : Nat := 4 + 4 * (k % 2)
end
end Go.Ev
namespace Go.Ev
open Go Go.RowKit
section
variable {n : Nat} {Q : List (List (Int × Int))}
end
end Go.Ev
namespace Go.Ev
open Go Go.RowKit
section
variable {fs : T EF} {h : H} {va vb : V} {a b : List (Int × Int)} {n : Nat}
end
section
variable {fs : T EF}
end
end Go.Ev
namespace Go.Ev
open Go Go.RowKit
noncomputable def f13_r0 : List EOper := [⟨(some (K.ofNat 6)), none, .as (.c .sn)⟩]
noncomputable def f13_r1 : List EOper := [⟨(some (K.ofNat 7)), none, .as (.c .sn)⟩]
noncomputable def f13_r2 : List EOper := [⟨(some (K.ofNat 8)), none, .as (.c (.i .i64 (.ofNat 0)))⟩]
noncomputable def f13_r3 : List EOper := [⟨(some (K.ofNat 10)), none, .mv (.t (K.ofNat 8))⟩, ⟨(some (K.ofNat 11)), none, .mv (.t (K.ofNat 0))⟩, ⟨(some (K.ofNat 12)), none, .len (.t (K.ofNat 11))⟩, ⟨(some (K.ofNat 13)), none, .bin .lss (.t (K.ofNat 10)) (.t (K.ofNat 12))⟩, ⟨(some (K.ofNat 14)), none, .mv (.t (K.ofNat 13))⟩, ⟨(some (K.ofNat 15)), (some ((K.ofNat 14), true)), .mv (.t (K.ofNat 8))⟩, ⟨(some (K.ofNat 16)), (some ((K.ofNat 14), true)), .mv (.t (K.ofNat 1))⟩, ⟨(some (K.ofNat 17)), (some ((K.ofNat 14), true)), .bin .lss (.t (K.ofNat 15)) (.t (K.ofNat 16))⟩, ⟨(some (K.ofNat 18)), none, .pick (.t (K.ofNat 14)) (.t (K.ofNat 17)) (.c (.b false))⟩]
noncomputable def f13_r4 : List EOper := [⟨(some (K.ofNat 9)), none, .as (.c .sn)⟩]
noncomputable def f13_r5 : List Stage := [⟨[⟨(some (K.ofNat 21)), none, .mv (.t (K.ofNat 7))⟩, ⟨(some (K.ofNat 22)), none, .mv (.t (K.ofNat 9))⟩, ⟨(some (K.ofNat 23)), none, .mv (.t (K.ofNat 0))⟩, ⟨(some (K.ofNat 24)), none, .mv (.t (K.ofNat 8))⟩, ⟨(some (K.ofNat 25)), none, .iads 1 (.t (K.ofNat 23)) (.t (K.ofNat 24))⟩, ⟨(some (K.ofNat 26)), none, .ld (.t (K.ofNat 25))⟩, ⟨(some (K.ofNat 27)), none, .mv (.t (K.ofNat 0))⟩, ⟨(some (K.ofNat 28)), none, .mv (.t (K.ofNat 8))⟩, ⟨(some (K.ofNat 29)), none, .iads 1 (.t (K.ofNat 27)) (.t (K.ofNat 28))⟩, ⟨(some (K.ofNat 30)), none, .ld (.t (K.ofNat 29))⟩, ⟨(some (K.ofNat 31)), none, .len (.t (K.ofNat 30))⟩, ⟨(some (K.ofNat 32)), none, .mv (.t (K.ofNat 2))⟩, ⟨(some (K.ofNat 33)), none, .min (.t (K.ofNat 31)) (.t (K.ofNat 32))⟩, ⟨(some (K.ofNat 34)), none, .slice 2 (.t (K.ofNat 26)) none (some (.t (K.ofNat 33))) none⟩], [], (some ⟨(some (K.ofNat 35)), none, .app 2 (.t (K.ofNat 22)) (.t (K.ofNat 34))⟩), []⟩, ⟨[⟨(some (K.ofNat 36)), none, .bslice 1 1 [.sn] [(0, 1, (.t (K.ofNat 35)))]⟩], [⟨(some (K.ofNat 21)), none, .mv (.t (K.ofNat 7))⟩], (some ⟨(some (K.ofNat 37)), none, .app 1 (.t (K.ofNat 21)) (.t (K.ofNat 36))⟩), [(K.ofNat 36)]⟩, ⟨[], [], (some ⟨(some (K.ofNat 7)), none, .as (.t (K.ofNat 37))⟩), []⟩, ⟨[], [], none, []⟩]
noncomputable def f13_r6 : List EOper := [⟨(some (K.ofNat 19)), none, .mv (.t (K.ofNat 8))⟩, ⟨(some (K.ofNat 20)), none, .bin .add (.t (K.ofNat 19)) (.c (.i .i64 (.ofNat 1)))⟩, ⟨(some (K.ofNat 8)), none, .as (.t (K.ofNat 20))⟩]
noncomputable def f13_l0 : EC := (.seq (.seq (.reg f13_r3) (.cond (.t (K.ofNat 18)) .skip (.exit 0))) (.seq (.block 1 (.seq (.reg f13_r4) (.draw f13_r5))) (.reg f13_r6)))
noncomputable def f13_r7 : List EOper := [⟨(some (K.ofNat 38)), none, .mv (.t (K.ofNat 7))⟩, ⟨(some (K.ofNat 6)), none, .as (.t (K.ofNat 38))⟩]
noncomputable def f13_c : EC := (.seq (.reg f13_r0) (.seq (.reg f13_r1) (.seq (.seq (.reg f13_r2) (.block 0 (.loop f13_l0))) (.seq (.reg f13_r7) .ret))))
noncomputable def f13 : EF := ⟨39, [.tmp (K.ofNat 6)], f13_c, none⟩
theorem f13_rs : f13.rs = [.tmp (K.ofNat 6)] := of_eq_true (eq_self _)
noncomputable def f15_r0 : List EOper := [⟨(some (K.ofNat 4)), none, .as (.c (.i .i64 (.ofNat 0)))⟩]
noncomputable def f15_r1 : List EOper := [⟨(some (K.ofNat 8)), none, .mv (.t (K.ofNat 0))⟩, ⟨(some (K.ofNat 9)), none, .mv (.t (K.ofNat 1))⟩, ⟨(some (K.ofNat 10)), none, .call (.c (.fn (K.ofNat 51) [])) [(.t (K.ofNat 8)), (.t (K.ofNat 9))]⟩, ⟨(some (K.ofNat 7)), none, .mv (.t (K.ofNat 10))⟩, ⟨(some (K.ofNat 11)), none, .ext (.t (K.ofNat 7)) 0⟩, ⟨(some (K.ofNat 12)), none, .ext (.t (K.ofNat 7)) 1⟩, ⟨(some (K.ofNat 5)), none, .as (.t (K.ofNat 11))⟩, ⟨(some (K.ofNat 6)), none, .as (.t (K.ofNat 12))⟩]
noncomputable def f15_r2 : List EOper := [⟨(some (K.ofNat 13)), none, .mv (.t (K.ofNat 6))⟩, ⟨(some (K.ofNat 4)), none, .as (.t (K.ofNat 13))⟩]
noncomputable def f15_c : EC := (.seq (.reg f15_r0) (.seq (.reg f15_r1) (.seq (.reg f15_r2) .ret)))
noncomputable def f15 : EF := ⟨14, [.tmp (K.ofNat 4)], f15_c, none⟩
theorem f15_rs : f15.rs = [.tmp (K.ofNat 4)] := of_eq_true (eq_self _)
noncomputable def f23_r0 : List EOper := [⟨(some (K.ofNat 4)), none, .as (.c (.i .i64 (.ofNat 0)))⟩, ⟨(some (K.ofNat 5)), none, .as (.c .sn)⟩, ⟨(some (K.ofNat 6)), none, .as (.c (.i .i64 (.ofNat 0)))⟩]
noncomputable def f23_r1 : List EOper := [⟨(some (K.ofNat 11)), none, .mv (.t (K.ofNat 0))⟩, ⟨(some (K.ofNat 12)), none, .mv (.t (K.ofNat 1))⟩, ⟨(some (K.ofNat 13)), none, .call (.c (.fn (K.ofNat 51) [])) [(.t (K.ofNat 11)), (.t (K.ofNat 12))]⟩, ⟨(some (K.ofNat 10)), none, .mv (.t (K.ofNat 13))⟩, ⟨(some (K.ofNat 14)), none, .ext (.t (K.ofNat 10)) 0⟩, ⟨(some (K.ofNat 15)), none, .ext (.t (K.ofNat 10)) 1⟩, ⟨(some (K.ofNat 7)), none, .as (.t (K.ofNat 14))⟩, ⟨(some (K.ofNat 8)), none, .as (.t (K.ofNat 15))⟩]
noncomputable def f23_r2 : List EOper := [⟨(some (K.ofNat 16)), none, .mv (.t (K.ofNat 8))⟩, ⟨(some (K.ofNat 17)), none, .bin .neq (.t (K.ofNat 16)) (.c (.i .i64 (.ofNat 0)))⟩]
noncomputable def f23_r3 : List EOper := [⟨(some (K.ofNat 18)), none, .mv (.t (K.ofNat 8))⟩, ⟨(some (K.ofNat 4)), none, .as (.c (.i .i64 (.ofNat 0)))⟩, ⟨(some (K.ofNat 5)), none, .as (.c .sn)⟩, ⟨(some (K.ofNat 6)), none, .as (.t (K.ofNat 18))⟩]
noncomputable def f23_r4 : List EOper := [⟨(some (K.ofNat 19)), none, .mv (.t (K.ofNat 0))⟩, ⟨(some (K.ofNat 20)), none, .bin .gtr (.t (K.ofNat 19)) (.c (.i .i64 (.ofNat 6)))⟩]
noncomputable def f23_r5 : List EOper := [⟨(some (K.ofNat 4)), none, .as (.c (.i .i64 (.ofNat 0)))⟩, ⟨(some (K.ofNat 5)), none, .as (.c .sn)⟩, ⟨(some (K.ofNat 6)), none, .as (.c (.i .i64 (.ofNat 1)))⟩]
noncomputable def f23_r6 : List EOper := [⟨(some (K.ofNat 21)), none, .mv (.t (K.ofNat 7))⟩, ⟨(some (K.ofNat 22)), none, .mv (.t (K.ofNat 0))⟩, ⟨(some (K.ofNat 23)), none, .call (.c (.fn (K.ofNat 59) [])) [(.t (K.ofNat 21)), (.t (K.ofNat 22))]⟩, ⟨(some (K.ofNat 9)), none, .as (.t (K.ofNat 23))⟩]
noncomputable def f23_r7 : List EOper := [⟨(some (K.ofNat 24)), none, .mv (.t (K.ofNat 9))⟩, ⟨(some (K.ofNat 25)), none, .mv (.t (K.ofNat 0))⟩, ⟨(some (K.ofNat 26)), none, .call (.c (.fn (K.ofNat 52) [])) [(.t (K.ofNat 24)), (.t (K.ofNat 25))]⟩, ⟨(some (K.ofNat 27)), none, .mv (.t (K.ofNat 9))⟩, ⟨(some (K.ofNat 28)), none, .call (.c (.fn (K.ofNat 60) [])) [(.t (K.ofNat 27))]⟩, ⟨(some (K.ofNat 4)), none, .as (.t (K.ofNat 26))⟩, ⟨(some (K.ofNat 5)), none, .as (.t (K.ofNat 28))⟩, ⟨(some (K.ofNat 6)), none, .as (.c (.i .i64 (.ofNat 0)))⟩]
noncomputable def f23_c : EC := (.seq (.reg f23_r0) (.seq (.reg f23_r1) (.seq (.seq (.reg f23_r2) (.cond (.t (K.ofNat 17)) (.seq (.reg f23_r3) .ret) .skip)) (.seq (.seq (.reg f23_r4) (.cond (.t (K.ofNat 20)) (.seq (.reg f23_r5) .ret) .skip)) (.seq (.reg f23_r6) (.seq (.reg f23_r7) .ret))))))
noncomputable def f23 : EF := ⟨29, [.tmp (K.ofNat 4), .tmp (K.ofNat 5), .tmp (K.ofNat 6)], f23_c, none⟩
theorem f23_rs : f23.rs = [.tmp (K.ofNat 4), .tmp (K.ofNat 5), .tmp (K.ofNat 6)] := of_eq_true (eq_self _)
section
variable {fs : T EF} {h : H} {v : V} {us : List V} {Ls : List (List (Int × Int))}
def fewL (Ls : List (List (Int × Int))) (g m : Nat) : List (List (Int × Int)) := (Ls.take m).map fun l => l.take g
theorem fewL_succ {g i : Nat} (hi : i < Ls.length) : fewL Ls g (i + 1) = fewL Ls g i ++ [Ls[i].take g] := by
  unfold fewL; rw [List.take_succ_eq_append_getElem hi, List.map_append]; rfl
def f13_I (h : H) (v : V) (Ls : List (List (Int × Int))) (g m : Nat) (i : Nat) (fr : Fr) (h1 : H) : Prop := i ≤ Ls.length ∧ i ≤ m ∧ ∃ w xs, Rows h h1 w xs (fewL Ls g i) ∧ fr.get (K.ofNat 0) = some (v) ∧ fr.get (K.ofNat 1) = some (.i .i64 (m : Int)) ∧ fr.get (K.ofNat 2) = some (.i .i64 (g : Int)) ∧ fr.get (K.ofNat 7) = some (w) ∧ fr.get (K.ofNat 8) = some (.i .i64 (i : Int))
theorem f13_ret {g m : Nat} (hv : Nrp h v us Ls) (hm : m ≤ 1000) (hg : g ≤ 1000) (hc : HC h) : Ret fs f13 [v, .i .i64 (m : Int), .i .i64 (g : Int)] h fun r h' => ∃ xs, Rows h h' r xs (fewL Ls g m) := by
  have hlen : ∀ h1, lenV v h1 = .ok (.i .i64 (Ls.length : Int)) h1 := fun h1 => by rw [hv.out.len, hv.len]
  apply ret_of rfl
  show W fs none f13_c _ _ _
  unfold f13_c
  simp (disch := omega) only [f13_r0, f13_r1, f13_r2, w_reg, w_seq, w_block, seqK_n, x_nil, x_as, ev_c, putD_some, frame_3, of0]
  refine W_loop (f13_I h v Ls g m) (fun i => Ls.length - i) ?_ 0 ⟨by omega, by omega, .sn, [], ⟨Sld.nil, Own.sn, (fun x hx => absurd hx (by simp)), Grow.refl _ _⟩, by simp (disch := omega) only [getK_set, Nat.reduceEqDiff, ↓reduceIte, and_self, Int.natCast_zero]⟩
  rintro i fr h1 ⟨hi, him, w, xs, hR, g0, g1, g2, g7, g8⟩
  have hc1 := hR.gr.hc hc
  have hv1 := hv.grow hc hR.gr
  have fin : (i = Ls.length ∨ i = m) → fewL Ls g i = fewL Ls g m := fun hh => by
    rcases hh with e | e
    · unfold fewL; rw [e, List.take_length, List.take_of_length_le (by omega)]
    · rw [e]
  unfold f13_l0
  by_cases hlt : i < Ls.length
  · have d0 : decide ((i : Int) < (Ls.length : Int)) = true := decide_eq_true (by omega)
    by_cases hlt2 : i < m
    · have d1 : decide ((i : Int) < (m : Int)) = true := decide_eq_true (by omega)
      have hiu : i < us.length := by rw [hv.len]; exact hlt
      obtain ⟨p, hp1, hp2'⟩ := hv1.out.at i hiu
      have hp2 : loadV h1 p one? = .ok us[i] h1 := hp2'
      clear hp2'
      have hui := hv1.inn i hiu hlt
      have hsu := fewL_succ (g := g) hlt
      generalize us[i] = u at *
      generalize Ls[i] = l at *
      have hlu := hui.len
      have hmn : min (l.length : Int) (g : Int) = ((min l.length g : Nat) : Int) := by omega
      obtain ⟨y, y1, y2, _⟩ := hui.cut (u := min l.length g) (kk := .i64) (by omega)
      have htk : l.take (min l.length g) = l.take g := by
        rcases Nat.le_total l.length g with h | h
        · rw [Nat.min_eq_left h, List.take_length, List.take_of_length_le h]
        · rw [Nat.min_eq_right h]
      rw [htk] at y2
      obtain ⟨r, h2, a1, a2, a3, a4⟩ := y2.appN hc1 (by simp; omega)
      have hc2 := a4.hc hc1
      have hsd := hR.sd.grow hc1 a4
      have hG2 := hR.gr.trans (a4.low hR.gr.nx)
      have vlt : ∀ id off n sz, w = .sl id off n sz → id.nat < h1.nx.nat := hR.sd.out.lt hc1
      have xlt : ∀ x ∈ xs, ∀ id off n sz, x = .sl id off n sz → id.nat < h1.nx.nat := fun x hx => by
        obtain ⟨a, ha, rfl⟩ := List.getElem_of_mem hx
        exact (hR.sd.sk a ha (by rw [← hR.sd.len]; exact ha)).lt hc1
      obtain ⟨w', h3, b1, b2, b3, b4⟩ := hsd.push hR.ow hG2.nx hc2 (by simp [fewL]; omega) a2 (fun id off n sz e off' n' sz' e' => by have := a3 _ _ _ _ e; have := vlt _ _ _ _ e'; omega) (fun x hx id off n sz e off' n' sz' e' => by have := a3 _ _ _ _ e; have := xlt x hx _ _ _ _ e'; omega)
      rw [← hsu] at b2
      have hwb := hR.sd.out.sr.beq
      have hr1 : cellsN 1 r = some [r] := a2.one
      simp (disch := omega) only [f13_r3, f13_r4, f13_r5, w_skip, w_reg, w_draw, w_seq, w_cond, w_block, seqK_n, ckB_b, cbB_b, okG_b, asG_t, true_and, x_nil, x_g, x_mv, x_as, x_pick, x_bin, sliceV_eq, Option.map_none, Option.map_some, x_len, x_app, kx, kg, xg_nil, xg_mv, xg_ld, xg_slice, xg_iads, xg_len, xg_min, xg_bslice, xd_cons, fresh_nil, stK_s, stay_nil, stay_cons, stay_mv, rvP_ok, okv_some, ev_t, ev_c, getV_some, putD_some, bin_lss, pick_b, oGet_s, min_ii, fill_1, set_1, Option.some.injEq, exists_eq_left', getK_set, Nat.reduceEqDiff, ↓reduceIte, g0, g1, g2, g7, g8, hlen, d0, d1, hp1, hp2, hlu, hmn, y1, a1, hc2.dead, hr1, fill_1, set_1]
      refine ⟨fresh_one (n := 1) (sz := 1) (by simp (disch := omega) only [getK_set, ↓reduceIte]), ?_⟩
      simp (disch := omega) only [f13_r6, w_reg, seqK_n, atK_n, loopK_n, true_and, x_nil, x_mv, x_as, x_bin, kx, xg_nil, xd_cons, fresh_nil, stK_n, stK_s, stay_nil, rvP_ok, okv_some, ev_t, ev_c, getV_some, putD_some, bin_add, of1, getK_set, Nat.reduceEqDiff, ↓reduceIte, g8, hwb, b1, fw64]
      exact ⟨i + 1, by omega, by omega, by omega, w', _, ⟨b2, b3, fun x hx => by
        rcases List.mem_append.1 hx with hx | hx
        · exact hR.ox x hx
        · rw [List.mem_singleton.1 hx]; exact a3.low hR.gr.nx, hG2.trans b4⟩, by simp (disch := omega) only [getK_set, Nat.reduceEqDiff, ↓reduceIte, g0, g1, g2, and_self, Int.natCast_add, Int.natCast_one]⟩
    · have d1 : decide ((i : Int) < (m : Int)) = false := decide_eq_false (by omega)
      rw [fin (.inr (by omega))] at hR
      simp (disch := omega) only [f13_r3, f13_r7, f13_rs, w_reg, w_seq, w_cond, w_exit, w_ret, seqK_n, seqK_e, atK_e, loopK_e, ckB_b, cbB_b, okG_b, asG_t, true_and, retK_r, x_nil, x_g, x_mv, x_as, x_pick, x_bin, x_len, kx, rvP_ok, okv_some, ev_t, ev_c, getV_some, putD_some, bin_lss, pick_b, oGet_s, readRs_nil, readRs_t, retV_1, Option.some.injEq, exists_eq_left', getK_set, Nat.reduceEqDiff, ↓reduceIte, Bool.false_eq_true, g0, g1, g7, g8, hlen, d0, d1]
      exact ⟨xs, hR⟩
  · have d0 : decide ((i : Int) < (Ls.length : Int)) = false := decide_eq_false (by omega)
    rw [fin (.inl (by omega))] at hR
    simp (disch := omega) only [f13_r3, f13_r7, f13_rs, w_reg, w_seq, w_cond, w_exit, w_ret, seqK_n, seqK_e, atK_e, loopK_e, ckB_b, cbB_b, okG_b, asG_t, true_and, retK_r, x_nil, x_g, x_mv, x_as, x_pick, x_bin, x_len, kx, rvP_ok, okv_some, ev_t, ev_c, getV_some, putD_some, bin_lss, pick_b, oGet_s, readRs_nil, readRs_t, retV_1, Option.some.injEq, exists_eq_left', getK_set, Nat.reduceEqDiff, ↓reduceIte, Bool.false_eq_true, g0, g7, g8, hlen, d0]
    exact ⟨xs, hR⟩
instance ok5_dec {n : Int} : Decidable (ok5 n) := inferInstanceAs (Decidable (n = 2 ∨ n = 4 ∨ n = 6 ∨ n = 8 ∨ n = 10))
/-- What Check says of any number and any rounds. -/
def ckZ (n : Int) (Ls : List (List (Int × Int))) : Int := if ok5 n then (if shB n.toNat Ls = true then 0 else 40) else 1
theorem ckZ_no {n : Int} (h : ¬ ok5 n) : ckZ n Ls = 1 := if_neg h
theorem ckZ_ok {n : Nat} (h : ok5 (n : Int)) : ckZ (n : Int) Ls = ckI n Ls := by unfold ckZ ckI; rw [if_pos h]; rfl
theorem ok5_nat {n : Int} (h : ok5 n) : ∃ m : Nat, n = (m : Int) := ⟨n.toNat, by unfold ok5 at h; omega⟩
theorem f14_any {n : Int} (k : CallsRc fs) (hv : Nrp h v us Ls) (hL : Ls.length ≤ 1000000) (hL2 : ∀ l ∈ Ls, l.length ≤ 9223372036854775807) (hc : HC h) : Ret fs f14 [.i .i64 n, v] h fun r h' => r = .i .i64 (ckZ n Ls) ∧ Grow h.nx.nat h h' := by
  rcases Classical.em (ok5 n) with ho | ho
  · obtain ⟨m, rfl⟩ := ok5_nat ho
    rw [ckZ_ok ho]
    exact f14_ret k ho hv hL hL2 hc
  · rw [ckZ_no ho]
    exact (f14_no k ho).mono fun r h' ⟨e1, e2⟩ => ⟨e1, by rw [e2]; exact Grow.refl _ _⟩
/-- checked, of any number and any rounds. -/
theorem f51_any {n : Int} (k : CallsCh fs) (hv : Nrp h v us Ls) (hL2 : ∀ l ∈ Ls, l.length ≤ 9223372036854775807) (hc : HC h) : Ret fs f51 [.i .i64 n, v] h fun r h' => ∃ c, r = .tup [c, .i .i64 (ckZ n Ls)] ∧ (ckZ n Ls ≠ 0 → c = .sn) ∧ Grow h.nx.nat h h' := by
  rcases Classical.em (ok5 n) with ho | ho
  · obtain ⟨m, rfl⟩ := ok5_nat ho
    rw [ckZ_ok ho]
    refine (f51_ret k ho hv hL2 hc).mono ?_
    rintro r h' ⟨c, ws, rfl, hs, hG⟩
    refine ⟨c, rfl, fun h => ?_, hG⟩
    unfold ckI at h
    by_cases hb : shB m Ls = true
    · rw [if_pos hb] at h; exact absurd rfl h
    · rw [if_neg hb] at hs; exact hs
  · rw [ckZ_no ho]
    exact (f51_no k ho).mono fun r h' ⟨e1, e2⟩ => ⟨.sn, e1, fun _ => rfl, by rw [e2]; exact Grow.refl _ _⟩
theorem f15_ret {n : Int} (k : CallsCh fs) (hv : Nrp h v us Ls) (hL2 : ∀ l ∈ Ls, l.length ≤ 9223372036854775807) (hc : HC h) : Ret fs f15 [.i .i64 n, v] h fun r h' => r = .i .i64 (ckZ n Ls) ∧ Grow h.nx.nat h h' := by
  apply ret_of rfl
  show W fs none f15_c _ _ _
  unfold f15_c
  simp (disch := omega) only [f15_r0, f15_r1, w_reg, w_seq, seqK_n, x_nil, x_mv, x_as, x_call, ev_t, ev_c, evs_nil, evs_cons, getV_some, putD_some, frame_2, of0, getK_set, Nat.reduceEqDiff, ↓reduceIte]
  refine (callP_0 (ef := f51) k.c51 rfl (f51_any (n := n) k hv hL2 hc)).mono ?_
  rintro r h1 ⟨c, rfl, _, hG⟩
  simp (disch := omega) only [f15_r2, f15_rs, w_reg, w_seq, w_ret, seqK_n, true_and, retK_r, x_nil, x_mv, x_as, x_ext, kx, rvP_ok, okv_some, ev_t, getV_some, putD_some, onTup_t, oGet_s, nth0, nth1, readRs_nil, readRs_t, retV_1, Option.some.injEq, exists_eq_left', getK_set, Nat.reduceEqDiff, ↓reduceIte, true_and]
  exact hG
theorem f16_bad {n : Int} (k : CallsCh fs) (hv : Nrp h v us Ls) (hL2 : ∀ l ∈ Ls, l.length ≤ 9223372036854775807) (hne : ckZ n Ls ≠ 0) (hc : HC h) : Ret fs f16 [.i .i64 n, v] h fun r h' => r = .tup [.i .i64 0, .i .i64 (ckZ n Ls)] ∧ Grow h.nx.nat h h' := by
  have d0 : decide (ckZ n Ls ≠ 0) = true := decide_eq_true hne
  apply ret_of rfl
  show W fs none f16_c _ _ _
  unfold f16_c
  simp (disch := omega) only [f16_r0, f16_r1, w_reg, w_seq, seqK_n, x_nil, x_mv, x_as, x_call, ev_t, ev_c, evs_nil, evs_cons, getV_some, putD_some, frame_2, of0, getK_set, Nat.reduceEqDiff, ↓reduceIte]
  refine (callP_0 (ef := f51) k.c51 rfl (f51_any (n := n) k hv hL2 hc)).mono ?_
  rintro r h1 ⟨c, rfl, _, hG⟩
  simp (disch := omega) only [f16_r2, f16_r3, f16_rs, w_reg, w_seq, w_cond, w_ret, seqK_n, seqK_r, ckB_b, cbB_b, true_and, retK_r, x_nil, x_mv, x_as, x_bin, x_ext, kx, rvP_ok, okv_some, ev_t, ev_c, getV_some, putD_some, bin_neq, onTup_t, oGet_s, nth0, nth1, readRs_nil, readRs_t, retV_2, of0, Option.some.injEq, exists_eq_left', getK_set, Nat.reduceEqDiff, ↓reduceIte, d0, true_and]
  exact hG
theorem f17_bad {n : Int} (k : CallsCh fs) (hv : Nrp h v us Ls) (hL2 : ∀ l ∈ Ls, l.length ≤ 9223372036854775807) (hne : ckZ n Ls ≠ 0) (hc : HC h) : Ret fs f17 [.i .i64 n, v] h fun r h' => r = .tup [.sn, .i .i64 (ckZ n Ls)] ∧ Grow h.nx.nat h h' := by
  have d0 : decide (ckZ n Ls ≠ 0) = true := decide_eq_true hne
  apply ret_of rfl
  show W fs none f17_c _ _ _
  unfold f17_c
  simp (disch := omega) only [f17_r0, f17_r1, w_reg, w_seq, seqK_n, x_nil, x_mv, x_as, x_call, ev_t, ev_c, evs_nil, evs_cons, getV_some, putD_some, frame_2, of0, getK_set, Nat.reduceEqDiff, ↓reduceIte]
  refine (callP_0 (ef := f51) k.c51 rfl (f51_any (n := n) k hv hL2 hc)).mono ?_
  rintro r h1 ⟨c, rfl, _, hG⟩
  simp (disch := omega) only [f17_r2, f17_r3, f17_rs, w_reg, w_seq, w_cond, w_ret, seqK_n, seqK_r, ckB_b, cbB_b, true_and, retK_r, x_nil, x_mv, x_as, x_bin, x_ext, kx, rvP_ok, okv_some, ev_t, ev_c, getV_some, putD_some, bin_neq, onTup_t, oGet_s, nth0, nth1, readRs_nil, readRs_t, retV_2, of0, Option.some.injEq, exists_eq_left', getK_set, Nat.reduceEqDiff, ↓reduceIte, d0, true_and]
  exact hG
theorem f18_bad {n : Int} (k : CallsCh fs) (hv : Nrp h v us Ls) (hL2 : ∀ l ∈ Ls, l.length ≤ 9223372036854775807) (hne : ckZ n Ls ≠ 0) (hc : HC h) : Ret fs f18 [.i .i64 n, v] h fun r h' => r = .tup [.sn, .i .i64 (ckZ n Ls)] ∧ Grow h.nx.nat h h' := by
  have d0 : decide (ckZ n Ls ≠ 0) = true := decide_eq_true hne
  apply ret_of rfl
  show W fs none f18_c _ _ _
  unfold f18_c
  simp (disch := omega) only [f18_r0, f18_r1, w_reg, w_seq, seqK_n, x_nil, x_mv, x_as, x_call, ev_t, ev_c, evs_nil, evs_cons, getV_some, putD_some, frame_2, of0, getK_set, Nat.reduceEqDiff, ↓reduceIte]
  refine (callP_0 (ef := f51) k.c51 rfl (f51_any (n := n) k hv hL2 hc)).mono ?_
  rintro r h1 ⟨c, rfl, _, hG⟩
  simp (disch := omega) only [f18_r2, f18_r3, f18_rs, w_reg, w_seq, w_cond, w_ret, seqK_n, seqK_r, ckB_b, cbB_b, true_and, retK_r, x_nil, x_mv, x_as, x_bin, x_ext, kx, rvP_ok, okv_some, ev_t, ev_c, getV_some, putD_some, bin_neq, onTup_t, oGet_s, nth0, nth1, readRs_nil, readRs_t, retV_2, of0, Option.some.injEq, exists_eq_left', getK_set, Nat.reduceEqDiff, ↓reduceIte, d0, true_and]
  exact hG
theorem f19_bad {n : Int} (k : CallsCh fs) (hv : Nrp h v us Ls) (hL2 : ∀ l ∈ Ls, l.length ≤ 9223372036854775807) (hne : ckZ n Ls ≠ 0) (hc : HC h) : Ret fs f19 [.i .i64 n, v] h fun r h' => r = .tup [.b false, .i .i64 (ckZ n Ls)] ∧ Grow h.nx.nat h h' := by
  have d0 : decide (ckZ n Ls ≠ 0) = true := decide_eq_true hne
  apply ret_of rfl
  show W fs none f19_c _ _ _
  unfold f19_c
  simp (disch := omega) only [f19_r0, f19_r1, w_reg, w_seq, seqK_n, x_nil, x_mv, x_as, x_call, ev_t, ev_c, evs_nil, evs_cons, getV_some, putD_some, frame_2, of0, getK_set, Nat.reduceEqDiff, ↓reduceIte]
  refine (callP_0 (ef := f51) k.c51 rfl (f51_any (n := n) k hv hL2 hc)).mono ?_
  rintro r h1 ⟨c, rfl, _, hG⟩
  simp (disch := omega) only [f19_r2, f19_r3, f19_rs, w_reg, w_seq, w_cond, w_ret, seqK_n, seqK_r, ckB_b, cbB_b, true_and, retK_r, x_nil, x_mv, x_as, x_bin, x_ext, kx, rvP_ok, okv_some, ev_t, ev_c, getV_some, putD_some, bin_neq, onTup_t, oGet_s, nth0, nth1, readRs_nil, readRs_t, retV_2, of0, Option.some.injEq, exists_eq_left', getK_set, Nat.reduceEqDiff, ↓reduceIte, d0, true_and]
  exact hG
theorem f20_bad {n : Int} (k : CallsCh fs) (hv : Nrp h v us Ls) (hL2 : ∀ l ∈ Ls, l.length ≤ 9223372036854775807) (hne : ckZ n Ls ≠ 0) (hc : HC h) : Ret fs f20 [.i .i64 n, v] h fun r h' => r = .tup [.b false, .i .i64 (ckZ n Ls)] ∧ Grow h.nx.nat h h' := by
  have d0 : decide (ckZ n Ls ≠ 0) = true := decide_eq_true hne
  apply ret_of rfl
  show W fs none f20_c _ _ _
  unfold f20_c
  simp (disch := omega) only [f20_r0, f20_r1, w_reg, w_seq, seqK_n, x_nil, x_mv, x_as, x_call, ev_t, ev_c, evs_nil, evs_cons, getV_some, putD_some, frame_2, of0, getK_set, Nat.reduceEqDiff, ↓reduceIte]
  refine (callP_0 (ef := f51) k.c51 rfl (f51_any (n := n) k hv hL2 hc)).mono ?_
  rintro r h1 ⟨c, rfl, _, hG⟩
  simp (disch := omega) only [f20_r2, f20_r3, f20_rs, w_reg, w_seq, w_cond, w_ret, seqK_n, seqK_r, ckB_b, cbB_b, true_and, retK_r, x_nil, x_mv, x_as, x_bin, x_ext, kx, rvP_ok, okv_some, ev_t, ev_c, getV_some, putD_some, bin_neq, onTup_t, oGet_s, nth0, nth1, readRs_nil, readRs_t, retV_2, of0, Option.some.injEq, exists_eq_left', getK_set, Nat.reduceEqDiff, ↓reduceIte, d0, true_and]
  exact hG
theorem f21_bad {n : Int} {t : Int} (k : CallsCh fs) (hv : Nrp h v us Ls) (hL2 : ∀ l ∈ Ls, l.length ≤ 9223372036854775807) (hne : ckZ n Ls ≠ 0) (hc : HC h) : Ret fs f21 [.i .i64 n, v, .i .i64 t] h fun r h' => r = .tup [.sn, .i .i64 (ckZ n Ls)] ∧ Grow h.nx.nat h h' := by
  have d0 : decide (ckZ n Ls ≠ 0) = true := decide_eq_true hne
  apply ret_of rfl
  show W fs none f21_c _ _ _
  unfold f21_c
  simp (disch := omega) only [f21_r0, f21_r1, w_reg, w_seq, seqK_n, x_nil, x_mv, x_as, x_call, ev_t, ev_c, evs_nil, evs_cons, getV_some, putD_some, frame_3, of0, getK_set, Nat.reduceEqDiff, ↓reduceIte]
  refine (callP_0 (ef := f51) k.c51 rfl (f51_any (n := n) k hv hL2 hc)).mono ?_
  rintro r h1 ⟨c, rfl, _, hG⟩
  simp (disch := omega) only [f21_r2, f21_r3, f21_rs, w_reg, w_seq, w_cond, w_ret, seqK_n, seqK_r, ckB_b, cbB_b, true_and, retK_r, x_nil, x_mv, x_as, x_bin, x_ext, kx, rvP_ok, okv_some, ev_t, ev_c, getV_some, putD_some, bin_neq, onTup_t, oGet_s, nth0, nth1, readRs_nil, readRs_t, retV_2, of0, Option.some.injEq, exists_eq_left', getK_set, Nat.reduceEqDiff, ↓reduceIte, d0, true_and]
  exact hG
theorem f23_bad {n : Int} (k : CallsCh fs) (hv : Nrp h v us Ls) (hL2 : ∀ l ∈ Ls, l.length ≤ 9223372036854775807) (hne : ckZ n Ls ≠ 0) (hc : HC h) : Ret fs f23 [.i .i64 n, v] h fun r h' => r = .tup [.i .i64 0, .sn, .i .i64 (ckZ n Ls)] ∧ Grow h.nx.nat h h' := by
  have d0 : decide (ckZ n Ls ≠ 0) = true := decide_eq_true hne
  apply ret_of rfl
  show W fs none f23_c _ _ _
  unfold f23_c
  simp (disch := omega) only [f23_r0, f23_r1, w_reg, w_seq, seqK_n, x_nil, x_mv, x_as, x_call, ev_t, ev_c, evs_nil, evs_cons, getV_some, putD_some, frame_2, of0, getK_set, Nat.reduceEqDiff, ↓reduceIte]
  refine (callP_0 (ef := f51) k.c51 rfl (f51_any (n := n) k hv hL2 hc)).mono ?_
  rintro r h1 ⟨c, rfl, _, hG⟩
  simp (disch := omega) only [f23_r2, f23_r3, f23_rs, w_reg, w_seq, w_cond, w_ret, seqK_n, seqK_r, ckB_b, cbB_b, true_and, retK_r, x_nil, x_mv, x_as, x_bin, x_ext, kx, rvP_ok, okv_some, ev_t, ev_c, getV_some, putD_some, bin_neq, onTup_t, oGet_s, nth0, nth1, readRs_nil, readRs_t, retV_2, of0, Option.some.injEq, exists_eq_left', getK_set, Nat.reduceEqDiff, ↓reduceIte, d0, true_and]
  exact hG
theorem f24_bad {n : Int} {w : V} (k : CallsCh fs) (hv : Nrp h v us Ls) (hL2 : ∀ l ∈ Ls, l.length ≤ 9223372036854775807) (hne : ckZ n Ls ≠ 0) (hc : HC h) : Ret fs f24 [.i .i64 n, v, w] h fun r h' => r = .tup [.sn, .i .i64 (ckZ n Ls)] ∧ Grow h.nx.nat h h' := by
  have d0 : decide (ckZ n Ls ≠ 0) = true := decide_eq_true hne
  apply ret_of rfl
  show W fs none f24_c _ _ _
  unfold f24_c
  simp (disch := omega) only [f24_r0, f24_r1, w_reg, w_seq, seqK_n, x_nil, x_mv, x_as, x_call, ev_t, ev_c, evs_nil, evs_cons, getV_some, putD_some, frame_3, of0, getK_set, Nat.reduceEqDiff, ↓reduceIte]
  refine (callP_0 (ef := f51) k.c51 rfl (f51_any (n := n) k hv hL2 hc)).mono ?_
  rintro r h1 ⟨c, rfl, _, hG⟩
  simp (disch := omega) only [f24_r2, f24_r3, f24_rs, w_reg, w_seq, w_cond, w_ret, seqK_n, seqK_r, ckB_b, cbB_b, true_and, retK_r, x_nil, x_mv, x_as, x_bin, x_ext, kx, rvP_ok, okv_some, ev_t, ev_c, getV_some, putD_some, bin_neq, onTup_t, oGet_s, nth0, nth1, readRs_nil, readRs_t, retV_2, of0, Option.some.injEq, exists_eq_left', getK_set, Nat.reduceEqDiff, ↓reduceIte, d0, true_and]
  exact hG
end
end Go.Ev
namespace Go.Ev
open Go Go.RowKit
noncomputable def f3_r0 : List EOper := [⟨(some (K.ofNat 4)), none, .as (.c (.b false))⟩]
noncomputable def f3_r1 : List EOper := [⟨(some (K.ofNat 24)), none, .mv (.t (K.ofNat 1))⟩, ⟨(some (K.ofNat 25)), none, .call (.c (.fn (K.ofNat 13) [])) [(.t (K.ofNat 24)), (.c (.i .i64 (.ofNat 10))), (.c (.i .i64 (.ofNat 6)))]⟩, ⟨(some (K.ofNat 5)), none, .as (.t (K.ofNat 25))⟩]
noncomputable def f3_r2 : List EOper := [⟨(some (K.ofNat 26)), none, .mv (.t (K.ofNat 0))⟩, ⟨(some (K.ofNat 27)), none, .mv (.t (K.ofNat 5))⟩, ⟨(some (K.ofNat 28)), none, .call (.c (.fn (K.ofNat 14) [])) [(.t (K.ofNat 26)), (.t (K.ofNat 27))]⟩, ⟨(some (K.ofNat 6)), none, .as (.t (K.ofNat 28))⟩]
noncomputable def f3_r3 : List EOper := [⟨(some (K.ofNat 29)), none, .mv (.t (K.ofNat 0))⟩, ⟨(some (K.ofNat 30)), none, .mv (.t (K.ofNat 5))⟩, ⟨(some (K.ofNat 31)), none, .call (.c (.fn (K.ofNat 15) [])) [(.t (K.ofNat 29)), (.t (K.ofNat 30))]⟩, ⟨(some (K.ofNat 32)), none, .mv (.t (K.ofNat 6))⟩, ⟨(some (K.ofNat 33)), none, .bin .neq (.t (K.ofNat 31)) (.t (K.ofNat 32))⟩]
noncomputable def f3_r4 : List EOper := [⟨(some (K.ofNat 4)), none, .as (.c (.b false))⟩]
noncomputable def f3_r5 : List EOper := [⟨(some (K.ofNat 35)), none, .mv (.t (K.ofNat 0))⟩, ⟨(some (K.ofNat 36)), none, .mv (.t (K.ofNat 5))⟩, ⟨(some (K.ofNat 37)), none, .call (.c (.fn (K.ofNat 16) [])) [(.t (K.ofNat 35)), (.t (K.ofNat 36))]⟩, ⟨(some (K.ofNat 34)), none, .mv (.t (K.ofNat 37))⟩, ⟨(some (K.ofNat 38)), none, .ext (.t (K.ofNat 34)) 0⟩, ⟨(some (K.ofNat 39)), none, .ext (.t (K.ofNat 34)) 1⟩, ⟨(some (K.ofNat 7)), none, .as (.t (K.ofNat 38))⟩, ⟨(some (K.ofNat 8)), none, .as (.t (K.ofNat 39))⟩]
noncomputable def f3_r6 : List EOper := [⟨(some (K.ofNat 41)), none, .mv (.t (K.ofNat 0))⟩, ⟨(some (K.ofNat 42)), none, .mv (.t (K.ofNat 5))⟩, ⟨(some (K.ofNat 43)), none, .call (.c (.fn (K.ofNat 17) [])) [(.t (K.ofNat 41)), (.t (K.ofNat 42))]⟩, ⟨(some (K.ofNat 40)), none, .mv (.t (K.ofNat 43))⟩, ⟨(some (K.ofNat 44)), none, .ext (.t (K.ofNat 40)) 0⟩, ⟨(some (K.ofNat 45)), none, .ext (.t (K.ofNat 40)) 1⟩, ⟨(some (K.ofNat 9)), none, .as (.t (K.ofNat 44))⟩, ⟨(some (K.ofNat 10)), none, .as (.t (K.ofNat 45))⟩]
noncomputable def f3_r7 : List EOper := [⟨(some (K.ofNat 47)), none, .mv (.t (K.ofNat 0))⟩, ⟨(some (K.ofNat 48)), none, .mv (.t (K.ofNat 5))⟩, ⟨(some (K.ofNat 49)), none, .call (.c (.fn (K.ofNat 18) [])) [(.t (K.ofNat 47)), (.t (K.ofNat 48))]⟩, ⟨(some (K.ofNat 46)), none, .mv (.t (K.ofNat 49))⟩, ⟨(some (K.ofNat 50)), none, .ext (.t (K.ofNat 46)) 0⟩, ⟨(some (K.ofNat 51)), none, .ext (.t (K.ofNat 46)) 1⟩, ⟨(some (K.ofNat 11)), none, .as (.t (K.ofNat 50))⟩, ⟨(some (K.ofNat 12)), none, .as (.t (K.ofNat 51))⟩]
noncomputable def f3_r8 : List EOper := [⟨(some (K.ofNat 53)), none, .mv (.t (K.ofNat 0))⟩, ⟨(some (K.ofNat 54)), none, .mv (.t (K.ofNat 5))⟩, ⟨(some (K.ofNat 55)), none, .call (.c (.fn (K.ofNat 19) [])) [(.t (K.ofNat 53)), (.t (K.ofNat 54))]⟩, ⟨(some (K.ofNat 52)), none, .mv (.t (K.ofNat 55))⟩, ⟨(some (K.ofNat 56)), none, .ext (.t (K.ofNat 52)) 0⟩, ⟨(some (K.ofNat 57)), none, .ext (.t (K.ofNat 52)) 1⟩, ⟨(some (K.ofNat 13)), none, .as (.t (K.ofNat 56))⟩, ⟨(some (K.ofNat 14)), none, .as (.t (K.ofNat 57))⟩]
noncomputable def f3_r9 : List EOper := [⟨(some (K.ofNat 59)), none, .mv (.t (K.ofNat 0))⟩, ⟨(some (K.ofNat 60)), none, .mv (.t (K.ofNat 5))⟩, ⟨(some (K.ofNat 61)), none, .call (.c (.fn (K.ofNat 20) [])) [(.t (K.ofNat 59)), (.t (K.ofNat 60))]⟩, ⟨(some (K.ofNat 58)), none, .mv (.t (K.ofNat 61))⟩, ⟨(some (K.ofNat 62)), none, .ext (.t (K.ofNat 58)) 0⟩, ⟨(some (K.ofNat 63)), none, .ext (.t (K.ofNat 58)) 1⟩, ⟨(some (K.ofNat 15)), none, .as (.t (K.ofNat 62))⟩, ⟨(some (K.ofNat 16)), none, .as (.t (K.ofNat 63))⟩]
noncomputable def f3_r10 : List EOper := [⟨(some (K.ofNat 65)), none, .mv (.t (K.ofNat 0))⟩, ⟨(some (K.ofNat 66)), none, .mv (.t (K.ofNat 5))⟩, ⟨(some (K.ofNat 67)), none, .call (.c (.fn (K.ofNat 21) [])) [(.t (K.ofNat 65)), (.t (K.ofNat 66)), (.c (.i .i64 (.ofNat 0)))]⟩, ⟨(some (K.ofNat 64)), none, .mv (.t (K.ofNat 67))⟩, ⟨(some (K.ofNat 68)), none, .ext (.t (K.ofNat 64)) 0⟩, ⟨(some (K.ofNat 69)), none, .ext (.t (K.ofNat 64)) 1⟩, ⟨(some (K.ofNat 17)), none, .as (.t (K.ofNat 68))⟩, ⟨(some (K.ofNat 18)), none, .as (.t (K.ofNat 69))⟩]
noncomputable def f3_r11 : List EOper := [⟨(some (K.ofNat 70)), none, .mv (.t (K.ofNat 6))⟩, ⟨(some (K.ofNat 71)), none, .bin .eql (.t (K.ofNat 70)) (.c (.i .i64 (.ofNat 0)))⟩]
noncomputable def f3_r12 : List EOper := [⟨(some (K.ofNat 72)), none, .mv (.t (K.ofNat 8))⟩, ⟨(some (K.ofNat 73)), none, .bin .eql (.t (K.ofNat 72)) (.c (.i .i64 (.ofNat 0)))⟩, ⟨(some (K.ofNat 74)), none, .mv (.t (K.ofNat 73))⟩, ⟨(some (K.ofNat 75)), (some ((K.ofNat 74), true)), .mv (.t (K.ofNat 10))⟩, ⟨(some (K.ofNat 76)), (some ((K.ofNat 74), true)), .bin .eql (.t (K.ofNat 75)) (.c (.i .i64 (.ofNat 0)))⟩, ⟨(some (K.ofNat 77)), none, .pick (.t (K.ofNat 74)) (.t (K.ofNat 76)) (.c (.b false))⟩, ⟨(some (K.ofNat 78)), none, .mv (.t (K.ofNat 77))⟩, ⟨(some (K.ofNat 79)), (some ((K.ofNat 78), true)), .mv (.t (K.ofNat 12))⟩, ⟨(some (K.ofNat 80)), (some ((K.ofNat 78), true)), .bin .eql (.t (K.ofNat 79)) (.c (.i .i64 (.ofNat 0)))⟩, ⟨(some (K.ofNat 81)), none, .pick (.t (K.ofNat 78)) (.t (K.ofNat 80)) (.c (.b false))⟩, ⟨(some (K.ofNat 82)), none, .mv (.t (K.ofNat 81))⟩, ⟨(some (K.ofNat 83)), (some ((K.ofNat 82), true)), .mv (.t (K.ofNat 14))⟩, ⟨(some (K.ofNat 84)), (some ((K.ofNat 82), true)), .bin .eql (.t (K.ofNat 83)) (.c (.i .i64 (.ofNat 0)))⟩, ⟨(some (K.ofNat 85)), none, .pick (.t (K.ofNat 82)) (.t (K.ofNat 84)) (.c (.b false))⟩, ⟨(some (K.ofNat 86)), none, .mv (.t (K.ofNat 85))⟩, ⟨(some (K.ofNat 87)), (some ((K.ofNat 86), true)), .mv (.t (K.ofNat 16))⟩, ⟨(some (K.ofNat 88)), (some ((K.ofNat 86), true)), .bin .eql (.t (K.ofNat 87)) (.c (.i .i64 (.ofNat 0)))⟩, ⟨(some (K.ofNat 89)), none, .pick (.t (K.ofNat 86)) (.t (K.ofNat 88)) (.c (.b false))⟩, ⟨(some (K.ofNat 90)), none, .mv (.t (K.ofNat 89))⟩, ⟨(some (K.ofNat 91)), (some ((K.ofNat 90), true)), .mv (.t (K.ofNat 18))⟩, ⟨(some (K.ofNat 92)), (some ((K.ofNat 90), true)), .bin .eql (.t (K.ofNat 91)) (.c (.i .i64 (.ofNat 0)))⟩, ⟨(some (K.ofNat 93)), none, .pick (.t (K.ofNat 90)) (.t (K.ofNat 92)) (.c (.b false))⟩, ⟨(some (K.ofNat 94)), none, .mv (.t (K.ofNat 93))⟩, ⟨(some (K.ofNat 95)), (some ((K.ofNat 94), true)), .call (.c (.fn (K.ofNat 22) [])) []⟩, ⟨(some (K.ofNat 96)), none, .pick (.t (K.ofNat 94)) (.t (K.ofNat 95)) (.c (.b false))⟩, ⟨(some (K.ofNat 4)), none, .as (.t (K.ofNat 96))⟩]
noncomputable def f3_r13 : List EOper := [⟨(some (K.ofNat 98)), none, .mv (.t (K.ofNat 0))⟩, ⟨(some (K.ofNat 99)), none, .mv (.t (K.ofNat 5))⟩, ⟨(some (K.ofNat 100)), none, .call (.c (.fn (K.ofNat 23) [])) [(.t (K.ofNat 98)), (.t (K.ofNat 99))]⟩, ⟨(some (K.ofNat 97)), none, .mv (.t (K.ofNat 100))⟩, ⟨(some (K.ofNat 101)), none, .ext (.t (K.ofNat 97)) 0⟩, ⟨(some (K.ofNat 102)), none, .ext (.t (K.ofNat 97)) 1⟩, ⟨(some (K.ofNat 103)), none, .ext (.t (K.ofNat 97)) 2⟩, ⟨(some (K.ofNat 19)), none, .as (.t (K.ofNat 101))⟩, ⟨(some (K.ofNat 20)), none, .as (.t (K.ofNat 102))⟩, ⟨(some (K.ofNat 21)), none, .as (.t (K.ofNat 103))⟩]
noncomputable def f3_r14 : List EOper := [⟨(some (K.ofNat 105)), none, .mv (.t (K.ofNat 0))⟩, ⟨(some (K.ofNat 106)), none, .mv (.t (K.ofNat 5))⟩, ⟨(some (K.ofNat 107)), none, .call (.c (.fn (K.ofNat 24) [])) [(.t (K.ofNat 105)), (.t (K.ofNat 106)), (.c .sn)]⟩, ⟨(some (K.ofNat 104)), none, .mv (.t (K.ofNat 107))⟩, ⟨(some (K.ofNat 108)), none, .ext (.t (K.ofNat 104)) 0⟩, ⟨(some (K.ofNat 109)), none, .ext (.t (K.ofNat 104)) 1⟩, ⟨(some (K.ofNat 22)), none, .as (.t (K.ofNat 108))⟩, ⟨(some (K.ofNat 23)), none, .as (.t (K.ofNat 109))⟩]
noncomputable def f3_r15 : List EOper := [⟨(some (K.ofNat 110)), none, .mv (.t (K.ofNat 8))⟩, ⟨(some (K.ofNat 111)), none, .mv (.t (K.ofNat 6))⟩, ⟨(some (K.ofNat 112)), none, .bin .eql (.t (K.ofNat 110)) (.t (K.ofNat 111))⟩, ⟨(some (K.ofNat 113)), none, .mv (.t (K.ofNat 112))⟩, ⟨(some (K.ofNat 114)), (some ((K.ofNat 113), true)), .mv (.t (K.ofNat 10))⟩, ⟨(some (K.ofNat 115)), (some ((K.ofNat 113), true)), .mv (.t (K.ofNat 6))⟩, ⟨(some (K.ofNat 116)), (some ((K.ofNat 113), true)), .bin .eql (.t (K.ofNat 114)) (.t (K.ofNat 115))⟩, ⟨(some (K.ofNat 117)), none, .pick (.t (K.ofNat 113)) (.t (K.ofNat 116)) (.c (.b false))⟩, ⟨(some (K.ofNat 118)), none, .mv (.t (K.ofNat 117))⟩, ⟨(some (K.ofNat 119)), (some ((K.ofNat 118), true)), .mv (.t (K.ofNat 21))⟩, ⟨(some (K.ofNat 120)), (some ((K.ofNat 118), true)), .mv (.t (K.ofNat 6))⟩, ⟨(some (K.ofNat 121)), (some ((K.ofNat 118), true)), .bin .eql (.t (K.ofNat 119)) (.t (K.ofNat 120))⟩, ⟨(some (K.ofNat 122)), none, .pick (.t (K.ofNat 118)) (.t (K.ofNat 121)) (.c (.b false))⟩, ⟨(some (K.ofNat 123)), none, .mv (.t (K.ofNat 122))⟩, ⟨(some (K.ofNat 124)), (some ((K.ofNat 123), true)), .mv (.t (K.ofNat 23))⟩, ⟨(some (K.ofNat 125)), (some ((K.ofNat 123), true)), .mv (.t (K.ofNat 6))⟩, ⟨(some (K.ofNat 126)), (some ((K.ofNat 123), true)), .bin .eql (.t (K.ofNat 124)) (.t (K.ofNat 125))⟩, ⟨(some (K.ofNat 127)), none, .pick (.t (K.ofNat 123)) (.t (K.ofNat 126)) (.c (.b false))⟩, ⟨(some (K.ofNat 128)), none, .mv (.t (K.ofNat 127))⟩, ⟨(some (K.ofNat 129)), (some ((K.ofNat 128), true)), .mv (.t (K.ofNat 12))⟩, ⟨(some (K.ofNat 130)), (some ((K.ofNat 128), true)), .mv (.t (K.ofNat 6))⟩, ⟨(some (K.ofNat 131)), (some ((K.ofNat 128), true)), .bin .eql (.t (K.ofNat 129)) (.t (K.ofNat 130))⟩, ⟨(some (K.ofNat 132)), none, .pick (.t (K.ofNat 128)) (.t (K.ofNat 131)) (.c (.b false))⟩, ⟨(some (K.ofNat 133)), none, .mv (.t (K.ofNat 132))⟩, ⟨(some (K.ofNat 134)), (some ((K.ofNat 133), true)), .mv (.t (K.ofNat 14))⟩, ⟨(some (K.ofNat 135)), (some ((K.ofNat 133), true)), .mv (.t (K.ofNat 6))⟩, ⟨(some (K.ofNat 136)), (some ((K.ofNat 133), true)), .bin .eql (.t (K.ofNat 134)) (.t (K.ofNat 135))⟩, ⟨(some (K.ofNat 137)), none, .pick (.t (K.ofNat 133)) (.t (K.ofNat 136)) (.c (.b false))⟩, ⟨(some (K.ofNat 138)), none, .mv (.t (K.ofNat 137))⟩, ⟨(some (K.ofNat 139)), (some ((K.ofNat 138), true)), .mv (.t (K.ofNat 16))⟩, ⟨(some (K.ofNat 140)), (some ((K.ofNat 138), true)), .mv (.t (K.ofNat 6))⟩, ⟨(some (K.ofNat 141)), (some ((K.ofNat 138), true)), .bin .eql (.t (K.ofNat 139)) (.t (K.ofNat 140))⟩, ⟨(some (K.ofNat 142)), none, .pick (.t (K.ofNat 138)) (.t (K.ofNat 141)) (.c (.b false))⟩, ⟨(some (K.ofNat 143)), none, .mv (.t (K.ofNat 142))⟩, ⟨(some (K.ofNat 144)), (some ((K.ofNat 143), true)), .mv (.t (K.ofNat 18))⟩, ⟨(some (K.ofNat 145)), (some ((K.ofNat 143), true)), .mv (.t (K.ofNat 6))⟩, ⟨(some (K.ofNat 146)), (some ((K.ofNat 143), true)), .bin .eql (.t (K.ofNat 144)) (.t (K.ofNat 145))⟩, ⟨(some (K.ofNat 147)), none, .pick (.t (K.ofNat 143)) (.t (K.ofNat 146)) (.c (.b false))⟩, ⟨(some (K.ofNat 148)), none, .mv (.t (K.ofNat 147))⟩, ⟨(some (K.ofNat 149)), (some ((K.ofNat 148), true)), .mv (.t (K.ofNat 13))⟩, ⟨(some (K.ofNat 150)), (some ((K.ofNat 148), true)), .not (.t (K.ofNat 149))⟩, ⟨(some (K.ofNat 151)), none, .pick (.t (K.ofNat 148)) (.t (K.ofNat 150)) (.c (.b false))⟩, ⟨(some (K.ofNat 152)), none, .mv (.t (K.ofNat 151))⟩, ⟨(some (K.ofNat 153)), (some ((K.ofNat 152), true)), .mv (.t (K.ofNat 15))⟩, ⟨(some (K.ofNat 154)), (some ((K.ofNat 152), true)), .not (.t (K.ofNat 153))⟩, ⟨(some (K.ofNat 155)), none, .pick (.t (K.ofNat 152)) (.t (K.ofNat 154)) (.c (.b false))⟩, ⟨(some (K.ofNat 156)), none, .mv (.t (K.ofNat 155))⟩, ⟨(some (K.ofNat 157)), (some ((K.ofNat 156), true)), .mv (.t (K.ofNat 7))⟩, ⟨(some (K.ofNat 158)), (some ((K.ofNat 156), true)), .mv (.t (K.ofNat 9))⟩, ⟨(some (K.ofNat 159)), (some ((K.ofNat 156), true)), .len (.t (K.ofNat 158))⟩, ⟨(some (K.ofNat 160)), (some ((K.ofNat 156), true)), .bin .add (.t (K.ofNat 157)) (.t (K.ofNat 159))⟩, ⟨(some (K.ofNat 161)), (some ((K.ofNat 156), true)), .mv (.t (K.ofNat 19))⟩, ⟨(some (K.ofNat 162)), (some ((K.ofNat 156), true)), .bin .add (.t (K.ofNat 160)) (.t (K.ofNat 161))⟩, ⟨(some (K.ofNat 163)), (some ((K.ofNat 156), true)), .mv (.t (K.ofNat 20))⟩, ⟨(some (K.ofNat 164)), (some ((K.ofNat 156), true)), .len (.t (K.ofNat 163))⟩, ⟨(some (K.ofNat 165)), (some ((K.ofNat 156), true)), .bin .add (.t (K.ofNat 162)) (.t (K.ofNat 164))⟩, ⟨(some (K.ofNat 166)), (some ((K.ofNat 156), true)), .mv (.t (K.ofNat 11))⟩, ⟨(some (K.ofNat 167)), (some ((K.ofNat 156), true)), .len (.t (K.ofNat 166))⟩, ⟨(some (K.ofNat 168)), (some ((K.ofNat 156), true)), .bin .add (.t (K.ofNat 165)) (.t (K.ofNat 167))⟩, ⟨(some (K.ofNat 169)), (some ((K.ofNat 156), true)), .mv (.t (K.ofNat 17))⟩, ⟨(some (K.ofNat 170)), (some ((K.ofNat 156), true)), .len (.t (K.ofNat 169))⟩, ⟨(some (K.ofNat 171)), (some ((K.ofNat 156), true)), .bin .add (.t (K.ofNat 168)) (.t (K.ofNat 170))⟩, ⟨(some (K.ofNat 172)), (some ((K.ofNat 156), true)), .mv (.t (K.ofNat 22))⟩, ⟨(some (K.ofNat 173)), (some ((K.ofNat 156), true)), .len (.t (K.ofNat 172))⟩, ⟨(some (K.ofNat 174)), (some ((K.ofNat 156), true)), .bin .add (.t (K.ofNat 171)) (.t (K.ofNat 173))⟩, ⟨(some (K.ofNat 175)), (some ((K.ofNat 156), true)), .bin .eql (.t (K.ofNat 174)) (.c (.i .i64 (.ofNat 0)))⟩, ⟨(some (K.ofNat 176)), none, .pick (.t (K.ofNat 156)) (.t (K.ofNat 175)) (.c (.b false))⟩, ⟨(some (K.ofNat 177)), none, .mv (.t (K.ofNat 176))⟩, ⟨(some (K.ofNat 178)), (some ((K.ofNat 177), true)), .call (.c (.fn (K.ofNat 22) [])) []⟩, ⟨(some (K.ofNat 179)), none, .pick (.t (K.ofNat 177)) (.t (K.ofNat 178)) (.c (.b false))⟩, ⟨(some (K.ofNat 4)), none, .as (.t (K.ofNat 179))⟩]
noncomputable def f3_c : EC := (.seq (.reg f3_r0) (.seq (.reg f3_r1) (.seq (.reg f3_r2) (.seq (.seq (.reg f3_r3) (.cond (.t (K.ofNat 33)) (.seq (.reg f3_r4) .ret) .skip)) (.seq (.reg f3_r5) (.seq (.reg f3_r6) (.seq (.reg f3_r7) (.seq (.reg f3_r8) (.seq (.reg f3_r9) (.seq (.reg f3_r10) (.seq (.seq (.reg f3_r11) (.cond (.t (K.ofNat 71)) (.seq (.reg f3_r12) .ret) .skip)) (.seq (.reg f3_r13) (.seq (.reg f3_r14) (.seq (.reg f3_r15) .ret))))))))))))))
noncomputable def f3 : EF := ⟨180, [.tmp (K.ofNat 4)], f3_c, none⟩
theorem f3_rs : f3.rs = [.tmp (K.ofNat 4)] := of_eq_true (eq_self _)
noncomputable def f8_r0 : List EOper := [⟨(some (K.ofNat 6)), none, .as (.c (.b false))⟩]
noncomputable def f8_r1 : List EOper := [⟨(some (K.ofNat 18)), none, .mv (.t (K.ofNat 1))⟩, ⟨(some (K.ofNat 19)), none, .call (.c (.fn (K.ofNat 13) [])) [(.t (K.ofNat 18)), (.c (.i .i64 (.ofNat 2))), (.c (.i .i64 (.ofNat 6)))]⟩, ⟨(some (K.ofNat 7)), none, .as (.t (K.ofNat 19))⟩]
noncomputable def f8_r2 : List EOper := [⟨(some (K.ofNat 20)), none, .mv (.t (K.ofNat 7))⟩, ⟨(some (K.ofNat 21)), none, .len (.t (K.ofNat 20))⟩, ⟨(some (K.ofNat 22)), none, .bin .lss (.t (K.ofNat 21)) (.c (.i .i64 (.ofNat 2)))⟩]
noncomputable def f8_r3 : List EOper := [⟨(some (K.ofNat 23)), none, .mv (.t (K.ofNat 7))⟩, ⟨(some (K.ofNat 24)), none, .bslice 1 1 [.sn] [(0, 1, (.c .sn))]⟩, ⟨(some (K.ofNat 25)), none, .app 1 (.t (K.ofNat 23)) (.t (K.ofNat 24))⟩, ⟨(some (K.ofNat 7)), none, .as (.t (K.ofNat 25))⟩]
noncomputable def f8_l0 : EC := (.seq (.seq (.reg f8_r2) (.cond (.t (K.ofNat 22)) .skip (.exit 0))) (.block 1 (.reg f8_r3)))
noncomputable def f8_r4 : List Stage := [⟨[⟨(some (K.ofNat 26)), none, .mv (.t (K.ofNat 7))⟩, ⟨(some (K.ofNat 27)), none, .iads 1 (.t (K.ofNat 26)) (.c (.i .i64 (.ofNat 0)))⟩, ⟨(some (K.ofNat 28)), none, .ld (.t (K.ofNat 27))⟩, ⟨(some (K.ofNat 29)), none, .mv (.t (K.ofNat 7))⟩, ⟨(some (K.ofNat 30)), none, .iads 1 (.t (K.ofNat 29)) (.c (.i .i64 (.ofNat 1)))⟩, ⟨(some (K.ofNat 31)), none, .ld (.t (K.ofNat 30))⟩], [], (some ⟨(some (K.ofNat 8)), none, .as (.t (K.ofNat 28))⟩), []⟩, ⟨[], [⟨(some (K.ofNat 29)), none, .mv (.t (K.ofNat 7))⟩, ⟨(some (K.ofNat 30)), none, .iads 1 (.t (K.ofNat 29)) (.c (.i .i64 (.ofNat 1)))⟩, ⟨(some (K.ofNat 31)), none, .ld (.t (K.ofNat 30))⟩], (some ⟨(some (K.ofNat 9)), none, .as (.t (K.ofNat 31))⟩), []⟩, ⟨[], [], none, []⟩]
noncomputable def f8_r5 : List EOper := [⟨(some (K.ofNat 10)), none, .as (.c (.i .i64 (.ofNat 0)))⟩]
noncomputable def f8_r6 : List EOper := [⟨(some (K.ofNat 32)), none, .mv (.t (K.ofNat 10))⟩, ⟨(some (K.ofNat 33)), none, .bin .lss (.t (K.ofNat 32)) (.c (.i .i64 (.ofNat 2)))⟩]
noncomputable def f8_r7 : List EOper := [⟨(some (K.ofNat 37)), none, .mv (.t (K.ofNat 0))⟩, ⟨(some (K.ofNat 38)), none, .mv (.t (K.ofNat 8))⟩, ⟨(some (K.ofNat 39)), none, .mv (.t (K.ofNat 9))⟩, ⟨(some (K.ofNat 40)), none, .call (.c (.fn (K.ofNat 44) [])) [(.t (K.ofNat 37)), (.t (K.ofNat 38)), (.t (K.ofNat 39))]⟩, ⟨(some (K.ofNat 36)), none, .mv (.t (K.ofNat 40))⟩, ⟨(some (K.ofNat 41)), none, .ext (.t (K.ofNat 36)) 0⟩, ⟨(some (K.ofNat 42)), none, .ext (.t (K.ofNat 36)) 1⟩, ⟨(some (K.ofNat 11)), none, .as (.t (K.ofNat 41))⟩, ⟨(some (K.ofNat 12)), none, .as (.t (K.ofNat 42))⟩]
noncomputable def f8_r8 : List EOper := [⟨(some (K.ofNat 55)), none, .mv (.t (K.ofNat 0))⟩, ⟨(some (K.ofNat 56)), none, .call (.c (.fn (K.ofNat 37) [])) [(.t (K.ofNat 55))]⟩, ⟨(some (K.ofNat 57)), none, .not (.t (K.ofNat 56))⟩, ⟨(some (K.ofNat 54)), none, .as (.t (K.ofNat 57))⟩]
noncomputable def f8_r9 : List EOper := [⟨(some (K.ofNat 58)), none, .mv (.t (K.ofNat 12))⟩, ⟨(some (K.ofNat 59)), none, .bin .neq (.t (K.ofNat 58)) (.c (.i .i64 (.ofNat 1)))⟩, ⟨(some (K.ofNat 60)), none, .mv (.t (K.ofNat 59))⟩, ⟨(some (K.ofNat 61)), (some ((K.ofNat 60), false)), .mv (.t (K.ofNat 11))⟩, ⟨(some (K.ofNat 62)), (some ((K.ofNat 60), false)), .len (.t (K.ofNat 61))⟩, ⟨(some (K.ofNat 63)), (some ((K.ofNat 60), false)), .bin .neq (.t (K.ofNat 62)) (.c (.i .i64 (.ofNat 0)))⟩, ⟨(some (K.ofNat 64)), none, .pick (.t (K.ofNat 60)) (.c (.b true)) (.t (K.ofNat 63))⟩]
noncomputable def f8_r10 : List EOper := [⟨(some (K.ofNat 6)), none, .as (.c (.b false))⟩]
noncomputable def f8_r11 : List EOper := [⟨(some (K.ofNat 66)), none, .mv (.t (K.ofNat 0))⟩, ⟨(some (K.ofNat 67)), none, .mv (.t (K.ofNat 8))⟩, ⟨(some (K.ofNat 68)), none, .call (.c (.fn (K.ofNat 45) [])) [(.t (K.ofNat 66)), (.t (K.ofNat 67))]⟩, ⟨(some (K.ofNat 69)), none, .not (.t (K.ofNat 68))⟩, ⟨(some (K.ofNat 70)), none, .mv (.t (K.ofNat 69))⟩, ⟨(some (K.ofNat 71)), (some ((K.ofNat 70), false)), .mv (.t (K.ofNat 0))⟩, ⟨(some (K.ofNat 72)), (some ((K.ofNat 70), false)), .mv (.t (K.ofNat 9))⟩, ⟨(some (K.ofNat 73)), (some ((K.ofNat 70), false)), .call (.c (.fn (K.ofNat 45) [])) [(.t (K.ofNat 71)), (.t (K.ofNat 72))]⟩, ⟨(some (K.ofNat 74)), (some ((K.ofNat 70), false)), .not (.t (K.ofNat 73))⟩, ⟨(some (K.ofNat 75)), none, .pick (.t (K.ofNat 70)) (.c (.b true)) (.t (K.ofNat 74))⟩, ⟨(some (K.ofNat 65)), none, .as (.t (K.ofNat 75))⟩]
noncomputable def f8_r12 : List EOper := [⟨(some (K.ofNat 76)), none, .mv (.t (K.ofNat 12))⟩, ⟨(some (K.ofNat 77)), none, .bin .neq (.t (K.ofNat 76)) (.c (.i .i64 (.ofNat 40)))⟩, ⟨(some (K.ofNat 78)), none, .mv (.t (K.ofNat 77))⟩, ⟨(some (K.ofNat 79)), (some ((K.ofNat 78), false)), .mv (.t (K.ofNat 11))⟩, ⟨(some (K.ofNat 80)), (some ((K.ofNat 78), false)), .len (.t (K.ofNat 79))⟩, ⟨(some (K.ofNat 81)), (some ((K.ofNat 78), false)), .bin .neq (.t (K.ofNat 80)) (.c (.i .i64 (.ofNat 0)))⟩, ⟨(some (K.ofNat 82)), none, .pick (.t (K.ofNat 78)) (.c (.b true)) (.t (K.ofNat 81))⟩]
noncomputable def f8_r13 : List EOper := [⟨(some (K.ofNat 6)), none, .as (.c (.b false))⟩]
noncomputable def f8_r14 : List EOper := [⟨(some (K.ofNat 43)), none, .mv (.t (K.ofNat 12))⟩, ⟨(some (K.ofNat 44)), none, .bin .neq (.t (K.ofNat 43)) (.c (.i .i64 (.ofNat 0)))⟩, ⟨(some (K.ofNat 45)), none, .mv (.t (K.ofNat 44))⟩, ⟨(some (K.ofNat 46)), (some ((K.ofNat 45), false)), .mv (.t (K.ofNat 11))⟩, ⟨(some (K.ofNat 47)), (some ((K.ofNat 45), false)), .mv (.t (K.ofNat 0))⟩, ⟨(some (K.ofNat 48)), (some ((K.ofNat 45), false)), .mv (.t (K.ofNat 8))⟩, ⟨(some (K.ofNat 49)), (some ((K.ofNat 45), false)), .mv (.t (K.ofNat 9))⟩, ⟨(some (K.ofNat 50)), (some ((K.ofNat 45), false)), .call (.c (.fn (K.ofNat 46) [])) [(.t (K.ofNat 47)), (.t (K.ofNat 48)), (.t (K.ofNat 49))]⟩, ⟨(some (K.ofNat 51)), (some ((K.ofNat 45), false)), .call (.c (.fn (K.ofNat 28) [])) [(.t (K.ofNat 46)), (.t (K.ofNat 50))]⟩, ⟨(some (K.ofNat 52)), (some ((K.ofNat 45), false)), .not (.t (K.ofNat 51))⟩, ⟨(some (K.ofNat 53)), none, .pick (.t (K.ofNat 45)) (.c (.b true)) (.t (K.ofNat 52))⟩]
noncomputable def f8_r15 : List EOper := [⟨(some (K.ofNat 6)), none, .as (.c (.b false))⟩]
noncomputable def f8_r16 : List EOper := [⟨(some (K.ofNat 84)), none, .mv (.t (K.ofNat 0))⟩, ⟨(some (K.ofNat 85)), none, .mv (.t (K.ofNat 2))⟩, ⟨(some (K.ofNat 86)), none, .call (.c (.fn (K.ofNat 25) [])) [(.t (K.ofNat 84)), (.t (K.ofNat 85))]⟩, ⟨(some (K.ofNat 83)), none, .mv (.t (K.ofNat 86))⟩, ⟨(some (K.ofNat 87)), none, .ext (.t (K.ofNat 83)) 0⟩, ⟨(some (K.ofNat 88)), none, .ext (.t (K.ofNat 83)) 1⟩, ⟨(some (K.ofNat 13)), none, .as (.t (K.ofNat 87))⟩, ⟨(some (K.ofNat 14)), none, .as (.t (K.ofNat 88))⟩]
noncomputable def f8_r17 : List Stage := [⟨[⟨(some (K.ofNat 89)), none, .mv (.t (K.ofNat 13))⟩, ⟨(some (K.ofNat 90)), none, .mv (.t (K.ofNat 14))⟩, ⟨(some (K.ofNat 91)), none, .iads 1 (.t (K.ofNat 90)) (.c (.i .i64 (.ofNat 0)))⟩, ⟨(some (K.ofNat 92)), none, .ld (.t (K.ofNat 91))⟩], [], (some ⟨(some (K.ofNat 0)), none, .as (.t (K.ofNat 89))⟩), []⟩, ⟨[], [⟨(some (K.ofNat 90)), none, .mv (.t (K.ofNat 14))⟩, ⟨(some (K.ofNat 91)), none, .iads 1 (.t (K.ofNat 90)) (.c (.i .i64 (.ofNat 0)))⟩, ⟨(some (K.ofNat 92)), none, .ld (.t (K.ofNat 91))⟩], (some ⟨(some (K.ofNat 8)), none, .as (.t (K.ofNat 92))⟩), []⟩, ⟨[], [], none, []⟩]
noncomputable def f8_r18 : List EOper := [⟨(some (K.ofNat 15)), none, .as (.c .sn)⟩]
noncomputable def f8_r19 : List EOper := [⟨(some (K.ofNat 93)), none, .mv (.t (K.ofNat 13))⟩, ⟨(some (K.ofNat 94)), none, .mv (.t (K.ofNat 2))⟩, ⟨(some (K.ofNat 95)), none, .call (.c (.fn (K.ofNat 33) [])) [(.t (K.ofNat 93)), (.t (K.ofNat 94))]⟩, ⟨(some (K.ofNat 16)), none, .as (.t (K.ofNat 95))⟩]
noncomputable def f8_r20 : List EOper := [⟨(some (K.ofNat 17)), none, .as (.c (.i .i64 (.ofNat 0)))⟩]
noncomputable def f8_r21 : List EOper := [⟨(some (K.ofNat 96)), none, .mv (.t (K.ofNat 17))⟩, ⟨(some (K.ofNat 97)), none, .bin .add (.t (K.ofNat 96)) (.c (.i .i64 (.ofNat 1)))⟩, ⟨(some (K.ofNat 98)), none, .mv (.t (K.ofNat 13))⟩, ⟨(some (K.ofNat 99)), none, .bin .lss (.t (K.ofNat 97)) (.t (K.ofNat 98))⟩]
noncomputable def f8_r22 : List Stage := [⟨[⟨(some (K.ofNat 102)), none, .mv (.t (K.ofNat 15))⟩, ⟨(some (K.ofNat 103)), none, .mv (.t (K.ofNat 16))⟩, ⟨(some (K.ofNat 104)), none, .mv (.t (K.ofNat 17))⟩, ⟨(some (K.ofNat 105)), none, .iads 1 (.t (K.ofNat 103)) (.t (K.ofNat 104))⟩, ⟨(some (K.ofNat 106)), none, .ld (.t (K.ofNat 105))⟩, ⟨(some (K.ofNat 107)), none, .mv (.t (K.ofNat 16))⟩, ⟨(some (K.ofNat 108)), none, .mv (.t (K.ofNat 17))⟩, ⟨(some (K.ofNat 109)), none, .bin .add (.t (K.ofNat 108)) (.c (.i .i64 (.ofNat 1)))⟩, ⟨(some (K.ofNat 110)), none, .iads 1 (.t (K.ofNat 107)) (.t (K.ofNat 109))⟩, ⟨(some (K.ofNat 111)), none, .ld (.t (K.ofNat 110))⟩, ⟨(some (K.ofNat 112)), none, .build [(.i .i64 (.ofNat 0)), (.i .i64 (.ofNat 0))] [(0, 1, (.t (K.ofNat 106))), (1, 1, (.t (K.ofNat 111)))]⟩, ⟨(some (K.ofNat 113)), none, .bslice 1 2 [(.i .i64 (.ofNat 0)), (.i .i64 (.ofNat 0))] [(0, 2, (.t (K.ofNat 112)))]⟩], [], (some ⟨(some (K.ofNat 114)), none, .app 2 (.t (K.ofNat 102)) (.t (K.ofNat 113))⟩), [(K.ofNat 113)]⟩, ⟨[], [], (some ⟨(some (K.ofNat 15)), none, .as (.t (K.ofNat 114))⟩), []⟩, ⟨[], [], none, []⟩]
noncomputable def f8_r23 : List EOper := [⟨(some (K.ofNat 100)), none, .mv (.t (K.ofNat 17))⟩, ⟨(some (K.ofNat 101)), none, .bin .add (.t (K.ofNat 100)) (.c (.i .i64 (.ofNat 2)))⟩, ⟨(some (K.ofNat 17)), none, .as (.t (K.ofNat 101))⟩]
noncomputable def f8_l1 : EC := (.seq (.seq (.reg f8_r21) (.cond (.t (K.ofNat 99)) .skip (.exit 5))) (.seq (.block 6 (.draw f8_r22)) (.reg f8_r23)))
noncomputable def f8_r24 : List EOper := [⟨(some (K.ofNat 115)), none, .mv (.t (K.ofNat 15))⟩, ⟨(some (K.ofNat 9)), none, .as (.t (K.ofNat 115))⟩]
noncomputable def f8_r25 : List EOper := [⟨(some (K.ofNat 34)), none, .mv (.t (K.ofNat 10))⟩, ⟨(some (K.ofNat 35)), none, .bin .add (.t (K.ofNat 34)) (.c (.i .i64 (.ofNat 1)))⟩, ⟨(some (K.ofNat 10)), none, .as (.t (K.ofNat 35))⟩]
noncomputable def f8_l2 : EC := (.seq (.seq (.reg f8_r6) (.cond (.t (K.ofNat 33)) .skip (.exit 2))) (.seq (.block 3 (.seq (.reg f8_r7) (.seq (.block 4 (.seq (.reg f8_r8) (.cond (.t (K.ofNat 54)) (.seq (.reg f8_r9) (.cond (.t (K.ofNat 64)) (.seq (.reg f8_r10) .ret) .skip)) (.seq (.reg f8_r11) (.cond (.t (K.ofNat 65)) (.seq (.reg f8_r12) (.cond (.t (K.ofNat 82)) (.seq (.reg f8_r13) .ret) .skip)) (.seq (.reg f8_r14) (.cond (.t (K.ofNat 53)) (.seq (.reg f8_r15) .ret) .skip))))))) (.seq (.reg f8_r16) (.seq (.draw f8_r17) (.seq (.reg f8_r18) (.seq (.reg f8_r19) (.seq (.seq (.reg f8_r20) (.block 5 (.loop f8_l1))) (.reg f8_r24))))))))) (.reg f8_r25)))
noncomputable def f8_r26 : List EOper := [⟨(some (K.ofNat 116)), none, .call (.c (.fn (K.ofNat 22) [])) []⟩, ⟨(some (K.ofNat 6)), none, .as (.t (K.ofNat 116))⟩]
noncomputable def f8_c : EC := (.seq (.reg f8_r0) (.seq (.reg f8_r1) (.seq (.block 0 (.loop f8_l0)) (.seq (.draw f8_r4) (.seq (.seq (.reg f8_r5) (.block 2 (.loop f8_l2))) (.seq (.reg f8_r26) .ret))))))
noncomputable def f8 : EF := ⟨117, [.tmp (K.ofNat 6)], f8_c, none⟩
theorem InArg.le2 {W : World} {val : Value} {len : Nat} {zs : List Int} (a : InArg 2 W val len zs) : len * 2 ≤ zs.length := by
  rcases a with a | ⟨_, _, rfl, rfl⟩
  · exact a.le
  · simp
/-- Nested slices that come in, at the call. -/
theorem nrp_of {W : World} {val : Value} {h : H} {v : V} {us : List V} {len : Nat} {as : List NA} (s : Sr vE h v us) (l : us.length = len) (t : ∀ i (h1 : i < us.length) (h2 : i < as.length), InRead 2 h us[i] as[i]) (k : len ≤ as.length) (ha : NArg 2 W val len as) : Nrp h v us ((as.take len).map fun a => pairsOf a.2.1 a.2.2) := by
  refine ⟨by simp; omega, s, fun i h1 h2 => ?_⟩
  have h3 : i < as.length := by omega
  have hin : InArg 2 W as[i].1 as[i].2.1 as[i].2.2 := by
    rcases ha with ⟨_, _, rfl⟩ | ⟨_, _, _, _, _, _, _, _, h4⟩
    · simp at h3
    · exact h4 _ (List.getElem_mem h3)
  have := t i h1 h3
  simp only [List.getElem_map, List.getElem_take]
  exact Srk.srp this hin.le2
structure CallsCk (fs : T EF) : Prop extends CallsFw fs, CallsPf fs, CallsRc fs, CallsBk fs where
  c13 : fs.get (K.ofNat 13) = some f13
  c15 : fs.get (K.ofNat 15) = some f15
  c20 : fs.get (K.ofNat 20) = some f20
  c23 : fs.get (K.ofNat 23) = some f23
  c24 : fs.get (K.ofNat 24) = some f24
  c56 : fs.get (K.ofNat 56) = some f56
  aw : ∀ h P, CallP fs (.fn (K.ofNat 22) []) [] h P = P (.b true) h
section
variable {fs : T EF} {h : H} {v : V} {us : List V} {Ls : List (List (Int × Int))}
theorem fewL_len {g m : Nat} : (fewL Ls g m).length ≤ m := by unfold fewL; rw [List.length_map, List.length_take]; omega
theorem fewL_row {g m : Nat} : ∀ l ∈ fewL Ls g m, l.length ≤ g := fun l hl => by
  obtain ⟨l', _, rfl⟩ := List.mem_map.1 hl
  rw [List.length_take]; omega
set_option maxRecDepth 100000 in
theorem f3_ret {n : Int} (k : CallsCk fs) (hv : Nrp h v us Ls) (hc : HC h) : Ret fs f3 [.i .i64 n, v] h fun r h' => r = .b true ∧ Grow h.nx.nat h h' := by
  have aw := k.aw
  have nel : ∀ x : Int, decide (x ≠ x) = false := fun x => by simp
  have eqs : ∀ x : Int, decide (x = x) = true := fun x => by simp
  apply ret_of rfl
  show W fs none f3_c _ _ _
  unfold f3_c
  simp (disch := omega) only [f3_r0, f3_r1, w_reg, w_seq, seqK_n, x_nil, x_mv, x_as, x_call, ev_t, ev_c, evs_nil, evs_cons, getV_some, putD_some, frame_2, of6, of10, getK_set, Nat.reduceEqDiff, ↓reduceIte]
  refine (callP_0 (ef := f13) k.c13 rfl (f13_ret (m := 10) (g := 6) hv (by omega) (by omega) hc)).mono ?_
  rintro c h1 ⟨xs, hR⟩
  have hS := hR.sd.nrp
  have hl10 := fewL_len (Ls := Ls) (g := 6) (m := 10)
  have hrow : ∀ l ∈ fewL Ls 6 10, l.length ≤ 9223372036854775807 := fun l hl => by have := fewL_row l hl; omega
  have hG1 := hR.gr
  clear hR
  generalize fewL Ls 6 10 = Q at *
  have hc1 := hG1.hc hc
  simp (disch := omega) only [f3_r2, w_reg, w_seq, seqK_n, x_nil, x_mv, x_as, x_call, kx, ev_t, ev_c, evs_nil, evs_cons, getV_some, putD_some, getK_set, Nat.reduceEqDiff, ↓reduceIte]
  refine (callP_0 (ef := f14) k.c14 rfl (f14_any (n := n) k.toCallsRc hS (by omega) hrow hc1)).mono ?_
  rintro r h2 ⟨rfl, hG2⟩
  have hc2 := hG2.hc hc1
  have hS2 := hS.grow hc1 hG2
  have hGa := hG1.trans (hG2.low hG1.nx)
  simp (disch := omega) only [f3_r3, w_reg, w_seq, seqK_n, x_nil, x_mv, x_as, x_call, kx, ev_t, ev_c, evs_nil, evs_cons, getV_some, putD_some, getK_set, Nat.reduceEqDiff, ↓reduceIte]
  refine (callP_0 (ef := f15) k.c15 rfl (f15_ret (n := n) k.toCallsCh hS2 hrow hc2)).mono ?_
  rintro r h3 ⟨rfl, hG3⟩
  have hc3 := hG3.hc hc2
  have hS3 := hS2.grow hc2 hG3
  have hGb := hGa.trans (hG3.low hGa.nx)
  simp (disch := omega) only [f3_r5, w_skip, w_reg, w_seq, w_cond, seqK_n, ckB_b, cbB_b, true_and, x_nil, x_mv, x_bin, x_call, kx, rvP_ok, okv_some, ev_t, ev_c, evs_nil, evs_cons, getV_some, putD_some, bin_neq, getK_set, Nat.reduceEqDiff, ↓reduceIte, Bool.false_eq_true, nel]
  by_cases hz : ckZ n Q = 0
  · -- a schedule
    obtain ⟨m, rfl, ho, hsh⟩ : ∃ m : Nat, n = (m : Int) ∧ ok5 (m : Int) ∧ shB m Q = true := by
      by_cases ho : ok5 n
      · obtain ⟨m, rfl⟩ := ok5_nat ho
        refine ⟨m, rfl, ho, ?_⟩
        rw [ckZ_ok ho] at hz
        unfold ckI at hz
        by_cases hb : shB m Q = true
        · exact hb
        · rw [if_neg hb] at hz; cases hz
      · rw [ckZ_no ho] at hz; cases hz
    have hm2 : 2 ≤ m := by unfold ok5 at ho; omega
    rw [hz]
    have e0 : decide ((0 : Int) = 0) = true := rfl
    refine (callP_0 (ef := f16) k.c16 rfl (f16_ret k.toCallsBk ho hS3 hrow hsh hc3)).mono ?_
    rintro r h4 ⟨rfl, hG4⟩
    have hc4 := hG4.hc hc3
    have hS4 := hS3.grow hc3 hG4
    have hGc := hGb.trans (hG4.low hGb.nx)
    simp (disch := omega) only [f3_r6, w_reg, w_seq, seqK_n, x_nil, x_mv, x_as, x_ext, x_call, kx, rvP_ok, okv_some, ev_t, ev_c, evs_nil, evs_cons, getV_some, putD_some, onTup_t, nth0, nth1, getK_set, Nat.reduceEqDiff, ↓reduceIte]
    refine (callP_0 (ef := f17) k.c17 rfl (f17_ret k.toCallsH ho hS4 hrow hsh hc4)).mono ?_
    rintro r h5 ⟨w1, rfl, _, hG5⟩
    have hc5 := hG5.hc hc4
    have hS5 := hS4.grow hc4 hG5
    have hGd := hGc.trans (hG5.low hGc.nx)
    simp (disch := omega) only [f3_r7, w_reg, w_seq, seqK_n, x_nil, x_mv, x_as, x_ext, x_call, kx, rvP_ok, okv_some, ev_t, ev_c, evs_nil, evs_cons, getV_some, putD_some, onTup_t, nth0, nth1, getK_set, Nat.reduceEqDiff, ↓reduceIte]
    refine (callP_0 (ef := f18) k.c18 rfl (f18_ret k.toCallsFw ho hS5 hrow hsh hc5)).mono ?_
    rintro r h6 ⟨w2, xs2, rfl, _, hG6⟩
    have hc6 := hG6.hc hc5
    have hS6 := hS5.grow hc5 hG6
    have hGe := hGd.trans (hG6.low hGd.nx)
    simp (disch := omega) only [f3_r8, w_reg, w_seq, seqK_n, x_nil, x_mv, x_as, x_ext, x_call, kx, rvP_ok, okv_some, ev_t, ev_c, evs_nil, evs_cons, getV_some, putD_some, onTup_t, nth0, nth1, getK_set, Nat.reduceEqDiff, ↓reduceIte]
    refine (callP_0 (ef := f19) k.c19 rfl (f19_ret k.toCallsFw ho hS6 hrow hsh hc6)).mono ?_
    rintro r h7 ⟨rfl, hG7⟩
    have hc7 := hG7.hc hc6
    have hS7 := hS6.grow hc6 hG7
    have hGf := hGe.trans (hG7.low hGe.nx)
    simp (disch := omega) only [f3_r9, w_reg, w_seq, seqK_n, x_nil, x_mv, x_as, x_ext, x_call, kx, rvP_ok, okv_some, ev_t, ev_c, evs_nil, evs_cons, getV_some, putD_some, onTup_t, nth0, nth1, getK_set, Nat.reduceEqDiff, ↓reduceIte]
    refine (callP_0 (ef := f20) k.c20 rfl (f20_ret k.toCallsPf k.toCallsCh k.c56 ho hS7 hrow hsh hc7)).mono ?_
    rintro r h8 ⟨rfl, hG8⟩
    have hc8 := hG8.hc hc7
    have hS8 := hS7.grow hc7 hG8
    have hGg := hGf.trans (hG8.low hGf.nx)
    simp (disch := omega) only [f3_r10, w_reg, w_seq, seqK_n, x_nil, x_mv, x_as, x_ext, x_call, kx, rvP_ok, okv_some, ev_t, ev_c, evs_nil, evs_cons, getV_some, putD_some, onTup_t, nth0, nth1, of0, getK_set, Nat.reduceEqDiff, ↓reduceIte]
    refine (callP_0 (ef := f21) k.c21 rfl (f21_ret (t := 0) k.toCallsO ho hS8 hrow hsh (by omega) hc8)).mono ?_
    rintro r h9 ⟨w3, rfl, _, hG9⟩
    simp (disch := omega) only [f3_r11, f3_r12, f3_rs, w_reg, w_seq, w_cond, w_ret, seqK_n, seqK_r, ckB_b, cbB_b, okG_b, asG_t, true_and, retK_r, x_nil, x_g, x_mv, x_as, x_pick, x_bin, x_ext, x_call, kx, rvP_ok, okv_some, ev_t, ev_c, evs_nil, getV_some, putD_some, bin_eql, pick_b, onTup_t, oGet_s, nth0, nth1, readRs_nil, readRs_t, retV_1, of0, Option.some.injEq, exists_eq_left', getK_set, Nat.reduceEqDiff, ↓reduceIte, decide_eq_true_eq, aw, true_and]
    exact hGg.trans (hG9.low hGg.nx)
  · have e0 : decide (ckZ n Q = 0) = false := decide_eq_false hz
    have z0 : decide ((0 : Int) = 0) = true := rfl
    have a0 : (0 : Int) + 0 = 0 := rfl
    refine (callP_0 (ef := f16) k.c16 rfl (f16_bad k.toCallsCh hS3 hrow hz hc3)).mono ?_
    rintro r h4 ⟨rfl, hG4⟩
    have hc4 := hG4.hc hc3
    have hS4 := hS3.grow hc3 hG4
    have hGc := hGb.trans (hG4.low hGb.nx)
    simp (disch := omega) only [f3_r6, w_reg, w_seq, seqK_n, x_nil, x_mv, x_as, x_ext, x_call, kx, rvP_ok, okv_some, ev_t, ev_c, evs_nil, evs_cons, getV_some, putD_some, onTup_t, nth0, nth1, getK_set, Nat.reduceEqDiff, ↓reduceIte]
    refine (callP_0 (ef := f17) k.c17 rfl (f17_bad k.toCallsCh hS4 hrow hz hc4)).mono ?_
    rintro r h5 ⟨rfl, hG5⟩
    have hc5 := hG5.hc hc4
    have hS5 := hS4.grow hc4 hG5
    have hGd := hGc.trans (hG5.low hGc.nx)
    simp (disch := omega) only [f3_r7, w_reg, w_seq, seqK_n, x_nil, x_mv, x_as, x_ext, x_call, kx, rvP_ok, okv_some, ev_t, ev_c, evs_nil, evs_cons, getV_some, putD_some, onTup_t, nth0, nth1, getK_set, Nat.reduceEqDiff, ↓reduceIte]
    refine (callP_0 (ef := f18) k.c18 rfl (f18_bad k.toCallsCh hS5 hrow hz hc5)).mono ?_
    rintro r h6 ⟨rfl, hG6⟩
    have hc6 := hG6.hc hc5
    have hS6 := hS5.grow hc5 hG6
    have hGe := hGd.trans (hG6.low hGd.nx)
    simp (disch := omega) only [f3_r8, w_reg, w_seq, seqK_n, x_nil, x_mv, x_as, x_ext, x_call, kx, rvP_ok, okv_some, ev_t, ev_c, evs_nil, evs_cons, getV_some, putD_some, onTup_t, nth0, nth1, getK_set, Nat.reduceEqDiff, ↓reduceIte]
    refine (callP_0 (ef := f19) k.c19 rfl (f19_bad k.toCallsCh hS6 hrow hz hc6)).mono ?_
    rintro r h7 ⟨rfl, hG7⟩
    have hc7 := hG7.hc hc6
    have hS7 := hS6.grow hc6 hG7
    have hGf := hGe.trans (hG7.low hGe.nx)
    simp (disch := omega) only [f3_r9, w_reg, w_seq, seqK_n, x_nil, x_mv, x_as, x_ext, x_call, kx, rvP_ok, okv_some, ev_t, ev_c, evs_nil, evs_cons, getV_some, putD_some, onTup_t, nth0, nth1, getK_set, Nat.reduceEqDiff, ↓reduceIte]
    refine (callP_0 (ef := f20) k.c20 rfl (f20_bad k.toCallsCh hS7 hrow hz hc7)).mono ?_
    rintro r h8 ⟨rfl, hG8⟩
    have hc8 := hG8.hc hc7
    have hS8 := hS7.grow hc7 hG8
    have hGg := hGf.trans (hG8.low hGf.nx)
    simp (disch := omega) only [f3_r10, w_reg, w_seq, seqK_n, x_nil, x_mv, x_as, x_ext, x_call, kx, rvP_ok, okv_some, ev_t, ev_c, evs_nil, evs_cons, getV_some, putD_some, onTup_t, nth0, nth1, of0, getK_set, Nat.reduceEqDiff, ↓reduceIte]
    refine (callP_0 (ef := f21) k.c21 rfl (f21_bad (t := 0) k.toCallsCh hS8 hrow hz hc8)).mono ?_
    rintro r h9 ⟨rfl, hG9⟩
    have hc9 := hG9.hc hc8
    have hS9 := hS8.grow hc8 hG9
    have hGh := hGg.trans (hG9.low hGg.nx)
    simp (disch := omega) only [f3_r11, f3_r13, w_skip, w_reg, w_seq, w_cond, seqK_n, ckB_b, cbB_b, true_and, x_nil, x_mv, x_as, x_bin, x_ext, x_call, kx, rvP_ok, okv_some, ev_t, ev_c, evs_nil, evs_cons, getV_some, putD_some, bin_eql, onTup_t, nth0, nth1, of0, getK_set, Nat.reduceEqDiff, ↓reduceIte, Bool.false_eq_true, e0]
    refine (callP_0 (ef := f23) k.c23 rfl (f23_bad k.toCallsCh hS9 hrow hz hc9)).mono ?_
    rintro r h10 ⟨rfl, hG10⟩
    have hc10 := hG10.hc hc9
    have hS10 := hS9.grow hc9 hG10
    have hGi := hGh.trans (hG10.low hGh.nx)
    simp (disch := omega) only [f3_r14, w_reg, w_seq, seqK_n, x_nil, x_mv, x_as, x_ext, x_call, kx, rvP_ok, okv_some, ev_t, ev_c, evs_nil, evs_cons, getV_some, putD_some, onTup_t, nth0, nth1, nth2, getK_set, Nat.reduceEqDiff, ↓reduceIte]
    refine (callP_0 (ef := f24) k.c24 rfl (f24_bad k.toCallsCh hS10 hrow hz hc10)).mono ?_
    rintro r h11 ⟨rfl, hG11⟩
    simp (disch := omega) only [f3_r15, f3_rs, w_reg, w_seq, w_ret, seqK_n, okG_b, asG_t, true_and, retK_r, x_nil, x_g, x_mv, x_as, x_pick, x_bin, x_not, x_ext, x_call, x_len, kx, rvP_ok, okv_some, ev_t, ev_c, evs_nil, getV_some, putD_some, bin_add, bin_eql, pick_b, onB_b, onTup_t, oGet_s, nth0, nth1, len_sn, readRs_nil, readRs_t, retV_1, of0, Option.some.injEq, exists_eq_left', getK_set, Nat.reduceEqDiff, ↓reduceIte, decide_eq_true_eq, Bool.not_false, Bool.not_false, a0, aw, true_and, fw64]
    exact hGi.trans (hG11.low hGi.nx)
end
section
variable {fs : T EF} {h : H} {v v2 : V} {us : List V} {Ls : List (List (Int × Int))}
end
end Go.Ev
