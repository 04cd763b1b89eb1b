/-
  Orders: Colours; OrdersMirsky.
  Orders: functions of plain values as natives.
-/
import Derived.Test.YtdmnejhjlmeodaaPg
namespace Go.Ev
open Go Go.RowKit
noncomputable def f74_r0 : List EOper := [⟨(some (K.ofNat 8)), none, .as (.c (.b false))⟩]
noncomputable def f74_r1 : List EOper := [⟨(some (K.ofNat 14)), none, .mv (.t (K.ofNat 3))⟩, ⟨(some (K.ofNat 15)), none, .len (.t (K.ofNat 14))⟩, ⟨(some (K.ofNat 9)), none, .as (.t (K.ofNat 15))⟩]
noncomputable def f74_r2 : List EOper := [⟨(some (K.ofNat 16)), none, .mv (.t (K.ofNat 9))⟩, ⟨(some (K.ofNat 17)), none, .mv (.t (K.ofNat 0))⟩, ⟨(some (K.ofNat 18)), none, .bin .eql (.t (K.ofNat 16)) (.t (K.ofNat 17))⟩]
noncomputable def f74_r3 : List EOper := [⟨(some (K.ofNat 8)), none, .as (.c (.b true))⟩]
noncomputable def f74_r4 : List EOper := [⟨(some (K.ofNat 10)), none, .as (.c (.i .i64 (.ofNat 0)))⟩]
noncomputable def f74_r5 : List EOper := [⟨(some (K.ofNat 19)), none, .mv (.t (K.ofNat 10))⟩, ⟨(some (K.ofNat 20)), none, .mv (.t (K.ofNat 2))⟩, ⟨(some (K.ofNat 21)), none, .bin .lss (.t (K.ofNat 19)) (.t (K.ofNat 20))⟩]
noncomputable def f74_r6 : List EOper := [⟨(some (K.ofNat 11)), none, .as (.c (.b true))⟩]
noncomputable def f74_r7 : List EOper := [⟨(some (K.ofNat 12)), none, .as (.c (.i .i64 (.ofNat 0)))⟩]
noncomputable def f74_r8 : List EOper := [⟨(some (K.ofNat 24)), none, .mv (.t (K.ofNat 12))⟩, ⟨(some (K.ofNat 25)), none, .mv (.t (K.ofNat 9))⟩, ⟨(some (K.ofNat 26)), none, .bin .lss (.t (K.ofNat 24)) (.t (K.ofNat 25))⟩]
noncomputable def f74_r9 : List EOper := [⟨(some (K.ofNat 29)), none, .mv (.t (K.ofNat 11))⟩, ⟨(some (K.ofNat 30)), none, .mv (.t (K.ofNat 29))⟩, ⟨(some (K.ofNat 31)), (some ((K.ofNat 30), true)), .mv (.t (K.ofNat 3))⟩, ⟨(some (K.ofNat 32)), (some ((K.ofNat 30), true)), .mv (.t (K.ofNat 12))⟩, ⟨(some (K.ofNat 33)), (some ((K.ofNat 30), true)), .iads 1 (.t (K.ofNat 31)) (.t (K.ofNat 32))⟩, ⟨(some (K.ofNat 34)), (some ((K.ofNat 30), true)), .ld (.t (K.ofNat 33))⟩, ⟨(some (K.ofNat 35)), (some ((K.ofNat 30), true)), .mv (.t (K.ofNat 10))⟩, ⟨(some (K.ofNat 36)), (some ((K.ofNat 30), true)), .bin .neq (.t (K.ofNat 34)) (.t (K.ofNat 35))⟩, ⟨(some (K.ofNat 37)), (some ((K.ofNat 30), true)), .mv (.t (K.ofNat 36))⟩, ⟨(some (K.ofNat 38)), (some ((K.ofNat 37), false)), .mv (.t (K.ofNat 1))⟩, ⟨(some (K.ofNat 39)), (some ((K.ofNat 37), false)), .mv (.t (K.ofNat 12))⟩, ⟨(some (K.ofNat 40)), (some ((K.ofNat 37), false)), .mv (.t (K.ofNat 9))⟩, ⟨(some (K.ofNat 41)), (some ((K.ofNat 37), false)), .call (.c (.fn (K.ofNat 52) [])) [(.t (K.ofNat 38)), (.t (K.ofNat 39)), (.t (K.ofNat 40))]⟩, ⟨(some (K.ofNat 42)), (some ((K.ofNat 37), false)), .not (.t (K.ofNat 41))⟩, ⟨(some (K.ofNat 43)), (some ((K.ofNat 30), true)), .pick (.t (K.ofNat 37)) (.c (.b true)) (.t (K.ofNat 42))⟩, ⟨(some (K.ofNat 44)), none, .pick (.t (K.ofNat 30)) (.t (K.ofNat 43)) (.c (.b false))⟩, ⟨(some (K.ofNat 11)), none, .as (.t (K.ofNat 44))⟩]
noncomputable def f74_r10 : List EOper := [⟨(some (K.ofNat 27)), none, .mv (.t (K.ofNat 12))⟩, ⟨(some (K.ofNat 28)), none, .bin .add (.t (K.ofNat 27)) (.c (.i .i64 (.ofNat 1)))⟩, ⟨(some (K.ofNat 12)), none, .as (.t (K.ofNat 28))⟩]
noncomputable def f74_l0 : EC := (.seq (.seq (.reg f74_r8) (.cond (.t (K.ofNat 26)) .skip (.exit 2))) (.seq (.block 3 (.reg f74_r9)) (.reg f74_r10)))
noncomputable def f74_r11 : List EOper := [⟨(some (K.ofNat 13)), none, .as (.c .sn)⟩]
noncomputable def f74_r12 : List EOper := [⟨(some (K.ofNat 45)), none, .mv (.t (K.ofNat 13))⟩, ⟨(some (K.ofNat 46)), none, .mv (.t (K.ofNat 3))⟩, ⟨(some (K.ofNat 47)), none, .app 1 (.t (K.ofNat 45)) (.t (K.ofNat 46))⟩, ⟨(some (K.ofNat 13)), none, .as (.t (K.ofNat 47))⟩]
noncomputable def f74_r13 : List EOper := [⟨(some (K.ofNat 48)), none, .mv (.t (K.ofNat 11))⟩, ⟨(some (K.ofNat 49)), none, .mv (.t (K.ofNat 48))⟩, ⟨(some (K.ofNat 50)), (some ((K.ofNat 49), true)), .mv (.t (K.ofNat 0))⟩, ⟨(some (K.ofNat 51)), (some ((K.ofNat 49), true)), .mv (.t (K.ofNat 1))⟩, ⟨(some (K.ofNat 52)), (some ((K.ofNat 49), true)), .mv (.t (K.ofNat 2))⟩, ⟨(some (K.ofNat 53)), (some ((K.ofNat 49), true)), .mv (.t (K.ofNat 13))⟩, ⟨(some (K.ofNat 54)), (some ((K.ofNat 49), true)), .mv (.t (K.ofNat 10))⟩, ⟨(some (K.ofNat 55)), (some ((K.ofNat 49), true)), .bslice 1 1 [(.i .i64 (.ofNat 0))] [(0, 1, (.t (K.ofNat 54)))]⟩, ⟨(some (K.ofNat 56)), (some ((K.ofNat 49), true)), .app 1 (.t (K.ofNat 53)) (.t (K.ofNat 55))⟩, ⟨(some (K.ofNat 57)), (some ((K.ofNat 49), true)), .call (.c (.fn (K.ofNat 74) [])) [(.t (K.ofNat 50)), (.t (K.ofNat 51)), (.t (K.ofNat 52)), (.t (K.ofNat 56))]⟩, ⟨(some (K.ofNat 58)), none, .pick (.t (K.ofNat 49)) (.t (K.ofNat 57)) (.c (.b false))⟩]
noncomputable def f74_r14 : List EOper := [⟨(some (K.ofNat 8)), none, .as (.c (.b true))⟩]
noncomputable def f74_r15 : List EOper := [⟨(some (K.ofNat 22)), none, .mv (.t (K.ofNat 10))⟩, ⟨(some (K.ofNat 23)), none, .bin .add (.t (K.ofNat 22)) (.c (.i .i64 (.ofNat 1)))⟩, ⟨(some (K.ofNat 10)), none, .as (.t (K.ofNat 23))⟩]
noncomputable def f74_l1 : EC := (.seq (.seq (.reg f74_r5) (.cond (.t (K.ofNat 21)) .skip (.exit 0))) (.seq (.block 1 (.seq (.reg f74_r6) (.seq (.seq (.reg f74_r7) (.block 2 (.loop f74_l0))) (.seq (.reg f74_r11) (.seq (.reg f74_r12) (.seq (.reg f74_r13) (.cond (.t (K.ofNat 58)) (.seq (.reg f74_r14) .ret) .skip))))))) (.reg f74_r15)))
noncomputable def f74_r16 : List EOper := [⟨(some (K.ofNat 8)), none, .as (.c (.b false))⟩]
noncomputable def f74_c : EC := (.seq (.reg f74_r0) (.seq (.reg f74_r1) (.seq (.seq (.reg f74_r2) (.cond (.t (K.ofNat 18)) (.seq (.reg f74_r3) .ret) .skip)) (.seq (.seq (.reg f74_r4) (.block 0 (.loop f74_l1))) (.seq (.reg f74_r16) .ret)))))
noncomputable def f74 : EF := ⟨59, [.tmp (K.ofNat 8)], f74_c, none⟩
theorem f74_rs : f74.rs = [.tmp (K.ofNat 8)] := of_eq_true (eq_self _)
noncomputable def f43_r0 : List EOper := [⟨(some (K.ofNat 4)), none, .as (.c (.i .i64 (.ofNat 0)))⟩]
noncomputable def f43_r1 : List EOper := [⟨(some (K.ofNat 5)), none, .as (.c (.i .i64 (.ofNat 1)))⟩]
noncomputable def f43_r2 : List EOper := [⟨(some (K.ofNat 8)), none, .mv (.t (K.ofNat 0))⟩, ⟨(some (K.ofNat 9)), none, .mv (.t (K.ofNat 1))⟩, ⟨(some (K.ofNat 10)), none, .mv (.t (K.ofNat 5))⟩, ⟨(some (K.ofNat 11)), none, .call (.c (.fn (K.ofNat 74) [])) [(.t (K.ofNat 8)), (.t (K.ofNat 9)), (.t (K.ofNat 10)), (.c .sn)]⟩]
noncomputable def f43_r3 : List EOper := [⟨(some (K.ofNat 12)), none, .mv (.t (K.ofNat 5))⟩, ⟨(some (K.ofNat 4)), none, .as (.t (K.ofNat 12))⟩]
noncomputable def f43_r4 : List EOper := [⟨(some (K.ofNat 6)), none, .mv (.t (K.ofNat 5))⟩, ⟨(some (K.ofNat 7)), none, .bin .add (.t (K.ofNat 6)) (.c (.i .i64 (.ofNat 1)))⟩, ⟨(some (K.ofNat 5)), none, .as (.t (K.ofNat 7))⟩]
noncomputable def f43_l0 : EC := (.seq (.block 1 (.seq (.reg f43_r2) (.cond (.t (K.ofNat 11)) (.seq (.reg f43_r3) .ret) .skip))) (.reg f43_r4))
noncomputable def f43_c : EC := (.seq (.reg f43_r0) (.seq (.reg f43_r1) (.block 0 (.loop f43_l0))))
noncomputable def f43 : EF := ⟨13, [.tmp (K.ofNat 4)], f43_c, none⟩
theorem f43_rs : f43.rs = [.tmp (K.ofNat 4)] := of_eq_true (eq_self _)
noncomputable def f8_r0 : List EOper := [⟨(some (K.ofNat 4)), none, .as (.c (.b false))⟩]
noncomputable def f8_r1 : List EOper := [⟨(some (K.ofNat 18)), none, .mv (.t (K.ofNat 0))⟩, ⟨(some (K.ofNat 19)), none, .mv (.t (K.ofNat 1))⟩, ⟨(some (K.ofNat 20)), none, .call (.c (.fn (K.ofNat 11) [])) [(.t (K.ofNat 18)), (.t (K.ofNat 19)), (.c (.i .i64 (.ofNat 7)))]⟩, ⟨(some (K.ofNat 17)), none, .mv (.t (K.ofNat 20))⟩, ⟨(some (K.ofNat 21)), none, .ext (.t (K.ofNat 17)) 0⟩, ⟨(some (K.ofNat 22)), none, .ext (.t (K.ofNat 17)) 1⟩, ⟨(some (K.ofNat 5)), none, .as (.t (K.ofNat 21))⟩, ⟨(some (K.ofNat 6)), none, .as (.t (K.ofNat 22))⟩]
noncomputable def f8_r2 : List EOper := [⟨(some (K.ofNat 24)), none, .mv (.t (K.ofNat 5))⟩, ⟨(some (K.ofNat 25)), none, .mv (.t (K.ofNat 6))⟩, ⟨(some (K.ofNat 26)), none, .call (.c (.fn (K.ofNat 23) [])) [(.t (K.ofNat 24)), (.t (K.ofNat 25))]⟩, ⟨(some (K.ofNat 23)), none, .mv (.t (K.ofNat 26))⟩, ⟨(some (K.ofNat 27)), none, .ext (.t (K.ofNat 23)) 0⟩, ⟨(some (K.ofNat 28)), none, .ext (.t (K.ofNat 23)) 1⟩, ⟨(some (K.ofNat 29)), none, .ext (.t (K.ofNat 23)) 2⟩, ⟨(some (K.ofNat 7)), none, .as (.t (K.ofNat 27))⟩, ⟨(some (K.ofNat 8)), none, .as (.t (K.ofNat 28))⟩, ⟨(some (K.ofNat 9)), none, .as (.t (K.ofNat 29))⟩]
noncomputable def f8_r3 : List EOper := [⟨(some (K.ofNat 30)), none, .mv (.t (K.ofNat 9))⟩, ⟨(some (K.ofNat 31)), none, .bin .neq (.t (K.ofNat 30)) (.c (.i .i64 (.ofNat 0)))⟩, ⟨(some (K.ofNat 32)), none, .mv (.t (K.ofNat 31))⟩, ⟨(some (K.ofNat 33)), (some ((K.ofNat 32), false)), .mv (.t (K.ofNat 8))⟩, ⟨(some (K.ofNat 34)), (some ((K.ofNat 32), false)), .not (.t (K.ofNat 33))⟩, ⟨(some (K.ofNat 35)), none, .pick (.t (K.ofNat 32)) (.c (.b true)) (.t (K.ofNat 34))⟩]
noncomputable def f8_r4 : List EOper := [⟨(some (K.ofNat 36)), none, .mv (.t (K.ofNat 9))⟩, ⟨(some (K.ofNat 37)), none, .bin .eql (.t (K.ofNat 36)) (.c (.i .i64 (.ofNat 0)))⟩, ⟨(some (K.ofNat 38)), none, .mv (.t (K.ofNat 37))⟩, ⟨(some (K.ofNat 39)), (some ((K.ofNat 38), true)), .call (.c (.fn (K.ofNat 22) [])) []⟩, ⟨(some (K.ofNat 40)), none, .pick (.t (K.ofNat 38)) (.t (K.ofNat 39)) (.c (.b false))⟩, ⟨(some (K.ofNat 4)), none, .as (.t (K.ofNat 40))⟩]
noncomputable def f8_r5 : List EOper := [⟨(some (K.ofNat 42)), none, .mv (.t (K.ofNat 5))⟩, ⟨(some (K.ofNat 43)), none, .mv (.t (K.ofNat 7))⟩, ⟨(some (K.ofNat 44)), none, .call (.c (.fn (K.ofNat 41) [])) [(.t (K.ofNat 42)), (.t (K.ofNat 43))]⟩, ⟨(some (K.ofNat 41)), none, .mv (.t (K.ofNat 44))⟩, ⟨(some (K.ofNat 45)), none, .ext (.t (K.ofNat 41)) 0⟩, ⟨(some (K.ofNat 46)), none, .ext (.t (K.ofNat 41)) 1⟩, ⟨(some (K.ofNat 10)), none, .as (.t (K.ofNat 45))⟩, ⟨(some (K.ofNat 11)), none, .as (.t (K.ofNat 46))⟩]
noncomputable def f8_r6 : List EOper := [⟨(some (K.ofNat 48)), none, .mv (.t (K.ofNat 5))⟩, ⟨(some (K.ofNat 49)), none, .mv (.t (K.ofNat 7))⟩, ⟨(some (K.ofNat 50)), none, .call (.c (.fn (K.ofNat 42) [])) [(.t (K.ofNat 48)), (.t (K.ofNat 49))]⟩, ⟨(some (K.ofNat 47)), none, .mv (.t (K.ofNat 50))⟩, ⟨(some (K.ofNat 51)), none, .ext (.t (K.ofNat 47)) 0⟩, ⟨(some (K.ofNat 52)), none, .ext (.t (K.ofNat 47)) 1⟩, ⟨(some (K.ofNat 12)), none, .as (.t (K.ofNat 51))⟩, ⟨(some (K.ofNat 13)), none, .as (.t (K.ofNat 52))⟩]
noncomputable def f8_r7 : List EOper := [⟨(some (K.ofNat 53)), none, .mv (.t (K.ofNat 11))⟩, ⟨(some (K.ofNat 54)), none, .bin .neq (.t (K.ofNat 53)) (.c (.i .i64 (.ofNat 0)))⟩, ⟨(some (K.ofNat 55)), none, .mv (.t (K.ofNat 54))⟩, ⟨(some (K.ofNat 56)), (some ((K.ofNat 55), false)), .mv (.t (K.ofNat 13))⟩, ⟨(some (K.ofNat 57)), (some ((K.ofNat 55), false)), .bin .neq (.t (K.ofNat 56)) (.c (.i .i64 (.ofNat 0)))⟩, ⟨(some (K.ofNat 58)), none, .pick (.t (K.ofNat 55)) (.c (.b true)) (.t (K.ofNat 57))⟩, ⟨(some (K.ofNat 59)), none, .mv (.t (K.ofNat 58))⟩, ⟨(some (K.ofNat 60)), (some ((K.ofNat 59), false)), .mv (.t (K.ofNat 12))⟩, ⟨(some (K.ofNat 61)), (some ((K.ofNat 59), false)), .len (.t (K.ofNat 60))⟩, ⟨(some (K.ofNat 62)), (some ((K.ofNat 59), false)), .mv (.t (K.ofNat 5))⟩, ⟨(some (K.ofNat 63)), (some ((K.ofNat 59), false)), .bin .neq (.t (K.ofNat 61)) (.t (K.ofNat 62))⟩, ⟨(some (K.ofNat 64)), none, .pick (.t (K.ofNat 59)) (.c (.b true)) (.t (K.ofNat 63))⟩]
noncomputable def f8_r8 : List EOper := [⟨(some (K.ofNat 4)), none, .as (.c (.b false))⟩]
noncomputable def f8_r9 : List EOper := [⟨(some (K.ofNat 14)), none, .as (.c (.i .i64 (.ofNat 0)))⟩]
noncomputable def f8_r10 : List EOper := [⟨(some (K.ofNat 15)), none, .as (.c (.i .i64 (.ofNat 0)))⟩]
noncomputable def f8_r11 : List EOper := [⟨(some (K.ofNat 65)), none, .mv (.t (K.ofNat 15))⟩, ⟨(some (K.ofNat 66)), none, .mv (.t (K.ofNat 5))⟩, ⟨(some (K.ofNat 67)), none, .bin .lss (.t (K.ofNat 65)) (.t (K.ofNat 66))⟩]
noncomputable def f8_r12 : List EOper := [⟨(some (K.ofNat 70)), none, .mv (.t (K.ofNat 14))⟩, ⟨(some (K.ofNat 71)), none, .mv (.t (K.ofNat 12))⟩, ⟨(some (K.ofNat 72)), none, .mv (.t (K.ofNat 15))⟩, ⟨(some (K.ofNat 73)), none, .iads 1 (.t (K.ofNat 71)) (.t (K.ofNat 72))⟩, ⟨(some (K.ofNat 74)), none, .ld (.t (K.ofNat 73))⟩, ⟨(some (K.ofNat 75)), none, .max (.t (K.ofNat 70)) (.t (K.ofNat 74))⟩, ⟨(some (K.ofNat 14)), none, .as (.t (K.ofNat 75))⟩]
noncomputable def f8_r13 : List EOper := [⟨(some (K.ofNat 68)), none, .mv (.t (K.ofNat 15))⟩, ⟨(some (K.ofNat 69)), none, .bin .add (.t (K.ofNat 68)) (.c (.i .i64 (.ofNat 1)))⟩, ⟨(some (K.ofNat 15)), none, .as (.t (K.ofNat 69))⟩]
noncomputable def f8_l0 : EC := (.seq (.seq (.reg f8_r11) (.cond (.t (K.ofNat 67)) .skip (.exit 0))) (.seq (.block 1 (.reg f8_r12)) (.reg f8_r13)))
noncomputable def f8_r14 : List EOper := [⟨(some (K.ofNat 16)), none, .as (.c (.i .i64 (.ofNat 0)))⟩]
noncomputable def f8_r15 : List EOper := [⟨(some (K.ofNat 76)), none, .mv (.t (K.ofNat 16))⟩, ⟨(some (K.ofNat 77)), none, .mv (.t (K.ofNat 7))⟩, ⟨(some (K.ofNat 78)), none, .len (.t (K.ofNat 77))⟩, ⟨(some (K.ofNat 79)), none, .bin .lss (.t (K.ofNat 76)) (.t (K.ofNat 78))⟩]
noncomputable def f8_r16 : List Stage := [⟨[⟨(some (K.ofNat 82)), none, .mv (.t (K.ofNat 12))⟩, ⟨(some (K.ofNat 83)), none, .mv (.t (K.ofNat 7))⟩, ⟨(some (K.ofNat 84)), none, .mv (.t (K.ofNat 16))⟩, ⟨(some (K.ofNat 85)), none, .iads 2 (.t (K.ofNat 83)) (.t (K.ofNat 84))⟩, ⟨(some (K.ofNat 86)), none, .iadr 2 1 (.t (K.ofNat 85)) (.c (.i .i64 (.ofNat 0)))⟩, ⟨(some (K.ofNat 87)), none, .ld (.t (K.ofNat 86))⟩, ⟨(some (K.ofNat 88)), none, .iads 1 (.t (K.ofNat 82)) (.t (K.ofNat 87))⟩, ⟨(some (K.ofNat 89)), none, .ld (.t (K.ofNat 88))⟩, ⟨(some (K.ofNat 90)), none, .mv (.t (K.ofNat 12))⟩, ⟨(some (K.ofNat 91)), none, .mv (.t (K.ofNat 7))⟩, ⟨(some (K.ofNat 92)), none, .mv (.t (K.ofNat 16))⟩, ⟨(some (K.ofNat 93)), none, .iads 2 (.t (K.ofNat 91)) (.t (K.ofNat 92))⟩, ⟨(some (K.ofNat 94)), none, .iadr 2 1 (.t (K.ofNat 93)) (.c (.i .i64 (.ofNat 1)))⟩, ⟨(some (K.ofNat 95)), none, .ld (.t (K.ofNat 94))⟩, ⟨(some (K.ofNat 96)), none, .iads 1 (.t (K.ofNat 90)) (.t (K.ofNat 95))⟩, ⟨(some (K.ofNat 97)), none, .ld (.t (K.ofNat 96))⟩, ⟨(some (K.ofNat 98)), none, .bin .geq (.t (K.ofNat 89)) (.t (K.ofNat 97))⟩], [], none, []⟩]
noncomputable def f8_r17 : List EOper := [⟨(some (K.ofNat 4)), none, .as (.c (.b false))⟩]
noncomputable def f8_r18 : List EOper := [⟨(some (K.ofNat 80)), none, .mv (.t (K.ofNat 16))⟩, ⟨(some (K.ofNat 81)), none, .bin .add (.t (K.ofNat 80)) (.c (.i .i64 (.ofNat 1)))⟩, ⟨(some (K.ofNat 16)), none, .as (.t (K.ofNat 81))⟩]
noncomputable def f8_l1 : EC := (.seq (.seq (.reg f8_r15) (.cond (.t (K.ofNat 79)) .skip (.exit 2))) (.seq (.block 3 (.seq (.draw f8_r16) (.cond (.t (K.ofNat 98)) (.seq (.reg f8_r17) .ret) .skip))) (.reg f8_r18)))
noncomputable def f8_r19 : List EOper := [⟨(some (K.ofNat 99)), none, .mv (.t (K.ofNat 14))⟩, ⟨(some (K.ofNat 100)), none, .mv (.t (K.ofNat 10))⟩, ⟨(some (K.ofNat 101)), none, .len (.t (K.ofNat 100))⟩, ⟨(some (K.ofNat 102)), none, .bin .sub (.t (K.ofNat 101)) (.c (.i .i64 (.ofNat 1)))⟩, ⟨(some (K.ofNat 103)), none, .bin .eql (.t (K.ofNat 99)) (.t (K.ofNat 102))⟩, ⟨(some (K.ofNat 104)), none, .mv (.t (K.ofNat 103))⟩, ⟨(some (K.ofNat 105)), (some ((K.ofNat 104), true)), .mv (.t (K.ofNat 5))⟩, ⟨(some (K.ofNat 106)), (some ((K.ofNat 104), true)), .mv (.t (K.ofNat 6))⟩, ⟨(some (K.ofNat 107)), (some ((K.ofNat 104), true)), .call (.c (.fn (K.ofNat 43) [])) [(.t (K.ofNat 105)), (.t (K.ofNat 106))]⟩, ⟨(some (K.ofNat 108)), (some ((K.ofNat 104), true)), .mv (.t (K.ofNat 10))⟩, ⟨(some (K.ofNat 109)), (some ((K.ofNat 104), true)), .len (.t (K.ofNat 108))⟩, ⟨(some (K.ofNat 110)), (some ((K.ofNat 104), true)), .bin .eql (.t (K.ofNat 107)) (.t (K.ofNat 109))⟩, ⟨(some (K.ofNat 111)), none, .pick (.t (K.ofNat 104)) (.t (K.ofNat 110)) (.c (.b false))⟩, ⟨(some (K.ofNat 112)), none, .mv (.t (K.ofNat 111))⟩, ⟨(some (K.ofNat 113)), (some ((K.ofNat 112), true)), .call (.c (.fn (K.ofNat 22) [])) []⟩, ⟨(some (K.ofNat 114)), none, .pick (.t (K.ofNat 112)) (.t (K.ofNat 113)) (.c (.b false))⟩, ⟨(some (K.ofNat 4)), none, .as (.t (K.ofNat 114))⟩]
noncomputable def f8_c : EC := (.seq (.reg f8_r0) (.seq (.reg f8_r1) (.seq (.reg f8_r2) (.seq (.seq (.reg f8_r3) (.cond (.t (K.ofNat 35)) (.seq (.reg f8_r4) .ret) .skip)) (.seq (.reg f8_r5) (.seq (.reg f8_r6) (.seq (.seq (.reg f8_r7) (.cond (.t (K.ofNat 64)) (.seq (.reg f8_r8) .ret) .skip)) (.seq (.reg f8_r9) (.seq (.seq (.reg f8_r10) (.block 0 (.loop f8_l0))) (.seq (.seq (.reg f8_r14) (.block 2 (.loop f8_l1))) (.seq (.reg f8_r19) .ret)))))))))))
noncomputable def f8 : EF := ⟨115, [.tmp (K.ofNat 4)], f8_c, none⟩
theorem f8_rs : f8.rs = [.tmp (K.ofNat 4)] := of_eq_true (eq_self _)
section
variable {fs : T EF} {h h' : H}
def iL (l : List Nat) : List Int := l.map fun (x : Nat) => (x : Int)
theorem iL_len {l : List Nat} : (iL l).length = l.length := by simp [iL]
theorem iL_at {l : List Nat} {u : Nat} (hu : u < l.length) : (iL l)[u]'(by rw [iL_len]; exact hu) = ((l.getD u 0 : Nat) : Int) := by
  rw [List.getD_eq_getElem?_getD, List.getElem?_eq_getElem hu]; simp [iL]
structure CallsCo4 (fs : T EF) : Prop where
  c40 : fs.get (K.ofNat 40) = some f40
  c52 : fs.get (K.ofNat 52) = some f52
  c74 : fs.get (K.ofNat 74) = some f74
def f74_I (h0 : H) (n kk : Nat) (v w : V) (l : List Nat) (g : Nat → Nat → Bool) (f : Nat) (c : Nat) (fr : Fr) (h1 : H) : Prop := c ≤ kk ∧ Grow h0.nx.nat h0 h1 ∧ (∀ x, x < c → (okC g l x l.length && colF g kk f (l ++ [x])) = false) ∧ fr.get (K.ofNat 0) = some (.i .i64 (n : Int)) ∧ fr.get (K.ofNat 1) = some (v) ∧ fr.get (K.ofNat 2) = some (.i .i64 (kk : Int)) ∧ fr.get (K.ofNat 3) = some (w) ∧ fr.get (K.ofNat 9) = some (.i .i64 (l.length : Int)) ∧ fr.get (K.ofNat 10) = some (.i .i64 (c : Int))
def f74_J (h0 : H) (n kk : Nat) (v w : V) (l : List Nat) (g : Nat → Nat → Bool) (c : Nat) (u : Nat) (fr : Fr) (h1 : H) : Prop := u ≤ l.length ∧ Grow h0.nx.nat h0 h1 ∧ fr.get (K.ofNat 0) = some (.i .i64 (n : Int)) ∧ fr.get (K.ofNat 1) = some (v) ∧ fr.get (K.ofNat 2) = some (.i .i64 (kk : Int)) ∧ fr.get (K.ofNat 3) = some (w) ∧ fr.get (K.ofNat 9) = some (.i .i64 (l.length : Int)) ∧ fr.get (K.ofNat 10) = some (.i .i64 (c : Int)) ∧ fr.get (K.ofNat 11) = some (.b (okC g l c u)) ∧ fr.get (K.ofNat 12) = some (.i .i64 (u : Int))
theorem f74_ret {n kk : Nat} {v : V} {g : Nat → Nat → Bool} (k : CallsCo4 fs) (hn : n ≤ 7) (hk7 : kk ≤ 7) : ∀ (f : Nat) (l : List Nat) (h : H) (w : V), n = l.length + f → Sl iE h w (iL l) → Srp h v (arI g) → HC h → Ret fs f74 [.i .i64 (n : Int), v, .i .i64 (kk : Int), w] h fun r h' => r = .b (colF g kk f l) ∧ Grow h.nx.nat h h' := by
  have hlb := arI_len (g := g)
  intro f
  induction f with
  | zero =>
    intro l h w hnl hw hv hc
    apply ret_of rfl
    show W fs none f74_c _ _ _
    unfold f74_c
    have hlen : ∀ h1, lenV w h1 = .ok (.i .i64 (l.length : Int)) h1 := fun h1 => by rw [hw.len, iL_len]
    have d0 : decide ((l.length : Int) = (n : Int)) = true := decide_eq_true (by omega)
    simp (disch := omega) only [f74_r0, f74_r1, f74_r2, f74_r3, f74_rs, w_reg, w_seq, w_cond, w_ret, seqK_n, seqK_r, ckB_b, cbB_b, true_and, retK_r, x_nil, x_mv, x_as, x_bin, x_len, kx, rvP_ok, okv_some, ev_t, ev_c, getV_some, putD_some, bin_eql, oGet_s, readRs_nil, readRs_t, retV_1, frame_4, Option.some.injEq, exists_eq_left', getK_set, Nat.reduceEqDiff, ↓reduceIte, hlen, d0]
    exact ⟨rfl, Grow.refl _ _⟩
  | succ f ih =>
    intro l h w hnl hw hv hc
    apply ret_of rfl
    show W fs none f74_c _ _ _
    unfold f74_c
    have hlen : ∀ h1, lenV w h1 = .ok (.i .i64 (l.length : Int)) h1 := fun h1 => by rw [hw.len, iL_len]
    have d0 : decide ((l.length : Int) = (n : Int)) = false := decide_eq_false (by omega)
    simp (disch := omega) only [f74_r0, f74_r1, f74_r2, f74_r4, w_skip, w_reg, w_seq, w_cond, w_block, seqK_n, ckB_b, cbB_b, true_and, x_nil, x_mv, x_as, x_bin, x_len, kx, rvP_ok, okv_some, ev_t, ev_c, getV_some, putD_some, bin_eql, frame_4, of0, getK_set, Nat.reduceEqDiff, ↓reduceIte, Bool.false_eq_true, hlen, d0]
    refine W_loop (f74_I h n kk v w l g f) (fun c => kk - c) ?_ 0 ⟨by omega, Grow.refl _ _, fun x hx => by omega, by simp (disch := omega) only [getK_set, Nat.reduceEqDiff, ↓reduceIte, and_self, Int.natCast_zero]⟩
    rintro c fr h1 ⟨hcl, hG, hno, g0, g1, g2, g3, g9, g10⟩
    unfold f74_l1
    by_cases hlt : c < kk
    · have d1 : decide ((c : Int) < (kk : Int)) = true := decide_eq_true (by omega)
      simp (disch := omega) only [f74_r5, f74_r6, f74_r7, w_skip, w_reg, w_seq, w_cond, w_block, seqK_n, ckB_b, cbB_b, true_and, x_nil, x_mv, x_as, x_bin, kx, rvP_ok, okv_some, ev_t, ev_c, getV_some, putD_some, bin_lss, of0, getK_set, Nat.reduceEqDiff, ↓reduceIte, g2, g10, d1]
      have e0 : okC g l c 0 = true := rfl
      refine W_loop (f74_J h n kk v w l g c) (fun u => l.length - u) ?_ 0 ⟨by omega, hG, by simp (disch := omega) only [getK_set, Nat.reduceEqDiff, ↓reduceIte, g0, g1, g2, g3, g9, g10, and_self, Int.natCast_zero, e0]⟩
      clear g0 g1 g2 g3 g9 g10 fr hG
      rintro u fr h1 ⟨hu, hG, g0, g1, g2, g3, g9, g10, g11, g12⟩
      have hc1 := hG.hc hc
      have hw1 := hw.grow hc hG
      unfold f74_l0
      by_cases hlt2 : u < l.length
      · have d2 : decide ((u : Int) < (l.length : Int)) = true := decide_eq_true (by omega)
        have hsu : okC g l c (u + 1) = (okC g l c u && (decide (l.getD u 0 ≠ c) || !g u l.length)) := by
          unfold okC; rw [List.range_succ, List.all_append]; simp
        cases ho : okC g l c u with
        | false =>
          rw [ho] at g11 hsu
          simp (disch := omega) only [f74_r8, f74_r9, f74_r10, w_skip, w_reg, w_seq, w_cond, w_block, seqK_n, atK_n, loopK_n, ckB_b, cbB_b, okG_b, okG_u, asG_t, asG_u, true_and, x_nil, x_g, x_mv, x_as, x_pick, x_bin, kx, rvP_ok, okv_some, ev_t, ev_c, getV_some, putD_some, bin_add, bin_lss, pick_b, of1, getK_set, Nat.reduceEqDiff, ↓reduceIte, Bool.false_eq_true, g9, g11, g12, d2, fw64]
          exact ⟨u + 1, by omega, by omega, hG, by simp (disch := omega) only [getK_set, Nat.reduceEqDiff, ↓reduceIte, g0, g1, g2, g3, g9, g10, and_self, Int.natCast_add, Int.natCast_one, hsu, Bool.false_and]⟩
        | true =>
          rw [ho, Bool.true_and] at hsu
          rw [ho] at g11
          obtain ⟨p, p1, p2⟩ := hw1.at u (by rw [iL_len]; exact hlt2)
          rw [iL_at hlt2] at p2
          have p2 : loadV h1 p one? = .ok (.i .i64 ((l.getD u 0 : Nat) : Int)) h1 := p2
          by_cases hcu : l.getD u 0 = c
          · have d3 : decide (((l.getD u 0 : Nat) : Int) ≠ (c : Int)) = false := decide_eq_false (by omega)
            rw [decide_eq_false (show ¬ (l.getD u 0 ≠ c) by omega), Bool.false_or] at hsu
            have emn : min (u : Int) (l.length : Int) = (u : Int) := by omega
            have emx : max (u : Int) (l.length : Int) = (l.length : Int) := by omega
            simp (disch := omega) only [f74_r8, f74_r9, w_skip, w_reg, w_seq, w_cond, w_block, seqK_n, ckB_b, cbB_b, okG_b, asG_t, asG_f, true_and, x_nil, x_g, x_mv, x_ld, x_bin, x_iads, x_call, kx, rvP_ok, okv_some, ev_t, ev_c, evs_nil, evs_cons, getV_some, putD_some, bin_neq, bin_lss, getK_set, Nat.reduceEqDiff, ↓reduceIte, Bool.not_false, g1, g3, g9, g10, g11, g12, d2, p1, p2, d3]
            refine (callP_0 (ef := f52) k.c52 rfl (f52_ret k.c40 (hv.grow hc hG) inI_arI (by rw [emn, emx]; exact inI_nat (by omega) (by omega)) (by omega) hc1)).mono ?_
            rintro r h2 ⟨rfl, gr2⟩
            have hj : decide ((min (u : Int) (l.length : Int), max (u : Int) (l.length : Int)) ∈ arI g) = g u l.length := by
              rw [emn, emx, Bool.eq_iff_iff, decide_eq_true_eq, mem_arI']
              exact ⟨fun h => h.2.2, fun h => ⟨by omega, by omega, h⟩⟩
            rw [hj]
            simp (disch := omega) only [f74_r10, w_reg, seqK_n, atK_n, loopK_n, okG_b, asG_t, asG_f, true_and, x_nil, x_g, x_mv, x_as, x_pick, x_bin, x_not, kx, rvP_ok, okv_some, ev_t, ev_c, getV_some, putD_some, bin_add, pick_b, onB_b, of1, getK_set, Nat.reduceEqDiff, ↓reduceIte, Bool.false_eq_true, Bool.not_false, g12, fw64]
            exact ⟨u + 1, by omega, by omega, hG.trans (gr2.low hG.nx), by simp (disch := omega) only [getK_set, Nat.reduceEqDiff, ↓reduceIte, g0, g1, g2, g3, g9, g10, and_self, Int.natCast_add, Int.natCast_one, hsu]⟩
          · have d3 : decide (((l.getD u 0 : Nat) : Int) ≠ (c : Int)) = true := decide_eq_true (by omega)
            rw [decide_eq_true (show l.getD u 0 ≠ c from hcu), Bool.true_or] at hsu
            simp (disch := omega) only [f74_r8, f74_r9, f74_r10, w_skip, w_reg, w_seq, w_cond, w_block, seqK_n, atK_n, loopK_n, ckB_b, cbB_b, okG_b, asG_t, asG_f, true_and, x_nil, x_g, x_mv, x_as, x_pick, x_ld, x_bin, x_iads, kx, rvP_ok, okv_some, ev_t, ev_c, getV_some, putD_some, bin_add, bin_neq, bin_lss, pick_b, of1, getK_set, Nat.reduceEqDiff, ↓reduceIte, Bool.false_eq_true, Bool.not_true, g3, g9, g10, g11, g12, d2, p1, p2, d3, fw64]
            exact ⟨u + 1, by omega, by omega, hG, by simp (disch := omega) only [getK_set, Nat.reduceEqDiff, ↓reduceIte, g0, g1, g2, g3, g9, g10, and_self, Int.natCast_add, Int.natCast_one, hsu]⟩
      · have d2 : decide ((u : Int) < (l.length : Int)) = false := decide_eq_false (by omega)
        have eu : u = l.length := by omega
        subst eu
        obtain ⟨v1, h2, a1, s1, o1, gr2, _⟩ := Sl.app (b := h1.nx.nat) (e := iE) (Sl.nil (h := h1)) Own.sn (Nat.le_refl _) hw1 hc1 (by simp [iL_len]; omega)
        rw [List.nil_append] at s1
        have hc2 := gr2.hc hc1
        have gA := hG.trans (gr2.low hG.nx)
        simp (disch := omega) only [f74_r8, f74_r11, f74_r12, w_reg, w_seq, w_cond, w_exit, seqK_n, seqK_e, atK_e, loopK_e, ckB_b, cbB_b, true_and, x_nil, x_mv, x_as, x_bin, x_app, kx, rvP_ok, okv_some, ev_t, ev_c, getV_some, putD_some, bin_lss, getK_set, Nat.reduceEqDiff, ↓reduceIte, Bool.false_eq_true, g3, g9, g12, d2, a1]
        have none_ : okC g l c l.length = false ∨ colF g kk f (l ++ [c]) = false → ∀ x, x < c + 1 → (okC g l x l.length && colF g kk f (l ++ [x])) = false := fun hh x hx => by
          by_cases e : x = c
          · rw [e]; rcases hh with hh | hh <;> rw [hh] <;> simp
          · exact hno x (by omega)
        cases ho : okC g l c l.length with
        | false =>
          rw [ho] at g11
          simp (disch := omega) only [f74_r13, f74_r15, w_skip, w_reg, w_cond, seqK_n, atK_n, loopK_n, ckB_b, cbB_b, okG_b, asG_t, true_and, x_nil, x_g, x_mv, x_as, x_pick, x_bin, kx, rvP_ok, okv_some, ev_t, ev_c, getV_some, putD_some, bin_add, pick_b, of0, of1, getK_set, Nat.reduceEqDiff, ↓reduceIte, Bool.false_eq_true, g10, g11, fw64]
          exact ⟨c + 1, by omega, by omega, gA, none_ (.inl ho), by simp (disch := omega) only [getK_set, Nat.reduceEqDiff, ↓reduceIte, g0, g1, g2, g3, g9, and_self, Int.natCast_add, Int.natCast_one]⟩
        | true =>
          rw [ho] at g11
          obtain ⟨v2, h3, a2, s2, o2, gr3, _⟩ := Sl.push (b := h1.nx.nat) (e := iE) (x := (c : Int)) (c := .i .i64 (c : Int)) rfl s1 o1 gr2.nx hc2 (by rw [iL_len]; omega)
          have el : iL l ++ [(c : Int)] = iL (l ++ [c]) := by simp [iL]
          rw [el] at s2
          have gB := gA.trans (gr3.low hG.nx)
          simp (disch := omega) only [f74_r13, okG_b, asG_t, true_and, x_g, x_mv, x_bslice, x_call, x_app, kx, rvP_ok, ev_t, ev_c, evs_nil, evs_cons, getV_some, putD_some, oGet_s, cells1_i, fill_1, set_1, of0, getK_set, Nat.reduceEqDiff, ↓reduceIte, g0, g1, g2, g10, g11, fill_1, set_1, a2]
          refine (callP_0 (ef := f74) k.c74 rfl (ih (l ++ [c]) h3 v2 (by simp; omega) s2 (hv.grow hc gB) (gr3.hc hc2))).mono ?_
          rintro r h4 ⟨rfl, gr4⟩
          have gC := gB.trans (gr4.low gB.nx)
          cases hcf : colF g kk f (l ++ [c]) with
          | true =>
            have hf : colF g kk (f + 1) l = true := by
              show ((List.range kk).any fun x => okC g l x l.length && colF g kk f (l ++ [x])) = true
              rw [List.any_eq_true]
              exact ⟨c, List.mem_range.2 hlt, by rw [ho, hcf]; rfl⟩
            simp (disch := omega) only [f74_r14, f74_rs, w_reg, w_seq, w_cond, w_ret, seqK_n, seqK_r, atK_r, loopK_r, ckB_b, cbB_b, true_and, retK_r, x_nil, x_as, x_pick, kx, rvP_ok, ev_t, ev_c, getV_some, putD_some, pick_b, oGet_s, readRs_nil, readRs_t, retV_1, Option.some.injEq, exists_eq_left', getK_set, Nat.reduceEqDiff, ↓reduceIte]
            exact ⟨by rw [hf], gC⟩
          | false =>
            simp (disch := omega) only [f74_r15, w_skip, w_reg, w_cond, seqK_n, atK_n, loopK_n, ckB_b, cbB_b, true_and, x_nil, x_mv, x_as, x_pick, x_bin, kx, rvP_ok, okv_some, ev_t, ev_c, getV_some, putD_some, bin_add, pick_b, of1, getK_set, Nat.reduceEqDiff, ↓reduceIte, Bool.false_eq_true, g10, fw64]
            exact ⟨c + 1, by omega, by omega, gC, none_ (.inr hcf), by simp (disch := omega) only [getK_set, Nat.reduceEqDiff, ↓reduceIte, g0, g1, g2, g3, g9, and_self, Int.natCast_add, Int.natCast_one]⟩
    · have d1 : decide ((c : Int) < (kk : Int)) = false := decide_eq_false (by omega)
      have ec : c = kk := by omega
      subst ec
      have hf : colF g c (f + 1) l = false := by
        show ((List.range c).any fun x => okC g l x l.length && colF g c f (l ++ [x])) = false
        rw [List.any_eq_false]
        intro x hx
        rw [hno x (List.mem_range.1 hx)]; simp
      simp (disch := omega) only [f74_r5, f74_r16, f74_rs, w_reg, w_seq, w_cond, w_exit, w_ret, seqK_n, seqK_e, atK_e, loopK_e, ckB_b, cbB_b, true_and, retK_r, x_nil, x_mv, x_as, x_bin, kx, rvP_ok, okv_some, ev_t, ev_c, getV_some, putD_some, bin_lss, oGet_s, readRs_nil, readRs_t, retV_1, Option.some.injEq, exists_eq_left', getK_set, Nat.reduceEqDiff, ↓reduceIte, Bool.false_eq_true, g2, g10, d1]
      exact ⟨by rw [hf], hG⟩
def f43_I (h0 : H) (n : Nat) (v : V) (K0 : Nat) (c : Nat) (fr : Fr) (h1 : H) : Prop := 1 ≤ c ∧ c ≤ K0 ∧ Grow h0.nx.nat h0 h1 ∧ fr.get (K.ofNat 0) = some (.i .i64 (n : Int)) ∧ fr.get (K.ofNat 1) = some (v) ∧ fr.get (K.ofNat 5) = some (.i .i64 (c : Int))
theorem f43_ret {n K0 : Nat} {v : V} {g : Nat → Nat → Bool} (k : CallsCo4 fs) (hn : n ≤ 7) (hv : Srp h v (arI g)) (h1K : 1 ≤ K0) (hK7 : K0 ≤ 7) (hK : colF g K0 n [] = true) (hk : ∀ c, c < K0 → colF g c n [] = false) (hc : HC h) : Ret fs f43 [.i .i64 (n : Int), v] h fun r h' => r = .i .i64 (K0 : Int) ∧ Grow h.nx.nat h h' := by
  apply ret_of rfl
  show W fs none f43_c _ _ _
  unfold f43_c
  simp (disch := omega) only [f43_r0, f43_r1, w_reg, w_seq, w_block, seqK_n, x_nil, x_as, ev_c, putD_some, frame_2, of0, of1]
  refine W_loop (f43_I h n v K0) (fun c => K0 - c) ?_ 1 ⟨by omega, h1K, Grow.refl _ _, by simp (disch := omega) only [getK_set, Nat.reduceEqDiff, ↓reduceIte, and_self, Int.natCast_one]⟩
  rintro c fr h1 ⟨hc1, hcK, hG, g0, g1, g5⟩
  unfold f43_l0
  simp (disch := omega) only [f43_r2, w_reg, w_seq, w_block, x_mv, x_call, ev_t, ev_c, evs_nil, evs_cons, getV_some, putD_some, getK_set, Nat.reduceEqDiff, ↓reduceIte, g0, g1, g5]
  refine (callP_0 (ef := f74) k.c74 rfl (f74_ret k hn (by omega) n [] h1 .sn (by simp) Sl.nil (hv.grow hc hG) (hG.hc hc))).mono ?_
  rintro r h2 ⟨rfl, gr2⟩
  have gA := hG.trans (gr2.low hG.nx)
  by_cases e : c = K0
  · subst e
    rw [hK]
    simp (disch := omega) only [f43_r3, f43_rs, w_reg, w_seq, w_cond, w_ret, seqK_n, seqK_r, atK_r, loopK_r, ckB_b, cbB_b, true_and, retK_r, x_nil, x_mv, x_as, kx, ev_t, getV_some, putD_some, oGet_s, readRs_nil, readRs_t, retV_1, Option.some.injEq, exists_eq_left', getK_set, Nat.reduceEqDiff, ↓reduceIte, g5, true_and]
    exact gA
  · rw [hk c (by omega)]
    simp (disch := omega) only [f43_r4, w_skip, w_reg, w_cond, seqK_n, atK_n, loopK_n, ckB_b, cbB_b, true_and, x_nil, x_mv, x_as, x_bin, kx, rvP_ok, okv_some, ev_t, ev_c, getV_some, putD_some, bin_add, of1, getK_set, Nat.reduceEqDiff, ↓reduceIte, Bool.false_eq_true, g5, fw64]
    exact ⟨c + 1, by omega, by omega, by omega, gA, by simp (disch := omega) only [getK_set, Nat.reduceEqDiff, ↓reduceIte, g0, g1, and_self, Int.natCast_add, Int.natCast_one]⟩
/-! ### The law -/
structure CallsMi (fs : T EF) : Prop extends CallsOr fs, CallsCh fs, CallsCo4 fs where
  c11 : fs.get (K.ofNat 11) = some f11
  c23 : fs.get (K.ofNat 23) = some f23
  c41 : fs.get (K.ofNat 41) = some f41
  c42 : fs.get (K.ofNat 42) = some f42
  c43 : fs.get (K.ofNat 43) = some f43
  c45 : fs.get (K.ofNat 45) = some f45
  c72 : fs.get (K.ofNat 72) = some f72
  aw : ∀ h P, CallP fs (.fn (K.ofNat 22) []) [] h P = P (.b true) h
def f8_I (h0 : H) (m : Nat) (e o y c : V) (d : Nat → Nat) (i : Nat) (fr : Fr) (h1 : H) : Prop := i ≤ m ∧ h1 = h0 ∧ fr.get (K.ofNat 5) = some (.i .i64 (m : Int)) ∧ fr.get (K.ofNat 6) = some (e) ∧ fr.get (K.ofNat 7) = some (o) ∧ fr.get (K.ofNat 10) = some (c) ∧ fr.get (K.ofNat 12) = some (y) ∧ fr.get (K.ofNat 14) = some (.i .i64 (mxT d i : Int)) ∧ fr.get (K.ofNat 15) = some (.i .i64 (i : Int))
def f8_J (h0 : H) (m : Nat) (e o y c : V) (d : Nat → Nat) (n : Nat) (i : Nat) (fr : Fr) (h1 : H) : Prop := i ≤ n ∧ h1 = h0 ∧ fr.get (K.ofNat 5) = some (.i .i64 (m : Int)) ∧ fr.get (K.ofNat 6) = some (e) ∧ fr.get (K.ofNat 7) = some (o) ∧ fr.get (K.ofNat 10) = some (c) ∧ fr.get (K.ofNat 12) = some (y) ∧ fr.get (K.ofNat 14) = some (.i .i64 (mxT d m : Int)) ∧ fr.get (K.ofNat 16) = some (.i .i64 (i : Int))
theorem f8_ret {n : Int} {v : V} {l : List (Int × Int)} (k : CallsMi fs) (hv : Srp h v l) (hc : HC h) : Ret fs f8 [.i .i64 n, v] h fun r h' => r = .b true ∧ Grow h.nx.nat h h' := by
  apply ret_of rfl
  show W fs none f8_c _ _ _
  unfold f8_c
  have o7 : Int.ofNat 7 = ((7 : Nat) : Int) := rfl
  simp (disch := omega) only [f8_r0, f8_r1, w_reg, w_seq, seqK_n, x_nil, x_mv, x_as, x_call, ev_t, ev_c, evs_nil, evs_cons, getV_some, putD_some, frame_2, getK_set, Nat.reduceEqDiff, ↓reduceIte, of7]
  refine (callP_0 (ef := f11) k.c11 rfl (f11_ret (n := n) (w := 7) hv (by omega) (by omega) hc)).mono ?_
  rintro r h1 ⟨m, e, g, rfl, hm7, hg, he, hoe, gr1⟩
  have hc1 := gr1.hc hc
  simp (disch := omega) only [f8_r2, w_reg, w_seq, seqK_n, x_nil, x_mv, x_as, x_ext, x_call, kx, rvP_ok, okv_some, ev_t, ev_c, evs_nil, evs_cons, getV_some, putD_some, onTup_t, nth0, nth1, getK_set, Nat.reduceEqDiff, ↓reduceIte]
  refine (callP_0 (ef := f23) k.c23 rfl (f23_ret k.toCallsOr hg he.srpo hc1)).mono ?_
  rintro r h2 ⟨b, F, o, rfl, hF, ho, hoo, gr2⟩
  have hc2 := gr2.hc hc1
  have gA := gr1.trans (gr2.low gr1.nx)
  have ne0 : decide ((0 : Int) ≠ 0) = false := rfl
  have eq0 : decide ((0 : Int) = 0) = true := rfl
  cases b with
  | false =>
    simp (disch := omega) only [f8_r3, f8_r4, f8_rs, w_reg, w_seq, w_cond, w_ret, seqK_n, seqK_r, ckB_b, cbB_b, okG_b, asG_t, asG_f, true_and, retK_r, x_nil, x_g, x_mv, x_as, x_pick, x_bin, x_not, x_ext, x_call, kx, rvP_ok, okv_some, ev_t, ev_c, evs_nil, getV_some, putD_some, bin_eql, bin_neq, pick_b, onB_b, onTup_t, oGet_s, nth0, nth1, nth2, readRs_nil, readRs_t, retV_1, of0, Option.some.injEq, exists_eq_left', getK_set, Nat.reduceEqDiff, ↓reduceIte, Bool.false_eq_true, decide_eq_true_eq, Bool.not_false, ne0, k.aw, true_and]
    exact gA
  | true =>
    have ord := hF.yes rfl
    have on := ord_n hg hF.len ord
    simp (disch := omega) only [f8_r3, f8_r5, w_skip, w_reg, w_seq, w_cond, seqK_n, ckB_b, cbB_b, okG_b, asG_f, true_and, x_nil, x_g, x_mv, x_as, x_pick, x_bin, x_not, x_ext, x_call, kx, rvP_ok, okv_some, ev_t, ev_c, evs_nil, evs_cons, getV_some, putD_some, bin_neq, pick_b, onB_b, onTup_t, nth0, nth1, nth2, of0, getK_set, Nat.reduceEqDiff, ↓reduceIte, Bool.false_eq_true, Bool.not_true, Bool.not_false, ne0]
    refine (callP_0 (ef := f41) k.c41 rfl (f41_ret k.toCallsCh k.c45 k.c72 on hg.n1 hg.n7 ho.srpo hc2)).mono ?_
    rintro r h3 ⟨c, cf, rfl, hci, hcs, hoc, gr3⟩
    have hc3 := gr3.hc hc2
    simp (disch := omega) only [f8_r6, w_reg, w_seq, seqK_n, x_nil, x_mv, x_as, x_ext, x_call, kx, rvP_ok, okv_some, ev_t, ev_c, evs_nil, evs_cons, getV_some, putD_some, onTup_t, nth0, nth1, getK_set, Nat.reduceEqDiff, ↓reduceIte]
    refine (callP_0 (ef := f42) k.c42 rfl (f42_ret k.toCallsCh k.c45 on hg.n1 hg.n7 (ho.grow hc2 gr3).srpo hc3)).mono ?_
    rintro r h4 ⟨y, rfl, hy, hoy, gr4⟩
    have hc4 := gr4.hc hc3
    have gB : Grow h.nx.nat h h4 := (gA.trans (gr3.low gA.nx)).trans (gr4.low (Nat.le_trans gA.nx gr3.nx))
    have hmy := mirsky hg ord on hci
    have htop7 : mxT (lyR F m) m < m := by
      obtain ⟨u, u1, u2⟩ := mxT_at (d := lyR F m) hg.n1
      rw [← u2]; exact ly_lt on u1
    have ho4 := (ho.grow hc2 gr3).grow hc3 gr4
    have he4 := (((he.grow hc1 gr2).grow hc2 gr3).grow hc3 gr4)
    have hcs4 := hcs.grow hc3 gr4
    have h7 := hg.n7
    have hlyup : ∀ a b, rat F a b = true → lyR F m a + 1 ≤ lyR F m b := fun a b h => ly_up on h
    have hylen : ∀ h1, lenV y h1 = .ok (.i .i64 (m : Int)) h1 := fun h1 => by rw [hy.len, nL_len]
    have hclen : ∀ h1, lenV c h1 = .ok (.i .i64 ((mxT (lyR F m) m + 1 : Nat) : Int)) h1 := fun h1 => by rw [hcs4.len, nL_len]
    have holen := ho4.len
    have mne : decide ((m : Int) ≠ (m : Int)) = false := by simp
    have hl49 := arI_len (g := rat F)
    simp (disch := omega) only [f8_r7, f8_r9, f8_r10, w_skip, w_reg, w_seq, w_cond, w_block, seqK_n, ckB_b, cbB_b, okG_b, asG_f, true_and, x_nil, x_g, x_mv, x_as, x_pick, x_bin, x_ext, x_len, kx, rvP_ok, okv_some, ev_t, ev_c, getV_some, putD_some, bin_neq, pick_b, onTup_t, nth0, nth1, of0, getK_set, Nat.reduceEqDiff, ↓reduceIte, Bool.false_eq_true, Bool.not_false, ne0, hylen, mne]
    generalize lyR F m = d at *
    have eq1 : ((mxT d m + 1 : Nat) : Int) - 1 = (mxT d m : Int) := by omega
    refine loop_monoO (Q := fun e' fr h5 => e' = .exit 0 ∧ h5 = h4 ∧ fr.get (K.ofNat 5) = some (.i .i64 (m : Int)) ∧ fr.get (K.ofNat 6) = some (e) ∧ fr.get (K.ofNat 7) = some (o) ∧ fr.get (K.ofNat 10) = some (c) ∧ fr.get (K.ofNat 12) = some (y) ∧ fr.get (K.ofNat 14) = some (.i .i64 (mxT d m : Int))) ?_ (W_loop (f8_I h4 m e o y c d) (fun i => m - i) ?_ 0 ⟨by omega, rfl, by simp (disch := omega) only [getK_set, Nat.reduceEqDiff, ↓reduceIte, and_self, Int.natCast_zero, mxT]⟩)
    · rintro e' fr h5 ⟨rfl, rfl, g5, g6, g7, g10, g12, g14⟩
      simp (disch := omega) only [f8_r14, w_reg, w_seq, w_block, seqK_n, atK_e, x_nil, x_as, ev_c, putD_some, of0, ↓reduceIte]
      refine W_loop (f8_J h5 m e o y c d (arI (rat F)).length) (fun i => (arI (rat F)).length - i) ?_ 0 ⟨by omega, rfl, by simp (disch := omega) only [getK_set, Nat.reduceEqDiff, ↓reduceIte, g5, g6, g7, g10, g12, g14, and_self, Int.natCast_zero]⟩
      clear g5 g6 g7 g10 g12 g14 fr
      rintro i fr h6 ⟨hi, rfl, g5, g6, g7, g10, g12, g14, g16⟩
      unfold f8_l1
      by_cases hlt : i < (arI (rat F)).length
      · have d0 : decide ((i : Int) < ((arI (rat F)).length : Int)) = true := decide_eq_true (by omega)
        obtain ⟨id, q, p1, _, p2, p3⟩ := ho4.srpo.at2 hlt
        obtain ⟨a, b, ha, hb, hab, hx⟩ := mem_arI.1 (List.getElem_mem hlt)
        rw [hx] at p2 p3
        have hlt' := on.lt _ _ hab
        obtain ⟨qa, qa1, qa2⟩ := hy.at a (by rw [nL_len]; exact hlt'.1)
        obtain ⟨qb, qb1, qb2⟩ := hy.at b (by rw [nL_len]; exact hlt'.2)
        rw [nL_at hlt'.1] at qa2
        rw [nL_at hlt'.2] at qb2
        have qa2 : loadV h6 qa one? = .ok (.i .i64 (d a : Int)) h6 := qa2
        have qb2 : loadV h6 qb one? = .ok (.i .i64 (d b : Int)) h6 := qb2
        have hup : d a + 1 ≤ d b := hlyup a b hab
        have d1 : decide ((d a : Int) ≥ (d b : Int)) = false := decide_eq_false (by omega)
        have z0 : ∀ ff : Nat → RV, idxV (.i .i64 0) 2 ff = ff 0 := fun _ => rfl
        have z1 : ∀ ff : Nat → RV, idxV (.i .i64 1) 2 ff = ff 1 := fun _ => rfl
        simp (disch := omega) only [f8_r15, f8_r16, f8_r18, w_skip, w_reg, w_draw, w_seq, w_cond, w_block, seqK_n, atK_n, loopK_n, ckB_b, cbB_b, true_and, x_nil, x_mv, x_as, x_bin, x_len, kx, kg, xg_nil, xg_mv, xg_ld, xg_bin, xg_iadr, xg_iads, xd_cons, fresh_nil, stK_n, stay_nil, rvP_ok, okv_some, ev_t, ev_c, getV_some, putD_some, bin_add, bin_lss, bin_geq, onP_p, of0, of1, getK_set, Nat.reduceEqDiff, ↓reduceIte, Bool.false_eq_true, g7, g12, g16, holen, d0, p1, z0, z1, p2, p3, qa1, qa2, qb1, qb2, d1, fw64]
        exact ⟨i + 1, by omega, hlt, rfl, by simp (disch := omega) only [getK_set, Nat.reduceEqDiff, ↓reduceIte, g5, g6, g7, g10, g12, g14, and_self, Int.natCast_add, Int.natCast_one]⟩
      · have d0 : decide ((i : Int) < ((arI (rat F)).length : Int)) = false := decide_eq_false (by omega)
        have eq2 : decide (((mxT d m : Nat) : Int) = ((mxT d m : Nat) : Int)) = true := by simp
        have eq3 : decide (((mxT d m + 1 : Nat) : Int) = ((mxT d m + 1 : Nat) : Int)) = true := by simp
        simp (disch := omega) only [f8_r15, f8_r19, w_reg, w_seq, w_cond, w_exit, seqK_n, seqK_e, atK_e, loopK_e, ckB_b, cbB_b, okG_b, asG_t, true_and, x_nil, x_g, x_mv, x_bin, x_call, x_len, kx, rvP_ok, okv_some, ev_t, ev_c, evs_nil, evs_cons, getV_some, putD_some, bin_sub, bin_eql, bin_lss, of1, getK_set, Nat.reduceEqDiff, ↓reduceIte, Bool.false_eq_true, decide_eq_true_eq, g5, g6, g7, g10, g14, g16, holen, d0, hclen, eq1, fw64]
        refine (callP_0 (ef := f43) k.c43 rfl (f43_ret k.toCallsCo4 hg.n7 he4.srpo (K0 := mxT d m + 1) (by omega) (by omega) hmy.1 (fun c hc => hmy.2 c (by omega)) hc4)).mono ?_
        rintro r h7 ⟨rfl, gr7⟩
        simp (disch := omega) only [f8_rs, w_ret, seqK_n, okG_b, asG_t, true_and, retK_r, x_nil, x_g, x_mv, x_as, x_pick, x_bin, x_call, x_len, kx, rvP_ok, okv_some, ev_t, ev_c, evs_nil, getV_some, putD_some, bin_eql, pick_b, oGet_s, readRs_nil, readRs_t, retV_1, Option.some.injEq, exists_eq_left', getK_set, Nat.reduceEqDiff, ↓reduceIte, decide_eq_true_eq, g10, hclen, k.aw, true_and]
        exact gB.trans (gr7.low gB.nx)
    · rintro i fr h5 ⟨hi, rfl, g5, g6, g7, g10, g12, g14, g15⟩
      unfold f8_l0
      by_cases hlt : i < m
      · have d0 : decide ((i : Int) < (m : Int)) = true := decide_eq_true (by omega)
        obtain ⟨q, q1, q2⟩ := hy.at i (by rw [nL_len]; omega)
        rw [nL_at hlt] at q2
        have q2 : loadV h5 q one? = .ok (.i .i64 (d i : Int)) h5 := q2
        have em : max (mxT d i : Int) (d i : Int) = ((mxT d (i + 1) : Nat) : Int) := by show _ = ((max (mxT d i) (d i) : Nat) : Int); omega
        simp (disch := omega) only [f8_r11, f8_r12, f8_r13, w_skip, w_reg, w_seq, w_cond, w_block, seqK_n, atK_n, loopK_n, ckB_b, cbB_b, true_and, x_nil, x_mv, x_as, x_ld, x_bin, x_iads, x_max, kx, rvP_ok, okv_some, ev_t, ev_c, getV_some, putD_some, bin_add, bin_lss, max_ii, of1, getK_set, Nat.reduceEqDiff, ↓reduceIte, g5, g12, g14, g15, d0, q1, q2, em, fw64]
        exact ⟨i + 1, by omega, by omega, rfl, by simp (disch := omega) only [getK_set, Nat.reduceEqDiff, ↓reduceIte, g5, g6, g7, g10, g12, and_self, Int.natCast_add, Int.natCast_one]⟩
      · have d0 : decide ((i : Int) < (m : Int)) = false := decide_eq_false (by omega)
        have ei : i = m := by omega
        subst ei
        simp (disch := omega) only [f8_r11, w_reg, w_seq, w_cond, w_exit, seqK_n, seqK_e, loopK_e, ckB_b, cbB_b, x_nil, x_mv, x_bin, kx, rvP_ok, okv_some, ev_t, getV_some, putD_some, bin_lss, getK_set, Nat.reduceEqDiff, ↓reduceIte, Bool.false_eq_true, g5, g6, g7, g10, g12, g14, g15, d0, and_self]
end
end Go.Ev
namespace Go.Ev
open Go Go.RowKit
theorem HC.empty : HC ⟨.e, .nil⟩ := fun _ _ => by show getB (T.get _ .nil) = _; rw [T.get_nil]; rfl
theorem pV_inj {x y : Int × Int} (h : pV x = pV y) : x = y := by
  unfold pV at h
  injection h with h
  injection h with h1 h
  injection h with h2 _
  injection h1 with _ h1
  injection h2 with _ h2
  exact Prod.ext h1 h2
theorem aV_inj {x y : Nat × Nat} (h : aV x = aV y) : x = y := by
  rw [aV_pV, aV_pV] at h
  have := pV_inj h
  injection this with h1 h2
  exact Prod.ext (by omega) (by omega)
theorem iV_inj {k : IntKind} {a b : Int} (h : V.i k a = V.i k b) : a = b := by injection h
section
variable {Y : Rig} {fs : T EF}
theorem frV_plain {L : List Bool} : (frV L).plainT = true := by unfold frV; split <;> rfl
theorem orV_plain {L : List Bool} : (orV L).plainT = true := by
  unfold orV
  split
  · show ([rV _, V.b true].all V.plain) = true
    simp only [List.all_cons, List.all_nil, rV_plain, Bool.true_and]; rfl
  · show ([rV _, V.b false].all V.plain) = true
    simp only [List.all_cons, List.all_nil, rV_plain, Bool.true_and]; rfl
theorem rV_plainT {L : List Bool} : (rV L).plainT = true := rV_plain (L := L)
def D96 : Type := {_x : Int × Int // True}
noncomputable def A96 : D96 → List V := fun ⟨x, _⟩ => [V.i .i64 x.1, V.i .i64 x.2]
noncomputable def F96 : D96 → V := fun ⟨x, _⟩ => V.b (nodeB x.1 x.2)
theorem I96 : ∀ x y, A96 x = A96 y → F96 x = F96 y := by
  rintro ⟨x, p⟩ ⟨y, q⟩ h
  have h : [V.i .i64 x.1, V.i .i64 x.2] = [V.i .i64 y.1, V.i .i64 y.2] := h
  injection h with h0 h
  have e0 := iV_inj h0
  injection h with h1 h
  have e1 := iV_inj h1
  have e : x = y := by
    exact Prod.ext e0 e1
  subst e
  rfl
theorem P96 : ∀ x, (A96 x).all V.plain = true := by
  rintro ⟨x, p⟩
  show ([V.i .i64 x.1, V.i .i64 x.2].all V.plain) = true
  first | rfl | (simp only [List.all_cons, List.all_nil, rV_plain, Bool.true_and, Bool.and_true]; done) | (simp only [List.all_cons, List.all_nil, rV_plain, Bool.true_and, Bool.and_true]; rfl)
theorem Q96 : ∀ x, (F96 x).plainT = true := fun ⟨_, _⟩ => rfl
theorem G96 (hfs : Fns Y fs) (hf : f96.nv = none ∧ ∃ fn c, FnOk Y (K.ofNat 96) f96 fn c) : ∀ args v, dataG A96 F96 args = some v → Gives Y (K.ofNat 96) args v := dataG_gives hfs hf P96 Q96 fun ⟨_, p⟩ => by have _ := p; exact f96_ret
theorem E96 {ef : EF} (hf : fs.get (K.ofNat 96) = some ef) (hn : ef.nv = some (flatG (dataG A96 F96))) (x : Int × Int) (p : True) (h : H) (P : V → H → Prop) : CallP fs (.fn (K.ofNat 96) []) (A96 ⟨x, p⟩) h P = P (F96 ⟨x, p⟩) h := callP_data hf hn I96 _ h P
def D77 : Type := {_x : Int × Int // True}
noncomputable def A77 : D77 → List V := fun ⟨x, _⟩ => [pV x]
noncomputable def F77 : D77 → V := fun ⟨x, _⟩ => pV (x.2, x.1)
theorem I77 : ∀ x y, A77 x = A77 y → F77 x = F77 y := by
  rintro ⟨x, p⟩ ⟨y, q⟩ h
  have h : [pV x] = [pV y] := h
  injection h with h0 h
  have e0 := pV_inj h0
  have e : x = y := by
    exact e0
  subst e
  rfl
theorem P77 : ∀ x, (A77 x).all V.plain = true := by
  rintro ⟨x, p⟩
  show ([pV x].all V.plain) = true
  first | rfl | (simp only [List.all_cons, List.all_nil, rV_plain, Bool.true_and, Bool.and_true]; done) | (simp only [List.all_cons, List.all_nil, rV_plain, Bool.true_and, Bool.and_true]; rfl)
theorem Q77 : ∀ x, (F77 x).plainT = true := fun ⟨_, _⟩ => rfl
theorem G77 (hfs : Fns Y fs) (hf : f77.nv = none ∧ ∃ fn c, FnOk Y (K.ofNat 77) f77 fn c) : ∀ args v, dataG A77 F77 args = some v → Gives Y (K.ofNat 77) args v := dataG_gives hfs hf P77 Q77 fun ⟨_, p⟩ => by have _ := p; exact f77_ret
theorem E77 {ef : EF} (hf : fs.get (K.ofNat 77) = some ef) (hn : ef.nv = some (flatG (dataG A77 F77))) (x : Int × Int) (p : True) (h : H) (P : V → H → Prop) : CallP fs (.fn (K.ofNat 77) []) (A77 ⟨x, p⟩) h P = P (F77 ⟨x, p⟩) h := callP_data hf hn I77 _ h P
def D78 : Type := {_x : Int × Int // True}
noncomputable def A78 : D78 → List V := fun ⟨x, _⟩ => [pV x]
noncomputable def F78 : D78 → V := fun ⟨x, _⟩ => pV x
theorem I78 : ∀ x y, A78 x = A78 y → F78 x = F78 y := by
  rintro ⟨x, p⟩ ⟨y, q⟩ h
  have h : [pV x] = [pV y] := h
  injection h with h0 h
theorem P78 : ∀ x, (A78 x).all V.plain = true := by
  rintro ⟨x, p⟩
  show ([pV x].all V.plain) = true
  first | rfl | (simp only [List.all_cons, List.all_nil, rV_plain, Bool.true_and, Bool.and_true]; done) | (simp only [List.all_cons, List.all_nil, rV_plain, Bool.true_and, Bool.and_true]; rfl)
theorem Q78 : ∀ x, (F78 x).plainT = true := fun ⟨_, _⟩ => rfl
theorem G78 (hfs : Fns Y fs) (hf : f78.nv = none ∧ ∃ fn c, FnOk Y (K.ofNat 78) f78 fn c) : ∀ args v, dataG A78 F78 args = some v → Gives Y (K.ofNat 78) args v := dataG_gives hfs hf P78 Q78 fun ⟨_, p⟩ => by have _ := p; exact f78_ret
theorem E78 {ef : EF} (hf : fs.get (K.ofNat 78) = some ef) (hn : ef.nv = some (flatG (dataG A78 F78))) (x : Int × Int) (p : True) (h : H) (P : V → H → Prop) : CallP fs (.fn (K.ofNat 78) []) (A78 ⟨x, p⟩) h P = P (F78 ⟨x, p⟩) h := callP_data hf hn I78 _ h P
def D56 : Type := {_x : Int × Int // True}
noncomputable def A56 : D56 → List V := fun ⟨x, _⟩ => [pV x]
noncomputable def F56 : D56 → V := fun ⟨x, _⟩ => pV x
theorem I56 : ∀ x y, A56 x = A56 y → F56 x = F56 y := by
  rintro ⟨x, p⟩ ⟨y, q⟩ h
  have h : [pV x] = [pV y] := h
  injection h with h0 h
theorem P56 : ∀ x, (A56 x).all V.plain = true := by
  rintro ⟨x, p⟩
  show ([pV x].all V.plain) = true
  first | rfl | (simp only [List.all_cons, List.all_nil, rV_plain, Bool.true_and, Bool.and_true]; done) | (simp only [List.all_cons, List.all_nil, rV_plain, Bool.true_and, Bool.and_true]; rfl)
theorem Q56 : ∀ x, (F56 x).plainT = true := fun ⟨_, _⟩ => rfl
theorem G56 (hfs : Fns Y fs) (hf : f56.nv = none ∧ ∃ fn c, FnOk Y (K.ofNat 56) f56 fn c) : ∀ args v, dataG A56 F56 args = some v → Gives Y (K.ofNat 56) args v := dataG_gives hfs hf P56 Q56 fun ⟨_, p⟩ => by have _ := p; exact f56_ret
theorem E56 {ef : EF} (hf : fs.get (K.ofNat 56) = some ef) (hn : ef.nv = some (flatG (dataG A56 F56))) (x : Int × Int) (p : True) (h : H) (P : V → H → Prop) : CallP fs (.fn (K.ofNat 56) []) (A56 ⟨x, p⟩) h P = P (F56 ⟨x, p⟩) h := callP_data hf hn I56 _ h P
def D70 : Type := {x : List Bool // x.length = 49}
noncomputable def A70 : D70 → List V := fun ⟨x, _⟩ => [rV x]
noncomputable def F70 : D70 → V := fun ⟨x, _⟩ => rV (turnR x)
theorem I70 : ∀ x y, A70 x = A70 y → F70 x = F70 y := by
  rintro ⟨x, p⟩ ⟨y, q⟩ h
  have h : [rV x] = [rV y] := h
  injection h with h0 h
  have e0 := rV_inj h0
  have e : x = y := by
    exact e0
  subst e
  rfl
theorem P70 : ∀ x, (A70 x).all V.plain = true := by
  rintro ⟨x, p⟩
  show ([rV x].all V.plain) = true
  first | rfl | (simp only [List.all_cons, List.all_nil, rV_plain, Bool.and_true]; done) | (simp only [List.all_cons, List.all_nil, rV_plain, Bool.true_and, Bool.and_true]; rfl)
theorem Q70 : ∀ x, (F70 x).plainT = true := fun ⟨_, _⟩ => rV_plainT
theorem G70 (h84 : fs.get (K.ofNat 84) = some f84) (h101 : fs.get (K.ofNat 101) = some f101) (hfs : Fns Y fs) (hf : f70.nv = none ∧ ∃ fn c, FnOk Y (K.ofNat 70) f70 fn c) : ∀ args v, dataG A70 F70 args = some v → Gives Y (K.ofNat 70) args v := dataG_gives hfs hf P70 Q70 fun ⟨_, p⟩ => by have _ := p; exact (f70_ret p h84 h101 HC.empty).mono fun _ _ h => h.1
theorem E70 {ef : EF} (hf : fs.get (K.ofNat 70) = some ef) (hn : ef.nv = some (flatG (dataG A70 F70))) (x : List Bool) (p : x.length = 49) (h : H) (P : V → H → Prop) : CallP fs (.fn (K.ofNat 70) []) (A70 ⟨x, p⟩) h P = P (F70 ⟨x, p⟩) h := callP_data hf hn I70 _ h P
def D81 : Type := {x : List Bool × List Bool // x.1.length = 49 ∧ x.2.length = 49}
noncomputable def A81 : D81 → List V := fun ⟨x, _⟩ => [rV x.1, rV x.2]
noncomputable def F81 : D81 → V := fun ⟨x, _⟩ => rV (woR x.1 x.2)
theorem I81 : ∀ x y, A81 x = A81 y → F81 x = F81 y := by
  rintro ⟨x, p⟩ ⟨y, q⟩ h
  have h : [rV x.1, rV x.2] = [rV y.1, rV y.2] := h
  injection h with h0 h
  have e0 := rV_inj h0
  injection h with h1 h
  have e1 := rV_inj h1
  have e : x = y := by
    exact Prod.ext e0 e1
  subst e
  rfl
theorem P81 : ∀ x, (A81 x).all V.plain = true := by
  rintro ⟨x, p⟩
  show ([rV x.1, rV x.2].all V.plain) = true
  first | rfl | (simp only [List.all_cons, List.all_nil, rV_plain, Bool.and_true]; done) | (simp only [List.all_cons, List.all_nil, rV_plain, Bool.true_and, Bool.and_true]; rfl)
theorem Q81 : ∀ x, (F81 x).plainT = true := fun ⟨_, _⟩ => rV_plainT
theorem G81 (h84 : fs.get (K.ofNat 84) = some f84) (h101 : fs.get (K.ofNat 101) = some f101) (hfs : Fns Y fs) (hf : f81.nv = none ∧ ∃ fn c, FnOk Y (K.ofNat 81) f81 fn c) : ∀ args v, dataG A81 F81 args = some v → Gives Y (K.ofNat 81) args v := dataG_gives hfs hf P81 Q81 fun ⟨_, p⟩ => by have _ := p; exact f81_ret p.1 p.2 h84 h101 HC.empty
theorem E81 {ef : EF} (hf : fs.get (K.ofNat 81) = some ef) (hn : ef.nv = some (flatG (dataG A81 F81))) (x : List Bool × List Bool) (p : x.1.length = 49 ∧ x.2.length = 49) (h : H) (P : V → H → Prop) : CallP fs (.fn (K.ofNat 81) []) (A81 ⟨x, p⟩) h P = P (F81 ⟨x, p⟩) h := callP_data hf hn I81 _ h P
def D85 : Type := {x : List Bool × (Int × Int) // x.1.length = 49}
noncomputable def A85 : D85 → List V := fun ⟨x, _⟩ => [rV x.1, pV x.2]
noncomputable def F85 : D85 → V := fun ⟨x, _⟩ => V.b (hasR x.1 x.2)
theorem I85 : ∀ x y, A85 x = A85 y → F85 x = F85 y := by
  rintro ⟨x, p⟩ ⟨y, q⟩ h
  have h : [rV x.1, pV x.2] = [rV y.1, pV y.2] := h
  injection h with h0 h
  have e0 := rV_inj h0
  injection h with h1 h
  have e1 := pV_inj h1
  have e : x = y := by
    exact Prod.ext e0 e1
  subst e
  rfl
theorem P85 : ∀ x, (A85 x).all V.plain = true := by
  rintro ⟨x, p⟩
  show ([rV x.1, pV x.2].all V.plain) = true
  first | rfl | (simp only [List.all_cons, List.all_nil, rV_plain, Bool.true_and, Bool.and_true]; done) | (simp only [List.all_cons, List.all_nil, rV_plain, Bool.true_and, Bool.and_true]; rfl)
theorem Q85 : ∀ x, (F85 x).plainT = true := fun ⟨_, _⟩ => rfl
theorem G85 (k : Nat1 fs) (hfs : Fns Y fs) (hf : f85.nv = none ∧ ∃ fn c, FnOk Y (K.ofNat 85) f85 fn c) : ∀ args v, dataG A85 F85 args = some v → Gives Y (K.ofNat 85) args v := dataG_gives hfs hf P85 Q85 fun ⟨_, p⟩ => by have _ := p; exact f85_ret k p
theorem E85 {ef : EF} (hf : fs.get (K.ofNat 85) = some ef) (hn : ef.nv = some (flatG (dataG A85 F85))) (x : List Bool × (Int × Int)) (p : x.1.length = 49) (h : H) (P : V → H → Prop) : CallP fs (.fn (K.ofNat 85) []) (A85 ⟨x, p⟩) h P = P (F85 ⟨x, p⟩) h := callP_data hf hn I85 _ h P
def D87 : Type := {x : List Bool // x.length = 49}
noncomputable def A87 : D87 → List V := fun ⟨x, _⟩ => [rV x]
noncomputable def F87 : D87 → V := fun ⟨x, _⟩ => frV x
theorem I87 : ∀ x y, A87 x = A87 y → F87 x = F87 y := by
  rintro ⟨x, p⟩ ⟨y, q⟩ h
  have h : [rV x] = [rV y] := h
  injection h with h0 h
  have e0 := rV_inj h0
  have e : x = y := by
    exact e0
  subst e
  rfl
theorem P87 : ∀ x, (A87 x).all V.plain = true := by
  rintro ⟨x, p⟩
  show ([rV x].all V.plain) = true
  first | rfl | (simp only [List.all_cons, List.all_nil, rV_plain, Bool.and_true]; done) | (simp only [List.all_cons, List.all_nil, rV_plain, Bool.true_and, Bool.and_true]; rfl)
theorem Q87 : ∀ x, (F87 x).plainT = true := fun ⟨_, _⟩ => frV_plain
theorem G87 (k : Nat2 fs) (hfs : Fns Y fs) (hf : f87.nv = none ∧ ∃ fn c, FnOk Y (K.ofNat 87) f87 fn c) : ∀ args v, dataG A87 F87 args = some v → Gives Y (K.ofNat 87) args v := dataG_gives hfs hf P87 Q87 fun ⟨_, p⟩ => by have _ := p; exact f87_ret k p HC.empty
theorem E87 {ef : EF} (hf : fs.get (K.ofNat 87) = some ef) (hn : ef.nv = some (flatG (dataG A87 F87))) (x : List Bool) (p : x.length = 49) (h : H) (P : V → H → Prop) : CallP fs (.fn (K.ofNat 87) []) (A87 ⟨x, p⟩) h P = P (F87 ⟨x, p⟩) h := callP_data hf hn I87 _ h P
def D92 : Type := {x : List Bool // x.length = 49}
noncomputable def A92 : D92 → List V := fun ⟨x, _⟩ => [rV x]
noncomputable def F92 : D92 → V := fun ⟨x, _⟩ => rV (spR x)
theorem I92 : ∀ x y, A92 x = A92 y → F92 x = F92 y := by
  rintro ⟨x, p⟩ ⟨y, q⟩ h
  have h : [rV x] = [rV y] := h
  injection h with h0 h
  have e0 := rV_inj h0
  have e : x = y := by
    exact e0
  subst e
  rfl
theorem P92 : ∀ x, (A92 x).all V.plain = true := by
  rintro ⟨x, p⟩
  show ([rV x].all V.plain) = true
  first | rfl | (simp only [List.all_cons, List.all_nil, rV_plain, Bool.and_true]; done) | (simp only [List.all_cons, List.all_nil, rV_plain, Bool.true_and, Bool.and_true]; rfl)
theorem Q92 : ∀ x, (F92 x).plainT = true := fun ⟨_, _⟩ => rV_plainT
theorem G92 (k : Nat2 fs) (hfs : Fns Y fs) (hf : f92.nv = none ∧ ∃ fn c, FnOk Y (K.ofNat 92) f92 fn c) : ∀ args v, dataG A92 F92 args = some v → Gives Y (K.ofNat 92) args v := dataG_gives hfs hf P92 Q92 fun ⟨_, p⟩ => by have _ := p; exact f92_ret k p HC.empty
theorem E92 {ef : EF} (hf : fs.get (K.ofNat 92) = some ef) (hn : ef.nv = some (flatG (dataG A92 F92))) (x : List Bool) (p : x.length = 49) (h : H) (P : V → H → Prop) : CallP fs (.fn (K.ofNat 92) []) (A92 ⟨x, p⟩) h P = P (F92 ⟨x, p⟩) h := callP_data hf hn I92 _ h P
def D91 : Type := {x : List Bool × List Bool // x.1.length = 49 ∧ x.2.length = 49}
noncomputable def A91 : D91 → List V := fun ⟨x, _⟩ => [rV x.1, rV x.2]
noncomputable def F91 : D91 → V := fun ⟨x, _⟩ => V.b (cvB x.1 x.2)
theorem I91 : ∀ x y, A91 x = A91 y → F91 x = F91 y := by
  rintro ⟨x, p⟩ ⟨y, q⟩ h
  have h : [rV x.1, rV x.2] = [rV y.1, rV y.2] := h
  injection h with h0 h
  have e0 := rV_inj h0
  injection h with h1 h
  have e1 := rV_inj h1
  have e : x = y := by
    exact Prod.ext e0 e1
  subst e
  rfl
theorem P91 : ∀ x, (A91 x).all V.plain = true := by
  rintro ⟨x, p⟩
  show ([rV x.1, rV x.2].all V.plain) = true
  first | rfl | (simp only [List.all_cons, List.all_nil, rV_plain, Bool.and_true]; done) | (simp only [List.all_cons, List.all_nil, rV_plain, Bool.true_and, Bool.and_true]; rfl)
theorem Q91 : ∀ x, (F91 x).plainT = true := fun ⟨_, _⟩ => rfl
theorem G91 (k : Nat2 fs) (hfs : Fns Y fs) (hf : f91.nv = none ∧ ∃ fn c, FnOk Y (K.ofNat 91) f91 fn c) : ∀ args v, dataG A91 F91 args = some v → Gives Y (K.ofNat 91) args v := dataG_gives hfs hf P91 Q91 fun ⟨_, p⟩ => by have _ := p; exact f91_ret k p.1 p.2 HC.empty
theorem E91 {ef : EF} (hf : fs.get (K.ofNat 91) = some ef) (hn : ef.nv = some (flatG (dataG A91 F91))) (x : List Bool × List Bool) (p : x.1.length = 49 ∧ x.2.length = 49) (h : H) (P : V → H → Prop) : CallP fs (.fn (K.ofNat 91) []) (A91 ⟨x, p⟩) h P = P (F91 ⟨x, p⟩) h := callP_data hf hn I91 _ h P
def D49 : Type := {x : List Bool × Nat // x.1.length = 49 ∧ x.2 ≤ 7}
noncomputable def A49 : D49 → List V := fun ⟨x, _⟩ => [rV x.1, V.i .i64 (x.2 : Int)]
noncomputable def F49 : D49 → V := fun ⟨x, _⟩ => rV (otR x.2 x.1)
theorem I49 : ∀ x y, A49 x = A49 y → F49 x = F49 y := by
  rintro ⟨x, p⟩ ⟨y, q⟩ h
  have h : [rV x.1, V.i .i64 (x.2 : Int)] = [rV y.1, V.i .i64 (y.2 : Int)] := h
  injection h with h0 h
  have e0 := rV_inj h0
  injection h with h1 h
  have e1 := iV_inj h1
  have e : x = y := by
    exact Prod.ext e0 (by omega)
  subst e
  rfl
theorem P49 : ∀ x, (A49 x).all V.plain = true := by
  rintro ⟨x, p⟩
  show ([rV x.1, V.i .i64 (x.2 : Int)].all V.plain) = true
  first | rfl | (simp only [List.all_cons, List.all_nil, rV_plain, Bool.true_and, Bool.and_true]; done) | (simp only [List.all_cons, List.all_nil, rV_plain, Bool.true_and, Bool.and_true]; rfl)
theorem Q49 : ∀ x, (F49 x).plainT = true := fun ⟨_, _⟩ => rV_plainT
theorem G49 (k : Nat2 fs) (hfs : Fns Y fs) (hf : f49.nv = none ∧ ∃ fn c, FnOk Y (K.ofNat 49) f49 fn c) : ∀ args v, dataG A49 F49 args = some v → Gives Y (K.ofNat 49) args v := dataG_gives hfs hf P49 Q49 fun ⟨_, p⟩ => by have _ := p; exact f49_ret k p.1 p.2 HC.empty
theorem E49 {ef : EF} (hf : fs.get (K.ofNat 49) = some ef) (hn : ef.nv = some (flatG (dataG A49 F49))) (x : List Bool × Nat) (p : x.1.length = 49 ∧ x.2 ≤ 7) (h : H) (P : V → H → Prop) : CallP fs (.fn (K.ofNat 49) []) (A49 ⟨x, p⟩) h P = P (F49 ⟨x, p⟩) h := callP_data hf hn I49 _ h P
def D57 : Type := {x : List Bool × (Nat × Nat) // x.1.length = 49 ∧ (x.2.1 < 7 ∧ x.2.2 < 7)}
noncomputable def A57 : D57 → List V := fun ⟨x, _⟩ => [rV x.1, aV x.2]
noncomputable def F57 : D57 → V := fun ⟨x, _⟩ => rV (clsR x.1 x.2)
theorem I57 : ∀ x y, A57 x = A57 y → F57 x = F57 y := by
  rintro ⟨x, p⟩ ⟨y, q⟩ h
  have h : [rV x.1, aV x.2] = [rV y.1, aV y.2] := h
  injection h with h0 h
  have e0 := rV_inj h0
  injection h with h1 h
  have e1 := aV_inj h1
  have e : x = y := by
    exact Prod.ext e0 e1
  subst e
  rfl
theorem P57 : ∀ x, (A57 x).all V.plain = true := by
  rintro ⟨x, p⟩
  show ([rV x.1, aV x.2].all V.plain) = true
  first | rfl | (simp only [List.all_cons, List.all_nil, rV_plain, Bool.true_and, Bool.and_true]; done) | (simp only [List.all_cons, List.all_nil, rV_plain, Bool.true_and, Bool.and_true]; rfl)
theorem Q57 : ∀ x, (F57 x).plainT = true := fun ⟨_, _⟩ => rV_plainT
theorem G57 (k : Nat3 fs) (h86 : fs.get (K.ofNat 86) = some f86) (h102 : fs.get (K.ofNat 102) = some f102) (hfs : Fns Y fs) (hf : f57.nv = none ∧ ∃ fn c, FnOk Y (K.ofNat 57) f57 fn c) : ∀ args v, dataG A57 F57 args = some v → Gives Y (K.ofNat 57) args v := dataG_gives hfs hf P57 Q57 fun ⟨_, p⟩ => by have _ := p; exact f57_ret k h86 h102 p.1 p.2 HC.empty
theorem E57 {ef : EF} (hf : fs.get (K.ofNat 57) = some ef) (hn : ef.nv = some (flatG (dataG A57 F57))) (x : List Bool × (Nat × Nat)) (p : x.1.length = 49 ∧ (x.2.1 < 7 ∧ x.2.2 < 7)) (h : H) (P : V → H → Prop) : CallP fs (.fn (K.ofNat 57) []) (A57 ⟨x, p⟩) h P = P (F57 ⟨x, p⟩) h := callP_data hf hn I57 _ h P
def D55 : Type := {x : List Bool × ((Nat × Nat) × (Nat × Nat)) // x.1.length = 49 ∧ ((x.2.1.1 < 7 ∧ x.2.1.2 < 7) ∧ (x.2.2.1 < 7 ∧ x.2.2.2 < 7))}
noncomputable def A55 : D55 → List V := fun ⟨x, _⟩ => [rV x.1, aV x.2.1, aV x.2.2]
noncomputable def F55 : D55 → V := fun ⟨x, _⟩ => V.b (decide (x.2.2 ∈ fcY x.1 x.2.1.1 x.2.1.2))
theorem I55 : ∀ x y, A55 x = A55 y → F55 x = F55 y := by
  rintro ⟨x, p⟩ ⟨y, q⟩ h
  have h : [rV x.1, aV x.2.1, aV x.2.2] = [rV y.1, aV y.2.1, aV y.2.2] := h
  injection h with h0 h
  have e0 := rV_inj h0
  injection h with h1 h
  have e1 := aV_inj h1
  injection h with h2 h
  have e2 := aV_inj h2
  have e : x = y := by
    exact Prod.ext e0 (Prod.ext e1 e2)
  subst e
  rfl
theorem P55 : ∀ x, (A55 x).all V.plain = true := by
  rintro ⟨x, p⟩
  show ([rV x.1, aV x.2.1, aV x.2.2].all V.plain) = true
  first | rfl | (simp only [List.all_cons, List.all_nil, rV_plain, Bool.true_and, Bool.and_true]; done) | (simp only [List.all_cons, List.all_nil, rV_plain, Bool.true_and, Bool.and_true]; rfl)
theorem Q55 : ∀ x, (F55 x).plainT = true := fun ⟨_, _⟩ => rfl
theorem G55 (h86 : fs.get (K.ofNat 86) = some f86) (h102 : fs.get (K.ofNat 102) = some f102) (hfs : Fns Y fs) (hf : f55.nv = none ∧ ∃ fn c, FnOk Y (K.ofNat 55) f55 fn c) : ∀ args v, dataG A55 F55 args = some v → Gives Y (K.ofNat 55) args v := dataG_gives hfs hf P55 Q55 fun ⟨_, p⟩ => by have _ := p; exact f55_ret h86 h102 p.1 p.2.1 p.2.2 HC.empty
theorem E55 {ef : EF} (hf : fs.get (K.ofNat 55) = some ef) (hn : ef.nv = some (flatG (dataG A55 F55))) (x : List Bool × ((Nat × Nat) × (Nat × Nat))) (p : x.1.length = 49 ∧ ((x.2.1.1 < 7 ∧ x.2.1.2 < 7) ∧ (x.2.2.1 < 7 ∧ x.2.2.2 < 7))) (h : H) (P : V → H → Prop) : CallP fs (.fn (K.ofNat 55) []) (A55 ⟨x, p⟩) h P = P (F55 ⟨x, p⟩) h := callP_data hf hn I55 _ h P
def D76 : Type := {x : List Bool // x.length = 49}
noncomputable def A76 : D76 → List V := fun ⟨x, _⟩ => [rV x]
noncomputable def F76 : D76 → V := fun ⟨x, _⟩ => V.b (trB x)
theorem I76 : ∀ x y, A76 x = A76 y → F76 x = F76 y := by
  rintro ⟨x, p⟩ ⟨y, q⟩ h
  have h : [rV x] = [rV y] := h
  injection h with h0 h
  have e0 := rV_inj h0
  have e : x = y := by
    exact e0
  subst e
  rfl
theorem P76 : ∀ x, (A76 x).all V.plain = true := by
  rintro ⟨x, p⟩
  show ([rV x].all V.plain) = true
  first | rfl | (simp only [List.all_cons, List.all_nil, rV_plain, Bool.and_true]; done) | (simp only [List.all_cons, List.all_nil, rV_plain, Bool.true_and, Bool.and_true]; rfl)
theorem Q76 : ∀ x, (F76 x).plainT = true := fun ⟨_, _⟩ => rfl
theorem G76 (k : Nat3 fs) (hfs : Fns Y fs) (hf : f76.nv = none ∧ ∃ fn c, FnOk Y (K.ofNat 76) f76 fn c) : ∀ args v, dataG A76 F76 args = some v → Gives Y (K.ofNat 76) args v := dataG_gives hfs hf P76 Q76 fun ⟨_, p⟩ => by have _ := p; exact f76_ret k p
theorem E76 {ef : EF} (hf : fs.get (K.ofNat 76) = some ef) (hn : ef.nv = some (flatG (dataG A76 F76))) (x : List Bool) (p : x.length = 49) (h : H) (P : V → H → Prop) : CallP fs (.fn (K.ofNat 76) []) (A76 ⟨x, p⟩) h P = P (F76 ⟨x, p⟩) h := callP_data hf hn I76 _ h P
def D80 : Type := {_x : (Int × Int) × (Int × Int) // True}
noncomputable def A80 : D80 → List V := fun ⟨x, _⟩ => [pV x.1, pV x.2]
noncomputable def F80 : D80 → V := fun ⟨x, _⟩ => V.b (bfB x.1 x.2)
theorem I80 : ∀ x y, A80 x = A80 y → F80 x = F80 y := by
  rintro ⟨x, p⟩ ⟨y, q⟩ h
  have h : [pV x.1, pV x.2] = [pV y.1, pV y.2] := h
  injection h with h0 h
  have e0 := pV_inj h0
  injection h with h1 h
  have e1 := pV_inj h1
  have e : x = y := by
    exact Prod.ext e0 e1
  subst e
  rfl
theorem P80 : ∀ x, (A80 x).all V.plain = true := by
  rintro ⟨x, p⟩
  show ([pV x.1, pV x.2].all V.plain) = true
  first | rfl | (simp only [List.all_cons, List.all_nil, rV_plain, Bool.true_and, Bool.and_true]; done) | (simp only [List.all_cons, List.all_nil, rV_plain, Bool.true_and, Bool.and_true]; rfl)
theorem Q80 : ∀ x, (F80 x).plainT = true := fun ⟨_, _⟩ => rfl
theorem G80 (h99 : fs.get (K.ofNat 99) = some f99) (h108 : fs.get (K.ofNat 108) = some f108) (h121 : fs.get (K.ofNat 121) = some f121) (hfs : Fns Y fs) (hf : f80.nv = none ∧ ∃ fn c, FnOk Y (K.ofNat 80) f80 fn c) : ∀ args v, dataG A80 F80 args = some v → Gives Y (K.ofNat 80) args v := dataG_gives hfs hf P80 Q80 fun ⟨_, p⟩ => by have _ := p; exact f80_ret h99 h108 h121
theorem E80 {ef : EF} (hf : fs.get (K.ofNat 80) = some ef) (hn : ef.nv = some (flatG (dataG A80 F80))) (x : (Int × Int) × (Int × Int)) (p : True) (h : H) (P : V → H → Prop) : CallP fs (.fn (K.ofNat 80) []) (A80 ⟨x, p⟩) h P = P (F80 ⟨x, p⟩) h := callP_data hf hn I80 _ h P
def D60 : Type := {x : List Bool // SymR x}
noncomputable def A60 : D60 → List V := fun ⟨x, _⟩ => [rV x]
noncomputable def F60 : D60 → V := fun ⟨x, _⟩ => orV x
theorem I60 : ∀ x y, A60 x = A60 y → F60 x = F60 y := by
  rintro ⟨x, p⟩ ⟨y, q⟩ h
  have h : [rV x] = [rV y] := h
  injection h with h0 h
  have e0 := rV_inj h0
  have e : x = y := by
    exact e0
  subst e
  rfl
theorem P60 : ∀ x, (A60 x).all V.plain = true := by
  rintro ⟨x, p⟩
  show ([rV x].all V.plain) = true
  first | rfl | (simp only [List.all_cons, List.all_nil, rV_plain, Bool.and_true]; done) | (simp only [List.all_cons, List.all_nil, rV_plain, Bool.true_and, Bool.and_true]; rfl)
theorem Q60 : ∀ x, (F60 x).plainT = true := fun ⟨_, _⟩ => orV_plain
theorem G60 (k : Nat4 fs) (hfs : Fns Y fs) (hf : f60.nv = none ∧ ∃ fn c, FnOk Y (K.ofNat 60) f60 fn c) : ∀ args v, dataG A60 F60 args = some v → Gives Y (K.ofNat 60) args v := dataG_gives hfs hf P60 Q60 fun ⟨_, p⟩ => by have _ := p; exact f60_ret k p HC.empty
theorem E60 {ef : EF} (hf : fs.get (K.ofNat 60) = some ef) (hn : ef.nv = some (flatG (dataG A60 F60))) (x : List Bool) (p : SymR x) (h : H) (P : V → H → Prop) : CallP fs (.fn (K.ofNat 60) []) (A60 ⟨x, p⟩) h P = P (F60 ⟨x, p⟩) h := callP_data hf hn I60 _ h P
end
end Go.Ev
