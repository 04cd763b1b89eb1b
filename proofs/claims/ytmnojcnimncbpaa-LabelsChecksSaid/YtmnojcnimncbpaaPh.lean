/-
  Labels: the law LabelsChecks.
-/
import Derived.Test.YtmnojcnimncbpaaPf
import Derived.Test.YtmnojcnimncbpaaPg
namespace Go.Ev
open Go Go.RowKit
noncomputable def f14_r0 : List EOper := [⟨(some (K.ofNat 4)), none, .as (.c .sn)⟩]
noncomputable def f14_r1 : List EOper := [⟨(some (K.ofNat 5)), none, .as (.c .sn)⟩]
noncomputable def f14_r2 : List EOper := [⟨(some (K.ofNat 6)), none, .mv (.t (K.ofNat 5))⟩, ⟨(some (K.ofNat 7)), none, .mv (.t (K.ofNat 0))⟩, ⟨(some (K.ofNat 8)), none, .mv (.t (K.ofNat 0))⟩, ⟨(some (K.ofNat 9)), none, .len (.t (K.ofNat 8))⟩, ⟨(some (K.ofNat 10)), none, .mv (.t (K.ofNat 1))⟩, ⟨(some (K.ofNat 11)), none, .min (.t (K.ofNat 9)) (.t (K.ofNat 10))⟩, ⟨(some (K.ofNat 12)), none, .slice 2 (.t (K.ofNat 7)) none (some (.t (K.ofNat 11))) none⟩, ⟨(some (K.ofNat 13)), none, .app 2 (.t (K.ofNat 6)) (.t (K.ofNat 12))⟩, ⟨(some (K.ofNat 4)), none, .as (.t (K.ofNat 13))⟩]
noncomputable def f14_c : EC := (.seq (.reg f14_r0) (.seq (.reg f14_r1) (.seq (.reg f14_r2) .ret)))
noncomputable def f14 : EF := ⟨14, [.tmp (K.ofNat 4)], f14_c, none⟩
theorem f14_rs : f14.rs = [.tmp (K.ofNat 4)] := of_eq_true (eq_self _)
noncomputable def f22_r0 : List EOper := [⟨(some (K.ofNat 4)), none, .as (.c (.b false))⟩, ⟨(some (K.ofNat 5)), none, .as (.c (.i .i64 (.ofNat 0)))⟩]
noncomputable def f22_r1 : List EOper := [⟨(some (K.ofNat 7)), none, .mv (.t (K.ofNat 0))⟩, ⟨(some (K.ofNat 8)), none, .mv (.t (K.ofNat 1))⟩, ⟨(some (K.ofNat 9)), none, .call (.c (.fn (K.ofNat 17) [])) [(.t (K.ofNat 7)), (.t (K.ofNat 8))]⟩, ⟨(some (K.ofNat 6)), none, .as (.t (K.ofNat 9))⟩]
noncomputable def f22_r2 : List EOper := [⟨(some (K.ofNat 10)), none, .mv (.t (K.ofNat 6))⟩, ⟨(some (K.ofNat 11)), none, .bin .neq (.t (K.ofNat 10)) (.c (.i .i64 (.ofNat 0)))⟩]
noncomputable def f22_r3 : List EOper := [⟨(some (K.ofNat 12)), none, .mv (.t (K.ofNat 6))⟩, ⟨(some (K.ofNat 4)), none, .as (.c (.b false))⟩, ⟨(some (K.ofNat 5)), none, .as (.t (K.ofNat 12))⟩]
noncomputable def f22_r4 : List EOper := [⟨(some (K.ofNat 13)), none, .mv (.t (K.ofNat 0))⟩, ⟨(some (K.ofNat 14)), none, .mv (.t (K.ofNat 1))⟩, ⟨(some (K.ofNat 15)), none, .call (.c (.fn (K.ofNat 67) [])) [(.t (K.ofNat 13)), (.t (K.ofNat 14))]⟩, ⟨(some (K.ofNat 4)), none, .as (.t (K.ofNat 15))⟩, ⟨(some (K.ofNat 5)), none, .as (.c (.i .i64 (.ofNat 0)))⟩]
noncomputable def f22_c : EC := (.seq (.reg f22_r0) (.seq (.seq (.reg f22_r1) (.seq (.reg f22_r2) (.cond (.t (K.ofNat 11)) (.seq (.reg f22_r3) .ret) .skip))) (.seq (.reg f22_r4) .ret)))
noncomputable def f22 : EF := ⟨16, [.tmp (K.ofNat 4), .tmp (K.ofNat 5)], f22_c, none⟩
theorem f22_rs : f22.rs = [.tmp (K.ofNat 4), .tmp (K.ofNat 5)] := of_eq_true (eq_self _)
noncomputable def f27_r0 : List EOper := [⟨(some (K.ofNat 4)), none, .as (.c .sn)⟩, ⟨(some (K.ofNat 5)), none, .as (.c (.i .i64 (.ofNat 0)))⟩]
noncomputable def f27_r1 : List EOper := [⟨(some (K.ofNat 9)), none, .mv (.t (K.ofNat 0))⟩, ⟨(some (K.ofNat 10)), none, .mv (.t (K.ofNat 1))⟩, ⟨(some (K.ofNat 11)), none, .call (.c (.fn (K.ofNat 17) [])) [(.t (K.ofNat 9)), (.t (K.ofNat 10))]⟩, ⟨(some (K.ofNat 6)), none, .as (.t (K.ofNat 11))⟩]
noncomputable def f27_r2 : List EOper := [⟨(some (K.ofNat 12)), none, .mv (.t (K.ofNat 6))⟩, ⟨(some (K.ofNat 13)), none, .bin .neq (.t (K.ofNat 12)) (.c (.i .i64 (.ofNat 0)))⟩]
noncomputable def f27_r3 : List EOper := [⟨(some (K.ofNat 14)), none, .mv (.t (K.ofNat 6))⟩, ⟨(some (K.ofNat 4)), none, .as (.c .sn)⟩, ⟨(some (K.ofNat 5)), none, .as (.t (K.ofNat 14))⟩]
noncomputable def f27_r4 : List EOper := [⟨(some (K.ofNat 15)), none, .mv (.t (K.ofNat 0))⟩, ⟨(some (K.ofNat 16)), none, .mv (.t (K.ofNat 1))⟩, ⟨(some (K.ofNat 17)), none, .call (.c (.fn (K.ofNat 67) [])) [(.t (K.ofNat 15)), (.t (K.ofNat 16))]⟩, ⟨(some (K.ofNat 18)), none, .not (.t (K.ofNat 17))⟩]
noncomputable def f27_r5 : List EOper := [⟨(some (K.ofNat 4)), none, .as (.c .sn)⟩, ⟨(some (K.ofNat 5)), none, .as (.c (.i .i64 (.ofNat 4)))⟩]
noncomputable def f27_r6 : List EOper := [⟨(some (K.ofNat 20)), none, .mv (.t (K.ofNat 0))⟩, ⟨(some (K.ofNat 21)), none, .mv (.t (K.ofNat 1))⟩, ⟨(some (K.ofNat 22)), none, .call (.c (.fn (K.ofNat 69) [])) [(.t (K.ofNat 20)), (.t (K.ofNat 21))]⟩, ⟨(some (K.ofNat 19)), none, .mv (.t (K.ofNat 22))⟩, ⟨(some (K.ofNat 23)), none, .ext (.t (K.ofNat 19)) 0⟩, ⟨(some (K.ofNat 24)), none, .ext (.t (K.ofNat 19)) 1⟩, ⟨(some (K.ofNat 7)), none, .as (.t (K.ofNat 23))⟩, ⟨(some (K.ofNat 8)), none, .as (.t (K.ofNat 24))⟩]
noncomputable def f27_r7 : List EOper := [⟨(some (K.ofNat 25)), none, .mv (.t (K.ofNat 7))⟩, ⟨(some (K.ofNat 4)), none, .as (.t (K.ofNat 25))⟩, ⟨(some (K.ofNat 5)), none, .as (.c (.i .i64 (.ofNat 0)))⟩]
noncomputable def f27_c : EC := (.seq (.reg f27_r0) (.seq (.seq (.reg f27_r1) (.seq (.reg f27_r2) (.cond (.t (K.ofNat 13)) (.seq (.reg f27_r3) .ret) .skip))) (.seq (.seq (.reg f27_r4) (.cond (.t (K.ofNat 18)) (.seq (.reg f27_r5) .ret) .skip)) (.seq (.reg f27_r6) (.seq (.reg f27_r7) .ret)))))
noncomputable def f27 : EF := ⟨26, [.tmp (K.ofNat 4), .tmp (K.ofNat 5)], f27_c, none⟩
theorem f27_rs : f27.rs = [.tmp (K.ofNat 4), .tmp (K.ofNat 5)] := of_eq_true (eq_self _)
noncomputable def f3_r0 : List EOper := [⟨(some (K.ofNat 6)), none, .as (.c (.b false))⟩]
noncomputable def f3_r1 : List EOper := [⟨(some (K.ofNat 31)), none, .mv (.t (K.ofNat 1))⟩, ⟨(some (K.ofNat 32)), none, .call (.c (.fn (K.ofNat 14) [])) [(.t (K.ofNat 31)), (.c (.i .i64 (.ofNat 20)))]⟩, ⟨(some (K.ofNat 33)), none, .mv (.t (K.ofNat 2))⟩, ⟨(some (K.ofNat 34)), none, .call (.c (.fn (K.ofNat 15) [])) [(.t (K.ofNat 33)), (.c (.i .i64 (.ofNat 10)))]⟩, ⟨(some (K.ofNat 7)), none, .as (.t (K.ofNat 32))⟩, ⟨(some (K.ofNat 8)), none, .as (.t (K.ofNat 34))⟩]
noncomputable def f3_r2 : List EOper := [⟨(some (K.ofNat 35)), none, .mv (.t (K.ofNat 0))⟩, ⟨(some (K.ofNat 36)), none, .mv (.t (K.ofNat 7))⟩, ⟨(some (K.ofNat 37)), none, .call (.c (.fn (K.ofNat 16) [])) [(.t (K.ofNat 35)), (.t (K.ofNat 36))]⟩, ⟨(some (K.ofNat 9)), none, .as (.t (K.ofNat 37))⟩]
noncomputable def f3_r3 : List EOper := [⟨(some (K.ofNat 38)), none, .mv (.t (K.ofNat 0))⟩, ⟨(some (K.ofNat 39)), none, .mv (.t (K.ofNat 7))⟩, ⟨(some (K.ofNat 40)), none, .call (.c (.fn (K.ofNat 17) [])) [(.t (K.ofNat 38)), (.t (K.ofNat 39))]⟩, ⟨(some (K.ofNat 41)), none, .mv (.t (K.ofNat 9))⟩, ⟨(some (K.ofNat 42)), none, .bin .neq (.t (K.ofNat 40)) (.t (K.ofNat 41))⟩]
noncomputable def f3_r4 : List EOper := [⟨(some (K.ofNat 6)), none, .as (.c (.b false))⟩]
noncomputable def f3_r5 : List EOper := [⟨(some (K.ofNat 44)), none, .mv (.t (K.ofNat 0))⟩, ⟨(some (K.ofNat 45)), none, .mv (.t (K.ofNat 7))⟩, ⟨(some (K.ofNat 46)), none, .mv (.t (K.ofNat 8))⟩, ⟨(some (K.ofNat 47)), none, .call (.c (.fn (K.ofNat 18) [])) [(.t (K.ofNat 44)), (.t (K.ofNat 45)), (.t (K.ofNat 46))]⟩, ⟨(some (K.ofNat 43)), none, .mv (.t (K.ofNat 47))⟩, ⟨(some (K.ofNat 48)), none, .ext (.t (K.ofNat 43)) 0⟩, ⟨(some (K.ofNat 49)), none, .ext (.t (K.ofNat 43)) 1⟩, ⟨(some (K.ofNat 10)), none, .as (.t (K.ofNat 48))⟩, ⟨(some (K.ofNat 11)), none, .as (.t (K.ofNat 49))⟩]
noncomputable def f3_r6 : List EOper := [⟨(some (K.ofNat 51)), none, .mv (.t (K.ofNat 0))⟩, ⟨(some (K.ofNat 52)), none, .mv (.t (K.ofNat 7))⟩, ⟨(some (K.ofNat 53)), none, .mv (.t (K.ofNat 8))⟩, ⟨(some (K.ofNat 54)), none, .call (.c (.fn (K.ofNat 19) [])) [(.t (K.ofNat 51)), (.t (K.ofNat 52)), (.t (K.ofNat 53))]⟩, ⟨(some (K.ofNat 50)), none, .mv (.t (K.ofNat 54))⟩, ⟨(some (K.ofNat 55)), none, .ext (.t (K.ofNat 50)) 0⟩, ⟨(some (K.ofNat 56)), none, .ext (.t (K.ofNat 50)) 1⟩, ⟨(some (K.ofNat 57)), none, .ext (.t (K.ofNat 50)) 2⟩, ⟨(some (K.ofNat 12)), none, .as (.t (K.ofNat 55))⟩, ⟨(some (K.ofNat 13)), none, .as (.t (K.ofNat 56))⟩, ⟨(some (K.ofNat 14)), none, .as (.t (K.ofNat 57))⟩]
noncomputable def f3_r7 : List EOper := [⟨(some (K.ofNat 59)), none, .mv (.t (K.ofNat 0))⟩, ⟨(some (K.ofNat 60)), none, .mv (.t (K.ofNat 7))⟩, ⟨(some (K.ofNat 61)), none, .mv (.t (K.ofNat 8))⟩, ⟨(some (K.ofNat 62)), none, .call (.c (.fn (K.ofNat 20) [])) [(.t (K.ofNat 59)), (.t (K.ofNat 60)), (.t (K.ofNat 61))]⟩, ⟨(some (K.ofNat 58)), none, .mv (.t (K.ofNat 62))⟩, ⟨(some (K.ofNat 63)), none, .ext (.t (K.ofNat 58)) 0⟩, ⟨(some (K.ofNat 64)), none, .ext (.t (K.ofNat 58)) 1⟩, ⟨(some (K.ofNat 15)), none, .as (.t (K.ofNat 63))⟩, ⟨(some (K.ofNat 16)), none, .as (.t (K.ofNat 64))⟩]
noncomputable def f3_r8 : List EOper := [⟨(some (K.ofNat 66)), none, .mv (.t (K.ofNat 0))⟩, ⟨(some (K.ofNat 67)), none, .mv (.t (K.ofNat 7))⟩, ⟨(some (K.ofNat 68)), none, .mv (.t (K.ofNat 8))⟩, ⟨(some (K.ofNat 69)), none, .call (.c (.fn (K.ofNat 21) [])) [(.t (K.ofNat 66)), (.t (K.ofNat 67)), (.t (K.ofNat 68))]⟩, ⟨(some (K.ofNat 65)), none, .mv (.t (K.ofNat 69))⟩, ⟨(some (K.ofNat 70)), none, .ext (.t (K.ofNat 65)) 0⟩, ⟨(some (K.ofNat 71)), none, .ext (.t (K.ofNat 65)) 1⟩, ⟨(some (K.ofNat 17)), none, .as (.t (K.ofNat 70))⟩, ⟨(some (K.ofNat 18)), none, .as (.t (K.ofNat 71))⟩]
noncomputable def f3_r9 : List EOper := [⟨(some (K.ofNat 73)), none, .mv (.t (K.ofNat 0))⟩, ⟨(some (K.ofNat 74)), none, .mv (.t (K.ofNat 7))⟩, ⟨(some (K.ofNat 75)), none, .call (.c (.fn (K.ofNat 22) [])) [(.t (K.ofNat 73)), (.t (K.ofNat 74))]⟩, ⟨(some (K.ofNat 72)), none, .mv (.t (K.ofNat 75))⟩, ⟨(some (K.ofNat 76)), none, .ext (.t (K.ofNat 72)) 0⟩, ⟨(some (K.ofNat 77)), none, .ext (.t (K.ofNat 72)) 1⟩, ⟨(some (K.ofNat 19)), none, .as (.t (K.ofNat 76))⟩, ⟨(some (K.ofNat 20)), none, .as (.t (K.ofNat 77))⟩]
noncomputable def f3_r10 : List EOper := [⟨(some (K.ofNat 78)), none, .mv (.t (K.ofNat 9))⟩, ⟨(some (K.ofNat 79)), none, .bin .eql (.t (K.ofNat 78)) (.c (.i .i64 (.ofNat 0)))⟩]
noncomputable def f3_r11 : List EOper := [⟨(some (K.ofNat 80)), none, .mv (.t (K.ofNat 11))⟩, ⟨(some (K.ofNat 81)), none, .bin .eql (.t (K.ofNat 80)) (.c (.i .i64 (.ofNat 0)))⟩, ⟨(some (K.ofNat 82)), none, .mv (.t (K.ofNat 81))⟩, ⟨(some (K.ofNat 83)), (some ((K.ofNat 82), true)), .mv (.t (K.ofNat 14))⟩, ⟨(some (K.ofNat 84)), (some ((K.ofNat 82), true)), .bin .eql (.t (K.ofNat 83)) (.c (.i .i64 (.ofNat 0)))⟩, ⟨(some (K.ofNat 85)), none, .pick (.t (K.ofNat 82)) (.t (K.ofNat 84)) (.c (.b false))⟩, ⟨(some (K.ofNat 86)), none, .mv (.t (K.ofNat 85))⟩, ⟨(some (K.ofNat 87)), (some ((K.ofNat 86), true)), .mv (.t (K.ofNat 20))⟩, ⟨(some (K.ofNat 88)), (some ((K.ofNat 86), true)), .bin .eql (.t (K.ofNat 87)) (.c (.i .i64 (.ofNat 0)))⟩, ⟨(some (K.ofNat 89)), none, .pick (.t (K.ofNat 86)) (.t (K.ofNat 88)) (.c (.b false))⟩, ⟨(some (K.ofNat 90)), none, .mv (.t (K.ofNat 89))⟩, ⟨(some (K.ofNat 91)), (some ((K.ofNat 90), true)), .call (.c (.fn (K.ofNat 23) [])) []⟩, ⟨(some (K.ofNat 92)), none, .pick (.t (K.ofNat 90)) (.t (K.ofNat 91)) (.c (.b false))⟩, ⟨(some (K.ofNat 6)), none, .as (.t (K.ofNat 92))⟩]
noncomputable def f3_r12 : List EOper := [⟨(some (K.ofNat 94)), none, .mv (.t (K.ofNat 0))⟩, ⟨(some (K.ofNat 95)), none, .mv (.t (K.ofNat 7))⟩, ⟨(some (K.ofNat 96)), none, .call (.c (.fn (K.ofNat 24) [])) [(.t (K.ofNat 94)), (.t (K.ofNat 95))]⟩, ⟨(some (K.ofNat 93)), none, .mv (.t (K.ofNat 96))⟩, ⟨(some (K.ofNat 97)), none, .ext (.t (K.ofNat 93)) 0⟩, ⟨(some (K.ofNat 98)), none, .ext (.t (K.ofNat 93)) 1⟩, ⟨(some (K.ofNat 99)), none, .ext (.t (K.ofNat 93)) 2⟩, ⟨(some (K.ofNat 21)), none, .as (.t (K.ofNat 97))⟩, ⟨(some (K.ofNat 22)), none, .as (.t (K.ofNat 98))⟩, ⟨(some (K.ofNat 23)), none, .as (.t (K.ofNat 99))⟩]
noncomputable def f3_r13 : List EOper := [⟨(some (K.ofNat 101)), none, .mv (.t (K.ofNat 0))⟩, ⟨(some (K.ofNat 102)), none, .mv (.t (K.ofNat 7))⟩, ⟨(some (K.ofNat 103)), none, .call (.c (.fn (K.ofNat 25) [])) [(.t (K.ofNat 101)), (.t (K.ofNat 102))]⟩, ⟨(some (K.ofNat 100)), none, .mv (.t (K.ofNat 103))⟩, ⟨(some (K.ofNat 104)), none, .ext (.t (K.ofNat 100)) 0⟩, ⟨(some (K.ofNat 105)), none, .ext (.t (K.ofNat 100)) 1⟩, ⟨(some (K.ofNat 24)), none, .as (.t (K.ofNat 104))⟩, ⟨(some (K.ofNat 25)), none, .as (.t (K.ofNat 105))⟩]
noncomputable def f3_r14 : List EOper := [⟨(some (K.ofNat 107)), none, .mv (.t (K.ofNat 0))⟩, ⟨(some (K.ofNat 108)), none, .mv (.t (K.ofNat 7))⟩, ⟨(some (K.ofNat 109)), none, .call (.c (.fn (K.ofNat 26) [])) [(.t (K.ofNat 107)), (.t (K.ofNat 108))]⟩, ⟨(some (K.ofNat 106)), none, .mv (.t (K.ofNat 109))⟩, ⟨(some (K.ofNat 110)), none, .ext (.t (K.ofNat 106)) 0⟩, ⟨(some (K.ofNat 111)), none, .ext (.t (K.ofNat 106)) 1⟩, ⟨(some (K.ofNat 112)), none, .ext (.t (K.ofNat 106)) 2⟩, ⟨(some (K.ofNat 26)), none, .as (.t (K.ofNat 110))⟩, ⟨(some (K.ofNat 27)), none, .as (.t (K.ofNat 111))⟩, ⟨(some (K.ofNat 28)), none, .as (.t (K.ofNat 112))⟩]
noncomputable def f3_r15 : List EOper := [⟨(some (K.ofNat 114)), none, .mv (.t (K.ofNat 0))⟩, ⟨(some (K.ofNat 115)), none, .mv (.t (K.ofNat 7))⟩, ⟨(some (K.ofNat 116)), none, .call (.c (.fn (K.ofNat 27) [])) [(.t (K.ofNat 114)), (.t (K.ofNat 115))]⟩, ⟨(some (K.ofNat 113)), none, .mv (.t (K.ofNat 116))⟩, ⟨(some (K.ofNat 117)), none, .ext (.t (K.ofNat 113)) 0⟩, ⟨(some (K.ofNat 118)), none, .ext (.t (K.ofNat 113)) 1⟩, ⟨(some (K.ofNat 29)), none, .as (.t (K.ofNat 117))⟩, ⟨(some (K.ofNat 30)), none, .as (.t (K.ofNat 118))⟩]
noncomputable def f3_r16 : List EOper := [⟨(some (K.ofNat 119)), none, .mv (.t (K.ofNat 11))⟩, ⟨(some (K.ofNat 120)), none, .mv (.t (K.ofNat 9))⟩, ⟨(some (K.ofNat 121)), none, .bin .eql (.t (K.ofNat 119)) (.t (K.ofNat 120))⟩, ⟨(some (K.ofNat 122)), none, .mv (.t (K.ofNat 121))⟩, ⟨(some (K.ofNat 123)), (some ((K.ofNat 122), true)), .mv (.t (K.ofNat 14))⟩, ⟨(some (K.ofNat 124)), (some ((K.ofNat 122), true)), .mv (.t (K.ofNat 9))⟩, ⟨(some (K.ofNat 125)), (some ((K.ofNat 122), true)), .bin .eql (.t (K.ofNat 123)) (.t (K.ofNat 124))⟩, ⟨(some (K.ofNat 126)), none, .pick (.t (K.ofNat 122)) (.t (K.ofNat 125)) (.c (.b false))⟩, ⟨(some (K.ofNat 127)), none, .mv (.t (K.ofNat 126))⟩, ⟨(some (K.ofNat 128)), (some ((K.ofNat 127), true)), .mv (.t (K.ofNat 16))⟩, ⟨(some (K.ofNat 129)), (some ((K.ofNat 127), true)), .mv (.t (K.ofNat 9))⟩, ⟨(some (K.ofNat 130)), (some ((K.ofNat 127), true)), .bin .eql (.t (K.ofNat 128)) (.t (K.ofNat 129))⟩, ⟨(some (K.ofNat 131)), none, .pick (.t (K.ofNat 127)) (.t (K.ofNat 130)) (.c (.b false))⟩, ⟨(some (K.ofNat 132)), none, .mv (.t (K.ofNat 131))⟩, ⟨(some (K.ofNat 133)), (some ((K.ofNat 132), true)), .mv (.t (K.ofNat 18))⟩, ⟨(some (K.ofNat 134)), (some ((K.ofNat 132), true)), .mv (.t (K.ofNat 9))⟩, ⟨(some (K.ofNat 135)), (some ((K.ofNat 132), true)), .bin .eql (.t (K.ofNat 133)) (.t (K.ofNat 134))⟩, ⟨(some (K.ofNat 136)), none, .pick (.t (K.ofNat 132)) (.t (K.ofNat 135)) (.c (.b false))⟩, ⟨(some (K.ofNat 137)), none, .mv (.t (K.ofNat 136))⟩, ⟨(some (K.ofNat 138)), (some ((K.ofNat 137), true)), .mv (.t (K.ofNat 20))⟩, ⟨(some (K.ofNat 139)), (some ((K.ofNat 137), true)), .mv (.t (K.ofNat 9))⟩, ⟨(some (K.ofNat 140)), (some ((K.ofNat 137), true)), .bin .eql (.t (K.ofNat 138)) (.t (K.ofNat 139))⟩, ⟨(some (K.ofNat 141)), none, .pick (.t (K.ofNat 137)) (.t (K.ofNat 140)) (.c (.b false))⟩, ⟨(some (K.ofNat 142)), none, .mv (.t (K.ofNat 141))⟩, ⟨(some (K.ofNat 143)), (some ((K.ofNat 142), true)), .mv (.t (K.ofNat 23))⟩, ⟨(some (K.ofNat 144)), (some ((K.ofNat 142), true)), .mv (.t (K.ofNat 9))⟩, ⟨(some (K.ofNat 145)), (some ((K.ofNat 142), true)), .bin .eql (.t (K.ofNat 143)) (.t (K.ofNat 144))⟩, ⟨(some (K.ofNat 146)), none, .pick (.t (K.ofNat 142)) (.t (K.ofNat 145)) (.c (.b false))⟩, ⟨(some (K.ofNat 147)), none, .mv (.t (K.ofNat 146))⟩, ⟨(some (K.ofNat 148)), (some ((K.ofNat 147), true)), .mv (.t (K.ofNat 25))⟩, ⟨(some (K.ofNat 149)), (some ((K.ofNat 147), true)), .mv (.t (K.ofNat 9))⟩, ⟨(some (K.ofNat 150)), (some ((K.ofNat 147), true)), .bin .eql (.t (K.ofNat 148)) (.t (K.ofNat 149))⟩, ⟨(some (K.ofNat 151)), none, .pick (.t (K.ofNat 147)) (.t (K.ofNat 150)) (.c (.b false))⟩, ⟨(some (K.ofNat 152)), none, .mv (.t (K.ofNat 151))⟩, ⟨(some (K.ofNat 153)), (some ((K.ofNat 152), true)), .mv (.t (K.ofNat 28))⟩, ⟨(some (K.ofNat 154)), (some ((K.ofNat 152), true)), .mv (.t (K.ofNat 9))⟩, ⟨(some (K.ofNat 155)), (some ((K.ofNat 152), true)), .bin .eql (.t (K.ofNat 153)) (.t (K.ofNat 154))⟩, ⟨(some (K.ofNat 156)), none, .pick (.t (K.ofNat 152)) (.t (K.ofNat 155)) (.c (.b false))⟩, ⟨(some (K.ofNat 157)), none, .mv (.t (K.ofNat 156))⟩, ⟨(some (K.ofNat 158)), (some ((K.ofNat 157), true)), .mv (.t (K.ofNat 30))⟩, ⟨(some (K.ofNat 159)), (some ((K.ofNat 157), true)), .mv (.t (K.ofNat 9))⟩, ⟨(some (K.ofNat 160)), (some ((K.ofNat 157), true)), .bin .eql (.t (K.ofNat 158)) (.t (K.ofNat 159))⟩, ⟨(some (K.ofNat 161)), none, .pick (.t (K.ofNat 157)) (.t (K.ofNat 160)) (.c (.b false))⟩, ⟨(some (K.ofNat 162)), none, .mv (.t (K.ofNat 161))⟩, ⟨(some (K.ofNat 163)), (some ((K.ofNat 162), true)), .mv (.t (K.ofNat 10))⟩, ⟨(some (K.ofNat 164)), (some ((K.ofNat 162), true)), .not (.t (K.ofNat 163))⟩, ⟨(some (K.ofNat 165)), none, .pick (.t (K.ofNat 162)) (.t (K.ofNat 164)) (.c (.b false))⟩, ⟨(some (K.ofNat 166)), none, .mv (.t (K.ofNat 165))⟩, ⟨(some (K.ofNat 167)), (some ((K.ofNat 166), true)), .mv (.t (K.ofNat 13))⟩, ⟨(some (K.ofNat 168)), (some ((K.ofNat 166), true)), .not (.t (K.ofNat 167))⟩, ⟨(some (K.ofNat 169)), none, .pick (.t (K.ofNat 166)) (.t (K.ofNat 168)) (.c (.b false))⟩, ⟨(some (K.ofNat 170)), none, .mv (.t (K.ofNat 169))⟩, ⟨(some (K.ofNat 171)), (some ((K.ofNat 170), true)), .mv (.t (K.ofNat 19))⟩, ⟨(some (K.ofNat 172)), (some ((K.ofNat 170), true)), .not (.t (K.ofNat 171))⟩, ⟨(some (K.ofNat 173)), none, .pick (.t (K.ofNat 170)) (.t (K.ofNat 172)) (.c (.b false))⟩, ⟨(some (K.ofNat 174)), none, .mv (.t (K.ofNat 173))⟩, ⟨(some (K.ofNat 175)), (some ((K.ofNat 174), true)), .mv (.t (K.ofNat 22))⟩, ⟨(some (K.ofNat 176)), (some ((K.ofNat 174), true)), .not (.t (K.ofNat 175))⟩, ⟨(some (K.ofNat 177)), none, .pick (.t (K.ofNat 174)) (.t (K.ofNat 176)) (.c (.b false))⟩, ⟨(some (K.ofNat 178)), none, .mv (.t (K.ofNat 177))⟩, ⟨(some (K.ofNat 179)), (some ((K.ofNat 178), true)), .mv (.t (K.ofNat 27))⟩, ⟨(some (K.ofNat 180)), (some ((K.ofNat 178), true)), .not (.t (K.ofNat 179))⟩, ⟨(some (K.ofNat 181)), none, .pick (.t (K.ofNat 178)) (.t (K.ofNat 180)) (.c (.b false))⟩, ⟨(some (K.ofNat 182)), none, .mv (.t (K.ofNat 181))⟩, ⟨(some (K.ofNat 183)), (some ((K.ofNat 182), true)), .mv (.t (K.ofNat 12))⟩, ⟨(some (K.ofNat 184)), (some ((K.ofNat 182), true)), .mv (.t (K.ofNat 15))⟩, ⟨(some (K.ofNat 185)), (some ((K.ofNat 182), true)), .len (.t (K.ofNat 184))⟩, ⟨(some (K.ofNat 186)), (some ((K.ofNat 182), true)), .bin .add (.t (K.ofNat 183)) (.t (K.ofNat 185))⟩, ⟨(some (K.ofNat 187)), (some ((K.ofNat 182), true)), .mv (.t (K.ofNat 17))⟩, ⟨(some (K.ofNat 188)), (some ((K.ofNat 182), true)), .len (.t (K.ofNat 187))⟩, ⟨(some (K.ofNat 189)), (some ((K.ofNat 182), true)), .bin .add (.t (K.ofNat 186)) (.t (K.ofNat 188))⟩, ⟨(some (K.ofNat 190)), (some ((K.ofNat 182), true)), .mv (.t (K.ofNat 21))⟩, ⟨(some (K.ofNat 191)), (some ((K.ofNat 182), true)), .len (.t (K.ofNat 190))⟩, ⟨(some (K.ofNat 192)), (some ((K.ofNat 182), true)), .bin .add (.t (K.ofNat 189)) (.t (K.ofNat 191))⟩, ⟨(some (K.ofNat 193)), (some ((K.ofNat 182), true)), .mv (.t (K.ofNat 24))⟩, ⟨(some (K.ofNat 194)), (some ((K.ofNat 182), true)), .bin .add (.t (K.ofNat 192)) (.t (K.ofNat 193))⟩, ⟨(some (K.ofNat 195)), (some ((K.ofNat 182), true)), .mv (.t (K.ofNat 26))⟩, ⟨(some (K.ofNat 196)), (some ((K.ofNat 182), true)), .len (.t (K.ofNat 195))⟩, ⟨(some (K.ofNat 197)), (some ((K.ofNat 182), true)), .bin .add (.t (K.ofNat 194)) (.t (K.ofNat 196))⟩, ⟨(some (K.ofNat 198)), (some ((K.ofNat 182), true)), .mv (.t (K.ofNat 29))⟩, ⟨(some (K.ofNat 199)), (some ((K.ofNat 182), true)), .len (.t (K.ofNat 198))⟩, ⟨(some (K.ofNat 200)), (some ((K.ofNat 182), true)), .bin .add (.t (K.ofNat 197)) (.t (K.ofNat 199))⟩, ⟨(some (K.ofNat 201)), (some ((K.ofNat 182), true)), .bin .eql (.t (K.ofNat 200)) (.c (.i .i64 (.ofNat 0)))⟩, ⟨(some (K.ofNat 202)), none, .pick (.t (K.ofNat 182)) (.t (K.ofNat 201)) (.c (.b false))⟩, ⟨(some (K.ofNat 203)), none, .mv (.t (K.ofNat 202))⟩, ⟨(some (K.ofNat 204)), (some ((K.ofNat 203), true)), .call (.c (.fn (K.ofNat 23) [])) []⟩, ⟨(some (K.ofNat 205)), none, .pick (.t (K.ofNat 203)) (.t (K.ofNat 204)) (.c (.b false))⟩, ⟨(some (K.ofNat 6)), none, .as (.t (K.ofNat 205))⟩]
noncomputable def f3_c : EC := (.seq (.reg f3_r0) (.seq (.reg f3_r1) (.seq (.reg f3_r2) (.seq (.seq (.reg f3_r3) (.cond (.t (K.ofNat 42)) (.seq (.reg f3_r4) .ret) .skip)) (.seq (.reg f3_r5) (.seq (.reg f3_r6) (.seq (.reg f3_r7) (.seq (.reg f3_r8) (.seq (.reg f3_r9) (.seq (.seq (.reg f3_r10) (.cond (.t (K.ofNat 79)) (.seq (.reg f3_r11) .ret) .skip)) (.seq (.reg f3_r12) (.seq (.reg f3_r13) (.seq (.reg f3_r14) (.seq (.reg f3_r15) (.seq (.reg f3_r16) .ret)))))))))))))))
noncomputable def f3 : EF := ⟨206, [.tmp (K.ofNat 6)], f3_c, none⟩
theorem f3_rs : f3.rs = [.tmp (K.ofNat 6)] := of_eq_true (eq_self _)
section
variable {fs : T EF} {h : H} {v : V} {E : List (Int × Int)}
theorem f14_ret {m : Nat} {L : List (Int × Int)} (hv : Srp h v L) (hc : HC h) (hm : m ≤ 1000000) : Ret fs f14 [v, .i .i64 (m : Int)] h fun u h' => Srp h' u (L.take m) ∧ Own h.nx.nat u ∧ Grow h.nx.nat h h' := by
  apply ret_of rfl
  show W fs none f14_c _ _ _
  unfold f14_c
  have hmin : min (L.length : Int) (m : Int) = ((min L.length m : Nat) : Int) := by omega
  obtain ⟨v', p1, p2, _⟩ := hv.cut (kk := .i64) (u := min L.length m) (by omega)
  rw [show L.take (min L.length m) = L.take m by rw [Nat.min_comm, List.take_eq_take_iff]; omega] at p2
  obtain ⟨v2, h2, q1, q2, q3, q4⟩ := p2.appN hc (by simp; omega)
  simp (disch := omega) only [f14_r0, f14_r1, f14_r2, f14_rs, w_reg, w_seq, w_ret, seqK_n, retK_r, x_nil, x_mv, x_as, x_slice, sliceV_eq, Option.map_none, Option.map_some, x_len, x_app, x_min, kx, rvP_ok, ev_t, ev_c, getV_some, putD_some, oGet_s, min_ii, readRs_nil, readRs_t, retV_1, frame_2, Option.some.injEq, exists_eq_left', getK_set, Nat.reduceEqDiff, ↓reduceIte, hv.len, hmin, sliceV_eq, Option.map_none, Option.map_some, p1, q1]
  exact ⟨q2.srp, q3, q4⟩
theorem f22_err {n : Int} (k : CallsC fs) (hv : Srp h v E) (hc : HC h) (hE : E.length ≤ 1000000) (hn : chkI n E ≠ 0) : Ret fs f22 [.i .i64 n, v] h fun r h' => r = .tup [.b false, .i .i64 (chkI n E)] ∧ Grow h.nx.nat h h' := by
  apply ret_of rfl
  show W fs none f22_c _ _ _
  unfold f22_c
  simp (disch := omega) only [f22_r0, f22_r1, w_reg, w_seq, seqK_n, x_nil, x_mv, x_as, x_call, ev_t, ev_c, evs_nil, evs_cons, getV_some, putD_some, frame_2, of0, getK_set, Nat.reduceEqDiff, ↓reduceIte]
  refine (callP_0 (ef := f17) k.c17 rfl (f17_ret (n := n) k hv hc hE)).mono ?_
  rintro r h4 ⟨rfl, gB⟩
  have d : decide (chkI n E ≠ 0) = true := by simpa using hn
  simp (disch := omega) only [f22_r2, f22_r3, f22_rs, w_reg, w_seq, w_cond, w_ret, seqK_n, seqK_r, ckB_b, cbB_b, true_and, retK_r, x_nil, x_mv, x_as, x_bin, kx, rvP_ok, okv_some, ev_t, ev_c, getV_some, putD_some, bin_neq, oGet_s, readRs_nil, readRs_t, retV_2, of0, Option.some.injEq, exists_eq_left', getK_set, Nat.reduceEqDiff, ↓reduceIte, d, true_and]
  exact gB
theorem f22_ok {m : Nat} (k : CallsC fs) (kt : CallsCt fs) (h67 : fs.get (K.ofNat 67) = some f67) (hv : Srp h v E) (hc : HC h) (hn : chkI (m : Int) E = 0) : Ret fs f22 [.i .i64 (m : Int), v] h fun r h' => r = .tup [.b (catB m E), .i .i64 0] ∧ Grow h.nx.nat h h' := by
  obtain ⟨m', hm, hm2, hE⟩ := chkI_ok hn
  obtain rfl : m = m' := by omega
  have hE6 : E.length ≤ 1000000 := by have := hE.1; omega
  apply ret_of rfl
  show W fs none f22_c _ _ _
  unfold f22_c
  simp (disch := omega) only [f22_r0, f22_r1, w_reg, w_seq, seqK_n, x_nil, x_mv, x_as, x_call, ev_t, ev_c, evs_nil, evs_cons, getV_some, putD_some, frame_2, of0, getK_set, Nat.reduceEqDiff, ↓reduceIte]
  refine (callP_0 (ef := f17) k.c17 rfl (f17_ret (n := (m : Int)) k hv hc hE6)).mono ?_
  rintro r h4 ⟨rfl, gB⟩
  rw [hn]
  have d : decide ((0 : Int) ≠ 0) = false := rfl
  simp (disch := omega) only [f22_r2, f22_r4, w_skip, w_reg, w_seq, w_cond, seqK_n, ckB_b, cbB_b, true_and, x_nil, x_mv, x_as, x_bin, x_call, kx, rvP_ok, okv_some, ev_t, ev_c, evs_nil, evs_cons, getV_some, putD_some, bin_neq, of0, getK_set, Nat.reduceEqDiff, ↓reduceIte, Bool.false_eq_true, d]
  refine (callP_0 (ef := f67) h67 rfl (f67_ret kt (hv.grow hc gB) (gB.hc hc) hE)).mono ?_
  rintro r h5 ⟨rfl, gC⟩
  simp (disch := omega) only [f22_rs, w_ret, seqK_n, true_and, retK_r, x_nil, x_as, kx, ev_t, ev_c, getV_some, putD_some, oGet_s, readRs_nil, readRs_t, retV_2, Option.some.injEq, exists_eq_left', getK_set, Nat.reduceEqDiff, ↓reduceIte, true_and]
  exact gB.trans (gC.low gB.nx)
theorem f27_err {n : Int} (k : CallsC fs) (hv : Srp h v E) (hc : HC h) (hE : E.length ≤ 1000000) (hn : chkI n E ≠ 0) : Ret fs f27 [.i .i64 n, v] h fun r h' => r = .tup [.sn, .i .i64 (chkI n E)] ∧ Grow h.nx.nat h h' := by
  apply ret_of rfl
  show W fs none f27_c _ _ _
  unfold f27_c
  simp (disch := omega) only [f27_r0, f27_r1, w_reg, w_seq, seqK_n, x_nil, x_mv, x_as, x_call, ev_t, ev_c, evs_nil, evs_cons, getV_some, putD_some, frame_2, of0, getK_set, Nat.reduceEqDiff, ↓reduceIte]
  refine (callP_0 (ef := f17) k.c17 rfl (f17_ret (n := n) k hv hc hE)).mono ?_
  rintro r h4 ⟨rfl, gB⟩
  have d : decide (chkI n E ≠ 0) = true := by simpa using hn
  simp (disch := omega) only [f27_r2, f27_r3, f27_rs, w_reg, w_seq, w_cond, w_ret, seqK_n, seqK_r, ckB_b, cbB_b, true_and, retK_r, x_nil, x_mv, x_as, x_bin, kx, rvP_ok, okv_some, ev_t, ev_c, getV_some, putD_some, bin_neq, oGet_s, readRs_nil, readRs_t, retV_2, of0, Option.some.injEq, exists_eq_left', getK_set, Nat.reduceEqDiff, ↓reduceIte, d, true_and]
  exact gB
end
structure CallsCk (fs : T EF) : Prop extends CallsPs fs, CallsCp fs, CallsCt fs where
  c14 : fs.get (K.ofNat 14) = some f14
  c15 : fs.get (K.ofNat 15) = some f15
  c16 : fs.get (K.ofNat 16) = some f16
  c18 : fs.get (K.ofNat 18) = some f18
  c19 : fs.get (K.ofNat 19) = some f19
  c20 : fs.get (K.ofNat 20) = some f20
  c21 : fs.get (K.ofNat 21) = some f21
  c22 : fs.get (K.ofNat 22) = some f22
  c24 : fs.get (K.ofNat 24) = some f24
  c25 : fs.get (K.ofNat 25) = some f25
  c26 : fs.get (K.ofNat 26) = some f26
  c27 : fs.get (K.ofNat 27) = some f27
  c67 : fs.get (K.ofNat 67) = some f67
  aw : ∀ h P, CallP fs (.fn (K.ofNat 23) []) [] h P = P (.b true) h
section
variable {fs : T EF} {h : H}
set_option maxRecDepth 100000 in
theorem f3_ret {v v2 : V} {l : List (Int × Int)} {L : List Int} {n : Int} (k : CallsCk fs) (hv : Srp h v l) (hv2 : Sr iE h v2 L) (hL : l.length ≤ 9223372036854775807) (hc : HC h) : Ret fs f3 [.i .i64 n, v, v2] h fun r h' => r = .b true ∧ Grow h.nx.nat h h' := by
  have aw := k.aw
  have ne0 : decide ((0 : Int) ≠ 0) = false := rfl
  have eq0 : decide ((0 : Int) = 0) = true := rfl
  apply ret_of rfl
  show W fs none f3_c _ _ _
  unfold f3_c
  simp (disch := omega) only [f3_r0, f3_r1, w_reg, w_seq, seqK_n, x_nil, x_mv, x_as, x_call, ev_t, ev_c, evs_nil, evs_cons, getV_some, putD_some, frame_3, of10, getK_set, Nat.reduceEqDiff, ↓reduceIte, of20]
  refine (callP_0 (ef := f14) k.c14 rfl (f14_ret (m := 20) hv hc (by omega))).mono ?_
  rintro u h1 ⟨hu, _, hG1⟩
  have hc1 := hG1.hc hc
  simp (disch := omega) only [x_mv, x_call, kx, ev_t, ev_c, evs_nil, evs_cons, getV_some, putD_some, getK_set, Nat.reduceEqDiff, ↓reduceIte]
  refine (callP_0 (ef := f15) k.c15 rfl (f15_sr (m := 10) (hv2.grow hc hG1) hc1 (by omega))).mono ?_
  rintro w h2 ⟨hsw, _, hG2⟩
  have hGa := hG1.trans (hG2.low hG1.nx)
  have hc2 := hG2.hc hc1
  have hu2 := hu.grow hc1 hG2
  have hw2 := hsw.sr
  have hE20 : (l.take 20).length ≤ 20 := by simp; omega
  have hX10 : (L.take 10).length ≤ 10 := by simp; omega
  generalize l.take 20 = E at *
  generalize L.take 10 = X at *
  clear hu hsw
  simp (disch := omega) only [f3_r2, w_reg, w_seq, seqK_n, x_nil, x_mv, x_as, x_call, kx, ev_t, ev_c, evs_nil, evs_cons, getV_some, putD_some, getK_set, Nat.reduceEqDiff, ↓reduceIte]
  refine (callP_0 (ef := f16) k.c16 rfl (f16_ret (n := n) hu2 (by omega))).mono ?_
  rintro r h3 ⟨rfl, rfl⟩
  simp (disch := omega) only [f3_r3, w_reg, w_seq, seqK_n, x_nil, x_mv, x_as, x_call, kx, ev_t, ev_c, evs_nil, evs_cons, getV_some, putD_some, getK_set, Nat.reduceEqDiff, ↓reduceIte]
  refine (callP_0 (ef := f17) k.c17 rfl (f17_ret (n := n) k.toCallsC hu2 hc2 (by omega))).mono ?_
  rintro r h4 ⟨rfl, hG4⟩
  have dd : decide (chkI n E ≠ chkI n E) = false := by simp
  have de : decide (chkI n E = chkI n E) = true := by simp
  have hGb := hGa.trans (hG4.low hGa.nx)
  have hc4 := hG4.hc hc2
  have hu4 := hu2.grow hc2 hG4
  have hw4 := hw2.grow hc2 hG4
  by_cases hchk : chkI n E = 0
  · obtain ⟨m, rfl, hm2, hE⟩ := chkI_ok hchk
    simp (disch := omega) only [f3_r5, w_skip, w_reg, w_seq, w_cond, seqK_n, ckB_b, cbB_b, true_and, x_nil, x_mv, x_bin, x_call, kx, rvP_ok, okv_some, ev_t, ev_c, evs_nil, evs_cons, getV_some, putD_some, bin_neq, getK_set, Nat.reduceEqDiff, ↓reduceIte, Bool.false_eq_true, dd]
    refine (callP_0 (ef := f18) k.c18 rfl (f18_ok k.toCallsIg hu4 hw4 hc4 (by omega) hchk)).mono ?_
    rintro r h5 ⟨rfl, hG5⟩
    have hGc := hGb.trans (hG5.low hGb.nx)
    have hc5 := hG5.hc hc4
    have hu5 := hu4.grow hc4 hG5
    have hw5 := hw4.grow hc4 hG5
    simp (disch := omega) only [f3_r6, w_reg, w_seq, seqK_n, x_nil, x_mv, x_as, x_ext, x_call, kx, rvP_ok, okv_some, ev_t, ev_c, evs_nil, evs_cons, getV_some, putD_some, onTup_t, nth0, nth1, getK_set, Nat.reduceEqDiff, ↓reduceIte]
    refine (callP_0 (ef := f19) k.c19 rfl (f19_ok k.toCallsPs hu5 hw5 hc5 (by omega) hchk)).mono ?_
    rintro r h6 ⟨rfl, hG6⟩
    have hGd := hGc.trans (hG6.low hGc.nx)
    have hc6 := hG6.hc hc5
    have hu6 := hu5.grow hc5 hG6
    have hw6 := hw5.grow hc5 hG6
    simp (disch := omega) only [f3_r7, w_reg, w_seq, seqK_n, x_nil, x_mv, x_as, x_ext, x_call, kx, rvP_ok, okv_some, ev_t, ev_c, evs_nil, evs_cons, getV_some, putD_some, onTup_t, nth0, nth1, nth2, getK_set, Nat.reduceEqDiff, ↓reduceIte]
    have r20 : CallP fs (.fn (K.ofNat 20) []) [.i .i64 (m : Int), u, w] h6 fun r h' => (∃ a b, r = .tup [a, b]) ∧ Grow h6.nx.nat h6 h' := by
      cases hg : grB (m : Int) E X with
      | false => exact (callP_0 (ef := f20) k.c20 rfl (f20_no k.toCallsIg hu6 hw6 hc6 (by omega) hchk hg)).mono (by rintro r h7 ⟨rfl, hG7⟩; exact ⟨⟨_, _, rfl⟩, hG7⟩)
      | true => exact (callP_0 (ef := f20) k.c20 rfl (f20_ok k.toCallsIg hu6 hw6 hc6 (by omega) hchk hg)).mono (by rintro r h7 ⟨t, rfl, _, _, hG7⟩; exact ⟨⟨_, _, rfl⟩, hG7⟩)
    refine r20.mono ?_
    rintro r h7 ⟨⟨ra, rb, rfl⟩, hG7⟩
    have hGe := hGd.trans (hG7.low hGd.nx)
    have hc7 := hG7.hc hc6
    have hu7 := hu6.grow hc6 hG7
    have hw7 := hw6.grow hc6 hG7
    simp (disch := omega) only [f3_r8, w_reg, w_seq, seqK_n, x_nil, x_mv, x_as, x_ext, x_call, kx, rvP_ok, okv_some, ev_t, ev_c, evs_nil, evs_cons, getV_some, putD_some, onTup_t, nth0, nth1, getK_set, Nat.reduceEqDiff, ↓reduceIte]
    have r21 : CallP fs (.fn (K.ofNat 21) []) [.i .i64 (m : Int), u, w] h7 fun r h' => (∃ a b, r = .tup [a, b]) ∧ Grow h7.nx.nat h7 h' := by
      cases hg : grB (m : Int) E X with
      | false => exact (callP_0 (ef := f21) k.c21 rfl (f21_no k.toCallsIg hu7 hw7 hc7 (by omega) hchk hg)).mono (by rintro r h8 ⟨rfl, hG8⟩; exact ⟨⟨_, _, rfl⟩, hG8⟩)
      | true => exact (callP_0 (ef := f21) k.c21 rfl (f21_ok k.toCallsCp hu7 hw7 hc7 (by omega) hchk hg)).mono (by rintro r h8 ⟨t, us, rfl, _, hG8⟩; exact ⟨⟨_, _, rfl⟩, hG8⟩)
    refine r21.mono ?_
    rintro r h8 ⟨⟨rc, rd, rfl⟩, hG8⟩
    have hGf := hGe.trans (hG8.low hGe.nx)
    have hc8 := hG8.hc hc7
    have hu8 := hu7.grow hc7 hG8
    simp (disch := omega) only [f3_r9, w_reg, w_seq, seqK_n, x_nil, x_mv, x_as, x_ext, x_call, kx, rvP_ok, okv_some, ev_t, ev_c, evs_nil, evs_cons, getV_some, putD_some, onTup_t, nth0, nth1, getK_set, Nat.reduceEqDiff, ↓reduceIte]
    refine (callP_0 (ef := f22) k.c22 rfl (f22_ok k.toCallsC k.toCallsCt k.c67 hu8 hc8 hchk)).mono ?_
    rintro r h9 ⟨rfl, hG9⟩
    simp (maxSteps := 5000000) (disch := omega) only [f3_r10, f3_r11, f3_rs, w_reg, w_seq, w_cond, w_ret, seqK_n, seqK_r, ckB_b, cbB_b, okG_b, asG_t, true_and, retK_r, x_nil, x_g, x_mv, x_as, x_pick, x_bin, x_ext, x_call, kx, rvP_ok, okv_some, ev_t, ev_c, evs_nil, getV_some, putD_some, bin_eql, pick_b, onTup_t, oGet_s, nth0, nth1, readRs_nil, readRs_t, retV_1, of0, Option.some.injEq, exists_eq_left', getK_set, Nat.reduceEqDiff, ↓reduceIte, decide_eq_true_eq, hchk, aw, true_and]
    exact hGf.trans (hG9.low hGf.nx)
  · have dz : decide (chkI n E = 0) = false := by simpa using hchk
    simp (disch := omega) only [f3_r5, w_skip, w_reg, w_seq, w_cond, seqK_n, ckB_b, cbB_b, true_and, x_nil, x_mv, x_bin, x_call, kx, rvP_ok, okv_some, ev_t, ev_c, evs_nil, evs_cons, getV_some, putD_some, bin_neq, getK_set, Nat.reduceEqDiff, ↓reduceIte, Bool.false_eq_true, dd]
    refine (callP_0 (ef := f18) k.c18 rfl (f18_err (n := n) k.toCallsC hu4 hc4 (by omega) hchk)).mono ?_
    rintro r h5 ⟨rfl, hG5⟩
    have hGc := hGb.trans (hG5.low hGb.nx)
    have hc5 := hG5.hc hc4
    have hu5 := hu4.grow hc4 hG5
    simp (disch := omega) only [f3_r6, w_reg, w_seq, seqK_n, x_nil, x_mv, x_as, x_ext, x_call, kx, rvP_ok, okv_some, ev_t, ev_c, evs_nil, evs_cons, getV_some, putD_some, onTup_t, nth0, nth1, getK_set, Nat.reduceEqDiff, ↓reduceIte]
    refine (callP_0 (ef := f19) k.c19 rfl (f19_err (n := n) k.toCallsC hu5 hc5 (by omega) hchk)).mono ?_
    rintro r h6 ⟨rfl, hG6⟩
    have hGd := hGc.trans (hG6.low hGc.nx)
    have hc6 := hG6.hc hc5
    have hu6 := hu5.grow hc5 hG6
    simp (disch := omega) only [f3_r7, w_reg, w_seq, seqK_n, x_nil, x_mv, x_as, x_ext, x_call, kx, rvP_ok, okv_some, ev_t, ev_c, evs_nil, evs_cons, getV_some, putD_some, onTup_t, nth0, nth1, nth2, getK_set, Nat.reduceEqDiff, ↓reduceIte]
    refine (callP_0 (ef := f20) k.c20 rfl (f20_err (n := n) k.toCallsC k.c64 hu6 hc6 (by omega) hchk)).mono ?_
    rintro r h7 ⟨rfl, hG7⟩
    have hGe := hGd.trans (hG7.low hGd.nx)
    have hc7 := hG7.hc hc6
    have hu7 := hu6.grow hc6 hG7
    simp (disch := omega) only [f3_r8, w_reg, w_seq, seqK_n, x_nil, x_mv, x_as, x_ext, x_call, kx, rvP_ok, okv_some, ev_t, ev_c, evs_nil, evs_cons, getV_some, putD_some, onTup_t, nth0, nth1, getK_set, Nat.reduceEqDiff, ↓reduceIte]
    refine (callP_0 (ef := f21) k.c21 rfl (f21_err (n := n) k.toCallsIg hu7 hc7 (by omega) hchk)).mono ?_
    rintro r h8 ⟨rfl, hG8⟩
    have hGf := hGe.trans (hG8.low hGe.nx)
    have hc8 := hG8.hc hc7
    have hu8 := hu7.grow hc7 hG8
    simp (disch := omega) only [f3_r9, w_reg, w_seq, seqK_n, x_nil, x_mv, x_as, x_ext, x_call, kx, rvP_ok, okv_some, ev_t, ev_c, evs_nil, evs_cons, getV_some, putD_some, onTup_t, nth0, nth1, getK_set, Nat.reduceEqDiff, ↓reduceIte]
    refine (callP_0 (ef := f22) k.c22 rfl (f22_err (n := n) k.toCallsC hu8 hc8 (by omega) hchk)).mono ?_
    rintro r h9 ⟨rfl, hG9⟩
    have hGg := hGf.trans (hG9.low hGf.nx)
    have hc9 := hG9.hc hc8
    have hu9 := hu8.grow hc8 hG9
    simp (disch := omega) only [f3_r10, f3_r12, w_skip, w_reg, w_seq, w_cond, seqK_n, ckB_b, cbB_b, true_and, x_nil, x_mv, x_as, x_bin, x_ext, x_call, kx, rvP_ok, okv_some, ev_t, ev_c, evs_nil, evs_cons, getV_some, putD_some, bin_eql, onTup_t, nth0, nth1, of0, getK_set, Nat.reduceEqDiff, ↓reduceIte, Bool.false_eq_true, dz]
    refine (callP_0 (ef := f24) k.c24 rfl (f24_err (n := n) k.toCallsC hu9 hc9 (by omega) hchk)).mono ?_
    rintro r h10 ⟨rfl, hG10⟩
    have hGh := hGg.trans (hG10.low hGg.nx)
    have hc10 := hG10.hc hc9
    have hu10 := hu9.grow hc9 hG10
    simp (disch := omega) only [f3_r13, w_reg, w_seq, seqK_n, x_nil, x_mv, x_as, x_ext, x_call, kx, rvP_ok, okv_some, ev_t, ev_c, evs_nil, evs_cons, getV_some, putD_some, onTup_t, nth0, nth1, nth2, getK_set, Nat.reduceEqDiff, ↓reduceIte]
    refine (callP_0 (ef := f25) k.c25 rfl (f25_err (n := n) k.toCallsC hu10 hc10 (by omega) hchk)).mono ?_
    rintro r h11 ⟨rfl, hG11⟩
    have hGi := hGh.trans (hG11.low hGh.nx)
    have hc11 := hG11.hc hc10
    have hu11 := hu10.grow hc10 hG11
    simp (disch := omega) only [f3_r14, w_reg, w_seq, seqK_n, x_nil, x_mv, x_as, x_ext, x_call, kx, rvP_ok, okv_some, ev_t, ev_c, evs_nil, evs_cons, getV_some, putD_some, onTup_t, nth0, nth1, getK_set, Nat.reduceEqDiff, ↓reduceIte]
    refine (callP_0 (ef := f26) k.c26 rfl (f26_err (n := n) k.toCallsC hu11 hc11 (by omega) hchk)).mono ?_
    rintro r h12 ⟨rfl, hG12⟩
    have hGj := hGi.trans (hG12.low hGi.nx)
    have hc12 := hG12.hc hc11
    have hu12 := hu11.grow hc11 hG12
    simp (disch := omega) only [f3_r15, w_reg, w_seq, seqK_n, x_nil, x_mv, x_as, x_ext, x_call, kx, rvP_ok, okv_some, ev_t, ev_c, evs_nil, evs_cons, getV_some, putD_some, onTup_t, nth0, nth1, nth2, getK_set, Nat.reduceEqDiff, ↓reduceIte]
    refine (callP_0 (ef := f27) k.c27 rfl (f27_err (n := n) k.toCallsC hu12 hc12 (by omega) hchk)).mono ?_
    rintro r h13 ⟨rfl, hG13⟩
    have l0 : ∀ h1, lenV .sn h1 = .ok (.i .i64 0) h1 := fun _ => rfl
    have z0 : (0 : Int) + 0 = 0 := rfl
    have f0 : fw .i64 0 = 0 := rfl
    simp (maxSteps := 5000000) (disch := omega) only [f3_r16, f3_rs, w_reg, w_seq, w_ret, seqK_n, okG_b, asG_t, true_and, retK_r, x_nil, x_g, x_mv, x_as, x_pick, x_bin, x_not, x_ext, x_call, x_len, kx, rvP_ok, okv_some, ev_t, ev_c, evs_nil, getV_some, putD_some, bin_add, bin_eql, pick_b, onB_b, onTup_t, oGet_s, nth0, nth1, readRs_nil, readRs_t, retV_1, of0, Option.some.injEq, exists_eq_left', getK_set, Nat.reduceEqDiff, ↓reduceIte, decide_eq_true_eq, Bool.not_false, l0, z0, f0, Bool.not_false, aw, true_and]
    exact hGj.trans (hG13.low hGj.nx)
end
end Go.Ev
