/-
  Labels: the law LabelsParity.
-/
import Derived.Test.YtmnojcnimncbpaaPf
namespace Go.Ev
open Go Go.RowKit
noncomputable def f12_r0 : List EOper := [⟨(some (K.ofNat 4)), none, .as (.c (.b false))⟩]
noncomputable def f12_r1 : List EOper := [⟨(some (K.ofNat 31)), none, .mv (.t (K.ofNat 0))⟩, ⟨(some (K.ofNat 32)), none, .mv (.t (K.ofNat 1))⟩, ⟨(some (K.ofNat 33)), none, .call (.c (.fn (K.ofNat 28) [])) [(.t (K.ofNat 31)), (.t (K.ofNat 32)), (.c (.i .i64 (.ofNat 10)))]⟩, ⟨(some (K.ofNat 30)), none, .mv (.t (K.ofNat 33))⟩, ⟨(some (K.ofNat 34)), none, .ext (.t (K.ofNat 30)) 0⟩, ⟨(some (K.ofNat 35)), none, .ext (.t (K.ofNat 30)) 1⟩, ⟨(some (K.ofNat 5)), none, .as (.t (K.ofNat 34))⟩, ⟨(some (K.ofNat 6)), none, .as (.t (K.ofNat 35))⟩]
noncomputable def f12_r2 : List EOper := [⟨(some (K.ofNat 37)), none, .mv (.t (K.ofNat 5))⟩, ⟨(some (K.ofNat 38)), none, .mv (.t (K.ofNat 6))⟩, ⟨(some (K.ofNat 39)), none, .call (.c (.fn (K.ofNat 24) [])) [(.t (K.ofNat 37)), (.t (K.ofNat 38))]⟩, ⟨(some (K.ofNat 36)), none, .mv (.t (K.ofNat 39))⟩, ⟨(some (K.ofNat 40)), none, .ext (.t (K.ofNat 36)) 0⟩, ⟨(some (K.ofNat 41)), none, .ext (.t (K.ofNat 36)) 1⟩, ⟨(some (K.ofNat 42)), none, .ext (.t (K.ofNat 36)) 2⟩, ⟨(some (K.ofNat 7)), none, .as (.t (K.ofNat 40))⟩, ⟨(some (K.ofNat 8)), none, .as (.t (K.ofNat 41))⟩, ⟨(some (K.ofNat 9)), none, .as (.t (K.ofNat 42))⟩]
noncomputable def f12_r3 : List EOper := [⟨(some (K.ofNat 44)), none, .mv (.t (K.ofNat 5))⟩, ⟨(some (K.ofNat 45)), none, .mv (.t (K.ofNat 6))⟩, ⟨(some (K.ofNat 46)), none, .call (.c (.fn (K.ofNat 26) [])) [(.t (K.ofNat 44)), (.t (K.ofNat 45))]⟩, ⟨(some (K.ofNat 43)), none, .mv (.t (K.ofNat 46))⟩, ⟨(some (K.ofNat 47)), none, .ext (.t (K.ofNat 43)) 0⟩, ⟨(some (K.ofNat 48)), none, .ext (.t (K.ofNat 43)) 1⟩, ⟨(some (K.ofNat 49)), none, .ext (.t (K.ofNat 43)) 2⟩, ⟨(some (K.ofNat 10)), none, .as (.t (K.ofNat 47))⟩, ⟨(some (K.ofNat 11)), none, .as (.t (K.ofNat 48))⟩, ⟨(some (K.ofNat 12)), none, .as (.t (K.ofNat 49))⟩]
noncomputable def f12_r4 : List EOper := [⟨(some (K.ofNat 51)), none, .mv (.t (K.ofNat 5))⟩, ⟨(some (K.ofNat 52)), none, .mv (.t (K.ofNat 6))⟩, ⟨(some (K.ofNat 53)), none, .call (.c (.fn (K.ofNat 25) [])) [(.t (K.ofNat 51)), (.t (K.ofNat 52))]⟩, ⟨(some (K.ofNat 50)), none, .mv (.t (K.ofNat 53))⟩, ⟨(some (K.ofNat 54)), none, .ext (.t (K.ofNat 50)) 0⟩, ⟨(some (K.ofNat 55)), none, .ext (.t (K.ofNat 50)) 1⟩, ⟨(some (K.ofNat 13)), none, .as (.t (K.ofNat 54))⟩, ⟨(some (K.ofNat 14)), none, .as (.t (K.ofNat 55))⟩]
noncomputable def f12_r5 : List EOper := [⟨(some (K.ofNat 56)), none, .mv (.t (K.ofNat 9))⟩, ⟨(some (K.ofNat 57)), none, .bin .neq (.t (K.ofNat 56)) (.c (.i .i64 (.ofNat 0)))⟩, ⟨(some (K.ofNat 58)), none, .mv (.t (K.ofNat 57))⟩, ⟨(some (K.ofNat 59)), (some ((K.ofNat 58), false)), .mv (.t (K.ofNat 12))⟩, ⟨(some (K.ofNat 60)), (some ((K.ofNat 58), false)), .bin .neq (.t (K.ofNat 59)) (.c (.i .i64 (.ofNat 0)))⟩, ⟨(some (K.ofNat 61)), none, .pick (.t (K.ofNat 58)) (.c (.b true)) (.t (K.ofNat 60))⟩, ⟨(some (K.ofNat 62)), none, .mv (.t (K.ofNat 61))⟩, ⟨(some (K.ofNat 63)), (some ((K.ofNat 62), false)), .mv (.t (K.ofNat 14))⟩, ⟨(some (K.ofNat 64)), (some ((K.ofNat 62), false)), .bin .neq (.t (K.ofNat 63)) (.c (.i .i64 (.ofNat 0)))⟩, ⟨(some (K.ofNat 65)), none, .pick (.t (K.ofNat 62)) (.c (.b true)) (.t (K.ofNat 64))⟩, ⟨(some (K.ofNat 66)), none, .mv (.t (K.ofNat 65))⟩, ⟨(some (K.ofNat 67)), (some ((K.ofNat 66), false)), .mv (.t (K.ofNat 11))⟩, ⟨(some (K.ofNat 68)), (some ((K.ofNat 66), false)), .mv (.t (K.ofNat 67))⟩, ⟨(some (K.ofNat 69)), (some ((K.ofNat 68), true)), .mv (.t (K.ofNat 8))⟩, ⟨(some (K.ofNat 70)), (some ((K.ofNat 68), true)), .not (.t (K.ofNat 69))⟩, ⟨(some (K.ofNat 71)), (some ((K.ofNat 66), false)), .pick (.t (K.ofNat 68)) (.t (K.ofNat 70)) (.c (.b false))⟩, ⟨(some (K.ofNat 72)), none, .pick (.t (K.ofNat 66)) (.c (.b true)) (.t (K.ofNat 71))⟩, ⟨(some (K.ofNat 73)), none, .mv (.t (K.ofNat 72))⟩, ⟨(some (K.ofNat 74)), (some ((K.ofNat 73), false)), .mv (.t (K.ofNat 8))⟩, ⟨(some (K.ofNat 75)), (some ((K.ofNat 73), false)), .mv (.t (K.ofNat 13))⟩, ⟨(some (K.ofNat 76)), (some ((K.ofNat 73), false)), .bin .gtr (.t (K.ofNat 75)) (.c (.i .i64 (.ofNat 0)))⟩, ⟨(some (K.ofNat 77)), (some ((K.ofNat 73), false)), .eqk (.one none) true (.t (K.ofNat 74)) (.t (K.ofNat 76))⟩, ⟨(some (K.ofNat 78)), none, .pick (.t (K.ofNat 73)) (.c (.b true)) (.t (K.ofNat 77))⟩]
noncomputable def f12_r6 : List EOper := [⟨(some (K.ofNat 4)), none, .as (.c (.b false))⟩]
noncomputable def f12_r7 : List EOper := [⟨(some (K.ofNat 79)), none, .mv (.t (K.ofNat 5))⟩, ⟨(some (K.ofNat 80)), none, .mkslice 1 [(.i .i64 (.ofNat 0))] (.t (K.ofNat 79))⟩, ⟨(some (K.ofNat 15)), none, .as (.t (K.ofNat 80))⟩]
noncomputable def f12_r8 : List EOper := [⟨(some (K.ofNat 16)), none, .as (.c (.i .i64 (.ofNat 0)))⟩]
noncomputable def f12_r9 : List EOper := [⟨(some (K.ofNat 81)), none, .mv (.t (K.ofNat 16))⟩, ⟨(some (K.ofNat 82)), none, .mv (.t (K.ofNat 6))⟩, ⟨(some (K.ofNat 83)), none, .len (.t (K.ofNat 82))⟩, ⟨(some (K.ofNat 84)), none, .bin .lss (.t (K.ofNat 81)) (.t (K.ofNat 83))⟩]
noncomputable def f12_r10 : List EOper := [⟨(some (K.ofNat 87)), none, .mv (.t (K.ofNat 15))⟩, ⟨(some (K.ofNat 88)), none, .mv (.t (K.ofNat 6))⟩, ⟨(some (K.ofNat 89)), none, .mv (.t (K.ofNat 16))⟩, ⟨(some (K.ofNat 90)), none, .iads 2 (.t (K.ofNat 88)) (.t (K.ofNat 89))⟩, ⟨(some (K.ofNat 91)), none, .iadr 2 1 (.t (K.ofNat 90)) (.c (.i .i64 (.ofNat 0)))⟩, ⟨(some (K.ofNat 92)), none, .ld (.t (K.ofNat 91))⟩, ⟨(some (K.ofNat 93)), none, .iads 1 (.t (K.ofNat 87)) (.t (K.ofNat 92))⟩, ⟨(some (K.ofNat 94)), none, .ld (.t (K.ofNat 93))⟩, ⟨(some (K.ofNat 95)), none, .bin .add (.t (K.ofNat 94)) (.c (.i .i64 (.ofNat 1)))⟩, ⟨(some (K.ofNat 96)), none, .iads 1 (.t (K.ofNat 87)) (.t (K.ofNat 92))⟩, ⟨none, none, .st 1 (.t (K.ofNat 96)) (.t (K.ofNat 95))⟩]
noncomputable def f12_r11 : List EOper := [⟨(some (K.ofNat 97)), none, .mv (.t (K.ofNat 15))⟩, ⟨(some (K.ofNat 98)), none, .mv (.t (K.ofNat 6))⟩, ⟨(some (K.ofNat 99)), none, .mv (.t (K.ofNat 16))⟩, ⟨(some (K.ofNat 100)), none, .iads 2 (.t (K.ofNat 98)) (.t (K.ofNat 99))⟩, ⟨(some (K.ofNat 101)), none, .iadr 2 1 (.t (K.ofNat 100)) (.c (.i .i64 (.ofNat 1)))⟩, ⟨(some (K.ofNat 102)), none, .ld (.t (K.ofNat 101))⟩, ⟨(some (K.ofNat 103)), none, .iads 1 (.t (K.ofNat 97)) (.t (K.ofNat 102))⟩, ⟨(some (K.ofNat 104)), none, .ld (.t (K.ofNat 103))⟩, ⟨(some (K.ofNat 105)), none, .bin .add (.t (K.ofNat 104)) (.c (.i .i64 (.ofNat 1)))⟩, ⟨(some (K.ofNat 106)), none, .iads 1 (.t (K.ofNat 97)) (.t (K.ofNat 102))⟩, ⟨none, none, .st 1 (.t (K.ofNat 106)) (.t (K.ofNat 105))⟩]
noncomputable def f12_r12 : List EOper := [⟨(some (K.ofNat 85)), none, .mv (.t (K.ofNat 16))⟩, ⟨(some (K.ofNat 86)), none, .bin .add (.t (K.ofNat 85)) (.c (.i .i64 (.ofNat 1)))⟩, ⟨(some (K.ofNat 16)), none, .as (.t (K.ofNat 86))⟩]
noncomputable def f12_l0 : EC := (.seq (.seq (.reg f12_r9) (.cond (.t (K.ofNat 84)) .skip (.exit 0))) (.seq (.block 1 (.seq (.reg f12_r10) (.reg f12_r11))) (.reg f12_r12)))
noncomputable def f12_r13 : List EOper := [⟨(some (K.ofNat 17)), none, .as (.c (.b true))⟩, ⟨(some (K.ofNat 18)), none, .as (.c (.b false))⟩]
noncomputable def f12_r14 : List EOper := [⟨(some (K.ofNat 19)), none, .as (.c (.i .i64 (.ofNat 0)))⟩]
noncomputable def f12_r15 : List EOper := [⟨(some (K.ofNat 107)), none, .mv (.t (K.ofNat 19))⟩, ⟨(some (K.ofNat 108)), none, .mv (.t (K.ofNat 5))⟩, ⟨(some (K.ofNat 109)), none, .bin .lss (.t (K.ofNat 107)) (.t (K.ofNat 108))⟩]
noncomputable def f12_r16 : List EOper := [⟨(some (K.ofNat 112)), none, .mv (.t (K.ofNat 17))⟩, ⟨(some (K.ofNat 113)), none, .mv (.t (K.ofNat 112))⟩, ⟨(some (K.ofNat 114)), (some ((K.ofNat 113), true)), .mv (.t (K.ofNat 15))⟩, ⟨(some (K.ofNat 115)), (some ((K.ofNat 113), true)), .mv (.t (K.ofNat 19))⟩, ⟨(some (K.ofNat 116)), (some ((K.ofNat 113), true)), .iads 1 (.t (K.ofNat 114)) (.t (K.ofNat 115))⟩, ⟨(some (K.ofNat 117)), (some ((K.ofNat 113), true)), .ld (.t (K.ofNat 116))⟩, ⟨(some (K.ofNat 118)), (some ((K.ofNat 113), true)), .bin .rem (.t (K.ofNat 117)) (.c (.i .i64 (.ofNat 2)))⟩, ⟨(some (K.ofNat 119)), (some ((K.ofNat 113), true)), .bin .eql (.t (K.ofNat 118)) (.c (.i .i64 (.ofNat 0)))⟩, ⟨(some (K.ofNat 120)), none, .pick (.t (K.ofNat 113)) (.t (K.ofNat 119)) (.c (.b false))⟩, ⟨(some (K.ofNat 17)), none, .as (.t (K.ofNat 120))⟩]
noncomputable def f12_r17 : List EOper := [⟨(some (K.ofNat 110)), none, .mv (.t (K.ofNat 19))⟩, ⟨(some (K.ofNat 111)), none, .bin .add (.t (K.ofNat 110)) (.c (.i .i64 (.ofNat 1)))⟩, ⟨(some (K.ofNat 19)), none, .as (.t (K.ofNat 111))⟩]
noncomputable def f12_l1 : EC := (.seq (.seq (.reg f12_r15) (.cond (.t (K.ofNat 109)) .skip (.exit 2))) (.seq (.block 3 (.reg f12_r16)) (.reg f12_r17)))
noncomputable def f12_r18 : List EOper := [⟨(some (K.ofNat 20)), none, .as (.c (.i .i64 (.ofNat 0)))⟩]
noncomputable def f12_r19 : List EOper := [⟨(some (K.ofNat 121)), none, .mv (.t (K.ofNat 20))⟩, ⟨(some (K.ofNat 122)), none, .mv (.t (K.ofNat 5))⟩, ⟨(some (K.ofNat 123)), none, .bin .shl (.c (.i .i64 (.ofNat 1))) (.t (K.ofNat 122))⟩, ⟨(some (K.ofNat 124)), none, .bin .lss (.t (K.ofNat 121)) (.t (K.ofNat 123))⟩]
noncomputable def f12_r20 : List EOper := [⟨(some (K.ofNat 21)), none, .as (.c (.b true))⟩]
noncomputable def f12_r21 : List EOper := [⟨(some (K.ofNat 22)), none, .as (.c (.i .i64 (.ofNat 0)))⟩]
noncomputable def f12_r22 : List EOper := [⟨(some (K.ofNat 127)), none, .mv (.t (K.ofNat 22))⟩, ⟨(some (K.ofNat 128)), none, .mv (.t (K.ofNat 6))⟩, ⟨(some (K.ofNat 129)), none, .len (.t (K.ofNat 128))⟩, ⟨(some (K.ofNat 130)), none, .bin .lss (.t (K.ofNat 127)) (.t (K.ofNat 129))⟩]
noncomputable def f12_r23 : List Stage := [⟨[⟨(some (K.ofNat 133)), none, .mv (.t (K.ofNat 21))⟩, ⟨(some (K.ofNat 134)), none, .mv (.t (K.ofNat 133))⟩, ⟨(some (K.ofNat 135)), (some ((K.ofNat 134), true)), .mv (.t (K.ofNat 20))⟩, ⟨(some (K.ofNat 136)), (some ((K.ofNat 134), true)), .mv (.t (K.ofNat 6))⟩, ⟨(some (K.ofNat 137)), (some ((K.ofNat 134), true)), .mv (.t (K.ofNat 22))⟩, ⟨(some (K.ofNat 138)), (some ((K.ofNat 134), true)), .iads 2 (.t (K.ofNat 136)) (.t (K.ofNat 137))⟩, ⟨(some (K.ofNat 139)), (some ((K.ofNat 134), true)), .iadr 2 1 (.t (K.ofNat 138)) (.c (.i .i64 (.ofNat 0)))⟩, ⟨(some (K.ofNat 140)), (some ((K.ofNat 134), true)), .ld (.t (K.ofNat 139))⟩, ⟨(some (K.ofNat 141)), (some ((K.ofNat 134), true)), .bin .shr (.t (K.ofNat 135)) (.t (K.ofNat 140))⟩, ⟨(some (K.ofNat 142)), (some ((K.ofNat 134), true)), .bin .rem (.t (K.ofNat 141)) (.c (.i .i64 (.ofNat 2)))⟩, ⟨(some (K.ofNat 143)), (some ((K.ofNat 134), true)), .mv (.t (K.ofNat 20))⟩, ⟨(some (K.ofNat 144)), (some ((K.ofNat 134), true)), .mv (.t (K.ofNat 6))⟩, ⟨(some (K.ofNat 145)), (some ((K.ofNat 134), true)), .mv (.t (K.ofNat 22))⟩, ⟨(some (K.ofNat 146)), (some ((K.ofNat 134), true)), .iads 2 (.t (K.ofNat 144)) (.t (K.ofNat 145))⟩, ⟨(some (K.ofNat 147)), (some ((K.ofNat 134), true)), .iadr 2 1 (.t (K.ofNat 146)) (.c (.i .i64 (.ofNat 1)))⟩, ⟨(some (K.ofNat 148)), (some ((K.ofNat 134), true)), .ld (.t (K.ofNat 147))⟩, ⟨(some (K.ofNat 149)), (some ((K.ofNat 134), true)), .bin .shr (.t (K.ofNat 143)) (.t (K.ofNat 148))⟩, ⟨(some (K.ofNat 150)), (some ((K.ofNat 134), true)), .bin .rem (.t (K.ofNat 149)) (.c (.i .i64 (.ofNat 2)))⟩, ⟨(some (K.ofNat 151)), (some ((K.ofNat 134), true)), .bin .neq (.t (K.ofNat 142)) (.t (K.ofNat 150))⟩, ⟨(some (K.ofNat 152)), none, .pick (.t (K.ofNat 134)) (.t (K.ofNat 151)) (.c (.b false))⟩], [], (some ⟨(some (K.ofNat 21)), none, .as (.t (K.ofNat 152))⟩), []⟩, ⟨[], [], none, []⟩]
noncomputable def f12_r24 : List EOper := [⟨(some (K.ofNat 131)), none, .mv (.t (K.ofNat 22))⟩, ⟨(some (K.ofNat 132)), none, .bin .add (.t (K.ofNat 131)) (.c (.i .i64 (.ofNat 1)))⟩, ⟨(some (K.ofNat 22)), none, .as (.t (K.ofNat 132))⟩]
noncomputable def f12_l2 : EC := (.seq (.seq (.reg f12_r22) (.cond (.t (K.ofNat 130)) .skip (.exit 6))) (.seq (.block 7 (.draw f12_r23)) (.reg f12_r24)))
noncomputable def f12_r25 : List EOper := [⟨(some (K.ofNat 153)), none, .mv (.t (K.ofNat 18))⟩, ⟨(some (K.ofNat 154)), none, .mv (.t (K.ofNat 153))⟩, ⟨(some (K.ofNat 155)), (some ((K.ofNat 154), false)), .mv (.t (K.ofNat 21))⟩, ⟨(some (K.ofNat 156)), none, .pick (.t (K.ofNat 154)) (.c (.b true)) (.t (K.ofNat 155))⟩, ⟨(some (K.ofNat 18)), none, .as (.t (K.ofNat 156))⟩]
noncomputable def f12_r26 : List EOper := [⟨(some (K.ofNat 125)), none, .mv (.t (K.ofNat 20))⟩, ⟨(some (K.ofNat 126)), none, .bin .add (.t (K.ofNat 125)) (.c (.i .i64 (.ofNat 1)))⟩, ⟨(some (K.ofNat 20)), none, .as (.t (K.ofNat 126))⟩]
noncomputable def f12_l3 : EC := (.seq (.seq (.reg f12_r19) (.cond (.t (K.ofNat 124)) .skip (.exit 4))) (.seq (.block 5 (.seq (.reg f12_r20) (.seq (.seq (.reg f12_r21) (.block 6 (.loop f12_l2))) (.reg f12_r25)))) (.reg f12_r26)))
noncomputable def f12_r27 : List EOper := [⟨(some (K.ofNat 157)), none, .mv (.t (K.ofNat 17))⟩, ⟨(some (K.ofNat 158)), none, .mv (.t (K.ofNat 157))⟩, ⟨(some (K.ofNat 159)), (some ((K.ofNat 158), true)), .mv (.t (K.ofNat 6))⟩, ⟨(some (K.ofNat 160)), (some ((K.ofNat 158), true)), .len (.t (K.ofNat 159))⟩, ⟨(some (K.ofNat 161)), (some ((K.ofNat 158), true)), .bin .rem (.t (K.ofNat 160)) (.c (.i .i64 (.ofNat 4)))⟩, ⟨(some (K.ofNat 162)), (some ((K.ofNat 158), true)), .bin .eql (.t (K.ofNat 161)) (.c (.i .i64 (.ofNat 1)))⟩, ⟨(some (K.ofNat 163)), (some ((K.ofNat 158), true)), .mv (.t (K.ofNat 162))⟩, ⟨(some (K.ofNat 164)), (some ((K.ofNat 163), false)), .mv (.t (K.ofNat 6))⟩, ⟨(some (K.ofNat 165)), (some ((K.ofNat 163), false)), .len (.t (K.ofNat 164))⟩, ⟨(some (K.ofNat 166)), (some ((K.ofNat 163), false)), .bin .rem (.t (K.ofNat 165)) (.c (.i .i64 (.ofNat 4)))⟩, ⟨(some (K.ofNat 167)), (some ((K.ofNat 163), false)), .bin .eql (.t (K.ofNat 166)) (.c (.i .i64 (.ofNat 2)))⟩, ⟨(some (K.ofNat 168)), (some ((K.ofNat 158), true)), .pick (.t (K.ofNat 163)) (.c (.b true)) (.t (K.ofNat 167))⟩, ⟨(some (K.ofNat 169)), none, .pick (.t (K.ofNat 158)) (.t (K.ofNat 168)) (.c (.b false))⟩, ⟨(some (K.ofNat 170)), none, .mv (.t (K.ofNat 169))⟩, ⟨(some (K.ofNat 171)), (some ((K.ofNat 170), true)), .mv (.t (K.ofNat 8))⟩, ⟨(some (K.ofNat 172)), none, .pick (.t (K.ofNat 170)) (.t (K.ofNat 171)) (.c (.b false))⟩, ⟨(some (K.ofNat 173)), none, .mv (.t (K.ofNat 172))⟩, ⟨(some (K.ofNat 174)), (some ((K.ofNat 173), false)), .mv (.t (K.ofNat 18))⟩, ⟨(some (K.ofNat 175)), (some ((K.ofNat 173), false)), .not (.t (K.ofNat 174))⟩, ⟨(some (K.ofNat 176)), (some ((K.ofNat 173), false)), .mv (.t (K.ofNat 175))⟩, ⟨(some (K.ofNat 177)), (some ((K.ofNat 176), true)), .mv (.t (K.ofNat 11))⟩, ⟨(some (K.ofNat 178)), (some ((K.ofNat 173), false)), .pick (.t (K.ofNat 176)) (.t (K.ofNat 177)) (.c (.b false))⟩, ⟨(some (K.ofNat 179)), none, .pick (.t (K.ofNat 173)) (.c (.b true)) (.t (K.ofNat 178))⟩]
noncomputable def f12_r28 : List EOper := [⟨(some (K.ofNat 4)), none, .as (.c (.b false))⟩]
noncomputable def f12_r29 : List EOper := [⟨(some (K.ofNat 180)), none, .mv (.t (K.ofNat 1))⟩, ⟨(some (K.ofNat 181)), none, .len (.t (K.ofNat 180))⟩, ⟨(some (K.ofNat 182)), none, .bin .rem (.t (K.ofNat 181)) (.c (.i .i64 (.ofNat 4)))⟩, ⟨(some (K.ofNat 183)), none, .bin .add (.c (.i .i64 (.ofNat 2))) (.t (K.ofNat 182))⟩, ⟨(some (K.ofNat 23)), none, .as (.t (K.ofNat 183))⟩]
noncomputable def f12_r30 : List EOper := [⟨(some (K.ofNat 24)), none, .as (.c .sn)⟩]
noncomputable def f12_r31 : List EOper := [⟨(some (K.ofNat 25)), none, .as (.c (.i .i64 (.ofNat 0)))⟩]
noncomputable def f12_r32 : List EOper := [⟨(some (K.ofNat 184)), none, .mv (.t (K.ofNat 25))⟩, ⟨(some (K.ofNat 185)), none, .mv (.t (K.ofNat 23))⟩, ⟨(some (K.ofNat 186)), none, .bin .lss (.t (K.ofNat 184)) (.t (K.ofNat 185))⟩]
noncomputable def f12_r33 : List EOper := [⟨(some (K.ofNat 189)), none, .mv (.t (K.ofNat 25))⟩, ⟨(some (K.ofNat 190)), none, .bin .add (.t (K.ofNat 189)) (.c (.i .i64 (.ofNat 1)))⟩, ⟨(some (K.ofNat 26)), none, .as (.t (K.ofNat 190))⟩]
noncomputable def f12_r34 : List EOper := [⟨(some (K.ofNat 191)), none, .mv (.t (K.ofNat 26))⟩, ⟨(some (K.ofNat 192)), none, .mv (.t (K.ofNat 23))⟩, ⟨(some (K.ofNat 193)), none, .bin .lss (.t (K.ofNat 191)) (.t (K.ofNat 192))⟩]
noncomputable def f12_r35 : List EOper := [⟨(some (K.ofNat 196)), none, .mv (.t (K.ofNat 24))⟩, ⟨(some (K.ofNat 197)), none, .mv (.t (K.ofNat 25))⟩, ⟨(some (K.ofNat 198)), none, .mv (.t (K.ofNat 26))⟩, ⟨(some (K.ofNat 199)), none, .build [(.i .i64 (.ofNat 0)), (.i .i64 (.ofNat 0))] [(0, 1, (.t (K.ofNat 197))), (1, 1, (.t (K.ofNat 198)))]⟩, ⟨(some (K.ofNat 200)), none, .bslice 1 2 [(.i .i64 (.ofNat 0)), (.i .i64 (.ofNat 0))] [(0, 2, (.t (K.ofNat 199)))]⟩, ⟨(some (K.ofNat 201)), none, .app 2 (.t (K.ofNat 196)) (.t (K.ofNat 200))⟩, ⟨(some (K.ofNat 24)), none, .as (.t (K.ofNat 201))⟩]
noncomputable def f12_r36 : List EOper := [⟨(some (K.ofNat 194)), none, .mv (.t (K.ofNat 26))⟩, ⟨(some (K.ofNat 195)), none, .bin .add (.t (K.ofNat 194)) (.c (.i .i64 (.ofNat 1)))⟩, ⟨(some (K.ofNat 26)), none, .as (.t (K.ofNat 195))⟩]
noncomputable def f12_l4 : EC := (.seq (.seq (.reg f12_r34) (.cond (.t (K.ofNat 193)) .skip (.exit 10))) (.seq (.block 11 (.reg f12_r35)) (.reg f12_r36)))
noncomputable def f12_r37 : List EOper := [⟨(some (K.ofNat 187)), none, .mv (.t (K.ofNat 25))⟩, ⟨(some (K.ofNat 188)), none, .bin .add (.t (K.ofNat 187)) (.c (.i .i64 (.ofNat 1)))⟩, ⟨(some (K.ofNat 25)), none, .as (.t (K.ofNat 188))⟩]
noncomputable def f12_l5 : EC := (.seq (.seq (.reg f12_r32) (.cond (.t (K.ofNat 186)) .skip (.exit 8))) (.seq (.block 9 (.seq (.reg f12_r33) (.block 10 (.loop f12_l4)))) (.reg f12_r37)))
noncomputable def f12_r38 : List EOper := [⟨(some (K.ofNat 203)), none, .mv (.t (K.ofNat 23))⟩, ⟨(some (K.ofNat 204)), none, .mv (.t (K.ofNat 24))⟩, ⟨(some (K.ofNat 205)), none, .call (.c (.fn (K.ofNat 24) [])) [(.t (K.ofNat 203)), (.t (K.ofNat 204))]⟩, ⟨(some (K.ofNat 202)), none, .mv (.t (K.ofNat 205))⟩, ⟨(some (K.ofNat 206)), none, .ext (.t (K.ofNat 202)) 0⟩, ⟨(some (K.ofNat 207)), none, .ext (.t (K.ofNat 202)) 1⟩, ⟨(some (K.ofNat 208)), none, .ext (.t (K.ofNat 202)) 2⟩, ⟨(some (K.ofNat 27)), none, .as (.t (K.ofNat 206))⟩, ⟨(some (K.ofNat 28)), none, .as (.t (K.ofNat 207))⟩, ⟨(some (K.ofNat 29)), none, .as (.t (K.ofNat 208))⟩]
noncomputable def f12_r39 : List EOper := [⟨(some (K.ofNat 209)), none, .mv (.t (K.ofNat 29))⟩, ⟨(some (K.ofNat 210)), none, .bin .eql (.t (K.ofNat 209)) (.c (.i .i64 (.ofNat 0)))⟩, ⟨(some (K.ofNat 211)), none, .mv (.t (K.ofNat 210))⟩, ⟨(some (K.ofNat 212)), (some ((K.ofNat 211), true)), .mv (.t (K.ofNat 28))⟩, ⟨(some (K.ofNat 213)), (some ((K.ofNat 211), true)), .mv (.t (K.ofNat 23))⟩, ⟨(some (K.ofNat 214)), (some ((K.ofNat 211), true)), .bin .leq (.t (K.ofNat 213)) (.c (.i .i64 (.ofNat 4)))⟩, ⟨(some (K.ofNat 215)), (some ((K.ofNat 211), true)), .eqk (.one none) false (.t (K.ofNat 212)) (.t (K.ofNat 214))⟩, ⟨(some (K.ofNat 216)), none, .pick (.t (K.ofNat 211)) (.t (K.ofNat 215)) (.c (.b false))⟩, ⟨(some (K.ofNat 217)), none, .mv (.t (K.ofNat 216))⟩, ⟨(some (K.ofNat 218)), (some ((K.ofNat 217), true)), .call (.c (.fn (K.ofNat 23) [])) []⟩, ⟨(some (K.ofNat 219)), none, .pick (.t (K.ofNat 217)) (.t (K.ofNat 218)) (.c (.b false))⟩, ⟨(some (K.ofNat 4)), none, .as (.t (K.ofNat 219))⟩]
noncomputable def f12_c : EC := (.seq (.reg f12_r0) (.seq (.reg f12_r1) (.seq (.reg f12_r2) (.seq (.reg f12_r3) (.seq (.reg f12_r4) (.seq (.seq (.reg f12_r5) (.cond (.t (K.ofNat 78)) (.seq (.reg f12_r6) .ret) .skip)) (.seq (.reg f12_r7) (.seq (.seq (.reg f12_r8) (.block 0 (.loop f12_l0))) (.seq (.reg f12_r13) (.seq (.seq (.reg f12_r14) (.block 2 (.loop f12_l1))) (.seq (.seq (.reg f12_r18) (.block 4 (.loop f12_l3))) (.seq (.seq (.reg f12_r27) (.cond (.t (K.ofNat 179)) (.seq (.reg f12_r28) .ret) .skip)) (.seq (.reg f12_r29) (.seq (.reg f12_r30) (.seq (.seq (.reg f12_r31) (.block 8 (.loop f12_l5))) (.seq (.reg f12_r38) (.seq (.reg f12_r39) .ret)))))))))))))))))
noncomputable def f12 : EF := ⟨220, [.tmp (K.ofNat 4)], f12_c, none⟩
theorem f12_rs : f12.rs = [.tmp (K.ofNat 4)] := of_eq_true (eq_self _)
/-- The numbers of edges, node by node. -/
def dgL (m : Nat) (E : List (Int × Int)) : List Int := (List.range m).map (dgE E)
theorem dgL_len {m : Nat} {E : List (Int × Int)} : (dgL m E).length = m := by simp [dgL]
theorem dgL_at {m v : Nat} {E : List (Int × Int)} (h : v < (dgL m E).length) : (dgL m E)[v] = dgE E v := by simp [dgL]
theorem dgE_nn : ∀ {E : List (Int × Int)} {v : Nat}, 0 ≤ dgE E v ∧ dgE E v ≤ 2 * E.length
  | [], v => by show 0 ≤ (0 : Int) ∧ (0 : Int) ≤ _; simp
  | e :: E, v => by
    have h1 := dgE_nn (E := E) (v := v)
    rw [dgE_cons, List.length_cons]
    unfold dg1
    constructor
    · split <;> split <;> omega
    · split <;> split <;> omega
theorem dgL_step {m a b : Nat} {E : List (Int × Int)} (_ : a < m) (_ : b < m) (hab : a ≠ b) : dgL m (E ++ [((a : Int), (b : Int))]) = ((dgL m E).set a (dgE E a + 1)).set b (dgE E b + 1) := by
  apply List.ext_getElem
  · simp [dgL]
  · intro v h1 h2
    rw [dgL_at, dgE_snoc, List.getElem_set, List.getElem_set]
    have h3 : v < (dgL m E).length := by simpa [dgL] using h1
    unfold dg1
    simp only [Int.toNat_natCast]
    by_cases e1 : b = v
    · subst e1
      rw [if_pos rfl, if_neg (Ne.symm hab), if_pos rfl]; omega
    · rw [if_neg e1]
      by_cases e2 : a = v
      · subst e2
        rw [if_pos rfl, if_pos rfl, if_neg (Ne.symm e1)]; omega
      · rw [if_neg e2, dgL_at h3, if_neg (Ne.symm e2), if_neg (Ne.symm e1)]; omega
def evnB (E : List (Int × Int)) (j : Nat) : Bool := (List.range j).all fun v => decide (dgE E v % 2 = 0)
theorem evnB_succ {E : List (Int × Int)} {j : Nat} : evnB E (j + 1) = (evnB E j && decide (dgE E j % 2 = 0)) := by
  unfold evnB; rw [List.range_succ, List.all_append]; simp
def twoB (E : List (Int × Int)) (s : Nat) : Bool := (List.range s).any (sideB E)
theorem twoB_succ {E : List (Int × Int)} {s : Nat} : twoB E (s + 1) = (twoB E s || sideB E s) := by
  unfold twoB; rw [List.range_succ, List.any_append]; simp
def sd1 (s : Nat) (e : Int × Int) : Bool := bitS s e.1 != bitS s e.2
theorem bit_ne {x y : Nat} (hx : x < 2) (hy : y < 2) : decide ((x : Int) ≠ (y : Int)) = (decide (x = 1) != decide (y = 1)) := by
  have h1 : x = 0 ∨ x = 1 := by omega
  have h2 : y = 0 ∨ y = 1 := by omega
  rcases h1 with rfl | rfl <;> rcases h2 with rfl | rfl <;> rfl
theorem shrN {m n : Nat} (hn : n ≤ 62) : binV .shr (.i .i64 (m : Int)) (.i .i64 (n : Int)) = some (.i .i64 ((m / 2 ^ n : Nat) : Int)) := by
  rw [bin_shr, show min n (IntKind.bits .i64) = n by show min n 64 = n; omega]
def rowP (s a : Nat) (k : Nat) : List (Int × Int) := (List.range k).map fun k => ((a : Int), ((a + 1 + k : Nat) : Int))
def uptoP (s a : Nat) : List (Int × Int) := (List.range a).flatMap fun a => rowP s a (s - (a + 1))
theorem uptoP_succ {s a : Nat} : uptoP s (a + 1) = uptoP s a ++ rowP s a (s - (a + 1)) := by
  unfold uptoP; rw [List.range_succ, List.flatMap_append]; simp
theorem rowP_succ {s a k : Nat} : rowP s a (k + 1) = rowP s a k ++ [((a : Int), ((a + 1 + k : Nat) : Int))] := by
  unfold rowP; rw [List.range_succ, List.map_append]; rfl
theorem rowP_len {s a k : Nat} : (rowP s a k).length = k := by simp [rowP]
theorem uptoP_len {s : Nat} : ∀ {a : Nat}, (uptoP s a).length ≤ a * s
  | 0 => by simp [uptoP]
  | a + 1 => by
    rw [uptoP_succ, List.length_append, rowP_len, Nat.add_mul]
    have := uptoP_len (s := s) (a := a)
    omega
structure CallsPy (fs : T EF) : Prop extends CallsPa fs where
  c24 : fs.get (K.ofNat 24) = some f24
  c25 : fs.get (K.ofNat 25) = some f25
  c26 : fs.get (K.ofNat 26) = some f26
  c28 : fs.get (K.ofNat 28) = some f28
  aw : ∀ h P, CallP fs (.fn (K.ofNat 23) []) [] h P = P (.b true) h
section
variable {fs : T EF} {ro : Option K}
def f12_A (hb : H) (v u : V) (m : Nat) (E : List (Int × Int)) (iB pB : Bool) (j : Nat) (fr : Fr) (h1 : H) : Prop := j ≤ E.length ∧ Grow hb.nx.nat hb h1 ∧ ∃ d, Sl iE h1 d (dgL m (E.take j)) ∧ Own hb.nx.nat d ∧ fr.get (K.ofNat 1) = some (v) ∧ fr.get (K.ofNat 5) = some (.i .i64 (m : Int)) ∧ fr.get (K.ofNat 6) = some (u) ∧ fr.get (K.ofNat 8) = some (.b iB) ∧ fr.get (K.ofNat 11) = some (.b pB) ∧ fr.get (K.ofNat 15) = some (d) ∧ fr.get (K.ofNat 16) = some (.i .i64 (j : Int))
def f12_B (hb : H) (v u d : V) (m : Nat) (E : List (Int × Int)) (iB pB : Bool) (j : Nat) (fr : Fr) (h1 : H) : Prop := j ≤ m ∧ h1 = hb ∧ fr.get (K.ofNat 1) = some (v) ∧ fr.get (K.ofNat 5) = some (.i .i64 (m : Int)) ∧ fr.get (K.ofNat 6) = some (u) ∧ fr.get (K.ofNat 8) = some (.b iB) ∧ fr.get (K.ofNat 11) = some (.b pB) ∧ fr.get (K.ofNat 15) = some (d) ∧ fr.get (K.ofNat 17) = some (.b (evnB E j)) ∧ fr.get (K.ofNat 18) = some (.b false) ∧ fr.get (K.ofNat 19) = some (.i .i64 (j : Int))
def f12_C (hb : H) (v u : V) (m : Nat) (E : List (Int × Int)) (iB pB : Bool) (s : Nat) (fr : Fr) (h1 : H) : Prop := s ≤ 2 ^ m ∧ h1 = hb ∧ fr.get (K.ofNat 1) = some (v) ∧ fr.get (K.ofNat 5) = some (.i .i64 (m : Int)) ∧ fr.get (K.ofNat 6) = some (u) ∧ fr.get (K.ofNat 8) = some (.b iB) ∧ fr.get (K.ofNat 11) = some (.b pB) ∧ fr.get (K.ofNat 17) = some (.b (evnB E m)) ∧ fr.get (K.ofNat 18) = some (.b (twoB E s)) ∧ fr.get (K.ofNat 20) = some (.i .i64 (s : Int))
def f12_D (hb : H) (v u : V) (m : Nat) (E : List (Int × Int)) (iB pB : Bool) (s : Nat) (j : Nat) (fr : Fr) (h1 : H) : Prop := j ≤ E.length ∧ h1 = hb ∧ fr.get (K.ofNat 1) = some (v) ∧ fr.get (K.ofNat 5) = some (.i .i64 (m : Int)) ∧ fr.get (K.ofNat 6) = some (u) ∧ fr.get (K.ofNat 8) = some (.b iB) ∧ fr.get (K.ofNat 11) = some (.b pB) ∧ fr.get (K.ofNat 17) = some (.b (evnB E m)) ∧ fr.get (K.ofNat 18) = some (.b (twoB E s)) ∧ fr.get (K.ofNat 20) = some (.i .i64 (s : Int)) ∧ fr.get (K.ofNat 21) = some (.b ((E.take j).all (sd1 s))) ∧ fr.get (K.ofNat 22) = some (.i .i64 (j : Int))
def f12_E (hb : H) (s : Nat) (a : Nat) (fr : Fr) (h1 : H) : Prop := a ≤ s ∧ ∃ w, Sk 2 qE h1 w (uptoP s a) ∧ Own hb.nx.nat w ∧ Grow hb.nx.nat hb h1 ∧ fr.get (K.ofNat 23) = some (.i .i64 (s : Int)) ∧ fr.get (K.ofNat 24) = some (w) ∧ fr.get (K.ofNat 25) = some (.i .i64 (a : Int))
def f12_F (hb : H) (s : Nat) (a : Nat) (k : Nat) (fr : Fr) (h1 : H) : Prop := a + 1 + k ≤ s ∧ ∃ w, Sk 2 qE h1 w (uptoP s a ++ rowP s a k) ∧ Own hb.nx.nat w ∧ Grow hb.nx.nat hb h1 ∧ fr.get (K.ofNat 23) = some (.i .i64 (s : Int)) ∧ fr.get (K.ofNat 24) = some (w) ∧ fr.get (K.ofNat 25) = some (.i .i64 (a : Int)) ∧ fr.get (K.ofNat 26) = some (.i .i64 ((a + 1 + k : Nat) : Int))
set_option maxRecDepth 100000 in
theorem f12_ret {h : H} {v : V} {l : List (Int × Int)} {n : Int} (k : CallsPy fs) (hv : Srp h v l) (hL : l.length ≤ 9223372036854775807) (hc : HC h) : Ret fs f12 [.i .i64 n, v] h fun r h' => r = .b true ∧ Grow h.nx.nat h h' := by
  have aw := k.aw
  have kb : ∀ a b, keyEq (.one none) (.b a) (.b b) = some (a == b) := fun _ _ => rfl
  have bb : ∀ a : Bool, (a == a) = true := fun a => by cases a <;> rfl
  have ne0 : decide ((0 : Int) ≠ 0) = false := rfl
  have eq0 : decide ((0 : Int) = 0) = true := rfl
  apply ret_of rfl
  show W fs none f12_c _ _ _
  unfold f12_c
  simp (disch := omega) only [f12_r0, f12_r1, w_reg, w_seq, seqK_n, x_nil, x_mv, x_as, x_call, ev_t, ev_c, evs_nil, evs_cons, getV_some, putD_some, frame_2, of10, getK_set, Nat.reduceEqDiff, ↓reduceIte]
  refine (callP_0 (ef := f28) k.c28 rfl (f28_ret (n := n) hv hc hL)).mono ?_
  rintro r h1 ⟨m, u, E, rfl, hu, hchk, hG1⟩
  obtain ⟨m', hm', hm2, hE⟩ := chkI_ok hchk
  obtain rfl : m = m' := by omega
  have hm7 : m ≤ 7 := hE.2.1
  have hE10 := hE.1
  have hc1 := hG1.hc hc
  simp (disch := omega) only [f12_r2, w_reg, w_seq, seqK_n, x_nil, x_mv, x_as, x_ext, x_call, kx, rvP_ok, okv_some, ev_t, ev_c, evs_nil, evs_cons, getV_some, putD_some, onTup_t, nth0, nth1, getK_set, Nat.reduceEqDiff, ↓reduceIte]
  refine (callP_0 (ef := f24) k.c24 rfl (f24_ok k.toCallsL hu hc1 hchk)).mono ?_
  rintro r h2 ⟨w, rfl, _, _, hG2, _⟩
  have hc2 := hG2.hc hc1
  have hu2 := hu.grow hc1 hG2
  have hGa := hG1.trans (hG2.low hG1.nx)
  simp (disch := omega) only [f12_r3, w_reg, w_seq, seqK_n, x_nil, x_mv, x_as, x_ext, x_call, kx, rvP_ok, okv_some, ev_t, ev_c, evs_nil, evs_cons, getV_some, putD_some, onTup_t, nth0, nth1, nth2, getK_set, Nat.reduceEqDiff, ↓reduceIte]
  refine (callP_0 (ef := f26) k.c26 rfl (f26_ok k.toCallsPa k.toCallsL.toCallsC hu2 hc2 hchk)).mono ?_
  rintro r h3 ⟨w2, rfl, _, hG3⟩
  have hc3 := hG3.hc hc2
  have hu3 := hu2.grow hc2 hG3
  have hGb := hGa.trans (hG3.low hGa.nx)
  simp (disch := omega) only [f12_r4, w_reg, w_seq, seqK_n, x_nil, x_mv, x_as, x_ext, x_call, kx, rvP_ok, okv_some, ev_t, ev_c, evs_nil, evs_cons, getV_some, putD_some, onTup_t, nth0, nth1, nth2, getK_set, Nat.reduceEqDiff, ↓reduceIte]
  refine (callP_0 (ef := f25) k.c25 rfl (f25_ok k.toCallsL hu3 hc3 hchk)).mono ?_
  rintro r h4 ⟨rfl, hG4⟩
  have hc4 := hG4.hc hc3
  have hu4 := hu3.grow hc3 hG4
  have hGc := hGb.trans (hG4.low hGb.nx)
  -- what the labels tell
  have hpi : (pFirst m E).isSome = true → decide (labsL m E ≠ []) = true := fun hp => by
    cases hq : labsL m E with
    | nil => unfold pFirst at hp; rw [hq] at hp; cases hp
    | cons M l => simp
  have hct : decide (((labsL m E).length : Int) > 0) = decide (labsL m E ≠ []) := by
    cases labsL m E <;> simp
  have hside : (pFirst m E).isSome = true → twoB E (2 ^ m) = true := fun hp => by
    obtain ⟨M, hM⟩ := Option.isSome_iff_exists.1 hp
    have h1 := (List.mem_filter.1 (List.mem_of_mem_head? hM)).2
    rw [okM_t] at h1
    obtain ⟨s, h2, h3⟩ := parts_side (n := m) hE h1
    exact List.any_eq_true.2 ⟨s, by simpa using h2, h3⟩
  have hpar : evnB E m = true → decide (labsL m E ≠ []) = true → ¬ (E.length % 4 = 1) ∧ ¬ (E.length % 4 = 2) := fun h1 h2 => by
    have h2 : labsL m E ≠ [] := by simpa using h2
    obtain ⟨M, hM⟩ := List.exists_mem_of_ne_nil _ h2
    exact parity hE hM fun v hv => by
      have := List.all_eq_true.1 h1 v (by simpa using hv)
      simpa using this
  generalize hpB : (pFirst m E).isSome = pB at *
  generalize hiB : decide (labsL m E ≠ []) = iB at *
  simp (disch := omega) only [w_reg, w_seq, seqK_n, x_nil, x_mv, x_as, x_ext, kx, rvP_ok, okv_some, ev_t, getV_some, putD_some, onTup_t, nth0, nth1, getK_set, Nat.reduceEqDiff, ↓reduceIte]
  generalize hfr : T.set (K.ofNat 14) _ _ = fr4
  have f1' : fr4.get (K.ofNat 1) = some v := by rw [← hfr]; simp (disch := omega) only [getK_set, Nat.reduceEqDiff, ↓reduceIte]
  have f5' : fr4.get (K.ofNat 5) = some (.i .i64 (m : Int)) := by rw [← hfr]; simp (disch := omega) only [getK_set, Nat.reduceEqDiff, ↓reduceIte]
  have f6' : fr4.get (K.ofNat 6) = some u := by rw [← hfr]; simp (disch := omega) only [getK_set, Nat.reduceEqDiff, ↓reduceIte]
  have f8' : fr4.get (K.ofNat 8) = some (.b iB) := by rw [← hfr]; simp (disch := omega) only [getK_set, Nat.reduceEqDiff, ↓reduceIte]
  have f9' : fr4.get (K.ofNat 9) = some (.i .i64 0) := by rw [← hfr]; simp (disch := omega) only [getK_set, Nat.reduceEqDiff, ↓reduceIte]
  have f11' : fr4.get (K.ofNat 11) = some (.b pB) := by rw [← hfr]; simp (disch := omega) only [getK_set, Nat.reduceEqDiff, ↓reduceIte]
  have f12' : fr4.get (K.ofNat 12) = some (.i .i64 0) := by rw [← hfr]; simp (disch := omega) only [getK_set, Nat.reduceEqDiff, ↓reduceIte]
  have f13' : fr4.get (K.ofNat 13) = some (.i .i64 ((labsL m E).length : Int)) := by rw [← hfr]; simp (disch := omega) only [getK_set, Nat.reduceEqDiff, ↓reduceIte]
  have f14' : fr4.get (K.ofNat 14) = some (.i .i64 0) := by rw [← hfr]; simp (disch := omega) only [getK_set, ↓reduceIte]
  clear hfr
  refine X_mono (P := fun fr h => h = h4 ∧ fr.get (K.ofNat 1) = some (v) ∧ fr.get (K.ofNat 5) = some (.i .i64 (m : Int)) ∧ fr.get (K.ofNat 6) = some (u) ∧ fr.get (K.ofNat 8) = some (.b iB) ∧ fr.get (K.ofNat 11) = some (.b pB) ∧ fr.get (K.ofNat 78) = some (.b false)) ?_ ?_
  · cases hp : pB <;> cases hi : iB
    · rw [hp] at f11'; rw [hi] at f8' hct
      simp (disch := omega) only [f12_r5, okG_b, asG_t, asG_f, true_and, x_nil, x_g, x_mv, x_pick, x_bin, x_eqk, kx, rvP_ok, okv_some, ev_t, ev_c, getV_some, putD_some, bin_neq, bin_gtr, pick_b, oGet_s, of0, Option.some.injEq, getK_set, Nat.reduceEqDiff, ↓reduceIte, Bool.false_eq_true, Bool.not_false, f1', f5', f6', f8', f9', f11', f12', f13', f14', ne0, hct, kb, Bool.not_false]
      simp (disch := omega) only [Bool.not_true, beq_self_eq_true, Bool.not_true, cond_true]
    · rw [hp] at f11'; rw [hi] at f8' hct
      simp (disch := omega) only [f12_r5, okG_b, asG_t, asG_f, true_and, x_nil, x_g, x_mv, x_pick, x_bin, x_eqk, kx, rvP_ok, okv_some, ev_t, ev_c, getV_some, putD_some, bin_neq, bin_gtr, pick_b, oGet_s, of0, Option.some.injEq, getK_set, Nat.reduceEqDiff, ↓reduceIte, Bool.false_eq_true, Bool.not_false, f1', f5', f6', f8', f9', f11', f12', f13', f14', ne0, hct, kb, Bool.not_false]
      simp (disch := omega) only [Bool.not_true, beq_self_eq_true, Bool.not_true, cond_true]
    · rw [hi] at hpi; exact absurd (hpi hp) (by simp)
    · rw [hp] at f11'; rw [hi] at f8' hct
      simp (disch := omega) only [f12_r5, okG_b, asG_t, asG_f, true_and, x_nil, x_g, x_mv, x_pick, x_bin, x_eqk, x_not, kx, rvP_ok, okv_some, ev_t, ev_c, getV_some, putD_some, bin_neq, bin_gtr, pick_b, onB_b, oGet_s, of0, Option.some.injEq, getK_set, Nat.reduceEqDiff, ↓reduceIte, Bool.false_eq_true, Bool.not_true, Bool.not_false, f1', f5', f6', f8', f9', f11', f12', f13', f14', ne0, hct, kb, Bool.not_true, Bool.not_false]
      simp (disch := omega) only [Bool.not_true, beq_self_eq_true, Bool.not_true, cond_true]
  clear f1' f5' f6' f8' f9' f11' f12' f13' f14' fr4
  rintro fr h5 ⟨rfl, g1, g5, g6, g8, g11, g78⟩
  have hmk := mks_ints (h := h5) (k := .i64) (n := m) (by omega)
  have hsl0 := mks_sl (h := h5) (n := m)
  have gD := Grow.new (Nat.le_refl h5.nx.nat) (.cells (m * 1) (rep [.i .i64 0] m))
  simp (disch := omega) only [f12_r7, f12_r8, w_skip, w_reg, w_seq, w_cond, w_block, seqK_n, ckB_b, cbB_b, true_and, x_nil, x_mv, x_as, x_mks, kx, rvP_ok, ev_t, ev_c, getV_some, putD_some, of0, getK_set, ↓reduceIte, Bool.false_eq_true, g5, g78, hmk]
  refine W_loop (f12_A h5 v u m E iB pB) (fun j => E.length - j) ?_ 0 ⟨by omega, gD, .sl h5.nx 0 m 1, ?_, fun _ _ _ _ e => by cases e; exact Nat.le_refl _, by simp (disch := omega) only [getK_set, Nat.reduceEqDiff, ↓reduceIte, g1, g5, g6, g8, g11, and_self, Int.natCast_zero]⟩
  case refine_2 =>
    have : dgL m (E.take 0) = List.replicate m 0 := by
      apply List.ext_getElem
      · simp [dgL]
      · intro i h1 h2; rw [dgL_at, List.getElem_replicate]; rfl
    rw [this]; exact hsl0
  clear hmk hsl0 gD g1 g5 g6 g8 g11 g78 fr
  rintro j fr hx ⟨hj, hGx, d, hd, hod, g1, g5, g6, g8, g11, g15, g16⟩
  have hcx := hGx.hc hc4
  have hux := hu4.grow hc4 hGx
  unfold f12_l0
  by_cases hlt : j < E.length
  · have d0 : decide ((j : Int) < (E.length : Int)) = true := by simpa using hlt
    obtain ⟨ide, q, hp1, _, hp2, hp3⟩ := hux.at2 hlt
    obtain ⟨e0, e1, e2⟩ := hE.2.2 E[j] (List.getElem_mem hlt)
    have hstep := dgL_step (m := m) (a := E[j].1.toNat) (b := E[j].2.toNat) (E := E.take j) (by omega) (by omega) (by omega)
    have htk := List.take_succ_eq_append_getElem hlt
    have heq : E[j] = ((E[j].1.toNat : Int), (E[j].2.toNat : Int)) := by ext <;> simp <;> omega
    rw [← heq, ← htk] at hstep
    obtain ⟨a, ea⟩ : ∃ a : Nat, E[j].1 = (a : Int) := ⟨E[j].1.toNat, by omega⟩
    obtain ⟨b, eb⟩ : ∃ b : Nat, E[j].2 = (b : Int) := ⟨E[j].2.toNat, by omega⟩
    rw [ea] at hp2 hstep
    rw [eb] at hp3 hstep
    rw [Int.toNat_natCast, Int.toNat_natCast] at hstep
    have ha : a < m := by omega
    have hb : b < m := by omega
    have hna := dgE_nn (E := E.take j) (v := a)
    have hnb := dgE_nn (E := E.take j) (v := b)
    have hlt10 : (E.take j).length ≤ 10 := by simp; omega
    obtain ⟨p, hpa, hpb⟩ := hd.at a (by rw [dgL_len]; exact ha)
    rw [dgL_at] at hpb
    obtain ⟨p', id', m', cs', s1, s2, s3, ⟨off', n', sz', s4⟩, s5⟩ := hd.st (i := a) (by rw [dgL_len]; exact ha) (x := dgE (E.take j) a + 1) (c := .i .i64 (dgE (E.take j) a + 1)) rfl rfl hcx
    obtain rfl : p = p' := by have := (hpa .i64 hx).symm.trans (s1 .i64 hx); injection this
    have hob := hod _ _ _ _ s4
    have gP := Grow.put hob s5 (.cells m' cs')
    have hcy := gP.hc hcx
    have hGy := hGx.trans gP
    have huy := hu4.grow hc4 hGy
    generalize hx.put id' (.cells m' cs') = hy at *
    obtain ⟨ide2, q2, hr1, _, hr2, hr3⟩ := huy.at2 hlt
    rw [ea] at hr2
    rw [eb] at hr3
    have hbl : b < ((dgL m (E.take j)).set a (dgE (E.take j) a + 1)).length := by rw [List.length_set, dgL_len]; exact hb
    obtain ⟨p2, hqa, hqb⟩ := s3.at b hbl
    have hgb : ((dgL m (E.take j)).set a (dgE (E.take j) a + 1))[b] = dgE (E.take j) b := by
      rw [List.getElem_set, if_neg (by omega), dgL_at]
    rw [hgb] at hqb
    obtain ⟨p2', id2, m2, cs2, u1, u2, u3, ⟨off2, n2, sz2, u4⟩, u5⟩ := s3.st (i := b) hbl (x := dgE (E.take j) b + 1) (c := .i .i64 (dgE (E.take j) b + 1)) rfl rfl hcy
    obtain rfl : p2 = p2' := by have := (hqa .i64 hy).symm.trans (u1 .i64 hy); injection this
    rw [← hstep] at u3
    have gP2 := Grow.put (hod _ _ _ _ u4) u5 (.cells m2 cs2)
    have hub := hu.beq
    simp (disch := omega) only [f12_r9, f12_r10, w_skip, w_reg, w_seq, w_cond, w_block, seqK_n, ckB_b, cbB_b, true_and, x_nil, x_mv, x_ld, x_st, x_bin, x_iadr, x_iads, x_len, kx, rvP_ok, okv_some, ev_t, ev_c, getV_some, putD_some, putD_none, bin_add, bin_lss, onP_p, of0, of1, getK_set, Nat.reduceEqDiff, ↓reduceIte, ix2_0, g6, g15, g16, hux.len, d0, hp1, hp2, hpa, hpb, s2, iE, fw64]
    simp (disch := omega) only [f12_r11, f12_r12, w_reg, seqK_n, atK_n, loopK_n, x_nil, x_mv, x_as, x_ld, x_st, x_bin, x_iadr, x_iads, kx, rvP_ok, okv_some, ev_t, ev_c, getV_some, putD_some, putD_none, bin_add, onP_p, of1, getK_set, Nat.reduceEqDiff, ↓reduceIte, ix2_1, g6, g15, g16, hr1, hr3, hqa, hqb, u2, iE, fw64]
    exact ⟨j + 1, by omega, by omega, hGy.trans gP2, d, u3, hod, by simp (disch := omega) only [getK_set, Nat.reduceEqDiff, ↓reduceIte, g1, g5, g6, g8, g11, g15, and_self, Int.natCast_add, Int.natCast_one]⟩
  · have d0 : decide ((j : Int) < (E.length : Int)) = false := by simpa using hlt
    have ej : j = E.length := by omega
    rw [ej, List.take_length] at hd
    simp (disch := omega) only [f12_r9, f12_r13, f12_r14, w_reg, w_seq, w_cond, w_block, w_exit, seqK_n, seqK_e, atK_e, loopK_e, ckB_b, cbB_b, true_and, x_nil, x_mv, x_as, x_bin, x_len, kx, rvP_ok, okv_some, ev_t, ev_c, getV_some, putD_some, bin_lss, of0, getK_set, Nat.reduceEqDiff, ↓reduceIte, Bool.false_eq_true, g6, g16, hux.len, d0]
    refine W_loop (f12_B hx v u d m E iB pB) (fun j => m - j) ?_ 0 ⟨by omega, rfl, by simp (disch := omega) only [getK_set, Nat.reduceEqDiff, ↓reduceIte, g1, g5, g6, g8, g11, g15, and_self, Int.natCast_zero, evnB, List.range_zero, List.all_nil]⟩
    clear g1 g5 g6 g8 g11 g15 g16 fr
    rintro t fr h6 ⟨ht, rfl, g1, g5, g6, g8, g11, g15, g17, g18, g19⟩
    unfold f12_l1
    by_cases hlt2 : t < m
    · have d1 : decide ((t : Int) < (m : Int)) = true := by simpa using hlt2
      obtain ⟨p, hpa, hpb⟩ := hd.at t (by rw [dgL_len]; exact hlt2)
      rw [dgL_at] at hpb
      have hnn := dgE_nn (E := E) (v := t)
      obtain ⟨x, hxx⟩ : ∃ x : Nat, dgE E t = (x : Int) := ⟨(dgE E t).toNat, by omega⟩
      have hes := evnB_succ (E := E) (j := t)
      rw [hxx] at hes hpb
      have htm : ((x : Nat) : Int).tmod 2 = ((x % 2 : Nat) : Int) := rfl
      have hdd : decide (((x % 2 : Nat) : Int) = 0) = decide ((x : Int) % 2 = 0) := by congr 1
      cases hev : evnB E t with
      | false =>
        rw [hev] at g17 hes
        simp (disch := omega) only [f12_r15, f12_r16, f12_r17, w_skip, w_reg, w_seq, w_cond, w_block, seqK_n, atK_n, loopK_n, ckB_b, cbB_b, okG_b, asG_t, true_and, x_nil, x_g, x_mv, x_as, x_pick, x_bin, kx, rvP_ok, okv_some, ev_t, ev_c, getV_some, putD_some, bin_add, bin_lss, pick_b, of0, of1, of2, getK_set, Nat.reduceEqDiff, ↓reduceIte, Bool.false_eq_true, g5, g17, g19, d1, fw64]
        exact ⟨t + 1, by omega, by omega, rfl, by rw [hes]; simp (disch := omega) only [getK_set, Nat.reduceEqDiff, ↓reduceIte, g1, g5, g6, g8, g11, g15, g18, and_self, Bool.false_and, Int.natCast_add, Int.natCast_one]⟩
      | true =>
        rw [hev] at g17 hes
        simp (disch := omega) only [f12_r15, f12_r16, f12_r17, w_skip, w_reg, w_seq, w_cond, w_block, seqK_n, atK_n, loopK_n, ckB_b, cbB_b, okG_b, asG_t, true_and, x_nil, x_g, x_mv, x_as, x_pick, x_ld, x_bin, x_iads, kx, rvP_ok, okv_some, ev_t, ev_c, getV_some, putD_some, bin_add, bin_eql, bin_lss, bin_rem, pick_b, of0, of1, of2, getK_set, Nat.reduceEqDiff, ↓reduceIte, g5, g15, g17, g19, d1, fw64, hpa, hpb, iE, htm, hdd]
        exact ⟨t + 1, by omega, by omega, rfl, by rw [hes]; simp (disch := omega) only [getK_set, Nat.reduceEqDiff, ↓reduceIte, g1, g5, g6, g8, g11, g15, g18, and_self, Bool.true_and, Int.natCast_add, Int.natCast_one]⟩
    · have d1 : decide ((t : Int) < (m : Int)) = false := by simpa using hlt2
      obtain rfl : t = m := by omega
      simp (disch := omega) only [f12_r15, f12_r18, w_reg, w_seq, w_cond, w_block, w_exit, seqK_n, seqK_e, atK_e, loopK_e, ckB_b, cbB_b, true_and, x_nil, x_mv, x_as, x_bin, kx, rvP_ok, okv_some, ev_t, ev_c, getV_some, putD_some, bin_lss, of0, getK_set, Nat.reduceEqDiff, ↓reduceIte, Bool.false_eq_true, g5, g19, d1]
      refine W_loop (f12_C h6 v u t E iB pB) (fun s => 2 ^ t - s) ?_ 0 ⟨Nat.zero_le _, rfl, by simp (disch := omega) only [getK_set, Nat.reduceEqDiff, ↓reduceIte, g1, g5, g6, g8, g11, g17, g18, and_self, Int.natCast_zero, twoB, List.range_zero, List.any_nil]⟩
      clear g1 g5 g6 g8 g11 g15 g17 g18 g19 fr
      rintro s fr h7 ⟨hs, rfl, g1, g5, g6, g8, g11, g17, g18, g20⟩
      have hpw : 2 ^ t ≤ 2 ^ 7 := Nat.pow_le_pow_right (by omega) hm7
      have hp7 : 2 ^ 7 = 128 := by decide
      have hshl : binV .shl (.i .i64 1) (.i .i64 (t : Int)) = some (.i .i64 ((2 ^ t : Nat) : Int)) := by
        rw [bin_shl (by omega), show min ((t : Int).toNat) (IntKind.bits .i64) = t by show min ((t : Int).toNat) 64 = t; omega, Int.one_mul]
        have hz : (2 : Int) ^ t = ((2 ^ t : Nat) : Int) := by rw [Int.natCast_pow]; rfl
        rw [hz, fw64 (by omega) (by omega)]
      unfold f12_l3
      by_cases hlt3 : s < 2 ^ t
      · have d2 : decide ((s : Int) < ((2 ^ t : Nat) : Int)) = true := by simp only [decide_eq_true_eq]; omega
        simp (disch := omega) only [f12_r19, f12_r20, f12_r21, w_skip, w_reg, w_seq, w_cond, w_block, seqK_n, ckB_b, cbB_b, true_and, x_nil, x_mv, x_as, x_bin, kx, rvP_ok, okv_some, ev_t, ev_c, getV_some, putD_some, bin_lss, of0, of1, getK_set, Nat.reduceEqDiff, ↓reduceIte, g5, g20, hshl, d2]
        refine W_loop (f12_D h7 v u t E iB pB s) (fun j => E.length - j) ?_ 0 ⟨by omega, rfl, by simp (disch := omega) only [getK_set, Nat.reduceEqDiff, ↓reduceIte, g1, g5, g6, g8, g11, g17, g18, g20, and_self, Int.natCast_zero, List.take_zero, List.all_nil]⟩
        clear g1 g5 g6 g8 g11 g17 g18 g20 fr
        rintro i fr h8 ⟨hi, rfl, g1, g5, g6, g8, g11, g17, g18, g20, g21, g22⟩
        unfold f12_l2
        by_cases hlt4 : i < E.length
        · have d3 : decide ((i : Int) < (E.length : Int)) = true := by simpa using hlt4
          obtain ⟨ide, q, hp1, _, hp2, hp3⟩ := hux.at2 hlt4
          obtain ⟨e0, e1, e2⟩ := hE.2.2 E[i] (List.getElem_mem hlt4)
          have hub := hu.beq
          have hall := all_snoc (p := sd1 s) hlt4
          have hsd : sd1 s E[i] = (decide (s / 2 ^ E[i].1.toNat % 2 = 1) != decide (s / 2 ^ E[i].2.toNat % 2 = 1)) := rfl
          obtain ⟨a, ea⟩ : ∃ a : Nat, E[i].1 = (a : Int) := ⟨E[i].1.toNat, by omega⟩
          obtain ⟨b, eb⟩ : ∃ b : Nat, E[i].2 = (b : Int) := ⟨E[i].2.toNat, by omega⟩
          rw [ea] at hp2 hsd
          rw [eb] at hp3 hsd
          rw [Int.toNat_natCast, Int.toNat_natCast] at hsd
          have ht1 : ((s / 2 ^ a : Nat) : Int).tmod 2 = ((s / 2 ^ a % 2 : Nat) : Int) := rfl
          have ht2 : ((s / 2 ^ b : Nat) : Int).tmod 2 = ((s / 2 ^ b % 2 : Nat) : Int) := rfl
          have hne := bit_ne (x := s / 2 ^ a % 2) (y := s / 2 ^ b % 2) (Nat.mod_lt _ (by omega)) (Nat.mod_lt _ (by omega))
          rw [← hsd] at hne
          have hsa := shrN (m := s) (n := a) (by omega)
          have hsb := shrN (m := s) (n := b) (by omega)
          cases hpr : (E.take i).all (sd1 s) with
          | false =>
            rw [hpr] at g21 hall
            simp (disch := omega) only [f12_r22, f12_r23, f12_r24, w_skip, w_reg, w_draw, w_seq, w_cond, w_block, seqK_n, atK_n, loopK_n, ckB_b, cbB_b, okG_b, asG_t, true_and, x_nil, x_mv, x_as, x_bin, x_len, kx, kg, xg_nil, xg_g, xg_mv, xg_pick, xd_cons, fresh_nil, stK_n, stK_s, stay_nil, rvP_ok, okv_some, ev_t, ev_c, getV_some, putD_some, bin_add, bin_lss, pick_b, of0, of1, of2, getK_set, Nat.reduceEqDiff, ↓reduceIte, Bool.false_eq_true, g6, g21, g22, hux.len, d3, fw64]
            refine ⟨i + 1, by omega, by omega, rfl, ?_⟩
            rw [hall]
            simp (disch := omega) only [getK_set, Nat.reduceEqDiff, ↓reduceIte, g1, g5, g6, g8, g11, g17, g18, g20, and_self, Bool.false_and, Int.natCast_add, Int.natCast_one]
          | true =>
            rw [hpr] at g21 hall
            simp (disch := omega) only [f12_r22, f12_r23, f12_r24, w_skip, w_reg, w_draw, w_seq, w_cond, w_block, seqK_n, atK_n, loopK_n, ckB_b, cbB_b, okG_b, asG_t, true_and, x_nil, x_mv, x_as, x_bin, x_len, kx, kg, xg_nil, xg_g, xg_mv, xg_pick, xg_ld, xg_bin, xg_iadr, xg_iads, xd_cons, fresh_nil, stK_n, stK_s, stay_nil, rvP_ok, okv_some, ev_t, ev_c, getV_some, putD_some, bin_add, bin_neq, bin_lss, bin_rem, pick_b, onP_p, of0, of1, of2, getK_set, Nat.reduceEqDiff, ↓reduceIte, ix2_0, ix2_1, g6, g20, g21, g22, hux.len, d3, hp1, hp2, hp3, hsa, hsb, ht1, ht2, hne, fw64]
            refine ⟨i + 1, by omega, by omega, rfl, ?_⟩
            rw [hall]
            simp (disch := omega) only [getK_set, Nat.reduceEqDiff, ↓reduceIte, g1, g5, g6, g8, g11, g17, g18, g20, and_self, Bool.true_and, Int.natCast_add, Int.natCast_one]
        · have d3 : decide ((i : Int) < (E.length : Int)) = false := by simpa using hlt4
          have ei : i = E.length := by omega
          rw [ei, List.take_length] at g21
          have hsb : E.all (sd1 s) = sideB E s := rfl
          have hts := twoB_succ (E := E) (s := s)
          rw [hsb] at g21
          cases htw : twoB E s with
          | true =>
            rw [htw] at g18 hts
            simp (disch := omega) only [f12_r22, f12_r25, f12_r26, w_reg, w_seq, w_cond, w_exit, seqK_n, seqK_e, atK_n, atK_e, loopK_n, loopK_e, ckB_b, cbB_b, okG_b, asG_f, true_and, x_nil, x_g, x_mv, x_as, x_pick, x_bin, x_len, kx, rvP_ok, okv_some, ev_t, ev_c, getV_some, putD_some, bin_add, bin_lss, pick_b, of1, getK_set, Nat.reduceEqDiff, ↓reduceIte, Bool.false_eq_true, Bool.not_true, g6, g18, g20, g22, hux.len, d3, fw64, Bool.not_true]
            refine ⟨s + 1, by omega, by omega, rfl, ?_⟩
            rw [hts]
            simp (disch := omega) only [getK_set, Nat.reduceEqDiff, ↓reduceIte, g1, g5, g6, g8, g11, g17, and_self, Bool.true_or, Int.natCast_add, Int.natCast_one]
          | false =>
            rw [htw] at g18 hts
            simp (disch := omega) only [f12_r22, f12_r25, f12_r26, w_reg, w_seq, w_cond, w_exit, seqK_n, seqK_e, atK_n, atK_e, loopK_n, loopK_e, ckB_b, cbB_b, okG_b, asG_f, true_and, x_nil, x_g, x_mv, x_as, x_pick, x_bin, x_len, kx, rvP_ok, okv_some, ev_t, ev_c, getV_some, putD_some, bin_add, bin_lss, pick_b, of1, getK_set, Nat.reduceEqDiff, ↓reduceIte, Bool.false_eq_true, Bool.not_false, g6, g18, g20, g21, g22, hux.len, d3, fw64, Bool.not_false]
            refine ⟨s + 1, by omega, by omega, rfl, ?_⟩
            rw [hts]
            simp (disch := omega) only [getK_set, Nat.reduceEqDiff, ↓reduceIte, g1, g5, g6, g8, g11, g17, and_self, Bool.false_or, Int.natCast_add, Int.natCast_one]
      · have d2 : decide ((s : Int) < ((2 ^ t : Nat) : Int)) = false := by simp only [decide_eq_false_iff_not]; omega
        have es : s = 2 ^ t := by omega
        rw [es] at g18
        simp (disch := omega) only [f12_r19, w_reg, w_seq, w_cond, w_exit, seqK_n, seqK_e, atK_e, loopK_e, ckB_b, cbB_b, true_and, x_nil, x_mv, x_bin, kx, rvP_ok, okv_some, ev_t, ev_c, getV_some, putD_some, bin_lss, of1, getK_set, Nat.reduceEqDiff, ↓reduceIte, Bool.false_eq_true, g5, g20, hshl, d2]
        refine X_mono (P := fun fr h' => Grow h.nx.nat h h' ∧ HC h' ∧ fr.get (K.ofNat 1) = some (v) ∧ fr.get (K.ofNat 179) = some (.b false)) ?_ ?_
        · have hGh : Grow h.nx.nat h h7 := hGc.trans (hGx.low hGc.nx)
          have hm4 : ((E.length : Nat) : Int).tmod 4 = ((E.length % 4 : Nat) : Int) := rfl
          have q1 : decide (((E.length % 4 : Nat) : Int) = 1) = decide (E.length % 4 = 1) := by congr 1; simp; omega
          have q2 : decide (((E.length % 4 : Nat) : Int) = 2) = decide (E.length % 4 = 2) := by congr 1; simp; omega
          have fin : ∀ tw, twoB E (2 ^ t) = tw → (pB = true → tw = true) → True := fun _ _ _ => trivial
          cases hev : evnB E t with
          | false =>
            rw [hev] at g17
            cases htw : twoB E (2 ^ t) with
            | true =>
              rw [htw] at g18
              simp (maxSteps := 5000000) (disch := omega) only [f12_r27, okG_b, okG_u, asG_t, asG_f, asG_u, true_and, x_nil, x_g, x_mv, x_pick, x_not, kx, rvP_ok, ev_t, ev_c, getV_some, putD_some, pick_b, onB_b, of1, of2, of4, getK_set, Nat.reduceEqDiff, ↓reduceIte, Bool.false_eq_true, Bool.not_true, Bool.not_false, g1, g17, g18, Bool.not_true, and_self, true_and]
              exact ⟨hGh, hcx, trivial⟩
            | false =>
              rw [htw] at g18
              have hpf : pB = false := by cases hq : pB; rfl; exact absurd (hside hq) (by rw [htw]; simp)
              rw [hpf] at g11
              simp (maxSteps := 5000000) (disch := omega) only [f12_r27, okG_b, okG_u, asG_t, asG_f, asG_u, true_and, x_nil, x_g, x_mv, x_pick, x_not, kx, rvP_ok, ev_t, ev_c, getV_some, putD_some, pick_b, onB_b, of1, of2, of4, getK_set, Nat.reduceEqDiff, ↓reduceIte, Bool.false_eq_true, Bool.not_false, g1, g11, g17, g18, Bool.not_false, and_self, true_and]
              exact ⟨hGh, hcx, trivial⟩
          | true =>
            rw [hev] at g17
            have key : ∀ e1 e2 : Bool, decide (E.length % 4 = 1) = e1 → decide (E.length % 4 = 2) = e2 → (e1 = true ∨ e2 = true) → iB = false := fun e1 e2 h1 h2 h3 => by
              cases hq : iB with
              | false => rfl
              | true =>
                obtain ⟨n1, n2⟩ := hpar hev hq
                rcases h3 with h3 | h3
                · rw [h3] at h1; exact absurd (of_decide_eq_true h1) n1
                · rw [h3] at h2; exact absurd (of_decide_eq_true h2) n2
            have two : ∃ tw, twoB E (2 ^ t) = tw ∧ (tw = true ∨ tw = false ∧ pB = false) := by
              cases htw : twoB E (2 ^ t) with
              | true => exact ⟨true, rfl, .inl rfl⟩
              | false =>
                refine ⟨false, rfl, .inr ⟨rfl, ?_⟩⟩
                cases hq : pB
                · rfl
                · exact absurd (hside hq) (by rw [htw]; simp)
            obtain ⟨tw, htw, hor⟩ := two
            rw [htw] at g18
            cases he1 : decide (E.length % 4 = 1) <;> cases he2 : decide (E.length % 4 = 2)
            · rcases hor with rfl | ⟨rfl, hpf⟩
              · simp (maxSteps := 5000000) (disch := omega) only [f12_r27, okG_b, asG_t, asG_f, true_and, x_nil, x_g, x_mv, x_pick, x_bin, x_not, x_len, kx, rvP_ok, okv_some, ev_t, ev_c, getV_some, putD_some, bin_eql, bin_rem, pick_b, onB_b, of1, of2, of4, getK_set, Nat.reduceEqDiff, ↓reduceIte, Bool.false_eq_true, Bool.not_true, Bool.not_false, g1, g6, g17, g18, hux.len, hm4, q1, q2, he1, he2, Bool.not_true, and_self, true_and]
                exact ⟨hGh, hcx, trivial⟩
              · rw [hpf] at g11
                simp (maxSteps := 5000000) (disch := omega) only [f12_r27, okG_b, asG_t, asG_f, true_and, x_nil, x_g, x_mv, x_pick, x_bin, x_not, x_len, kx, rvP_ok, okv_some, ev_t, ev_c, getV_some, putD_some, bin_eql, bin_rem, pick_b, onB_b, of1, of2, of4, getK_set, Nat.reduceEqDiff, ↓reduceIte, Bool.false_eq_true, Bool.not_false, g1, g6, g11, g17, g18, hux.len, hm4, q1, q2, he1, he2, Bool.not_false, and_self, true_and]
                exact ⟨hGh, hcx, trivial⟩
            · have hib := key _ _ he1 he2 (.inr rfl)
              rw [hib] at g8
              rcases hor with rfl | ⟨rfl, hpf⟩
              · simp (maxSteps := 5000000) (disch := omega) only [f12_r27, okG_b, asG_t, asG_f, true_and, x_nil, x_g, x_mv, x_pick, x_bin, x_not, x_len, kx, rvP_ok, okv_some, ev_t, ev_c, getV_some, putD_some, bin_eql, bin_rem, pick_b, onB_b, of1, of2, of4, getK_set, Nat.reduceEqDiff, ↓reduceIte, Bool.false_eq_true, Bool.not_true, Bool.not_false, g1, g6, g8, g17, g18, hux.len, hm4, q1, q2, he1, he2, Bool.not_true, and_self, true_and]
                exact ⟨hGh, hcx, trivial⟩
              · rw [hpf] at g11
                simp (maxSteps := 5000000) (disch := omega) only [f12_r27, okG_b, asG_t, asG_f, true_and, x_nil, x_g, x_mv, x_pick, x_bin, x_not, x_len, kx, rvP_ok, okv_some, ev_t, ev_c, getV_some, putD_some, bin_eql, bin_rem, pick_b, onB_b, of1, of2, of4, getK_set, Nat.reduceEqDiff, ↓reduceIte, Bool.false_eq_true, Bool.not_false, g1, g6, g8, g11, g17, g18, hux.len, hm4, q1, q2, he1, he2, Bool.not_false, and_self, true_and]
                exact ⟨hGh, hcx, trivial⟩
            · have hib := key _ _ he1 he2 (.inl rfl)
              rw [hib] at g8
              rcases hor with rfl | ⟨rfl, hpf⟩
              · simp (maxSteps := 5000000) (disch := omega) only [f12_r27, okG_b, asG_t, asG_f, true_and, x_nil, x_g, x_mv, x_pick, x_bin, x_not, x_len, kx, rvP_ok, okv_some, ev_t, ev_c, getV_some, putD_some, bin_eql, bin_rem, pick_b, onB_b, of1, of2, of4, getK_set, Nat.reduceEqDiff, ↓reduceIte, Bool.false_eq_true, Bool.not_true, Bool.not_false, g1, g6, g8, g17, g18, hux.len, hm4, q1, he1, Bool.not_true, and_self, true_and]
                exact ⟨hGh, hcx, trivial⟩
              · rw [hpf] at g11
                simp (maxSteps := 5000000) (disch := omega) only [f12_r27, okG_b, asG_t, asG_f, true_and, x_nil, x_g, x_mv, x_pick, x_bin, x_not, x_len, kx, rvP_ok, okv_some, ev_t, ev_c, getV_some, putD_some, bin_eql, bin_rem, pick_b, onB_b, of1, of2, of4, getK_set, Nat.reduceEqDiff, ↓reduceIte, Bool.false_eq_true, Bool.not_true, Bool.not_false, g1, g6, g8, g11, g17, g18, hux.len, hm4, q1, he1, Bool.not_false, and_self, true_and]
                exact ⟨hGh, hcx, trivial⟩
            · exact absurd (of_decide_eq_true he1) (by have := of_decide_eq_true he2; omega)
        clear g1 g5 g6 g8 g11 g17 g18 g20 fr
        rintro fr h8 ⟨hG8, hc8, g1, g179⟩
        obtain ⟨s0, hs0⟩ : ∃ s0 : Nat, s0 = 2 + l.length % 4 := ⟨_, rfl⟩
        have hs2 : 2 ≤ s0 ∧ s0 ≤ 5 := by omega
        have hl4 : ((l.length : Nat) : Int).tmod 4 = ((l.length % 4 : Nat) : Int) := rfl
        have hs4 : (2 + ((l.length % 4 : Nat) : Int)) = (s0 : Int) := by omega
        have hl0 := hv.len
        simp (disch := omega) only [f12_r29, f12_r30, f12_r31, w_skip, w_reg, w_seq, w_cond, w_block, seqK_n, ckB_b, cbB_b, true_and, x_nil, x_mv, x_as, x_bin, x_len, kx, rvP_ok, okv_some, ev_t, ev_c, getV_some, putD_some, bin_add, bin_rem, of0, of2, of4, getK_set, ↓reduceIte, Bool.false_eq_true, g1, g179, hl0, hl4, fw64, hs4]
        refine W_loop (f12_E h8 s0) (fun a => s0 - a) ?_ 0 ⟨by omega, .sn, Sk.nil, Own.sn, Grow.refl _ _, by simp (disch := omega) only [getK_set, Nat.reduceEqDiff, ↓reduceIte, and_self, Int.natCast_zero]⟩
        clear g1 g179 fr
        rintro a fr h9 ⟨ha, w9, hsk, hown, hG9, g23, g24, g25⟩
        have hc9 := hG9.hc hc8
        unfold f12_l5
        by_cases hla : a < s0
        · have d4 : decide ((a : Int) < (s0 : Int)) = true := by simpa using hla
          have ea1 : ((a : Int) + 1) = ((a + 1 + 0 : Nat) : Int) := by omega
          simp (disch := omega) only [f12_r32, f12_r33, w_skip, w_reg, w_seq, w_cond, w_block, seqK_n, ckB_b, cbB_b, true_and, x_nil, x_mv, x_as, x_bin, kx, rvP_ok, okv_some, ev_t, ev_c, getV_some, putD_some, bin_add, bin_lss, of1, getK_set, Nat.reduceEqDiff, ↓reduceIte, g23, g25, d4, fw64, ea1]
          refine W_loop (f12_F h8 s0 a) (fun k => s0 - k) ?_ 0 ⟨by omega, w9, by simpa [rowP] using hsk, hown, hG9, by simp (disch := omega) only [getK_set, Nat.reduceEqDiff, ↓reduceIte, g23, g24, g25, and_self]⟩
          clear hsk hown hG9 hc9 g23 g24 g25 fr
          rintro k0 fr h10 ⟨hk0, w10, hsk, hown, hG10, g23, g24, g25, g26⟩
          have hc10 := hG10.hc hc8
          unfold f12_l4
          by_cases hlk : a + 1 + k0 < s0
          · have d5 : decide (((a + 1 + k0 : Nat) : Int) < (s0 : Int)) = true := by simp only [decide_eq_true_eq]; omega
            have hle := uptoP_len (s := s0) (a := a)
            have h25 : a * s0 ≤ 5 * 5 := Nat.mul_le_mul (by omega) hs2.2
            obtain ⟨w11, h11, a1, s1, o1, gr1, _⟩ := Sk.push qE_len (by omega) (x := ((a : Int), ((a + 1 + k0 : Nat) : Int))) hsk hown hG10.nx hc10 (by rw [List.length_append, rowP_len]; omega)
            have a1' : appV 2 (h10.new (.cells (1 * 2) [.i .i64 (a : Int), .i .i64 ((a + 1 + k0 : Nat) : Int)])) w10 (.sl h10.nx 0 1 2) = .ok w11 h11 := a1
            have ek : (((a + 1 + k0 : Nat) : Int) + 1) = ((a + 1 + (k0 + 1) : Nat) : Int) := by omega
            rw [List.append_assoc, ← rowP_succ] at s1
            simp (disch := omega) only [f12_r34, f12_r35, f12_r36, w_skip, w_reg, w_seq, w_cond, w_block, seqK_n, atK_n, loopK_n, ckB_b, cbB_b, true_and, x_nil, x_mv, x_as, x_build, x_bslice, x_bin, x_app, kx, rvP_ok, okv_some, ev_t, ev_c, getV_some, putD_some, bin_add, bin_lss, oGet_s, cells1_i, of0, of1, getK_set, Nat.reduceEqDiff, ↓reduceIte, fill_2, set_2, cells2, g23, g24, g25, g26, d5, fill_2, set_2, cells2, fill_p2, set_p2, a1', ek, fw64]
            exact ⟨k0 + 1, by omega, by omega, w11, s1, o1, hG10.trans gr1, by simp (disch := omega) only [getK_set, Nat.reduceEqDiff, ↓reduceIte, g23, g25, and_self]⟩
          · have d5 : decide (((a + 1 + k0 : Nat) : Int) < (s0 : Int)) = false := by simp only [decide_eq_false_iff_not]; omega
            have ek : k0 = s0 - (a + 1) := by omega
            rw [ek, ← uptoP_succ] at hsk
            simp (disch := omega) only [f12_r34, f12_r37, w_reg, w_seq, w_cond, w_exit, seqK_n, seqK_e, atK_n, atK_e, loopK_n, loopK_e, ckB_b, cbB_b, true_and, x_nil, x_mv, x_as, x_bin, kx, rvP_ok, okv_some, ev_t, ev_c, getV_some, putD_some, bin_add, bin_lss, of1, getK_set, Nat.reduceEqDiff, ↓reduceIte, Bool.false_eq_true, g23, g25, g26, d5, fw64]
            exact ⟨a + 1, by omega, by omega, w10, hsk, hown, hG10, by simp (disch := omega) only [getK_set, Nat.reduceEqDiff, ↓reduceIte, g23, g24, and_self, Int.natCast_add, Int.natCast_one]⟩
        · have d4 : decide ((a : Int) < (s0 : Int)) = false := by simpa using hla
          have ea : a = s0 := by omega
          rw [ea] at hsk
          have hsk : Sk 2 qE h9 w9 (allP s0) := hsk
          simp (disch := omega) only [f12_r32, f12_r38, w_reg, w_seq, w_cond, w_exit, seqK_n, seqK_e, atK_e, loopK_e, ckB_b, cbB_b, true_and, x_nil, x_mv, x_bin, x_call, kx, rvP_ok, okv_some, ev_t, ev_c, evs_nil, evs_cons, getV_some, putD_some, bin_lss, getK_set, Nat.reduceEqDiff, ↓reduceIte, Bool.false_eq_true, g23, g24, g25, d4]
          refine (callP_0 (ef := f24) k.c24 rfl (f24_ok k.toCallsL hsk.srp hc9 (full_chk hs2.1 hs2.2))).mono ?_
          rintro r h12 ⟨w12, rfl, _, _, hG12, _⟩
          have hful := full_iff hs2.1 hs2.2
          simp (disch := omega) only [f12_r39, f12_rs, w_reg, w_seq, w_ret, seqK_n, okG_b, asG_t, true_and, retK_r, x_nil, x_g, x_mv, x_as, x_pick, x_bin, x_eqk, x_ext, x_call, kx, rvP_ok, okv_some, ev_t, ev_c, evs_nil, getV_some, putD_some, bin_eql, bin_leq, pick_b, onTup_t, oGet_s, nth0, nth1, nth2, readRs_nil, readRs_t, retV_1, of0, of4, Option.some.injEq, exists_eq_left', getK_set, Nat.reduceEqDiff, ↓reduceIte, decide_eq_true_eq, g23, hful, kb, bb, cond_false, aw, true_and]
          exact hG8.trans ((hG9.trans (hG12.low hG9.nx)).low hG8.nx)
end
end Go.Ev
