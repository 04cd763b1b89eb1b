/-
  The law ShellsMakes.
  The law ShellsMakes: its round.
  What is true of sets: the greatest of all parts of some sets are the greatest of these.
-/
import Derived.Test.YtneacehpoaambaaPe
namespace Go.Ev
open Go Go.RowKit
noncomputable def f9_r0 : List EOper := [⟨(some (K.ofNat 6)), none, .as (.c (.b false))⟩]
noncomputable def f9_r1 : List EOper := [⟨(some (K.ofNat 20)), none, .mv (.t (K.ofNat 1))⟩, ⟨(some (K.ofNat 21)), none, .call (.c (.fn (K.ofNat 14) [])) [(.t (K.ofNat 20)), (.c (.i .i64 (.ofNat 66)))]⟩, ⟨(some (K.ofNat 7)), none, .as (.t (K.ofNat 21))⟩]
noncomputable def f9_r2 : List EOper := [⟨(some (K.ofNat 8)), none, .as (.c (.i .i64 (.ofNat 0)))⟩]
noncomputable def f9_r3 : List EOper := [⟨(some (K.ofNat 22)), none, .mv (.t (K.ofNat 8))⟩, ⟨(some (K.ofNat 23)), none, .bin .lss (.t (K.ofNat 22)) (.c (.i .i64 (.ofNat 2)))⟩]
noncomputable def f9_r4 : List EOper := [⟨(some (K.ofNat 27)), none, .mv (.t (K.ofNat 0))⟩, ⟨(some (K.ofNat 28)), none, .mv (.t (K.ofNat 7))⟩, ⟨(some (K.ofNat 29)), none, .call (.c (.fn (K.ofNat 48) [])) [(.t (K.ofNat 27)), (.t (K.ofNat 28))]⟩, ⟨(some (K.ofNat 26)), none, .mv (.t (K.ofNat 29))⟩, ⟨(some (K.ofNat 30)), none, .ext (.t (K.ofNat 26)) 0⟩, ⟨(some (K.ofNat 31)), none, .ext (.t (K.ofNat 26)) 1⟩, ⟨(some (K.ofNat 9)), none, .as (.t (K.ofNat 30))⟩, ⟨(some (K.ofNat 10)), none, .as (.t (K.ofNat 31))⟩]
noncomputable def f9_r5 : List EOper := [⟨(some (K.ofNat 32)), none, .mv (.t (K.ofNat 0))⟩, ⟨(some (K.ofNat 33)), none, .bin .lss (.t (K.ofNat 32)) (.c (.i .i64 (.ofNat 1)))⟩, ⟨(some (K.ofNat 34)), none, .mv (.t (K.ofNat 33))⟩, ⟨(some (K.ofNat 35)), (some ((K.ofNat 34), false)), .mv (.t (K.ofNat 0))⟩, ⟨(some (K.ofNat 36)), (some ((K.ofNat 34), false)), .bin .gtr (.t (K.ofNat 35)) (.c (.i .i64 (.ofNat 6)))⟩, ⟨(some (K.ofNat 37)), none, .pick (.t (K.ofNat 34)) (.c (.b true)) (.t (K.ofNat 36))⟩, ⟨(some (K.ofNat 38)), none, .mv (.t (K.ofNat 37))⟩, ⟨(some (K.ofNat 39)), (some ((K.ofNat 38), false)), .mv (.t (K.ofNat 7))⟩, ⟨(some (K.ofNat 40)), (some ((K.ofNat 38), false)), .len (.t (K.ofNat 39))⟩, ⟨(some (K.ofNat 41)), (some ((K.ofNat 38), false)), .bin .gtr (.t (K.ofNat 40)) (.c (.i .i64 (.ofNat 64)))⟩, ⟨(some (K.ofNat 42)), none, .pick (.t (K.ofNat 38)) (.c (.b true)) (.t (K.ofNat 41))⟩, ⟨(some (K.ofNat 11)), none, .as (.t (K.ofNat 42))⟩]
noncomputable def f9_r6 : List EOper := [⟨(some (K.ofNat 12)), none, .as (.c (.b false))⟩]
noncomputable def f9_r7 : List EOper := [⟨(some (K.ofNat 13)), none, .as (.c (.i .i64 (.ofNat 0)))⟩]
noncomputable def f9_r8 : List EOper := [⟨(some (K.ofNat 43)), none, .mv (.t (K.ofNat 13))⟩, ⟨(some (K.ofNat 44)), none, .mv (.t (K.ofNat 7))⟩, ⟨(some (K.ofNat 45)), none, .len (.t (K.ofNat 44))⟩, ⟨(some (K.ofNat 46)), none, .bin .lss (.t (K.ofNat 43)) (.t (K.ofNat 45))⟩, ⟨(some (K.ofNat 47)), none, .mv (.t (K.ofNat 46))⟩, ⟨(some (K.ofNat 48)), (some ((K.ofNat 47), true)), .mv (.t (K.ofNat 11))⟩, ⟨(some (K.ofNat 49)), (some ((K.ofNat 47), true)), .not (.t (K.ofNat 48))⟩, ⟨(some (K.ofNat 50)), none, .pick (.t (K.ofNat 47)) (.t (K.ofNat 49)) (.c (.b false))⟩]
noncomputable def f9_r9 : List Stage := [⟨[⟨(some (K.ofNat 53)), none, .mv (.t (K.ofNat 7))⟩, ⟨(some (K.ofNat 54)), none, .mv (.t (K.ofNat 13))⟩, ⟨(some (K.ofNat 55)), none, .iads 1 (.t (K.ofNat 53)) (.t (K.ofNat 54))⟩, ⟨(some (K.ofNat 56)), none, .ld (.t (K.ofNat 55))⟩, ⟨(some (K.ofNat 57)), none, .bin .lss (.t (K.ofNat 56)) (.c (.i .i64 (.ofNat 0)))⟩, ⟨(some (K.ofNat 58)), none, .mv (.t (K.ofNat 57))⟩, ⟨(some (K.ofNat 59)), (some ((K.ofNat 58), false)), .mv (.t (K.ofNat 7))⟩, ⟨(some (K.ofNat 60)), (some ((K.ofNat 58), false)), .mv (.t (K.ofNat 13))⟩, ⟨(some (K.ofNat 61)), (some ((K.ofNat 58), false)), .iads 1 (.t (K.ofNat 59)) (.t (K.ofNat 60))⟩, ⟨(some (K.ofNat 62)), (some ((K.ofNat 58), false)), .ld (.t (K.ofNat 61))⟩, ⟨(some (K.ofNat 63)), (some ((K.ofNat 58), false)), .mv (.t (K.ofNat 0))⟩, ⟨(some (K.ofNat 64)), (some ((K.ofNat 58), false)), .bin .shl (.c (.i .i64 (.ofNat 1))) (.t (K.ofNat 63))⟩, ⟨(some (K.ofNat 65)), (some ((K.ofNat 58), false)), .bin .geq (.t (K.ofNat 62)) (.t (K.ofNat 64))⟩, ⟨(some (K.ofNat 66)), none, .pick (.t (K.ofNat 58)) (.c (.b true)) (.t (K.ofNat 65))⟩], [], (some ⟨(some (K.ofNat 11)), none, .as (.t (K.ofNat 66))⟩), []⟩, ⟨[], [], none, []⟩]
noncomputable def f9_r10 : List EOper := [⟨(some (K.ofNat 67)), none, .mv (.t (K.ofNat 12))⟩, ⟨(some (K.ofNat 68)), none, .mv (.t (K.ofNat 67))⟩, ⟨(some (K.ofNat 69)), (some ((K.ofNat 68), false)), .mv (.t (K.ofNat 7))⟩, ⟨(some (K.ofNat 70)), (some ((K.ofNat 68), false)), .mv (.t (K.ofNat 13))⟩, ⟨(some (K.ofNat 71)), (some ((K.ofNat 68), false)), .iads 1 (.t (K.ofNat 69)) (.t (K.ofNat 70))⟩, ⟨(some (K.ofNat 72)), (some ((K.ofNat 68), false)), .ld (.t (K.ofNat 71))⟩, ⟨(some (K.ofNat 73)), (some ((K.ofNat 68), false)), .bin .gtr (.t (K.ofNat 72)) (.c (.i .i64 (.ofNat 0)))⟩, ⟨(some (K.ofNat 74)), none, .pick (.t (K.ofNat 68)) (.c (.b true)) (.t (K.ofNat 73))⟩, ⟨(some (K.ofNat 12)), none, .as (.t (K.ofNat 74))⟩]
noncomputable def f9_r11 : List EOper := [⟨(some (K.ofNat 51)), none, .mv (.t (K.ofNat 13))⟩, ⟨(some (K.ofNat 52)), none, .bin .add (.t (K.ofNat 51)) (.c (.i .i64 (.ofNat 1)))⟩, ⟨(some (K.ofNat 13)), none, .as (.t (K.ofNat 52))⟩]
noncomputable def f9_l0 : EC := (.seq (.seq (.reg f9_r8) (.cond (.t (K.ofNat 50)) .skip (.exit 2))) (.seq (.block 3 (.seq (.draw f9_r9) (.reg f9_r10))) (.reg f9_r11)))
noncomputable def f9_r12 : List EOper := [⟨(some (K.ofNat 14)), none, .as (.c (.i .i64 (.ofNat 0)))⟩]
noncomputable def f9_r13 : List EOper := [⟨(some (K.ofNat 15)), none, .as (.c .sn)⟩]
noncomputable def f9_r14 : List EOper := [⟨(some (K.ofNat 81)), none, .mv (.t (K.ofNat 11))⟩, ⟨(some (K.ofNat 80)), none, .as (.t (K.ofNat 81))⟩]
noncomputable def f9_r15 : List EOper := [⟨(some (K.ofNat 14)), none, .as (.c (.i .i64 (.ofNat 1)))⟩]
noncomputable def f9_r16 : List EOper := [⟨(some (K.ofNat 83)), none, .mv (.t (K.ofNat 12))⟩, ⟨(some (K.ofNat 84)), none, .not (.t (K.ofNat 83))⟩, ⟨(some (K.ofNat 82)), none, .as (.t (K.ofNat 84))⟩]
noncomputable def f9_r17 : List EOper := [⟨(some (K.ofNat 14)), none, .as (.c (.i .i64 (.ofNat 4)))⟩]
noncomputable def f9_r18 : List EOper := [⟨(some (K.ofNat 75)), none, .mv (.t (K.ofNat 7))⟩, ⟨(some (K.ofNat 76)), none, .call (.c (.fn (K.ofNat 49) [])) [(.t (K.ofNat 75))]⟩, ⟨(some (K.ofNat 15)), none, .as (.t (K.ofNat 76))⟩]
noncomputable def f9_r19 : List EOper := [⟨(some (K.ofNat 77)), none, .mv (.t (K.ofNat 15))⟩, ⟨(some (K.ofNat 78)), none, .len (.t (K.ofNat 77))⟩, ⟨(some (K.ofNat 79)), none, .bin .gtr (.t (K.ofNat 78)) (.c (.i .i64 (.ofNat 10)))⟩]
noncomputable def f9_r20 : List EOper := [⟨(some (K.ofNat 14)), none, .as (.c (.i .i64 (.ofNat 8)))⟩]
noncomputable def f9_r21 : List EOper := [⟨(some (K.ofNat 85)), none, .mv (.t (K.ofNat 10))⟩, ⟨(some (K.ofNat 86)), none, .mv (.t (K.ofNat 14))⟩, ⟨(some (K.ofNat 87)), none, .bin .neq (.t (K.ofNat 85)) (.t (K.ofNat 86))⟩, ⟨(some (K.ofNat 88)), none, .mv (.t (K.ofNat 87))⟩, ⟨(some (K.ofNat 89)), (some ((K.ofNat 88), false)), .mv (.t (K.ofNat 14))⟩, ⟨(some (K.ofNat 90)), (some ((K.ofNat 88), false)), .bin .neq (.t (K.ofNat 89)) (.c (.i .i64 (.ofNat 0)))⟩, ⟨(some (K.ofNat 91)), (some ((K.ofNat 88), false)), .mv (.t (K.ofNat 90))⟩, ⟨(some (K.ofNat 92)), (some ((K.ofNat 91), true)), .mv (.t (K.ofNat 9))⟩, ⟨(some (K.ofNat 93)), (some ((K.ofNat 91), true)), .len (.t (K.ofNat 92))⟩, ⟨(some (K.ofNat 94)), (some ((K.ofNat 91), true)), .bin .neq (.t (K.ofNat 93)) (.c (.i .i64 (.ofNat 0)))⟩, ⟨(some (K.ofNat 95)), (some ((K.ofNat 88), false)), .pick (.t (K.ofNat 91)) (.t (K.ofNat 94)) (.c (.b false))⟩, ⟨(some (K.ofNat 96)), none, .pick (.t (K.ofNat 88)) (.c (.b true)) (.t (K.ofNat 95))⟩, ⟨(some (K.ofNat 97)), none, .mv (.t (K.ofNat 96))⟩, ⟨(some (K.ofNat 98)), (some ((K.ofNat 97), false)), .mv (.t (K.ofNat 14))⟩, ⟨(some (K.ofNat 99)), (some ((K.ofNat 97), false)), .bin .eql (.t (K.ofNat 98)) (.c (.i .i64 (.ofNat 0)))⟩, ⟨(some (K.ofNat 100)), (some ((K.ofNat 97), false)), .mv (.t (K.ofNat 99))⟩, ⟨(some (K.ofNat 101)), (some ((K.ofNat 100), true)), .mv (.t (K.ofNat 9))⟩, ⟨(some (K.ofNat 102)), (some ((K.ofNat 100), true)), .mv (.t (K.ofNat 15))⟩, ⟨(some (K.ofNat 103)), (some ((K.ofNat 100), true)), .call (.c (.fn (K.ofNat 32) [])) [(.t (K.ofNat 101)), (.t (K.ofNat 102))]⟩, ⟨(some (K.ofNat 104)), (some ((K.ofNat 100), true)), .not (.t (K.ofNat 103))⟩, ⟨(some (K.ofNat 105)), (some ((K.ofNat 97), false)), .pick (.t (K.ofNat 100)) (.t (K.ofNat 104)) (.c (.b false))⟩, ⟨(some (K.ofNat 106)), none, .pick (.t (K.ofNat 97)) (.c (.b true)) (.t (K.ofNat 105))⟩]
noncomputable def f9_r22 : List EOper := [⟨(some (K.ofNat 6)), none, .as (.c (.b false))⟩]
noncomputable def f9_r23 : List EOper := [⟨(some (K.ofNat 108)), none, .mv (.t (K.ofNat 0))⟩, ⟨(some (K.ofNat 109)), none, .mv (.t (K.ofNat 2))⟩, ⟨(some (K.ofNat 110)), none, .call (.c (.fn (K.ofNat 50) [])) [(.t (K.ofNat 108)), (.t (K.ofNat 109))]⟩, ⟨(some (K.ofNat 107)), none, .mv (.t (K.ofNat 110))⟩, ⟨(some (K.ofNat 111)), none, .ext (.t (K.ofNat 107)) 0⟩, ⟨(some (K.ofNat 112)), none, .ext (.t (K.ofNat 107)) 1⟩, ⟨(some (K.ofNat 16)), none, .as (.t (K.ofNat 111))⟩, ⟨(some (K.ofNat 17)), none, .as (.t (K.ofNat 112))⟩]
noncomputable def f9_r24 : List EOper := [⟨(some (K.ofNat 113)), none, .mv (.t (K.ofNat 2))⟩, ⟨(some (K.ofNat 114)), none, .bin .lss (.t (K.ofNat 113)) (.c (.i .i64 (.ofNat 2)))⟩, ⟨(some (K.ofNat 115)), none, .mv (.t (K.ofNat 114))⟩, ⟨(some (K.ofNat 116)), (some ((K.ofNat 115), false)), .mv (.t (K.ofNat 2))⟩, ⟨(some (K.ofNat 117)), (some ((K.ofNat 115), false)), .mv (.t (K.ofNat 0))⟩, ⟨(some (K.ofNat 118)), (some ((K.ofNat 115), false)), .bin .geq (.t (K.ofNat 116)) (.t (K.ofNat 117))⟩, ⟨(some (K.ofNat 119)), none, .pick (.t (K.ofNat 115)) (.c (.b true)) (.t (K.ofNat 118))⟩, ⟨(some (K.ofNat 120)), none, .mv (.t (K.ofNat 119))⟩, ⟨(some (K.ofNat 121)), (some ((K.ofNat 120), false)), .mv (.t (K.ofNat 0))⟩, ⟨(some (K.ofNat 122)), (some ((K.ofNat 120), false)), .bin .gtr (.t (K.ofNat 121)) (.c (.i .i64 (.ofNat 6)))⟩, ⟨(some (K.ofNat 123)), none, .pick (.t (K.ofNat 120)) (.c (.b true)) (.t (K.ofNat 122))⟩]
noncomputable def f9_r25 : List EOper := [⟨(some (K.ofNat 124)), none, .mv (.t (K.ofNat 17))⟩, ⟨(some (K.ofNat 125)), none, .bin .neq (.t (K.ofNat 124)) (.c (.i .i64 (.ofNat 1)))⟩, ⟨(some (K.ofNat 126)), none, .mv (.t (K.ofNat 125))⟩, ⟨(some (K.ofNat 127)), (some ((K.ofNat 126), false)), .mv (.t (K.ofNat 16))⟩, ⟨(some (K.ofNat 128)), (some ((K.ofNat 126), false)), .len (.t (K.ofNat 127))⟩, ⟨(some (K.ofNat 129)), (some ((K.ofNat 126), false)), .bin .neq (.t (K.ofNat 128)) (.c (.i .i64 (.ofNat 0)))⟩, ⟨(some (K.ofNat 130)), none, .pick (.t (K.ofNat 126)) (.c (.b true)) (.t (K.ofNat 129))⟩]
noncomputable def f9_r26 : List EOper := [⟨(some (K.ofNat 6)), none, .as (.c (.b false))⟩]
noncomputable def f9_r27 : List EOper := [⟨(some (K.ofNat 131)), none, .mv (.t (K.ofNat 17))⟩, ⟨(some (K.ofNat 132)), none, .bin .neq (.t (K.ofNat 131)) (.c (.i .i64 (.ofNat 0)))⟩, ⟨(some (K.ofNat 133)), none, .mv (.t (K.ofNat 132))⟩, ⟨(some (K.ofNat 134)), (some ((K.ofNat 133), false)), .mv (.t (K.ofNat 16))⟩, ⟨(some (K.ofNat 135)), (some ((K.ofNat 133), false)), .mv (.t (K.ofNat 0))⟩, ⟨(some (K.ofNat 136)), (some ((K.ofNat 133), false)), .mv (.t (K.ofNat 2))⟩, ⟨(some (K.ofNat 137)), (some ((K.ofNat 133), false)), .call (.c (.fn (K.ofNat 51) [])) [(.t (K.ofNat 135)), (.t (K.ofNat 136))]⟩, ⟨(some (K.ofNat 138)), (some ((K.ofNat 133), false)), .call (.c (.fn (K.ofNat 32) [])) [(.t (K.ofNat 134)), (.t (K.ofNat 137))]⟩, ⟨(some (K.ofNat 139)), (some ((K.ofNat 133), false)), .not (.t (K.ofNat 138))⟩, ⟨(some (K.ofNat 140)), none, .pick (.t (K.ofNat 133)) (.c (.b true)) (.t (K.ofNat 139))⟩]
noncomputable def f9_r28 : List EOper := [⟨(some (K.ofNat 6)), none, .as (.c (.b false))⟩]
noncomputable def f9_r29 : List EOper := [⟨(some (K.ofNat 141)), none, .mv (.t (K.ofNat 0))⟩, ⟨(some (K.ofNat 142)), none, .conv .u64 (.t (K.ofNat 141))⟩, ⟨(some (K.ofNat 143)), none, .bin .rem (.t (K.ofNat 142)) (.c (.i .u64 (.ofNat 4)))⟩, ⟨(some (K.ofNat 144)), none, .conv .i64 (.t (K.ofNat 143))⟩, ⟨(some (K.ofNat 145)), none, .bin .add (.c (.i .i64 (.ofNat 3))) (.t (K.ofNat 144))⟩, ⟨(some (K.ofNat 0)), none, .as (.t (K.ofNat 145))⟩]
noncomputable def f9_r30 : List EOper := [⟨(some (K.ofNat 146)), none, .mv (.t (K.ofNat 2))⟩, ⟨(some (K.ofNat 147)), none, .conv .u64 (.t (K.ofNat 146))⟩, ⟨(some (K.ofNat 148)), none, .mv (.t (K.ofNat 0))⟩, ⟨(some (K.ofNat 149)), none, .bin .sub (.t (K.ofNat 148)) (.c (.i .i64 (.ofNat 2)))⟩, ⟨(some (K.ofNat 150)), none, .conv .u64 (.t (K.ofNat 149))⟩, ⟨(some (K.ofNat 151)), none, .bin .rem (.t (K.ofNat 147)) (.t (K.ofNat 150))⟩, ⟨(some (K.ofNat 152)), none, .conv .i64 (.t (K.ofNat 151))⟩, ⟨(some (K.ofNat 153)), none, .bin .add (.c (.i .i64 (.ofNat 2))) (.t (K.ofNat 152))⟩, ⟨(some (K.ofNat 2)), none, .as (.t (K.ofNat 153))⟩]
noncomputable def f9_r31 : List EOper := [⟨(some (K.ofNat 18)), none, .as (.c .sn)⟩]
noncomputable def f9_r32 : List EOper := [⟨(some (K.ofNat 19)), none, .as (.c (.i .i64 (.ofNat 0)))⟩]
noncomputable def f9_r33 : List EOper := [⟨(some (K.ofNat 154)), none, .mv (.t (K.ofNat 19))⟩, ⟨(some (K.ofNat 155)), none, .mv (.t (K.ofNat 7))⟩, ⟨(some (K.ofNat 156)), none, .len (.t (K.ofNat 155))⟩, ⟨(some (K.ofNat 157)), none, .bin .lss (.t (K.ofNat 154)) (.t (K.ofNat 156))⟩, ⟨(some (K.ofNat 158)), none, .mv (.t (K.ofNat 157))⟩, ⟨(some (K.ofNat 159)), (some ((K.ofNat 158), true)), .mv (.t (K.ofNat 19))⟩, ⟨(some (K.ofNat 160)), (some ((K.ofNat 158), true)), .bin .lss (.t (K.ofNat 159)) (.c (.i .i64 (.ofNat 12)))⟩, ⟨(some (K.ofNat 161)), none, .pick (.t (K.ofNat 158)) (.t (K.ofNat 160)) (.c (.b false))⟩]
noncomputable def f9_r34 : List Stage := [⟨[⟨(some (K.ofNat 164)), none, .mv (.t (K.ofNat 18))⟩, ⟨(some (K.ofNat 165)), none, .mv (.t (K.ofNat 7))⟩, ⟨(some (K.ofNat 166)), none, .mv (.t (K.ofNat 19))⟩, ⟨(some (K.ofNat 167)), none, .iads 1 (.t (K.ofNat 165)) (.t (K.ofNat 166))⟩, ⟨(some (K.ofNat 168)), none, .ld (.t (K.ofNat 167))⟩, ⟨(some (K.ofNat 169)), none, .conv .u64 (.t (K.ofNat 168))⟩, ⟨(some (K.ofNat 170)), none, .mv (.t (K.ofNat 0))⟩, ⟨(some (K.ofNat 171)), none, .bin .shl (.c (.i .u64 (.ofNat 1))) (.t (K.ofNat 170))⟩, ⟨(some (K.ofNat 172)), none, .bin .rem (.t (K.ofNat 169)) (.t (K.ofNat 171))⟩, ⟨(some (K.ofNat 173)), none, .conv .i64 (.t (K.ofNat 172))⟩, ⟨(some (K.ofNat 174)), none, .bslice 1 1 [(.i .i64 (.ofNat 0))] [(0, 1, (.t (K.ofNat 173)))]⟩], [], (some ⟨(some (K.ofNat 175)), none, .app 1 (.t (K.ofNat 164)) (.t (K.ofNat 174))⟩), [(K.ofNat 174)]⟩, ⟨[], [], (some ⟨(some (K.ofNat 18)), none, .as (.t (K.ofNat 175))⟩), []⟩, ⟨[], [], none, []⟩]
noncomputable def f9_r35 : List EOper := [⟨(some (K.ofNat 162)), none, .mv (.t (K.ofNat 19))⟩, ⟨(some (K.ofNat 163)), none, .bin .add (.t (K.ofNat 162)) (.c (.i .i64 (.ofNat 1)))⟩, ⟨(some (K.ofNat 19)), none, .as (.t (K.ofNat 163))⟩]
noncomputable def f9_l1 : EC := (.seq (.seq (.reg f9_r33) (.cond (.t (K.ofNat 161)) .skip (.exit 5))) (.seq (.block 6 (.draw f9_r34)) (.reg f9_r35)))
noncomputable def f9_r36 : List EOper := [⟨(some (K.ofNat 176)), none, .mv (.t (K.ofNat 18))⟩, ⟨(some (K.ofNat 7)), none, .as (.t (K.ofNat 176))⟩]
noncomputable def f9_r37 : List EOper := [⟨(some (K.ofNat 24)), none, .mv (.t (K.ofNat 8))⟩, ⟨(some (K.ofNat 25)), none, .bin .add (.t (K.ofNat 24)) (.c (.i .i64 (.ofNat 1)))⟩, ⟨(some (K.ofNat 8)), none, .as (.t (K.ofNat 25))⟩]
noncomputable def f9_l2 : EC := (.seq (.seq (.reg f9_r3) (.cond (.t (K.ofNat 23)) .skip (.exit 0))) (.seq (.block 1 (.seq (.reg f9_r4) (.seq (.reg f9_r5) (.seq (.reg f9_r6) (.seq (.seq (.reg f9_r7) (.block 2 (.loop f9_l0))) (.seq (.reg f9_r12) (.seq (.reg f9_r13) (.seq (.block 4 (.seq (.reg f9_r14) (.cond (.t (K.ofNat 80)) (.reg f9_r15) (.seq (.reg f9_r16) (.cond (.t (K.ofNat 82)) (.reg f9_r17) (.seq (.reg f9_r18) (.seq (.reg f9_r19) (.cond (.t (K.ofNat 79)) (.reg f9_r20) .skip)))))))) (.seq (.seq (.reg f9_r21) (.cond (.t (K.ofNat 106)) (.seq (.reg f9_r22) .ret) .skip)) (.seq (.reg f9_r23) (.seq (.seq (.reg f9_r24) (.cond (.t (K.ofNat 123)) (.seq (.reg f9_r25) (.cond (.t (K.ofNat 130)) (.seq (.reg f9_r26) .ret) .skip)) (.seq (.reg f9_r27) (.cond (.t (K.ofNat 140)) (.seq (.reg f9_r28) .ret) .skip)))) (.seq (.reg f9_r29) (.seq (.reg f9_r30) (.seq (.reg f9_r31) (.seq (.seq (.reg f9_r32) (.block 5 (.loop f9_l1))) (.reg f9_r36)))))))))))))))) (.reg f9_r37)))
noncomputable def f9_r38 : List EOper := [⟨(some (K.ofNat 177)), none, .call (.c (.fn (K.ofNat 29) [])) []⟩, ⟨(some (K.ofNat 6)), none, .as (.t (K.ofNat 177))⟩]
noncomputable def f9_c : EC := (.seq (.reg f9_r0) (.seq (.reg f9_r1) (.seq (.seq (.reg f9_r2) (.block 0 (.loop f9_l2))) (.seq (.reg f9_r38) .ret))))
noncomputable def f9 : EF := ⟨178, [.tmp (K.ofNat 6)], f9_c, none⟩
theorem f9_rs : f9.rs = [.tmp (K.ofNat 6)] := of_eq_true (eq_self _)
section
variable {fs : T EF} {ro : Option K}
noncomputable def anyPos (S : List Int) : Bool := S.any fun s => decide (0 < s)
theorem shlu_n {n : Int} (h1 : 1 ≤ n) (h6 : n ≤ 6) : fw .u64 (1 * 2 ^ (min n.toNat IntKind.u64.bits)) = 2 ^ n.toNat := by
  have : n = 1 ∨ n = 2 ∨ n = 3 ∨ n = 4 ∨ n = 5 ∨ n = 6 := by omega
  rcases this with rfl | rfl | rfl | rfl | rfl | rfl <;> rfl
def f9_I0 (h : H) (v : V) (S : List Int) (n : Int) (gs : Fr → Prop) (i : Nat) (fr : Fr) (h1 : H) : Prop := i ≤ S.length ∧ h1 = h ∧ gs fr ∧ ∃ bd so, (bd = false → (S.take i).all (inSet n) = true ∧ 1 ≤ n ∧ n ≤ 6 ∧ S.length ≤ 64 ∧ so = anyPos (S.take i)) ∧ (bd = true → badMade n S = true) ∧ fr.get (K.ofNat 0) = some (.i .i64 n) ∧ fr.get (K.ofNat 7) = some (v) ∧ fr.get (K.ofNat 11) = some (.b bd) ∧ fr.get (K.ofNat 12) = some (.b so) ∧ fr.get (K.ofNat 13) = some (.i .i64 (i : Int))
/-- Slots that a loop leaves. -/
def keeps (l : List (Nat × V)) (fr : Fr) : Prop := ∀ p ∈ l, fr.get (K.ofNat p.1) = some p.2
theorem f9_inner {Q : Ex → Fr → H → Prop} {h : H} {v v2 v8 v9 v10 : V} {S : List Int} {n : Int} {bd : Bool} {fr : Fr}
    (hv : Sl iE h v S) (hS : S.length ≤ 1000000) (hb0 : bd = false → 1 ≤ n ∧ n ≤ 6 ∧ S.length ≤ 64) (hb1 : bd = true → badMade n S = true)
    (hg : fr.get (K.ofNat 0) = some (.i .i64 n) ∧ fr.get (K.ofNat 2) = some (v2) ∧ fr.get (K.ofNat 7) = some (v) ∧ fr.get (K.ofNat 8) = some (v8) ∧ fr.get (K.ofNat 9) = some (v9) ∧ fr.get (K.ofNat 10) = some (v10) ∧ fr.get (K.ofNat 11) = some (.b bd) ∧ fr.get (K.ofNat 12) = some (.b false) ∧ fr.get (K.ofNat 13) = some (.i .i64 0))
    (hq : ∀ fr bd so, bd = badMade n S → (bd = false → so = anyPos S) → fr.get (K.ofNat 0) = some (.i .i64 n) ∧ fr.get (K.ofNat 2) = some (v2) ∧ fr.get (K.ofNat 7) = some (v) ∧ fr.get (K.ofNat 8) = some (v8) ∧ fr.get (K.ofNat 9) = some (v9) ∧ fr.get (K.ofNat 10) = some (v10) ∧ fr.get (K.ofNat 11) = some (.b bd) ∧ fr.get (K.ofNat 12) = some (.b so) → Q (.exit 2) fr h) :
    W fs ro (.loop f9_l0) Q fr h := by
  obtain ⟨g0, g2, g7, g8, g9, g10, g11, g12, g13⟩ := hg
  refine W_loop (f9_I0 h v S n (fun fr => fr.get (K.ofNat 2) = some (v2) ∧ fr.get (K.ofNat 8) = some (v8) ∧ fr.get (K.ofNat 9) = some (v9) ∧ fr.get (K.ofNat 10) = some (v10))) (fun i => S.length - i) ?_ 0 ⟨by omega, rfl, ⟨g2, g8, g9, g10⟩, bd, false, fun e => ⟨by simp, (hb0 e).1, (hb0 e).2.1, (hb0 e).2.2, by simp [anyPos]⟩, hb1, g0, g7, g11, g12, g13⟩
  clear g0 g2 g7 g8 g9 g10 g11 g12 g13 hb0 hb1 fr bd
  rintro i fr h1 ⟨hi, rfl, ⟨g2, g8, g9, g10⟩, bd, so, hbf, hbt, g0, g7, g11, g12, g13⟩
  unfold f9_l0
  by_cases hlt : i < S.length
  · have hlt' : (i : Int) < (S.length : Int) := by omega
    cases bd
    · obtain ⟨hal, hn1, hn6, hS64, hso⟩ := hbf rfl
      obtain ⟨p, hp1, hp2⟩ := hv.at i hlt
      have hs := all_snoc (p := inSet n) hlt
      rw [hal, Bool.true_and] at hs
      have hpos : anyPos (S.take (i + 1)) = (so || decide (0 < S[i])) := by
        rw [hso]; unfold anyPos; exact any_snoc hlt
      have bad : inSet n S[i] = false → badMade n S = true := fun hf => by
        unfold badMade
        have : S.all (inSet n) = false := by rw [List.all_eq_false]; exact ⟨S[i], List.getElem_mem _, by rw [hf]; simp⟩
        rw [this]; simp
      have fin : ∀ fr bd', bd' = !(inSet n S[i]) → fr.get (K.ofNat 0) = some (.i .i64 n) ∧ fr.get (K.ofNat 2) = some (v2) ∧ fr.get (K.ofNat 7) = some (v) ∧ fr.get (K.ofNat 8) = some (v8) ∧ fr.get (K.ofNat 9) = some (v9) ∧ fr.get (K.ofNat 10) = some (v10) ∧ fr.get (K.ofNat 11) = some (.b bd') ∧ fr.get (K.ofNat 12) = some (.b so) ∧ fr.get (K.ofNat 13) = some (.i .i64 (i : Int)) →
          X fs f9_r10 (atK 3 (seqK (W fs ro (EC.reg f9_r11)) (loopK (f9_I0 h1 v S n (fun fr => fr.get (K.ofNat 2) = some (v2) ∧ fr.get (K.ofNat 8) = some (v8) ∧ fr.get (K.ofNat 9) = some (v9) ∧ fr.get (K.ofNat 10) = some (v10))) (fun i => S.length - i) i Q)) Ex.normal) fr h1 := by
        clear g0 g2 g7 g8 g9 g10 g11 g12 g13 fr
        rintro fr bd' hbd ⟨g0, g2, g7, g8, g9, g10, g11, g12, g13⟩
        have fin2 : ∀ fr, fr.get (K.ofNat 0) = some (.i .i64 n) ∧ fr.get (K.ofNat 2) = some (v2) ∧ fr.get (K.ofNat 7) = some (v) ∧ fr.get (K.ofNat 8) = some (v8) ∧ fr.get (K.ofNat 9) = some (v9) ∧ fr.get (K.ofNat 10) = some (v10) ∧ fr.get (K.ofNat 11) = some (.b bd') ∧ fr.get (K.ofNat 12) = some (.b (anyPos (S.take (i + 1)))) ∧ fr.get (K.ofNat 13) = some (.i .i64 (i : Int)) →
          X fs f9_r11 (loopK (f9_I0 h1 v S n (fun fr => fr.get (K.ofNat 2) = some (v2) ∧ fr.get (K.ofNat 8) = some (v8) ∧ fr.get (K.ofNat 9) = some (v9) ∧ fr.get (K.ofNat 10) = some (v10))) (fun i => S.length - i) i Q Ex.normal) fr h1 := by
          clear g0 g2 g7 g8 g9 g10 g11 g12 g13 fr
          rintro fr ⟨g0, g2, g7, g8, g9, g10, g11, g12, g13⟩
          simp (disch := omega) only [f9_r11, loopK_n, x_nil, x_mv, x_as, x_bin, kx, rvP_ok, okv_some, ev_t, ev_c, getV_some, putD_some, bin_add, of1, getK_set, ↓reduceIte, g13, fw64]
          refine ⟨i + 1, by omega, hlt, rfl, by simp (disch := omega) only [getK_set, Nat.reduceEqDiff, ↓reduceIte, g2, g8, g9, g10, and_self], bd', anyPos (S.take (i + 1)), fun e => ?_, fun e => ?_, by simp (disch := omega) only [getK_set, Nat.reduceEqDiff, ↓reduceIte, g0, g7, g11, g12, and_self, Int.natCast_add, Int.natCast_one]⟩
          · rw [e] at hbd
            have hin : inSet n S[i] = true := by
              cases h : inSet n S[i]
              · rw [h] at hbd; cases hbd
              · rfl
            have hall : (S.take (i + 1)).all (inSet n) = true := by rw [hs, hin]
            exact ⟨hall, hn1, hn6, hS64, rfl⟩
          · rw [e] at hbd
            refine bad ?_
            cases h : inSet n S[i]
            · rfl
            · rw [h] at hbd; cases hbd
        cases so
        · rw [Bool.false_or] at hpos
          simp (disch := omega) only [f9_r10, w_reg, seqK_n, atK_n, okG_b, asG_f, true_and, x_nil, x_g, x_mv, x_as, x_pick, x_ld, x_bin, x_iads, kx, rvP_ok, okv_some, ev_t, ev_c, getV_some, putD_some, bin_gtr, pick_b, of0, getK_set, Nat.reduceEqDiff, ↓reduceIte, Bool.false_eq_true, Bool.not_false, g7, g12, g13, hp1, hp2, iE]
          exact fin2 _ (by simp (disch := omega) only [getK_set, Nat.reduceEqDiff, ↓reduceIte, g0, g2, g7, g8, g9, g10, g11, g13, hpos, and_self])
        · rw [Bool.true_or] at hpos
          simp (disch := omega) only [f9_r10, w_reg, seqK_n, atK_n, okG_b, asG_f, true_and, x_nil, x_g, x_mv, x_as, x_pick, kx, rvP_ok, ev_t, ev_c, getV_some, putD_some, pick_b, of0, getK_set, Nat.reduceEqDiff, ↓reduceIte, Bool.false_eq_true, Bool.not_true, g12]
          exact fin2 _ (by simp (disch := omega) only [getK_set, Nat.reduceEqDiff, ↓reduceIte, g0, g2, g7, g8, g9, g10, g11, g13, hpos, and_self])
      by_cases e1 : S[i] < 0
      · have hb : inSet n S[i] = false := by unfold inSet; rw [decide_eq_false (by omega)]; rfl
        simp (disch := omega) only [f9_r8, f9_r9, w_skip, w_reg, w_draw, w_seq, w_cond, w_block, seqK_n, ckB_b, cbB_b, okG_b, asG_t, asG_f, true_and, x_nil, x_g, x_mv, x_as, x_pick, x_bin, x_not, x_len, kx, kg, xg_nil, xg_g, xg_mv, xg_pick, xg_ld, xg_bin, xg_iads, xd_cons, fresh_nil, stK_n, stK_s, stay_nil, rvP_ok, okv_some, ev_t, ev_c, getV_some, putD_some, bin_lss, pick_b, onB_b, of0, of1, getK_set, Nat.reduceEqDiff, ↓reduceIte, Bool.false_eq_true, Bool.not_true, Bool.not_false, g7, g11, g13, hv.len, hlt', decide_true, hp1, hp2, iE, e1]
        exact fin _ true (by rw [hb]; rfl) (by simp (disch := omega) only [getK_set, Nat.reduceEqDiff, ↓reduceIte, g0, g2, g7, g8, g9, g10, g12, g13, and_self])
      · by_cases e2 : (2 : Int) ^ n.toNat ≤ S[i]
        · have hb : inSet n S[i] = false := by unfold inSet; rw [decide_eq_false (show ¬ S[i] < 2 ^ n.toNat by omega), Bool.and_false]
          simp (disch := omega) only [f9_r8, f9_r9, w_skip, w_reg, w_draw, w_seq, w_cond, w_block, seqK_n, ckB_b, cbB_b, okG_b, asG_t, asG_f, true_and, x_nil, x_g, x_mv, x_as, x_pick, x_bin, x_not, x_len, kx, kg, xg_nil, xg_g, xg_mv, xg_pick, xg_ld, xg_bin, xg_iads, xd_cons, fresh_nil, stK_n, stK_s, stay_nil, rvP_ok, okv_some, ev_t, ev_c, getV_some, putD_some, bin_lss, bin_geq, pick_b, onB_b, of0, of1, getK_set, Nat.reduceEqDiff, ↓reduceIte, Bool.false_eq_true, Bool.not_false, g0, g7, g11, g13, hv.len, hlt', decide_true, decide_false, hp1, hp2, iE, e1, e2, bin_shl, shl_n]
          exact fin _ true (by rw [hb]; rfl) (by simp (disch := omega) only [getK_set, Nat.reduceEqDiff, ↓reduceIte, g0, g2, g7, g8, g9, g10, g12, g13, and_self])
        · have hg : inSet n S[i] = true := by unfold inSet; rw [decide_eq_true (show S[i] < 2 ^ n.toNat by omega), decide_eq_true (show 0 ≤ S[i] by omega)]; rfl
          simp (disch := omega) only [f9_r8, f9_r9, w_skip, w_reg, w_draw, w_seq, w_cond, w_block, seqK_n, ckB_b, cbB_b, okG_b, asG_t, asG_f, true_and, x_nil, x_g, x_mv, x_as, x_pick, x_bin, x_not, x_len, kx, kg, xg_nil, xg_g, xg_mv, xg_pick, xg_ld, xg_bin, xg_iads, xd_cons, fresh_nil, stK_n, stK_s, stay_nil, rvP_ok, okv_some, ev_t, ev_c, getV_some, putD_some, bin_lss, bin_geq, pick_b, onB_b, of0, of1, getK_set, Nat.reduceEqDiff, ↓reduceIte, Bool.false_eq_true, Bool.not_false, g0, g7, g11, g13, hv.len, hlt', decide_true, decide_false, hp1, hp2, iE, e1, e2, bin_shl, shl_n]
          exact fin _ false (by rw [hg]; rfl) (by simp (disch := omega) only [getK_set, Nat.reduceEqDiff, ↓reduceIte, g0, g2, g7, g8, g9, g10, g12, g13, and_self])
    · simp (disch := omega) only [f9_r8, w_reg, w_seq, w_cond, w_exit, seqK_n, seqK_e, loopK_e, ckB_b, cbB_b, okG_b, asG_t, true_and, x_nil, x_g, x_mv, x_pick, x_bin, x_not, x_len, kx, rvP_ok, okv_some, ev_t, ev_c, getV_some, putD_some, bin_lss, pick_b, onB_b, getK_set, Nat.reduceEqDiff, ↓reduceIte, Bool.false_eq_true, Bool.not_true, g7, g11, g13, hv.len, hlt', decide_true]
      exact hq _ true so (hbt rfl).symm (fun e => by cases e) (by simp (disch := omega) only [getK_set, Nat.reduceEqDiff, ↓reduceIte, g0, g2, g7, g8, g9, g10, g11, g12, and_self])
  · obtain rfl : i = S.length := by omega
    have hlt' : ¬ (S.length : Int) < (S.length : Int) := by omega
    simp (disch := omega) only [f9_r8, w_reg, w_seq, w_cond, w_exit, seqK_n, seqK_e, loopK_e, ckB_b, cbB_b, okG_b, asG_t, true_and, x_nil, x_g, x_mv, x_pick, x_bin, x_len, kx, rvP_ok, okv_some, ev_t, ev_c, getV_some, putD_some, bin_lss, pick_b, getK_set, Nat.reduceEqDiff, ↓reduceIte, Bool.false_eq_true, g7, g13, hv.len, hlt', decide_false]
    refine hq _ bd so ?_ (fun e => ?_) (by simp (disch := omega) only [getK_set, Nat.reduceEqDiff, ↓reduceIte, g0, g2, g7, g8, g9, g10, g11, g12, and_self])
    · cases bd
      · obtain ⟨hal, hn1, hn6, hS64, hso⟩ := hbf rfl
        rw [List.take_length] at hal
        unfold badMade
        rw [hal, decide_eq_false (by omega), decide_eq_false (by omega), decide_eq_false (by omega)]; rfl
      · exact (hbt rfl).symm
    · obtain ⟨hal, hn1, hn6, hS64, hso⟩ := hbf e
      rw [List.take_length] at hso; exact hso

/-- What the law's own numbers become. -/
noncomputable def nextN (n : Int) : Int := fw .i64 (3 + fw .i64 ((fw .u64 n).tmod 4))
theorem nextN_in (n : Int) : 3 ≤ nextN n ∧ nextN n ≤ 6 := by
  have h0 : 0 ≤ fw .u64 n := by rw [fw_eq]; exact Int.emod_nonneg _ (by decide)
  obtain ⟨m, hm⟩ := Int.eq_ofNat_of_zero_le h0
  have h1 : (fw .u64 n).tmod 4 = ((m % 4 : Nat) : Int) := by rw [hm]; rfl
  unfold nextN
  have e1 : fw .i64 ((m % 4 : Nat) : Int) = ((m % 4 : Nat) : Int) := fw64 (by omega) (by omega)
  rw [h1, e1, fw64 (by omega) (by omega)]
  omega
def f9_I1 (h : H) (v v2 v8 : V) (S : List Int) (n : Int) (i : Nat) (fr : Fr) (h1 : H) : Prop := ∃ o M, i ≤ S.length ∧ i ≤ 12 ∧ M.length = i ∧ Sl iE h1 o M ∧ Own h.nx.nat o ∧ Grow h.nx.nat h h1 ∧ fr.get (K.ofNat 0) = some (.i .i64 n) ∧ fr.get (K.ofNat 2) = some (v2) ∧ fr.get (K.ofNat 7) = some (v) ∧ fr.get (K.ofNat 8) = some (v8) ∧ fr.get (K.ofNat 18) = some (o) ∧ fr.get (K.ofNat 19) = some (.i .i64 (i : Int))
theorem f9_next {Q : Ex → Fr → H → Prop} {h : H} {v v2 v8 : V} {S : List Int} {n : Int} {fr : Fr} (hv : Sl iE h v S) (hc : HC h) (hS : S.length ≤ 66) (hn1 : 3 ≤ n) (hn6 : n ≤ 6)
    (hg : fr.get (K.ofNat 0) = some (.i .i64 n) ∧ fr.get (K.ofNat 2) = some (v2) ∧ fr.get (K.ofNat 7) = some (v) ∧ fr.get (K.ofNat 8) = some (v8) ∧ fr.get (K.ofNat 18) = some (.sn) ∧ fr.get (K.ofNat 19) = some (.i .i64 0))
    (hq : ∀ fr h1 o M, Sl iE h1 o M → M.length ≤ 12 → Grow h.nx.nat h h1 → fr.get (K.ofNat 0) = some (.i .i64 n) ∧ fr.get (K.ofNat 2) = some (v2) ∧ fr.get (K.ofNat 8) = some (v8) ∧ fr.get (K.ofNat 18) = some (o) → Q (.exit 5) fr h1) :
    W fs ro (.loop f9_l1) Q fr h := by
  refine W_loop (f9_I1 h v v2 v8 S n) (fun i => S.length - i) ?_ 0 ⟨.sn, [], by omega, by omega, rfl, Sl.nil, Own.sn, Grow.refl _ _, hg⟩
  clear hg fr
  rintro i fr h1 ⟨o, M, hi, hi2, hM, hso, hoo, hgr, g0, g2, g7, g8, g18, g19⟩
  have hv1 := hv.grow hc hgr
  have hc1 := hgr.hc hc
  unfold f9_l1
  by_cases hlt : i < S.length
  · have hlt' : (i : Int) < (S.length : Int) := by omega
    by_cases h12 : i < 12
    · have h12' : (i : Int) < 12 := by omega
      obtain ⟨p, hp1, hp2⟩ := hv1.at i hlt
      have hpw : (2 : Int) ^ n.toNat ≠ 0 := by
        have : n = 3 ∨ n = 4 ∨ n = 5 ∨ n = 6 := by omega
        rcases this with rfl | rfl | rfl | rfl <;> decide
      have hrem : ∀ a, binV .rem (.i .u64 a) (.i .u64 (2 ^ n.toNat)) = some (.i .u64 (a.tmod (2 ^ n.toNat))) := fun a => bin_rem hpw
      obtain ⟨v', h', q1, q2, q3, q4, q5⟩ := Sl.push (e := iE) (L := M) (x := fw .i64 ((fw .u64 S[i]).tmod (2 ^ n.toNat))) (c := .i .i64 (fw .i64 ((fw .u64 S[i]).tmod (2 ^ n.toNat)))) rfl hso hoo hgr.nx hc1 (by omega)
      simp (disch := omega) only [f9_r33, f9_r34, w_skip, w_reg, w_draw, w_seq, w_cond, w_block, seqK_n, atK_n, ckB_b, cbB_b, okG_b, asG_t, true_and, x_nil, x_g, x_mv, x_as, x_pick, x_bin, x_len, x_app, kx, kg, xg_nil, xg_mv, xg_ld, xg_bin, xg_conv, xg_iads, xg_bslice, xd_cons, fresh_nil, stK_n, stK_s, stay_nil, rvP_ok, okv_some, ev_t, ev_c, getV_some, putD_some, bin_lss, pick_b, onI_i, oGet_s, cells1_i, fill_1, set_1, of0, of1, of12, Option.some.injEq, exists_eq_left', getK_set, Nat.reduceEqDiff, ↓reduceIte, g0, g7, g18, g19, hv1.len, hlt', h12', decide_true, hp1, hp2, iE, bin_shl, shlu_n, hrem, hc1.dead, q1]
      refine ⟨fresh_one (n := 1) (sz := 1) (by simp (disch := omega) only [getK_set, ↓reduceIte]), ?_⟩
      simp (disch := omega) only [f9_r35, loopK_n, x_nil, x_mv, x_as, x_bin, kx, rvP_ok, okv_some, ev_t, ev_c, getV_some, putD_some, bin_add, of1, getK_set, Nat.reduceEqDiff, ↓reduceIte, g19, fw64]
      exact ⟨i + 1, by omega, v', _, hlt, h12, by rw [List.length_append, hM]; rfl, q2, q3, hgr.trans q4, by simp (disch := omega) only [getK_set, Nat.reduceEqDiff, ↓reduceIte, g0, g2, g7, g8, and_self, Int.natCast_add, Int.natCast_one]⟩
    · have h12' : ¬ (i : Int) < 12 := by omega
      simp (disch := omega) only [f9_r33, w_reg, w_seq, w_cond, w_exit, seqK_n, seqK_e, loopK_e, ckB_b, cbB_b, okG_b, asG_t, true_and, x_nil, x_g, x_mv, x_pick, x_bin, x_len, kx, rvP_ok, okv_some, ev_t, ev_c, getV_some, putD_some, bin_lss, pick_b, of12, getK_set, Nat.reduceEqDiff, ↓reduceIte, Bool.false_eq_true, g7, g19, hv1.len, hlt', h12', decide_true, decide_false]
      exact hq _ _ o M hso (by omega) hgr (by simp (disch := omega) only [getK_set, Nat.reduceEqDiff, ↓reduceIte, g0, g2, g8, g18, and_self])
  · have hlt' : ¬ (i : Int) < (S.length : Int) := by omega
    simp (disch := omega) only [f9_r33, w_reg, w_seq, w_cond, w_exit, seqK_n, seqK_e, loopK_e, ckB_b, cbB_b, okG_b, asG_t, true_and, x_nil, x_g, x_mv, x_pick, x_bin, x_len, kx, rvP_ok, okv_some, ev_t, ev_c, getV_some, putD_some, bin_lss, pick_b, of12, getK_set, Nat.reduceEqDiff, ↓reduceIte, Bool.false_eq_true, g7, g19, hv1.len, hlt', decide_false]
    exact hq _ _ o M hso (by omega) hgr (by simp (disch := omega) only [getK_set, Nat.reduceEqDiff, ↓reduceIte, g0, g2, g8, g18, and_self])
noncomputable def okM (n d : Int) : Bool := decide (2 ≤ d) && decide (d < n) && decide (n ≤ 6)
structure Calls9 (fs : T EF) (momL : Int → Int → List Int) : Prop where
  p53 : ∀ a b h P, CallP fs (.fn (K.ofNat 53) []) [.i .i64 a, .i .i64 b] h P = P (.b (ptI a b)) h
  p54 : ∀ a b h P, CallP fs (.fn (K.ofNat 54) []) [.i .i64 a, .i .i64 b] h P = P (.b (ptI a b)) h
  aw : ∀ h P, CallP fs (.fn (K.ofNat 29) []) [] h P = P (.b true) h
  c14 : fs.get (K.ofNat 14) = some f14
  c32 : ∀ h v u L M P, Sl iE h v L → Sl iE h u M → L.length ≤ 1000000 → P (.b (decide (L = M))) h → CallP fs (.fn (K.ofNat 32) []) [v, u] h P
  c48 : fs.get (K.ofNat 48) = some f48
  c49 : fs.get (K.ofNat 49) = some f49
  c55 : fs.get (K.ofNat 55) = some f55
  c66 : fs.get (K.ofNat 66) = some f66
  c67 : fs.get (K.ofNat 67) = some f67
  c78 : fs.get (K.ofNat 78) = some f78
  c91 : fs.get (K.ofNat 91) = some alF
  m0 : ∀ n d h P, okM n d = false → P (.tup [.sn, .i .i64 1]) h → CallP fs (.fn (K.ofNat 50) []) [.i .i64 n, .i .i64 d] h P
  m1 : ∀ n d h P, HC h → okM n d = true → (∀ u h', Sl iE h' u (momL n d) → Grow h.nx.nat h h' → P (.tup [u, .i .i64 0]) h') → CallP fs (.fn (K.ofNat 50) []) [.i .i64 n, .i .i64 d] h P
  r1 : ∀ n d h P, HC h → okM n d = true → (∀ u h', Sl iE h' u (momL n d) → Grow h.nx.nat h h' → P u h') → CallP fs (.fn (K.ofNat 51) []) [.i .i64 n, .i .i64 d] h P
  ml : ∀ n d, (momL n d).length ≤ 64
def f9_I2 (h : H) (i : Nat) (fr : Fr) (h1 : H) : Prop := ∃ n d v S, i ≤ 2 ∧ S.length ≤ 66 ∧ Sl iE h1 v S ∧ Grow h.nx.nat h h1 ∧ fr.get (K.ofNat 0) = some (.i .i64 n) ∧ fr.get (K.ofNat 2) = some (.i .i64 d) ∧ fr.get (K.ofNat 7) = some (v) ∧ fr.get (K.ofNat 8) = some (.i .i64 (i : Int))
end
end Go.Ev
namespace Go.Ev
open Go Go.RowKit
section
variable {fs : T EF} {ro : Option K} {momL : Int → Int → List Int}
structure Made9 : Prop where
  m4 : ∀ n S, badMade n S = false → anyPos S = false → madeS n S = ([], 4)
  m8 : ∀ n S, badMade n S = false → anyPos S = true → madeS n S = if 10 < (piecesTo S 64).length then ([], 8) else (piecesTo S 64, 0)
theorem f9_A {Q : Ex → Fr → H → Prop} {h : H} {v v2 v8 : V} {S : List Int} {n : Int} {fr : Fr} {c : EC} (k : Calls9 fs momL) (hv : Sl iE h v S) (hc : HC h) (hS : S.length ≤ 66) (hg : fr.get (K.ofNat 0) = some (.i .i64 n) ∧ fr.get (K.ofNat 2) = some (v2) ∧ fr.get (K.ofNat 7) = some (v) ∧ fr.get (K.ofNat 8) = some (v8))
    (hq : ∀ fr h1 p so, Grow h.nx.nat h h1 → Sl iE h1 p (madeS n S).1 → (badMade n S = false → so = anyPos S) → fr.get (K.ofNat 0) = some (.i .i64 n) ∧ fr.get (K.ofNat 2) = some (v2) ∧ fr.get (K.ofNat 7) = some (v) ∧ fr.get (K.ofNat 8) = some (v8) ∧ fr.get (K.ofNat 9) = some (p) ∧ fr.get (K.ofNat 10) = some (.i .i64 (madeS n S).2) ∧ fr.get (K.ofNat 11) = some (.b (badMade n S)) ∧ fr.get (K.ofNat 12) = some (.b so) → W fs ro c Q fr h1) :
    W fs ro (.seq (.reg f9_r4) (.seq (.reg f9_r5) (.seq (.reg f9_r6) (.seq (.seq (.reg f9_r7) (.block 2 (.loop f9_l0))) c)))) Q fr h := by
  obtain ⟨g0, g2, g7, g8⟩ := hg
  simp (disch := omega) only [f9_r4, w_reg, w_seq, x_mv, x_call, ev_t, ev_c, evs_nil, evs_cons, getV_some, putD_some, getK_set, Nat.reduceEqDiff, ↓reduceIte, g0, g7]
  refine (callP_0 (ef := f48) k.c48 rfl (f48_ret (n := n) k.p54 k.c55 k.c67 k.c66 k.c78 k.c91 hv hc)).mono ?_
  rintro r h1 ⟨p, rfl, hsp, gr⟩
  have hv1 := hv.grow hc gr
  -- whatever bad is at first
  have go : ∀ bd fr, (bd = false → 1 ≤ n ∧ n ≤ 6 ∧ S.length ≤ 64) → (bd = true → badMade n S = true) → fr.get (K.ofNat 0) = some (.i .i64 n) ∧ fr.get (K.ofNat 2) = some (v2) ∧ fr.get (K.ofNat 7) = some (v) ∧ fr.get (K.ofNat 8) = some (v8) ∧ fr.get (K.ofNat 9) = some (p) ∧ fr.get (K.ofNat 10) = some (.i .i64 (madeS n S).2) ∧ fr.get (K.ofNat 11) = some (.b bd) →
      W fs ro (.seq (.reg f9_r6) (.seq (.seq (.reg f9_r7) (.block 2 (.loop f9_l0))) c)) Q fr h1 := by
    clear g0 g2 g7 g8 fr
    rintro bd fr b0 b1 ⟨g0, g2, g7, g8, g9, g10, g11⟩
    simp (disch := omega) only [f9_r6, f9_r7, w_reg, w_seq, w_block, seqK_n, x_nil, x_as, ev_c, putD_some, of0]
    refine f9_inner (v2 := v2) (v8 := v8) (v9 := p) (v10 := .i .i64 (madeS n S).2) hv1 (by omega) b0 b1 (by simp (disch := omega) only [getK_set, Nat.reduceEqDiff, ↓reduceIte, g0, g2, g7, g8, g9, g10, g11, and_self]) ?_
    clear g0 g2 g7 g8 g9 g10 g11 fr
    rintro fr bd so rfl hso ⟨g0, g2, g7, g8, g9, g10, g11, g12⟩
    simp (disch := omega) only [seqK_n, atK_e, ↓reduceIte]
    exact hq _ _ p so gr hsp hso (by simp (disch := omega) only [g0, g2, g7, g8, g9, g10, g11, g12, and_self])
  by_cases h1 : n < 1
  · simp (disch := omega) only [f9_r5, w_reg, w_seq, seqK_n, okG_b, asG_f, true_and, x_nil, x_g, x_mv, x_as, x_pick, x_bin, x_ext, kx, rvP_ok, okv_some, ev_t, ev_c, getV_some, putD_some, bin_lss, pick_b, onTup_t, nth0, nth1, of1, of6, of64, getK_set, Nat.reduceEqDiff, ↓reduceIte, Bool.false_eq_true, Bool.not_true, g0, h1, decide_true]
    exact go true _ (fun e => by cases e) (fun _ => by unfold badMade; simp [h1]) (by simp (disch := omega) only [getK_set, Nat.reduceEqDiff, ↓reduceIte, g0, g2, g7, g8, and_self])
  · by_cases h2 : 6 < n
    · simp (disch := omega) only [f9_r5, w_reg, w_seq, seqK_n, okG_b, asG_f, true_and, x_nil, x_g, x_mv, x_as, x_pick, x_bin, x_ext, kx, rvP_ok, okv_some, ev_t, ev_c, getV_some, putD_some, bin_lss, bin_gtr, pick_b, onTup_t, nth0, nth1, of1, of6, of64, getK_set, Nat.reduceEqDiff, ↓reduceIte, Bool.false_eq_true, Bool.not_true, Bool.not_false, g0, h1, h2, decide_true, decide_false]
      exact go true _ (fun e => by cases e) (fun _ => by unfold badMade; simp [h2]) (by simp (disch := omega) only [getK_set, Nat.reduceEqDiff, ↓reduceIte, g0, g2, g7, g8, and_self])
    · by_cases h3 : 64 < S.length
      · have h3' : (64 : Int) < (S.length : Int) := by omega
        simp (disch := omega) only [f9_r5, w_reg, w_seq, seqK_n, okG_b, asG_f, true_and, x_nil, x_g, x_mv, x_as, x_pick, x_bin, x_ext, x_len, kx, rvP_ok, okv_some, ev_t, ev_c, getV_some, putD_some, bin_lss, bin_gtr, pick_b, onTup_t, nth0, nth1, of1, of6, of64, getK_set, Nat.reduceEqDiff, ↓reduceIte, Bool.false_eq_true, Bool.not_false, g0, g7, h1, h2, h3', decide_true, decide_false, hv1.len]
        exact go true _ (fun e => by cases e) (fun _ => by unfold badMade; simp [h3]) (by simp (disch := omega) only [getK_set, Nat.reduceEqDiff, ↓reduceIte, g0, g2, g7, g8, and_self])
      · have h3' : ¬ (64 : Int) < (S.length : Int) := by omega
        simp (disch := omega) only [f9_r5, w_reg, w_seq, seqK_n, okG_b, asG_f, true_and, x_nil, x_g, x_mv, x_as, x_pick, x_bin, x_ext, x_len, kx, rvP_ok, okv_some, ev_t, ev_c, getV_some, putD_some, bin_lss, bin_gtr, pick_b, onTup_t, nth0, nth1, of1, of6, of64, getK_set, Nat.reduceEqDiff, ↓reduceIte, Bool.false_eq_true, Bool.not_false, g0, g7, h1, h2, h3', decide_false, hv1.len]
        exact go false _ (fun e => ⟨by omega, by omega, by omega⟩) (fun e => by cases e) (by simp (disch := omega) only [getK_set, Nat.reduceEqDiff, ↓reduceIte, g0, g2, g7, g8, and_self])
theorem f9_B {Q : Ex → Fr → H → Prop} {h : H} {v v2 v8 p : V} {S : List Int} {n : Int} {so : Bool} {fr : Fr} {c : EC} (k : Calls9 fs momL) (m : Made9) (hv : Sl iE h v S) (hc : HC h) (hS : S.length ≤ 66) (hp : Sl iE h p (madeS n S).1) (hso : badMade n S = false → so = anyPos S)
    (hg : fr.get (K.ofNat 0) = some (.i .i64 n) ∧ fr.get (K.ofNat 2) = some (v2) ∧ fr.get (K.ofNat 7) = some (v) ∧ fr.get (K.ofNat 8) = some (v8) ∧ fr.get (K.ofNat 9) = some (p) ∧ fr.get (K.ofNat 10) = some (.i .i64 (madeS n S).2) ∧ fr.get (K.ofNat 11) = some (.b (badMade n S)) ∧ fr.get (K.ofNat 12) = some (.b so))
    (hq : ∀ fr h1, Grow h.nx.nat h h1 → fr.get (K.ofNat 0) = some (.i .i64 n) ∧ fr.get (K.ofNat 2) = some (v2) ∧ fr.get (K.ofNat 7) = some (v) ∧ fr.get (K.ofNat 8) = some (v8) → W fs ro c Q fr h1) :
    W fs ro (.seq (.reg f9_r12) (.seq (.reg f9_r13) (.seq (.block 4 (.seq (.reg f9_r14) (.cond (.t (K.ofNat 80)) (.reg f9_r15) (.seq (.reg f9_r16) (.cond (.t (K.ofNat 82)) (.reg f9_r17) (.seq (.reg f9_r18) (.seq (.reg f9_r19) (.cond (.t (K.ofNat 79)) (.reg f9_r20) .skip)))))))) (.seq (.seq (.reg f9_r21) (.cond (.t (K.ofNat 106)) (.seq (.reg f9_r22) .ret) .skip)) c)))) Q fr h := by
  obtain ⟨g0, g2, g7, g8, g9, g10, g11, g12⟩ := hg
  have ne1 : decide ((1 : Int) ≠ 1) = false := rfl
  have ne2 : decide ((1 : Int) ≠ 0) = true := rfl
  have ne3 : decide ((4 : Int) ≠ 4) = false := rfl
  have ne4 : decide ((4 : Int) ≠ 0) = true := rfl
  have ne5 : decide ((8 : Int) ≠ 8) = false := rfl
  have ne6 : decide ((8 : Int) ≠ 0) = true := rfl
  have ne7 : decide ((0 : Int) ≠ 0) = false := rfl
  have eq1 : decide ((1 : Int) = 0) = false := rfl
  have eq2 : decide ((4 : Int) = 0) = false := rfl
  have eq3 : decide ((8 : Int) = 0) = false := rfl
  have eq4 : decide ((0 : Int) = 0) = true := rfl
  have len0 : (([] : List Int).length : Int) = 0 := rfl
  cases hb : badMade n S
  · rw [hb] at g11
    have hso := hso hb
    cases so
    · have hm := m.m4 n S hb hso.symm
      rw [hm] at hp g10
      simp (disch := omega) only [f9_r12, f9_r13, f9_r14, f9_r16, f9_r17, f9_r21, w_skip, w_reg, w_seq, w_cond, w_block, seqK_n, atK_n, ckB_b, cbB_b, okG_b, asG_t, asG_f, true_and, x_nil, x_g, x_mv, x_as, x_pick, x_bin, x_not, x_len, kx, rvP_ok, okv_some, ev_t, ev_c, getV_some, putD_some, bin_eql, bin_neq, pick_b, onB_b, of0, of4, getK_set, Nat.reduceEqDiff, ↓reduceIte, Bool.false_eq_true, Bool.not_false, g9, g10, g11, g12, hp.len, len0, ne3, ne4, ne7, eq2]
      exact hq _ _ (Grow.refl _ _) (by simp (disch := omega) only [getK_set, Nat.reduceEqDiff, ↓reduceIte, g0, g2, g7, g8, and_self])
    · have hm := m.m8 n S hb hso.symm
      simp (disch := omega) only [f9_r12, f9_r13, f9_r14, f9_r16, f9_r18, w_reg, w_seq, w_cond, w_block, seqK_n, ckB_b, cbB_b, true_and, x_nil, x_mv, x_as, x_not, x_call, kx, rvP_ok, ev_t, ev_c, evs_nil, evs_cons, getV_some, putD_some, onB_b, of0, getK_set, Nat.reduceEqDiff, ↓reduceIte, Bool.false_eq_true, Bool.not_true, g7, g11, g12]
      refine (callP_0 (ef := f49) k.c49 rfl (f49_ret k.p53 hv (by omega) hc)).mono ?_
      rintro q h1 ⟨hsq, _, gr⟩
      have hp1 := hp.grow hc gr
      by_cases hl : 10 < (piecesTo S 64).length
      · rw [if_pos hl] at hm
        rw [hm] at hp1 g10
        have hl' : (10 : Int) < ((piecesTo S 64).length : Int) := by omega
        simp (disch := omega) only [f9_r19, f9_r20, f9_r21, w_skip, w_reg, w_seq, w_cond, seqK_n, atK_n, ckB_b, cbB_b, okG_b, asG_t, asG_f, true_and, x_nil, x_g, x_mv, x_as, x_pick, x_bin, x_len, kx, rvP_ok, okv_some, ev_t, ev_c, getV_some, putD_some, bin_eql, bin_neq, bin_gtr, pick_b, of0, of8, of10, getK_set, Nat.reduceEqDiff, ↓reduceIte, Bool.false_eq_true, Bool.not_false, g9, g10, hp1.len, hsq.len, hl', decide_true, len0, ne5, ne6, ne7, eq3]
        exact hq _ _ gr (by simp (disch := omega) only [getK_set, Nat.reduceEqDiff, ↓reduceIte, g0, g2, g7, g8, and_self])
      · rw [if_neg hl] at hm
        rw [hm] at hp1 g10
        have hl' : ¬ (10 : Int) < ((piecesTo S 64).length : Int) := by omega
        simp (disch := omega) only [f9_r19, f9_r20, f9_r21, w_skip, w_reg, w_seq, w_cond, seqK_n, atK_n, ckB_b, cbB_b, okG_b, asG_t, asG_f, true_and, x_nil, x_g, x_mv, x_as, x_pick, x_bin, x_call, x_len, kx, rvP_ok, okv_some, ev_t, ev_c, evs_nil, evs_cons, getV_some, putD_some, bin_eql, bin_neq, bin_gtr, pick_b, of0, of8, of10, getK_set, Nat.reduceEqDiff, ↓reduceIte, Bool.false_eq_true, decide_eq_true_eq, Bool.not_false, g9, g10, hsq.len, hl', decide_false, ne7]
        refine k.c32 _ _ _ _ _ _ hp1 hsq (by have := piecesTo_len (S := S) (i := 64); show (piecesTo S 64).length ≤ _; omega) ?_
        simp (disch := omega) only [w_skip, w_cond, seqK_n, ckB_b, cbB_b, okG_b, asG_t, asG_f, true_and, x_nil, x_g, x_pick, x_not, kx, rvP_ok, ev_t, ev_c, getV_some, putD_some, pick_b, onB_b, getK_set, Nat.reduceEqDiff, ↓reduceIte, Bool.false_eq_true, Bool.not_true, Bool.not_false, decide_true]
        exact hq _ _ gr (by simp (disch := omega) only [getK_set, Nat.reduceEqDiff, ↓reduceIte, g0, g2, g7, g8, and_self])
  · rw [hb] at g11
    have hm : madeS n S = ([], 1) := by unfold madeS; rw [if_pos hb]
    rw [hm] at hp g10
    simp (disch := omega) only [f9_r12, f9_r13, f9_r14, f9_r15, f9_r21, w_skip, w_reg, w_seq, w_cond, w_block, seqK_n, atK_n, ckB_b, cbB_b, okG_b, asG_t, asG_f, true_and, x_nil, x_g, x_mv, x_as, x_pick, x_bin, x_len, kx, rvP_ok, okv_some, ev_t, ev_c, getV_some, putD_some, bin_eql, bin_neq, pick_b, of0, of1, getK_set, Nat.reduceEqDiff, ↓reduceIte, Bool.false_eq_true, Bool.not_false, g9, g10, g11, hp.len, len0, ne1, ne2, ne7, eq1]
    exact hq _ _ (Grow.refl _ _) (by simp (disch := omega) only [getK_set, Nat.reduceEqDiff, ↓reduceIte, g0, g2, g7, g8, and_self])
theorem f9_C {Q : Ex → Fr → H → Prop} {h : H} {v v8 : V} {n d : Int} {fr : Fr} {c : EC} (k : Calls9 fs momL) (hc : HC h) (hg : fr.get (K.ofNat 0) = some (.i .i64 n) ∧ fr.get (K.ofNat 2) = some (.i .i64 d) ∧ fr.get (K.ofNat 7) = some (v) ∧ fr.get (K.ofNat 8) = some (v8))
    (hq : ∀ fr h1, Grow h.nx.nat h h1 → fr.get (K.ofNat 0) = some (.i .i64 n) ∧ fr.get (K.ofNat 2) = some (.i .i64 d) ∧ fr.get (K.ofNat 7) = some (v) ∧ fr.get (K.ofNat 8) = some (v8) → W fs ro c Q fr h1) :
    W fs ro (.seq (.reg f9_r23) (.seq (.seq (.reg f9_r24) (.cond (.t (K.ofNat 123)) (.seq (.reg f9_r25) (.cond (.t (K.ofNat 130)) (.seq (.reg f9_r26) .ret) .skip)) (.seq (.reg f9_r27) (.cond (.t (K.ofNat 140)) (.seq (.reg f9_r28) .ret) .skip)))) c)) Q fr h := by
  obtain ⟨g0, g2, g7, g8⟩ := hg
  have ne1 : decide ((1 : Int) ≠ 1) = false := rfl
  have ne7 : decide ((0 : Int) ≠ 0) = false := rfl
  cases hok : okM n d
  · simp (disch := omega) only [f9_r23, w_reg, w_seq, x_mv, x_call, ev_t, ev_c, evs_nil, evs_cons, getV_some, putD_some, getK_set, Nat.reduceEqDiff, ↓reduceIte, g0, g2]
    refine k.m0 _ _ _ _ hok ?_
    by_cases h1 : d < 2
    · simp (disch := omega) only [f9_r24, f9_r25, w_skip, w_reg, w_seq, w_cond, seqK_n, ckB_b, cbB_b, okG_b, asG_f, true_and, x_nil, x_g, x_mv, x_as, x_pick, x_bin, x_ext, x_len, kx, rvP_ok, okv_some, ev_t, ev_c, getV_some, putD_some, bin_neq, bin_lss, pick_b, onTup_t, nth0, nth1, len_sn, of0, of1, of2, of6, getK_set, Nat.reduceEqDiff, ↓reduceIte, Bool.false_eq_true, Bool.not_true, Bool.not_false, g2, h1, decide_true, ne1, ne7]
      exact hq _ _ (Grow.refl _ _) (by simp (disch := omega) only [getK_set, Nat.reduceEqDiff, ↓reduceIte, g0, g2, g7, g8, and_self])
    · by_cases h2 : n ≤ d
      · simp (disch := omega) only [f9_r24, f9_r25, w_skip, w_reg, w_seq, w_cond, seqK_n, ckB_b, cbB_b, okG_b, asG_f, true_and, x_nil, x_g, x_mv, x_as, x_pick, x_bin, x_ext, x_len, kx, rvP_ok, okv_some, ev_t, ev_c, getV_some, putD_some, bin_neq, bin_lss, bin_geq, pick_b, onTup_t, nth0, nth1, len_sn, of0, of1, of2, of6, getK_set, Nat.reduceEqDiff, ↓reduceIte, Bool.false_eq_true, Bool.not_true, Bool.not_false, g0, g2, h1, h2, decide_true, decide_false, ne1, ne7]
        exact hq _ _ (Grow.refl _ _) (by simp (disch := omega) only [getK_set, Nat.reduceEqDiff, ↓reduceIte, g0, g2, g7, g8, and_self])
      · have h3 : 6 < n := by
          rcases Int.lt_or_le 6 n with h | h
          · exact h
          · exfalso
            unfold okM at hok
            rw [decide_eq_true (by omega), decide_eq_true (by omega), decide_eq_true (by omega)] at hok; cases hok
        simp (disch := omega) only [f9_r24, f9_r25, w_skip, w_reg, w_seq, w_cond, seqK_n, ckB_b, cbB_b, okG_b, asG_f, true_and, x_nil, x_g, x_mv, x_as, x_pick, x_bin, x_ext, x_len, kx, rvP_ok, okv_some, ev_t, ev_c, getV_some, putD_some, bin_neq, bin_lss, bin_gtr, bin_geq, pick_b, onTup_t, nth0, nth1, len_sn, of0, of1, of2, of6, getK_set, Nat.reduceEqDiff, ↓reduceIte, Bool.false_eq_true, Bool.not_false, g0, g2, h1, h2, h3, decide_true, decide_false, ne1, ne7]
        exact hq _ _ (Grow.refl _ _) (by simp (disch := omega) only [getK_set, Nat.reduceEqDiff, ↓reduceIte, g0, g2, g7, g8, and_self])
  · simp (disch := omega) only [f9_r23, w_reg, w_seq, x_mv, x_call, ev_t, ev_c, evs_nil, evs_cons, getV_some, putD_some, getK_set, Nat.reduceEqDiff, ↓reduceIte, g0, g2]
    refine k.m1 _ _ _ _ hc hok ?_
    intro u h1 hsu gr
    have hok2 := hok
    unfold okM at hok2
    simp only [Bool.and_eq_true, decide_eq_true_eq] at hok2
    have h1 : ¬ d < 2 := by omega
    have h2 : ¬ n ≤ d := by omega
    have h3 : ¬ 6 < n := by omega
    simp (disch := omega) only [f9_r24, f9_r27, w_reg, w_seq, w_cond, seqK_n, ckB_b, cbB_b, okG_b, asG_f, true_and, x_nil, x_g, x_mv, x_as, x_pick, x_bin, x_ext, x_call, kx, rvP_ok, okv_some, ev_t, ev_c, evs_nil, evs_cons, getV_some, putD_some, bin_neq, bin_lss, bin_gtr, bin_geq, pick_b, onTup_t, nth0, nth1, of0, of2, of6, getK_set, Nat.reduceEqDiff, ↓reduceIte, Bool.false_eq_true, Bool.not_false, g0, g2, h1, h2, h3, decide_false, ne7]
    refine k.r1 _ _ _ _ (gr.hc hc) hok ?_
    intro w h2 hsw gr2
    simp (disch := omega) only [okG_b, asG_f, true_and, x_g, x_call, kx, ev_t, ev_c, evs_nil, evs_cons, getV_some, putD_some, getK_set, Nat.reduceEqDiff, ↓reduceIte, Bool.not_false]
    refine k.c32 _ _ _ _ _ _ (hsu.grow (gr.hc hc) gr2) hsw (by have := k.ml n d; omega) ?_
    simp (disch := omega) only [w_skip, w_cond, seqK_n, ckB_b, cbB_b, okG_b, asG_f, true_and, x_nil, x_g, x_pick, x_not, kx, rvP_ok, ev_t, ev_c, getV_some, putD_some, pick_b, onB_b, getK_set, Nat.reduceEqDiff, ↓reduceIte, Bool.false_eq_true, Bool.not_true, Bool.not_false, decide_true]
    exact hq _ _ (gr.trans (gr2.low gr.nx)) (by simp (disch := omega) only [getK_set, Nat.reduceEqDiff, ↓reduceIte, g0, g2, g7, g8, and_self])
theorem f9_D {Q : Ex → Fr → H → Prop} {h : H} {v v8 : V} {S : List Int} {n d : Int} {fr : Fr} (hv : Sl iE h v S) (hc : HC h) (hS : S.length ≤ 66) (hg : fr.get (K.ofNat 0) = some (.i .i64 n) ∧ fr.get (K.ofNat 2) = some (.i .i64 d) ∧ fr.get (K.ofNat 7) = some (v) ∧ fr.get (K.ofNat 8) = some (v8))
    (hq : ∀ fr h1 n d o M, Sl iE h1 o M → M.length ≤ 12 → Grow h.nx.nat h h1 → fr.get (K.ofNat 0) = some (.i .i64 n) ∧ fr.get (K.ofNat 2) = some (.i .i64 d) ∧ fr.get (K.ofNat 7) = some (o) ∧ fr.get (K.ofNat 8) = some (v8) → Q .normal fr h1) :
    W fs ro (.seq (.reg f9_r29) (.seq (.reg f9_r30) (.seq (.reg f9_r31) (.seq (.seq (.reg f9_r32) (.block 5 (.loop f9_l1))) (.reg f9_r36))))) Q fr h := by
  obtain ⟨g0, g2, g7, g8⟩ := hg
  obtain ⟨n1, n2⟩ := nextN_in n
  have e1 : fw .i64 (nextN n - 2) = nextN n - 2 := fw64 (by omega) (by omega)
  have e2 : fw .u64 (nextN n - 2) = nextN n - 2 := fwu64 (by omega) (by omega)
  have hnn : fw .i64 (3 + fw .i64 ((fw .u64 n).tmod 4)) = nextN n := rfl
  have hrem : ∀ a, binV .rem (.i .u64 a) (.i .u64 (nextN n - 2)) = some (.i .u64 (a.tmod (nextN n - 2))) := fun a => bin_rem (by omega)
  simp (disch := omega) only [f9_r29, f9_r30, f9_r31, f9_r32, w_reg, w_seq, w_block, seqK_n, x_nil, x_mv, x_as, x_bin, x_conv, kx, rvP_ok, okv_some, ev_t, ev_c, getV_some, putD_some, bin_add, bin_sub, bin_rem, onI_i, of0, of2, of3, of4, getK_set, Nat.reduceEqDiff, ↓reduceIte, g0, g2, hnn, e1, e2, hrem]
  refine f9_next (v2 := .i .i64 (fw .i64 (2 + fw .i64 ((fw .u64 d).tmod (nextN n - 2))))) (v8 := v8) hv hc hS n1 n2 (by simp (disch := omega) only [getK_set, Nat.reduceEqDiff, ↓reduceIte, g7, g8, and_self]) ?_
  clear g0 g2 g7 g8 fr
  rintro fr h1 o M hso hM gr ⟨g0, g2, g8, g18⟩
  simp (disch := omega) only [f9_r36, w_reg, seqK_n, atK_e, x_nil, x_mv, x_as, ev_t, getV_some, putD_some, getK_set, ↓reduceIte, g18]
  exact hq _ _ (nextN n) (fw .i64 (2 + fw .i64 ((fw .u64 d).tmod (nextN n - 2)))) o M hso hM gr (by simp (disch := omega) only [getK_set, Nat.reduceEqDiff, ↓reduceIte, g0, g2, g8, and_self])
theorem f9_ret {h : H} {v : V} {L : List Int} {n d : Int} (k : Calls9 fs momL) (m : Made9) (hv : Sl iE h v L) (hc : HC h) : Ret fs f9 [.i .i64 n, v, .i .i64 d] h fun u h' => u = .b true ∧ Grow h.nx.nat h h' := by
  apply ret_of rfl
  show W fs none f9_c _ _ _
  unfold f9_c
  simp (disch := omega) only [f9_r0, f9_r1, w_reg, w_seq, seqK_n, x_nil, x_mv, x_as, x_call, ev_t, ev_c, evs_nil, evs_cons, getV_some, putD_some, frame_3, getK_set, Nat.reduceEqDiff, ↓reduceIte]
  refine (callP_0 (ef := f14) k.c14 rfl (f14_ret (m := 66) hv hc (by omega))).mono ?_
  rintro u h1 ⟨hs, ho, gr⟩
  simp (disch := omega) only [f9_r2, w_reg, w_seq, w_block, seqK_n, x_nil, x_as, kx, ev_t, ev_c, getV_some, putD_some, of0, getK_set, ↓reduceIte]
  refine W_loop (f9_I2 h) (fun i => 2 - i) ?_ 0 ⟨n, d, u, L.take 66, by omega, by rw [List.length_take]; omega, hs, gr, by simp (disch := omega) only [getK_set, Nat.reduceEqDiff, ↓reduceIte, and_self, Int.natCast_zero]⟩
  rintro i fr h2 ⟨n, d, v, S, hi, hS, hs, gr, g0, g2, g7, g8⟩
  have hc2 := gr.hc hc
  unfold f9_l2
  by_cases hlt : i < 2
  · have hlt' : (i : Int) < 2 := by omega
    simp (disch := omega) only [f9_r3, w_skip, w_reg, w_seq, w_cond, w_block, seqK_n, ckB_b, cbB_b, true_and, x_nil, x_mv, x_bin, kx, rvP_ok, okv_some, ev_t, ev_c, getV_some, putD_some, bin_lss, of2, getK_set, ↓reduceIte, g8, hlt', decide_true]
    refine (show W fs none (.seq (.reg f9_r4) _) _ _ _ from ?_)
    refine f9_A (n := n) (v2 := .i .i64 d) (v8 := .i .i64 (i : Int)) k hs hc2 hS (by simp (disch := omega) only [getK_set, Nat.reduceEqDiff, ↓reduceIte, g0, g2, g7, g8, and_self]) ?_
    intro fr h3 p so gr3 hsp hso hg
    have hc3 := gr3.hc hc2
    refine f9_B k m (hs.grow hc2 gr3) hc3 hS hsp hso hg ?_
    intro fr h4 gr4 hg
    have hc4 := gr4.hc hc3
    refine f9_C k hc4 hg ?_
    intro fr h5 gr5 hg
    have hc5 := gr5.hc hc4
    refine f9_D (((hs.grow hc2 gr3).grow hc3 gr4).grow hc4 gr5) hc5 hS hg ?_
    rintro fr h6 n d o M hso hM gr6 ⟨g0, g2, g7, g8⟩
    simp (disch := omega) only [f9_r37, w_reg, seqK_n, atK_n, loopK_n, x_nil, x_mv, x_as, x_bin, kx, rvP_ok, okv_some, ev_t, ev_c, getV_some, putD_some, bin_add, of1, getK_set, ↓reduceIte, g8, fw64]
    exact ⟨i + 1, by omega, n, d, o, M, by omega, by omega, hso, gr.trans ((gr3.low gr.nx).trans ((gr4.low (Nat.le_trans gr.nx gr3.nx)).trans ((gr5.low (Nat.le_trans gr.nx (Nat.le_trans gr3.nx gr4.nx))).trans (gr6.low (Nat.le_trans gr.nx (Nat.le_trans gr3.nx (Nat.le_trans gr4.nx gr5.nx))))))), by simp (disch := omega) only [getK_set, Nat.reduceEqDiff, ↓reduceIte, g0, g2, g7, and_self, Int.natCast_add, Int.natCast_one]⟩
  · have hlt' : ¬ (i : Int) < 2 := by omega
    simp (disch := omega) only [f9_r3, f9_r38, f9_rs, w_reg, w_seq, w_cond, w_exit, w_ret, seqK_n, seqK_e, atK_e, loopK_e, ckB_b, cbB_b, true_and, retK_r, x_nil, x_mv, x_as, x_bin, x_call, kx, rvP_ok, okv_some, ev_t, ev_c, evs_nil, getV_some, putD_some, bin_lss, oGet_s, readRs_nil, readRs_t, retV_1, of2, Option.some.injEq, exists_eq_left', getK_set, ↓reduceIte, Bool.false_eq_true, g8, hlt', decide_false, k.aw]
    exact gr
end
end Go.Ev
namespace Go.Ev
open Go Go.RowKit
theorem xor_zero {a b : Nat} : a ^^^ b = 0 ↔ a = b := by
  constructor
  · intro h
    apply Nat.eq_of_testBit_eq
    intro i
    have := congrArg (fun n => Nat.testBit n i) h
    simp only [Nat.testBit_xor, Nat.zero_testBit] at this
    cases h1 : a.testBit i <;> cases h2 : b.testBit i <;> simp_all
  · rintro rfl; exact Nat.xor_self a
theorem ptI_nat {a b : Nat} (ha : a < 64) (hb : b < 64) : ptI (a : Int) (b : Int) = decide (a &&& b = a) := by
  unfold ptI
  rw [ibits_nat (by show a ≤ 9223372036854775807; omega) (by show b ≤ 9223372036854775807; omega), ieq_eq]
  have : (((Nat.xor a (Nat.land a b) : Nat) : Int) == Int.ofNat 0) = decide (a ^^^ (a &&& b) = 0) := by
    show ((((a ^^^ (a &&& b)) : Nat) : Int) == ((0 : Nat) : Int)) = _
    by_cases h : a ^^^ (a &&& b) = 0 <;> simp [h]
  rw [this]
  by_cases h : a &&& b = a
  · rw [decide_eq_true h, decide_eq_true (xor_zero.2 h.symm)]
  · rw [decide_eq_false h, decide_eq_false (fun e => h (xor_zero.1 e).symm)]
theorem sub_le {a b : Nat} (h : a &&& b = a) : a ≤ b := by rw [← h]; exact Nat.and_le_right
theorem sub_trans {a b c : Nat} (h1 : a &&& b = a) (h2 : b &&& c = b) : a &&& c = a := by
  rw [← h1, Nat.and_assoc, h2]
theorem sub_anti {a b : Nat} (h1 : a &&& b = a) (h2 : b &&& a = b) : a = b := by rw [← h1, Nat.and_comm, h2]
/-- All are sets of six corners. -/
def Sets (S : List Int) : Prop := ∀ s ∈ S, ∃ t : Nat, t < 64 ∧ s = (t : Int)
theorem sets_of {n : Int} {S : List Int} (h : badMade n S = false) : Sets S := by
  unfold badMade at h
  simp only [Bool.or_eq_false_iff, decide_eq_false_iff_not, Bool.not_eq_false', List.all_eq_true] at h
  obtain ⟨⟨⟨h1, h2⟩, h3⟩, h4⟩ := h
  intro s hs
  have := h4 s hs
  unfold inSet at this
  simp only [Bool.and_eq_true, decide_eq_true_eq] at this
  refine ⟨s.toNat, ?_, by omega⟩
  have hp : (2 : Int) ^ n.toNat ≤ 64 := by
    have : n = 1 ∨ n = 2 ∨ n = 3 ∨ n = 4 ∨ n = 5 ∨ n = 6 := by omega
    rcases this with rfl | rfl | rfl | rfl | rfl | rfl <;> decide
  omega
theorem topsTo_eq {B : Nat → Bool} : topsTo B 64 = ((List.range 64).filter fun (k : Nat) => isTop B k && B k).map fun (k : Nat) => (k : Int) := by
  unfold topsTo
  rw [List.take_of_length_le mem64_len]
  unfold mem64
  rw [List.filter_filter]
theorem isTop_iff {B : Nat → Bool} {x : Nat} : isTop B x = true ↔ ∀ y, y < 64 → B y = true → y = x ∨ ptI (x : Int) (y : Int) = false := by
  unfold isTop mem64
  simp only [List.all_eq_true, List.mem_filter, List.mem_range, Bool.not_eq_true', Bool.and_eq_false_iff, decide_eq_false_iff_not, ne_eq, Decidable.not_not, and_imp]
  constructor
  · intro h y h1 h2
    rcases h y h1 h2 with e | e
    · exact .inl (by omega)
    · exact .inr e
  · intro h y h1 h2
    rcases h y h1 h2 with e | e
    · exact .inl (by omega)
    · exact .inr e
theorem tops_pieces {S : List Int} (hS : Sets S) : topsTo (famB S) 64 = piecesTo S 64 := by
  rw [topsTo_eq]
  unfold piecesTo
  congr 1
  apply List.filter_congr
  intro k hk
  have hk : k < 64 := by simpa using hk
  have fam : ∀ y, y < 64 → (famB S y = true ↔ ∃ t : Nat, t < 64 ∧ (t : Int) ∈ S ∧ y &&& t = y) := by
    intro y hy
    unfold famB
    rw [List.any_eq_true]
    constructor
    · rintro ⟨s, hs, h⟩
      obtain ⟨t, ht, rfl⟩ := hS s hs
      rw [ptI_nat hy ht, decide_eq_true_eq] at h
      exact ⟨t, ht, hs, h⟩
    · rintro ⟨t, ht, hs, h⟩
      exact ⟨_, hs, by rw [ptI_nat hy ht, decide_eq_true_eq]; exact h⟩
  have hin : inP S (k : Int) = true ↔ (k : Int) ∈ S := by
    unfold inP
    rw [List.any_eq_true]
    constructor
    · rintro ⟨y, hy, e⟩
      have : y = (k : Int) := by simpa using e
      rw [← this]; exact hy
    · intro h; exact ⟨_, h, by simp⟩
  have hgr : grP S (k : Int) = true ↔ ∀ t : Nat, t < 64 → (t : Int) ∈ S → t = k ∨ ¬ k &&& t = k := by
    unfold grP
    rw [List.all_eq_true]
    constructor
    · intro h t ht hs
      have := h _ hs
      rw [ptI_nat hk ht] at this
      simp only [Bool.or_eq_true, decide_eq_true_eq, Bool.not_eq_true', decide_eq_false_iff_not] at this
      rcases this with e | e
      · exact .inl (by omega)
      · exact .inr e
    · intro h s hs
      obtain ⟨t, ht, rfl⟩ := hS s hs
      rw [ptI_nat hk ht]
      simp only [Bool.or_eq_true, decide_eq_true_eq, Bool.not_eq_true', decide_eq_false_iff_not]
      rcases h t ht hs with e | e
      · exact .inl (by omega)
      · exact .inr e
  rw [Bool.eq_iff_iff, Bool.and_eq_true, Bool.and_eq_true, isTop_iff, fam k hk, hin, hgr]
  constructor
  · rintro ⟨h1, t, ht, hs, hkt⟩
    have : t = k := by
      rcases h1 t ht ((fam t ht).2 ⟨t, ht, hs, Nat.and_self t⟩) with e | e
      · exact e
      · rw [ptI_nat hk ht, decide_eq_false_iff_not] at e; exact absurd hkt e
    subst this
    refine ⟨hs, fun u hu hus => ?_⟩
    rcases h1 u hu ((fam u hu).2 ⟨u, hu, hus, Nat.and_self u⟩) with e | e
    · exact .inl e
    · rw [ptI_nat hk hu, decide_eq_false_iff_not] at e; exact .inr e
  · rintro ⟨h1, h2⟩
    refine ⟨fun y hy hf => ?_, k, hk, h1, Nat.and_self k⟩
    obtain ⟨t, ht, hs, hyt⟩ := (fam y hy).1 hf
    rw [ptI_nat hk hy, decide_eq_false_iff_not]
    by_cases e : k &&& y = k
    · rcases h2 t ht hs with e2 | e2
      · subst e2; exact .inl (sub_anti hyt e)
      · exact absurd (sub_trans e hyt) e2
    · exact .inr e
/-- A greatest number. -/
theorem exists_max : ∀ (S : List Int), S ≠ [] → ∃ m ∈ S, ∀ s ∈ S, s ≤ m
  | [], h => absurd rfl h
  | [x], _ => ⟨x, by simp, by simp⟩
  | x :: y :: l, _ => by
    obtain ⟨m, hm, h⟩ := exists_max (y :: l) (by simp)
    by_cases e : m ≤ x
    · exact ⟨x, by simp, fun s hs => by
        rcases List.mem_cons.1 hs with rfl | h1
        · exact Int.le_refl _
        · exact Int.le_trans (h s h1) e⟩
    · exact ⟨m, List.mem_cons_of_mem _ hm, fun s hs => by
        rcases List.mem_cons.1 hs with rfl | h1
        · omega
        · exact h s h1⟩
theorem made9 : Made9 := by
  refine ⟨fun n S hb hp => ?_, fun n S hb hp => ?_⟩
  · have hS := sets_of hb
    unfold madeS
    rw [if_neg (by rw [hb]; simp)]
    have hz : ∀ s ∈ S, s = 0 := by
      unfold anyPos at hp
      rw [List.any_eq_false] at hp
      intro s hs
      obtain ⟨t, ht, rfl⟩ := hS s hs
      have := hp _ hs
      simp only [decide_eq_true_eq] at this
      omega
    cases S with
    | nil =>
      have : topsTo (famB []) 64 = [] := by
        rw [topsTo_eq, List.filter_eq_nil_iff.2 (fun k _ => by simp [famB])]; rfl
      rw [this]; rfl
    | cons s S =>
      have hf : ∀ k, k < 64 → famB (s :: S) k = decide (k = 0) := by
        intro k hk
        unfold famB
        by_cases e : k = 0
        · subst e
          rw [decide_eq_true rfl, List.any_eq_true]
          exact ⟨s, by simp, by rw [hz s (by simp)]; exact (ptI_nat (a := 0) (b := 0) (by omega) (by omega)).trans rfl⟩
        · rw [decide_eq_false e, List.any_eq_false]
          intro y hy
          rw [hz y hy, show (0 : Int) = ((0 : Nat) : Int) from rfl, ptI_nat hk (by omega), Nat.and_zero, decide_eq_true_eq]
          exact fun e2 => e e2.symm
      have : topsTo (famB (s :: S)) 64 = [0] := by
        rw [topsTo_eq]
        have hfc : (List.range 64).filter (fun (k : Nat) => isTop (famB (s :: S)) k && famB (s :: S) k) = (List.range 64).filter (fun (k : Nat) => decide (k = 0)) := by
          apply List.filter_congr
          intro k hk
          have hk : k < 64 := by simpa using hk
          rw [hf k hk]
          by_cases e : k = 0
          · subst e
            have : isTop (famB (s :: S)) 0 = true := by
              rw [isTop_iff]
              intro y hy h2
              rw [hf y hy, decide_eq_true_eq] at h2
              exact .inl h2
            rw [this]; rfl
          · simp [e]
        rw [hfc]; rfl
      rw [this]; rfl
  · have hS := sets_of hb
    unfold madeS
    rw [if_neg (by rw [hb]; simp), tops_pieces hS]
    unfold anyPos at hp
    rw [List.any_eq_true] at hp
    obtain ⟨s0, hs0, hp0⟩ := hp
    have hp0 : 0 < s0 := by simpa using hp0
    obtain ⟨m, hm, hmax⟩ := exists_max S (fun e => by rw [e] at hs0; cases hs0)
    obtain ⟨t, ht, rfl⟩ := hS m hm
    have hmem : (t : Int) ∈ piecesTo S 64 := by
      unfold piecesTo
      rw [List.mem_map]
      refine ⟨t, ?_, rfl⟩
      rw [List.mem_filter, List.mem_range, Bool.and_eq_true]
      refine ⟨ht, ?_, ?_⟩
      · unfold inP; rw [List.any_eq_true]; exact ⟨_, hm, by simp⟩
      · unfold grP; rw [List.all_eq_true]
        intro y hy
        obtain ⟨u, hu, rfl⟩ := hS y hy
        rw [ptI_nat ht hu]
        have h1 := hmax _ hy
        by_cases e : u = t
        · simp [e]
        · have : ¬ t &&& u = t := fun h2 => by have := sub_le h2; omega
          simp [this]
    have hno0 : ∀ x ∈ piecesTo S 64, x ≠ 0 := by
      intro x hx
      unfold piecesTo at hx
      rw [List.mem_map] at hx
      obtain ⟨k, hk, rfl⟩ := hx
      rw [List.mem_filter, List.mem_range, Bool.and_eq_true] at hk
      obtain ⟨hk1, hk2, hk3⟩ := hk
      intro e
      have e : k = 0 := by omega
      subst e
      unfold grP at hk3
      rw [List.all_eq_true] at hk3
      have := hk3 _ hs0
      obtain ⟨u, hu, rfl⟩ := hS s0 hs0
      rw [ptI_nat (by omega) hu, Nat.zero_and] at this
      simp at this
      omega
    unfold madeOf
    have hlen : ¬ (piecesTo S 64).length = 0 := fun e => by rw [List.length_eq_zero_iff.1 e] at hmem; cases hmem
    have hz : ¬ (piecesTo S 64)[0]? = some 0 := fun e => by
      obtain ⟨h1, h2⟩ := List.getElem?_eq_some_iff.1 e
      exact hno0 _ (List.getElem_mem h1) h2
    rw [if_neg hlen, if_neg hz]
end Go.Ev
