/-
  The law ShellsMakes.
  Functions of the seat: Check.
  Functions of the seat: tame.
  Functions of the seat: rank.
  Functions of the seat: cornersOf, border.
  Functions of the seat: AppendSeq, Collect, list, Faces.
  Functions of the seat: counts, Counts.
  Functions of the seat: borderRank, hollows, Hollows.
  Functions of the seat: hollows, Hollows.
  Functions of the seat: Hs, Euler.
  The law ShellsMakes: its round.
  What is true of sets: the greatest of all parts of some sets are the greatest of these.
  Functions of the seat: the reference's Is, Faces, Counts, Euler.
  Functions of the seat: the reference's borders, rank.
-/
import Derived.Test.YtneacehpoaambaaPd
namespace Go.Ev
open Go Go.RowKit
noncomputable def f9_r0 : List EOper := [⟨(some (K.ofNat 6)), none, .as (.c (.b false))⟩]
noncomputable def f9_r1 : List EOper := [⟨(some (K.ofNat 20)), none, .mv (.t (K.ofNat 1))⟩, ⟨(some (K.ofNat 21)), none, .call (.c (.fn (K.ofNat 14) [])) [(.t (K.ofNat 20)), (.c (.i .i64 (.ofNat 66)))]⟩, ⟨(some (K.ofNat 7)), none, .as (.t (K.ofNat 21))⟩]
noncomputable def f9_r2 : List EOper := [⟨(some (K.ofNat 8)), none, .as (.c (.i .i64 (.ofNat 0)))⟩]
noncomputable def f9_r3 : List EOper := [⟨(some (K.ofNat 22)), none, .mv (.t (K.ofNat 8))⟩, ⟨(some (K.ofNat 23)), none, .bin .lss (.t (K.ofNat 22)) (.c (.i .i64 (.ofNat 2)))⟩]
noncomputable def f9_r4 : List EOper := [⟨(some (K.ofNat 27)), none, .mv (.t (K.ofNat 0))⟩, ⟨(some (K.ofNat 28)), none, .mv (.t (K.ofNat 7))⟩, ⟨(some (K.ofNat 29)), none, .call (.c (.fn (K.ofNat 48) [])) [(.t (K.ofNat 27)), (.t (K.ofNat 28))]⟩, ⟨(some (K.ofNat 26)), none, .mv (.t (K.ofNat 29))⟩, ⟨(some (K.ofNat 30)), none, .ext (.t (K.ofNat 26)) 0⟩, ⟨(some (K.ofNat 31)), none, .ext (.t (K.ofNat 26)) 1⟩, ⟨(some (K.ofNat 9)), none, .as (.t (K.ofNat 30))⟩, ⟨(some (K.ofNat 10)), none, .as (.t (K.ofNat 31))⟩]
noncomputable def f9_r5 : List EOper := [⟨(some (K.ofNat 32)), none, .mv (.t (K.ofNat 0))⟩, ⟨(some (K.ofNat 33)), none, .bin .lss (.t (K.ofNat 32)) (.c (.i .i64 (.ofNat 1)))⟩, ⟨(some (K.ofNat 34)), none, .mv (.t (K.ofNat 33))⟩, ⟨(some (K.ofNat 35)), (some ((K.ofNat 34), false)), .mv (.t (K.ofNat 0))⟩, ⟨(some (K.ofNat 36)), (some ((K.ofNat 34), false)), .bin .gtr (.t (K.ofNat 35)) (.c (.i .i64 (.ofNat 6)))⟩, ⟨(some (K.ofNat 37)), none, .pick (.t (K.ofNat 34)) (.c (.b true)) (.t (K.ofNat 36))⟩, ⟨(some (K.ofNat 38)), none, .mv (.t (K.ofNat 37))⟩, ⟨(some (K.ofNat 39)), (some ((K.ofNat 38), false)), .mv (.t (K.ofNat 7))⟩, ⟨(some (K.ofNat 40)), (some ((K.ofNat 38), false)), .len (.t (K.ofNat 39))⟩, ⟨(some (K.ofNat 41)), (some ((K.ofNat 38), false)), .bin .gtr (.t (K.ofNat 40)) (.c (.i .i64 (.ofNat 64)))⟩, ⟨(some (K.ofNat 42)), none, .pick (.t (K.ofNat 38)) (.c (.b true)) (.t (K.ofNat 41))⟩, ⟨(some (K.ofNat 11)), none, .as (.t (K.ofNat 42))⟩]
noncomputable def f9_r6 : List EOper := [⟨(some (K.ofNat 12)), none, .as (.c (.b false))⟩]
noncomputable def f9_r7 : List EOper := [⟨(some (K.ofNat 13)), none, .as (.c (.i .i64 (.ofNat 0)))⟩]
noncomputable def f9_r8 : List EOper := [⟨(some (K.ofNat 43)), none, .mv (.t (K.ofNat 13))⟩, ⟨(some (K.ofNat 44)), none, .mv (.t (K.ofNat 7))⟩, ⟨(some (K.ofNat 45)), none, .len (.t (K.ofNat 44))⟩, ⟨(some (K.ofNat 46)), none, .bin .lss (.t (K.ofNat 43)) (.t (K.ofNat 45))⟩, ⟨(some (K.ofNat 47)), none, .mv (.t (K.ofNat 46))⟩, ⟨(some (K.ofNat 48)), (some ((K.ofNat 47), true)), .mv (.t (K.ofNat 11))⟩, ⟨(some (K.ofNat 49)), (some ((K.ofNat 47), true)), .not (.t (K.ofNat 48))⟩, ⟨(some (K.ofNat 50)), none, .pick (.t (K.ofNat 47)) (.t (K.ofNat 49)) (.c (.b false))⟩]
noncomputable def f9_r9 : List Stage := [⟨[⟨(some (K.ofNat 53)), none, .mv (.t (K.ofNat 7))⟩, ⟨(some (K.ofNat 54)), none, .mv (.t (K.ofNat 13))⟩, ⟨(some (K.ofNat 55)), none, .iads 1 (.t (K.ofNat 53)) (.t (K.ofNat 54))⟩, ⟨(some (K.ofNat 56)), none, .ld (.t (K.ofNat 55))⟩, ⟨(some (K.ofNat 57)), none, .bin .lss (.t (K.ofNat 56)) (.c (.i .i64 (.ofNat 0)))⟩, ⟨(some (K.ofNat 58)), none, .mv (.t (K.ofNat 57))⟩, ⟨(some (K.ofNat 59)), (some ((K.ofNat 58), false)), .mv (.t (K.ofNat 7))⟩, ⟨(some (K.ofNat 60)), (some ((K.ofNat 58), false)), .mv (.t (K.ofNat 13))⟩, ⟨(some (K.ofNat 61)), (some ((K.ofNat 58), false)), .iads 1 (.t (K.ofNat 59)) (.t (K.ofNat 60))⟩, ⟨(some (K.ofNat 62)), (some ((K.ofNat 58), false)), .ld (.t (K.ofNat 61))⟩, ⟨(some (K.ofNat 63)), (some ((K.ofNat 58), false)), .mv (.t (K.ofNat 0))⟩, ⟨(some (K.ofNat 64)), (some ((K.ofNat 58), false)), .bin .shl (.c (.i .i64 (.ofNat 1))) (.t (K.ofNat 63))⟩, ⟨(some (K.ofNat 65)), (some ((K.ofNat 58), false)), .bin .geq (.t (K.ofNat 62)) (.t (K.ofNat 64))⟩, ⟨(some (K.ofNat 66)), none, .pick (.t (K.ofNat 58)) (.c (.b true)) (.t (K.ofNat 65))⟩], [], (some ⟨(some (K.ofNat 11)), none, .as (.t (K.ofNat 66))⟩), []⟩, ⟨[], [], none, []⟩]
noncomputable def f9_r10 : List EOper := [⟨(some (K.ofNat 67)), none, .mv (.t (K.ofNat 12))⟩, ⟨(some (K.ofNat 68)), none, .mv (.t (K.ofNat 67))⟩, ⟨(some (K.ofNat 69)), (some ((K.ofNat 68), false)), .mv (.t (K.ofNat 7))⟩, ⟨(some (K.ofNat 70)), (some ((K.ofNat 68), false)), .mv (.t (K.ofNat 13))⟩, ⟨(some (K.ofNat 71)), (some ((K.ofNat 68), false)), .iads 1 (.t (K.ofNat 69)) (.t (K.ofNat 70))⟩, ⟨(some (K.ofNat 72)), (some ((K.ofNat 68), false)), .ld (.t (K.ofNat 71))⟩, ⟨(some (K.ofNat 73)), (some ((K.ofNat 68), false)), .bin .gtr (.t (K.ofNat 72)) (.c (.i .i64 (.ofNat 0)))⟩, ⟨(some (K.ofNat 74)), none, .pick (.t (K.ofNat 68)) (.c (.b true)) (.t (K.ofNat 73))⟩, ⟨(some (K.ofNat 12)), none, .as (.t (K.ofNat 74))⟩]
noncomputable def f9_r11 : List EOper := [⟨(some (K.ofNat 51)), none, .mv (.t (K.ofNat 13))⟩, ⟨(some (K.ofNat 52)), none, .bin .add (.t (K.ofNat 51)) (.c (.i .i64 (.ofNat 1)))⟩, ⟨(some (K.ofNat 13)), none, .as (.t (K.ofNat 52))⟩]
noncomputable def f9_l0 : EC := (.seq (.seq (.reg f9_r8) (.cond (.t (K.ofNat 50)) .skip (.exit 2))) (.seq (.block 3 (.seq (.draw f9_r9) (.reg f9_r10))) (.reg f9_r11)))
noncomputable def f9_r12 : List EOper := [⟨(some (K.ofNat 14)), none, .as (.c (.i .i64 (.ofNat 0)))⟩]
noncomputable def f9_r13 : List EOper := [⟨(some (K.ofNat 15)), none, .as (.c .sn)⟩]
noncomputable def f9_r14 : List EOper := [⟨(some (K.ofNat 81)), none, .mv (.t (K.ofNat 11))⟩, ⟨(some (K.ofNat 80)), none, .as (.t (K.ofNat 81))⟩]
noncomputable def f9_r15 : List EOper := [⟨(some (K.ofNat 14)), none, .as (.c (.i .i64 (.ofNat 1)))⟩]
noncomputable def f9_r16 : List EOper := [⟨(some (K.ofNat 83)), none, .mv (.t (K.ofNat 12))⟩, ⟨(some (K.ofNat 84)), none, .not (.t (K.ofNat 83))⟩, ⟨(some (K.ofNat 82)), none, .as (.t (K.ofNat 84))⟩]
noncomputable def f9_r17 : List EOper := [⟨(some (K.ofNat 14)), none, .as (.c (.i .i64 (.ofNat 4)))⟩]
noncomputable def f9_r18 : List EOper := [⟨(some (K.ofNat 75)), none, .mv (.t (K.ofNat 7))⟩, ⟨(some (K.ofNat 76)), none, .call (.c (.fn (K.ofNat 49) [])) [(.t (K.ofNat 75))]⟩, ⟨(some (K.ofNat 15)), none, .as (.t (K.ofNat 76))⟩]
noncomputable def f9_r19 : List EOper := [⟨(some (K.ofNat 77)), none, .mv (.t (K.ofNat 15))⟩, ⟨(some (K.ofNat 78)), none, .len (.t (K.ofNat 77))⟩, ⟨(some (K.ofNat 79)), none, .bin .gtr (.t (K.ofNat 78)) (.c (.i .i64 (.ofNat 10)))⟩]
noncomputable def f9_r20 : List EOper := [⟨(some (K.ofNat 14)), none, .as (.c (.i .i64 (.ofNat 8)))⟩]
noncomputable def f9_r21 : List EOper := [⟨(some (K.ofNat 85)), none, .mv (.t (K.ofNat 10))⟩, ⟨(some (K.ofNat 86)), none, .mv (.t (K.ofNat 14))⟩, ⟨(some (K.ofNat 87)), none, .bin .neq (.t (K.ofNat 85)) (.t (K.ofNat 86))⟩, ⟨(some (K.ofNat 88)), none, .mv (.t (K.ofNat 87))⟩, ⟨(some (K.ofNat 89)), (some ((K.ofNat 88), false)), .mv (.t (K.ofNat 14))⟩, ⟨(some (K.ofNat 90)), (some ((K.ofNat 88), false)), .bin .neq (.t (K.ofNat 89)) (.c (.i .i64 (.ofNat 0)))⟩, ⟨(some (K.ofNat 91)), (some ((K.ofNat 88), false)), .mv (.t (K.ofNat 90))⟩, ⟨(some (K.ofNat 92)), (some ((K.ofNat 91), true)), .mv (.t (K.ofNat 9))⟩, ⟨(some (K.ofNat 93)), (some ((K.ofNat 91), true)), .len (.t (K.ofNat 92))⟩, ⟨(some (K.ofNat 94)), (some ((K.ofNat 91), true)), .bin .neq (.t (K.ofNat 93)) (.c (.i .i64 (.ofNat 0)))⟩, ⟨(some (K.ofNat 95)), (some ((K.ofNat 88), false)), .pick (.t (K.ofNat 91)) (.t (K.ofNat 94)) (.c (.b false))⟩, ⟨(some (K.ofNat 96)), none, .pick (.t (K.ofNat 88)) (.c (.b true)) (.t (K.ofNat 95))⟩, ⟨(some (K.ofNat 97)), none, .mv (.t (K.ofNat 96))⟩, ⟨(some (K.ofNat 98)), (some ((K.ofNat 97), false)), .mv (.t (K.ofNat 14))⟩, ⟨(some (K.ofNat 99)), (some ((K.ofNat 97), false)), .bin .eql (.t (K.ofNat 98)) (.c (.i .i64 (.ofNat 0)))⟩, ⟨(some (K.ofNat 100)), (some ((K.ofNat 97), false)), .mv (.t (K.ofNat 99))⟩, ⟨(some (K.ofNat 101)), (some ((K.ofNat 100), true)), .mv (.t (K.ofNat 9))⟩, ⟨(some (K.ofNat 102)), (some ((K.ofNat 100), true)), .mv (.t (K.ofNat 15))⟩, ⟨(some (K.ofNat 103)), (some ((K.ofNat 100), true)), .call (.c (.fn (K.ofNat 32) [])) [(.t (K.ofNat 101)), (.t (K.ofNat 102))]⟩, ⟨(some (K.ofNat 104)), (some ((K.ofNat 100), true)), .not (.t (K.ofNat 103))⟩, ⟨(some (K.ofNat 105)), (some ((K.ofNat 97), false)), .pick (.t (K.ofNat 100)) (.t (K.ofNat 104)) (.c (.b false))⟩, ⟨(some (K.ofNat 106)), none, .pick (.t (K.ofNat 97)) (.c (.b true)) (.t (K.ofNat 105))⟩]
noncomputable def f9_r22 : List EOper := [⟨(some (K.ofNat 6)), none, .as (.c (.b false))⟩]
noncomputable def f9_r23 : List EOper := [⟨(some (K.ofNat 108)), none, .mv (.t (K.ofNat 0))⟩, ⟨(some (K.ofNat 109)), none, .mv (.t (K.ofNat 2))⟩, ⟨(some (K.ofNat 110)), none, .call (.c (.fn (K.ofNat 50) [])) [(.t (K.ofNat 108)), (.t (K.ofNat 109))]⟩, ⟨(some (K.ofNat 107)), none, .mv (.t (K.ofNat 110))⟩, ⟨(some (K.ofNat 111)), none, .ext (.t (K.ofNat 107)) 0⟩, ⟨(some (K.ofNat 112)), none, .ext (.t (K.ofNat 107)) 1⟩, ⟨(some (K.ofNat 16)), none, .as (.t (K.ofNat 111))⟩, ⟨(some (K.ofNat 17)), none, .as (.t (K.ofNat 112))⟩]
noncomputable def f9_r24 : List EOper := [⟨(some (K.ofNat 113)), none, .mv (.t (K.ofNat 2))⟩, ⟨(some (K.ofNat 114)), none, .bin .lss (.t (K.ofNat 113)) (.c (.i .i64 (.ofNat 2)))⟩, ⟨(some (K.ofNat 115)), none, .mv (.t (K.ofNat 114))⟩, ⟨(some (K.ofNat 116)), (some ((K.ofNat 115), false)), .mv (.t (K.ofNat 2))⟩, ⟨(some (K.ofNat 117)), (some ((K.ofNat 115), false)), .mv (.t (K.ofNat 0))⟩, ⟨(some (K.ofNat 118)), (some ((K.ofNat 115), false)), .bin .geq (.t (K.ofNat 116)) (.t (K.ofNat 117))⟩, ⟨(some (K.ofNat 119)), none, .pick (.t (K.ofNat 115)) (.c (.b true)) (.t (K.ofNat 118))⟩, ⟨(some (K.ofNat 120)), none, .mv (.t (K.ofNat 119))⟩, ⟨(some (K.ofNat 121)), (some ((K.ofNat 120), false)), .mv (.t (K.ofNat 0))⟩, ⟨(some (K.ofNat 122)), (some ((K.ofNat 120), false)), .bin .gtr (.t (K.ofNat 121)) (.c (.i .i64 (.ofNat 6)))⟩, ⟨(some (K.ofNat 123)), none, .pick (.t (K.ofNat 120)) (.c (.b true)) (.t (K.ofNat 122))⟩]
noncomputable def f9_r25 : List EOper := [⟨(some (K.ofNat 124)), none, .mv (.t (K.ofNat 17))⟩, ⟨(some (K.ofNat 125)), none, .bin .neq (.t (K.ofNat 124)) (.c (.i .i64 (.ofNat 1)))⟩, ⟨(some (K.ofNat 126)), none, .mv (.t (K.ofNat 125))⟩, ⟨(some (K.ofNat 127)), (some ((K.ofNat 126), false)), .mv (.t (K.ofNat 16))⟩, ⟨(some (K.ofNat 128)), (some ((K.ofNat 126), false)), .len (.t (K.ofNat 127))⟩, ⟨(some (K.ofNat 129)), (some ((K.ofNat 126), false)), .bin .neq (.t (K.ofNat 128)) (.c (.i .i64 (.ofNat 0)))⟩, ⟨(some (K.ofNat 130)), none, .pick (.t (K.ofNat 126)) (.c (.b true)) (.t (K.ofNat 129))⟩]
noncomputable def f9_r26 : List EOper := [⟨(some (K.ofNat 6)), none, .as (.c (.b false))⟩]
noncomputable def f9_r27 : List EOper := [⟨(some (K.ofNat 131)), none, .mv (.t (K.ofNat 17))⟩, ⟨(some (K.ofNat 132)), none, .bin .neq (.t (K.ofNat 131)) (.c (.i .i64 (.ofNat 0)))⟩, ⟨(some (K.ofNat 133)), none, .mv (.t (K.ofNat 132))⟩, ⟨(some (K.ofNat 134)), (some ((K.ofNat 133), false)), .mv (.t (K.ofNat 16))⟩, ⟨(some (K.ofNat 135)), (some ((K.ofNat 133), false)), .mv (.t (K.ofNat 0))⟩, ⟨(some (K.ofNat 136)), (some ((K.ofNat 133), false)), .mv (.t (K.ofNat 2))⟩, ⟨(some (K.ofNat 137)), (some ((K.ofNat 133), false)), .call (.c (.fn (K.ofNat 51) [])) [(.t (K.ofNat 135)), (.t (K.ofNat 136))]⟩, ⟨(some (K.ofNat 138)), (some ((K.ofNat 133), false)), .call (.c (.fn (K.ofNat 32) [])) [(.t (K.ofNat 134)), (.t (K.ofNat 137))]⟩, ⟨(some (K.ofNat 139)), (some ((K.ofNat 133), false)), .not (.t (K.ofNat 138))⟩, ⟨(some (K.ofNat 140)), none, .pick (.t (K.ofNat 133)) (.c (.b true)) (.t (K.ofNat 139))⟩]
noncomputable def f9_r28 : List EOper := [⟨(some (K.ofNat 6)), none, .as (.c (.b false))⟩]
noncomputable def f9_r29 : List EOper := [⟨(some (K.ofNat 141)), none, .mv (.t (K.ofNat 0))⟩, ⟨(some (K.ofNat 142)), none, .conv .u64 (.t (K.ofNat 141))⟩, ⟨(some (K.ofNat 143)), none, .bin .rem (.t (K.ofNat 142)) (.c (.i .u64 (.ofNat 4)))⟩, ⟨(some (K.ofNat 144)), none, .conv .i64 (.t (K.ofNat 143))⟩, ⟨(some (K.ofNat 145)), none, .bin .add (.c (.i .i64 (.ofNat 3))) (.t (K.ofNat 144))⟩, ⟨(some (K.ofNat 0)), none, .as (.t (K.ofNat 145))⟩]
noncomputable def f9_r30 : List EOper := [⟨(some (K.ofNat 146)), none, .mv (.t (K.ofNat 2))⟩, ⟨(some (K.ofNat 147)), none, .conv .u64 (.t (K.ofNat 146))⟩, ⟨(some (K.ofNat 148)), none, .mv (.t (K.ofNat 0))⟩, ⟨(some (K.ofNat 149)), none, .bin .sub (.t (K.ofNat 148)) (.c (.i .i64 (.ofNat 2)))⟩, ⟨(some (K.ofNat 150)), none, .conv .u64 (.t (K.ofNat 149))⟩, ⟨(some (K.ofNat 151)), none, .bin .rem (.t (K.ofNat 147)) (.t (K.ofNat 150))⟩, ⟨(some (K.ofNat 152)), none, .conv .i64 (.t (K.ofNat 151))⟩, ⟨(some (K.ofNat 153)), none, .bin .add (.c (.i .i64 (.ofNat 2))) (.t (K.ofNat 152))⟩, ⟨(some (K.ofNat 2)), none, .as (.t (K.ofNat 153))⟩]
noncomputable def f9_r31 : List EOper := [⟨(some (K.ofNat 18)), none, .as (.c .sn)⟩]
noncomputable def f9_r32 : List EOper := [⟨(some (K.ofNat 19)), none, .as (.c (.i .i64 (.ofNat 0)))⟩]
noncomputable def f9_r33 : List EOper := [⟨(some (K.ofNat 154)), none, .mv (.t (K.ofNat 19))⟩, ⟨(some (K.ofNat 155)), none, .mv (.t (K.ofNat 7))⟩, ⟨(some (K.ofNat 156)), none, .len (.t (K.ofNat 155))⟩, ⟨(some (K.ofNat 157)), none, .bin .lss (.t (K.ofNat 154)) (.t (K.ofNat 156))⟩, ⟨(some (K.ofNat 158)), none, .mv (.t (K.ofNat 157))⟩, ⟨(some (K.ofNat 159)), (some ((K.ofNat 158), true)), .mv (.t (K.ofNat 19))⟩, ⟨(some (K.ofNat 160)), (some ((K.ofNat 158), true)), .bin .lss (.t (K.ofNat 159)) (.c (.i .i64 (.ofNat 12)))⟩, ⟨(some (K.ofNat 161)), none, .pick (.t (K.ofNat 158)) (.t (K.ofNat 160)) (.c (.b false))⟩]
noncomputable def f9_r34 : List Stage := [⟨[⟨(some (K.ofNat 164)), none, .mv (.t (K.ofNat 18))⟩, ⟨(some (K.ofNat 165)), none, .mv (.t (K.ofNat 7))⟩, ⟨(some (K.ofNat 166)), none, .mv (.t (K.ofNat 19))⟩, ⟨(some (K.ofNat 167)), none, .iads 1 (.t (K.ofNat 165)) (.t (K.ofNat 166))⟩, ⟨(some (K.ofNat 168)), none, .ld (.t (K.ofNat 167))⟩, ⟨(some (K.ofNat 169)), none, .conv .u64 (.t (K.ofNat 168))⟩, ⟨(some (K.ofNat 170)), none, .mv (.t (K.ofNat 0))⟩, ⟨(some (K.ofNat 171)), none, .bin .shl (.c (.i .u64 (.ofNat 1))) (.t (K.ofNat 170))⟩, ⟨(some (K.ofNat 172)), none, .bin .rem (.t (K.ofNat 169)) (.t (K.ofNat 171))⟩, ⟨(some (K.ofNat 173)), none, .conv .i64 (.t (K.ofNat 172))⟩, ⟨(some (K.ofNat 174)), none, .bslice 1 1 [(.i .i64 (.ofNat 0))] [(0, 1, (.t (K.ofNat 173)))]⟩], [], (some ⟨(some (K.ofNat 175)), none, .app 1 (.t (K.ofNat 164)) (.t (K.ofNat 174))⟩), [(K.ofNat 174)]⟩, ⟨[], [], (some ⟨(some (K.ofNat 18)), none, .as (.t (K.ofNat 175))⟩), []⟩, ⟨[], [], none, []⟩]
noncomputable def f9_r35 : List EOper := [⟨(some (K.ofNat 162)), none, .mv (.t (K.ofNat 19))⟩, ⟨(some (K.ofNat 163)), none, .bin .add (.t (K.ofNat 162)) (.c (.i .i64 (.ofNat 1)))⟩, ⟨(some (K.ofNat 19)), none, .as (.t (K.ofNat 163))⟩]
noncomputable def f9_l1 : EC := (.seq (.seq (.reg f9_r33) (.cond (.t (K.ofNat 161)) .skip (.exit 5))) (.seq (.block 6 (.draw f9_r34)) (.reg f9_r35)))
noncomputable def f9_r36 : List EOper := [⟨(some (K.ofNat 176)), none, .mv (.t (K.ofNat 18))⟩, ⟨(some (K.ofNat 7)), none, .as (.t (K.ofNat 176))⟩]
noncomputable def f9_r37 : List EOper := [⟨(some (K.ofNat 24)), none, .mv (.t (K.ofNat 8))⟩, ⟨(some (K.ofNat 25)), none, .bin .add (.t (K.ofNat 24)) (.c (.i .i64 (.ofNat 1)))⟩, ⟨(some (K.ofNat 8)), none, .as (.t (K.ofNat 25))⟩]
noncomputable def f9_l2 : EC := (.seq (.seq (.reg f9_r3) (.cond (.t (K.ofNat 23)) .skip (.exit 0))) (.seq (.block 1 (.seq (.reg f9_r4) (.seq (.reg f9_r5) (.seq (.reg f9_r6) (.seq (.seq (.reg f9_r7) (.block 2 (.loop f9_l0))) (.seq (.reg f9_r12) (.seq (.reg f9_r13) (.seq (.block 4 (.seq (.reg f9_r14) (.cond (.t (K.ofNat 80)) (.reg f9_r15) (.seq (.reg f9_r16) (.cond (.t (K.ofNat 82)) (.reg f9_r17) (.seq (.reg f9_r18) (.seq (.reg f9_r19) (.cond (.t (K.ofNat 79)) (.reg f9_r20) .skip)))))))) (.seq (.seq (.reg f9_r21) (.cond (.t (K.ofNat 106)) (.seq (.reg f9_r22) .ret) .skip)) (.seq (.reg f9_r23) (.seq (.seq (.reg f9_r24) (.cond (.t (K.ofNat 123)) (.seq (.reg f9_r25) (.cond (.t (K.ofNat 130)) (.seq (.reg f9_r26) .ret) .skip)) (.seq (.reg f9_r27) (.cond (.t (K.ofNat 140)) (.seq (.reg f9_r28) .ret) .skip)))) (.seq (.reg f9_r29) (.seq (.reg f9_r30) (.seq (.reg f9_r31) (.seq (.seq (.reg f9_r32) (.block 5 (.loop f9_l1))) (.reg f9_r36)))))))))))))))) (.reg f9_r37)))
noncomputable def f9_r38 : List EOper := [⟨(some (K.ofNat 177)), none, .call (.c (.fn (K.ofNat 29) [])) []⟩, ⟨(some (K.ofNat 6)), none, .as (.t (K.ofNat 177))⟩]
noncomputable def f9_c : EC := (.seq (.reg f9_r0) (.seq (.reg f9_r1) (.seq (.seq (.reg f9_r2) (.block 0 (.loop f9_l2))) (.seq (.reg f9_r38) .ret))))
noncomputable def f9 : EF := ⟨178, [.tmp (K.ofNat 6)], f9_c, none⟩
section
variable {fs : T EF} {ro : Option K}
noncomputable def anyPos (S : List Int) : Bool := S.any fun s => decide (0 < s)
theorem shlu_n {n : Int} (h1 : 1 ≤ n) (h6 : n ≤ 6) : fw .u64 (1 * 2 ^ (min n.toNat IntKind.u64.bits)) = 2 ^ n.toNat := by
  have : n = 1 ∨ n = 2 ∨ n = 3 ∨ n = 4 ∨ n = 5 ∨ n = 6 := by omega
  rcases this with rfl | rfl | rfl | rfl | rfl | rfl <;> rfl
noncomputable def okM (n d : Int) : Bool := decide (2 ≤ d) && decide (d < n) && decide (n ≤ 6)
structure Calls9 (fs : T EF) (momL : Int → Int → List Int) : Prop where
  p53 : ∀ a b h P, CallP fs (.fn (K.ofNat 53) []) [.i .i64 a, .i .i64 b] h P = P (.b (ptI a b)) h
  p54 : ∀ a b h P, CallP fs (.fn (K.ofNat 54) []) [.i .i64 a, .i .i64 b] h P = P (.b (ptI a b)) h
  aw : ∀ h P, CallP fs (.fn (K.ofNat 29) []) [] h P = P (.b true) h
  c14 : fs.get (K.ofNat 14) = some f14
  c32 : ∀ h v u L M P, Sl iE h v L → Sl iE h u M → L.length ≤ 1000000 → P (.b (decide (L = M))) h → CallP fs (.fn (K.ofNat 32) []) [v, u] h P
  c48 : fs.get (K.ofNat 48) = some f48
  c49 : fs.get (K.ofNat 49) = some f49
  c55 : fs.get (K.ofNat 55) = some f55
  c66 : fs.get (K.ofNat 66) = some f66
  c67 : fs.get (K.ofNat 67) = some f67
  c78 : fs.get (K.ofNat 78) = some f78
  c91 : fs.get (K.ofNat 91) = some alF
  m0 : ∀ n d h P, okM n d = false → P (.tup [.sn, .i .i64 1]) h → CallP fs (.fn (K.ofNat 50) []) [.i .i64 n, .i .i64 d] h P
  m1 : ∀ n d h P, HC h → okM n d = true → (∀ u h', Sl iE h' u (momL n d) → Grow h.nx.nat h h' → P (.tup [u, .i .i64 0]) h') → CallP fs (.fn (K.ofNat 50) []) [.i .i64 n, .i .i64 d] h P
  r1 : ∀ n d h P, HC h → okM n d = true → (∀ u h', Sl iE h' u (momL n d) → Grow h.nx.nat h h' → P u h') → CallP fs (.fn (K.ofNat 51) []) [.i .i64 n, .i .i64 d] h P
  ml : ∀ n d, (momL n d).length ≤ 64
end
end Go.Ev
namespace Go.Ev
open Go Go.RowKit
noncomputable def f16_r0 : List EOper := [⟨(some (K.ofNat 4)), none, .as (.c (.i .i64 (.ofNat 0)))⟩]
noncomputable def f16_r1 : List EOper := [⟨(some (K.ofNat 9)), none, .mv (.t (K.ofNat 0))⟩, ⟨(some (K.ofNat 10)), none, .bin .lss (.t (K.ofNat 9)) (.c (.i .i64 (.ofNat 1)))⟩, ⟨(some (K.ofNat 11)), none, .mv (.t (K.ofNat 10))⟩, ⟨(some (K.ofNat 12)), (some ((K.ofNat 11), false)), .mv (.t (K.ofNat 0))⟩, ⟨(some (K.ofNat 13)), (some ((K.ofNat 11), false)), .bin .gtr (.t (K.ofNat 12)) (.c (.i .i64 (.ofNat 6)))⟩, ⟨(some (K.ofNat 14)), none, .pick (.t (K.ofNat 11)) (.c (.b true)) (.t (K.ofNat 13))⟩]
noncomputable def f16_r2 : List EOper := [⟨(some (K.ofNat 4)), none, .as (.c (.i .i64 (.ofNat 1)))⟩]
noncomputable def f16_r3 : List EOper := [⟨(some (K.ofNat 15)), none, .mv (.t (K.ofNat 1))⟩, ⟨(some (K.ofNat 16)), none, .len (.t (K.ofNat 15))⟩, ⟨(some (K.ofNat 17)), none, .bin .lss (.t (K.ofNat 16)) (.c (.i .i64 (.ofNat 1)))⟩, ⟨(some (K.ofNat 18)), none, .mv (.t (K.ofNat 17))⟩, ⟨(some (K.ofNat 19)), (some ((K.ofNat 18), false)), .mv (.t (K.ofNat 1))⟩, ⟨(some (K.ofNat 20)), (some ((K.ofNat 18), false)), .len (.t (K.ofNat 19))⟩, ⟨(some (K.ofNat 21)), (some ((K.ofNat 18), false)), .bin .gtr (.t (K.ofNat 20)) (.c (.i .i64 (.ofNat 10)))⟩, ⟨(some (K.ofNat 22)), none, .pick (.t (K.ofNat 18)) (.c (.b true)) (.t (K.ofNat 21))⟩]
noncomputable def f16_r4 : List EOper := [⟨(some (K.ofNat 4)), none, .as (.c (.i .i64 (.ofNat 10)))⟩]
noncomputable def f16_r5 : List EOper := [⟨(some (K.ofNat 23)), none, .mv (.t (K.ofNat 1))⟩, ⟨(some (K.ofNat 24)), none, .len (.t (K.ofNat 23))⟩, ⟨(some (K.ofNat 25)), none, .mv (.c (.i .i64 (.ofNat 0)))⟩]
noncomputable def f16_r6 : List EOper := [⟨(some (K.ofNat 26)), none, .bin .lss (.t (K.ofNat 25)) (.t (K.ofNat 24))⟩]
noncomputable def f16_r7 : List EOper := [⟨(some (K.ofNat 27)), none, .mv (.t (K.ofNat 25))⟩, ⟨(some (K.ofNat 28)), none, .iads 1 (.t (K.ofNat 23)) (.t (K.ofNat 25))⟩, ⟨(some (K.ofNat 29)), none, .ld (.t (K.ofNat 28))⟩, ⟨(some (K.ofNat 5)), none, .as (.t (K.ofNat 27))⟩, ⟨(some (K.ofNat 6)), none, .as (.t (K.ofNat 29))⟩]
noncomputable def f16_r8 : List EOper := [⟨(some (K.ofNat 30)), none, .mv (.t (K.ofNat 6))⟩, ⟨(some (K.ofNat 31)), none, .bin .lss (.t (K.ofNat 30)) (.c (.i .i64 (.ofNat 1)))⟩, ⟨(some (K.ofNat 32)), none, .mv (.t (K.ofNat 31))⟩, ⟨(some (K.ofNat 33)), (some ((K.ofNat 32), false)), .mv (.t (K.ofNat 6))⟩, ⟨(some (K.ofNat 34)), (some ((K.ofNat 32), false)), .mv (.t (K.ofNat 0))⟩, ⟨(some (K.ofNat 35)), (some ((K.ofNat 32), false)), .bin .shl (.c (.i .i64 (.ofNat 1))) (.t (K.ofNat 34))⟩, ⟨(some (K.ofNat 36)), (some ((K.ofNat 32), false)), .bin .geq (.t (K.ofNat 33)) (.t (K.ofNat 35))⟩, ⟨(some (K.ofNat 37)), none, .pick (.t (K.ofNat 32)) (.c (.b true)) (.t (K.ofNat 36))⟩]
noncomputable def f16_r9 : List EOper := [⟨(some (K.ofNat 4)), none, .as (.c (.i .i64 (.ofNat 10)))⟩]
noncomputable def f16_r10 : List EOper := [⟨(some (K.ofNat 38)), none, .mv (.t (K.ofNat 1))⟩, ⟨(some (K.ofNat 39)), none, .mv (.t (K.ofNat 5))⟩, ⟨(some (K.ofNat 40)), none, .slice 1 (.t (K.ofNat 38)) none (some (.t (K.ofNat 39))) none⟩, ⟨(some (K.ofNat 41)), none, .len (.t (K.ofNat 40))⟩, ⟨(some (K.ofNat 42)), none, .mv (.c (.i .i64 (.ofNat 0)))⟩]
noncomputable def f16_r11 : List EOper := [⟨(some (K.ofNat 43)), none, .bin .lss (.t (K.ofNat 42)) (.t (K.ofNat 41))⟩]
noncomputable def f16_r12 : List EOper := [⟨(some (K.ofNat 44)), none, .iads 1 (.t (K.ofNat 40)) (.t (K.ofNat 42))⟩, ⟨(some (K.ofNat 45)), none, .ld (.t (K.ofNat 44))⟩, ⟨(some (K.ofNat 8)), none, .as (.t (K.ofNat 45))⟩]
noncomputable def f16_r13 : List EOper := [⟨(some (K.ofNat 46)), none, .mv (.t (K.ofNat 8))⟩, ⟨(some (K.ofNat 47)), none, .mv (.t (K.ofNat 6))⟩, ⟨(some (K.ofNat 48)), none, .bin .geq (.t (K.ofNat 46)) (.t (K.ofNat 47))⟩, ⟨(some (K.ofNat 49)), none, .mv (.t (K.ofNat 48))⟩, ⟨(some (K.ofNat 50)), (some ((K.ofNat 49), false)), .mv (.t (K.ofNat 8))⟩, ⟨(some (K.ofNat 51)), (some ((K.ofNat 49), false)), .mv (.t (K.ofNat 6))⟩, ⟨(some (K.ofNat 52)), (some ((K.ofNat 49), false)), .call (.c (.fn (K.ofNat 54) [])) [(.t (K.ofNat 50)), (.t (K.ofNat 51))]⟩, ⟨(some (K.ofNat 53)), none, .pick (.t (K.ofNat 49)) (.c (.b true)) (.t (K.ofNat 52))⟩]
noncomputable def f16_r14 : List EOper := [⟨(some (K.ofNat 4)), none, .as (.c (.i .i64 (.ofNat 10)))⟩]
noncomputable def f16_r15 : List EOper := [⟨(some (K.ofNat 54)), none, .bin .add (.t (K.ofNat 42)) (.c (.i .i64 (.ofNat 1)))⟩, ⟨(some (K.ofNat 42)), none, .mv (.t (K.ofNat 54))⟩]
noncomputable def f16_l0 : EC := (.seq (.reg f16_r11) (.seq (.cond (.t (K.ofNat 43)) .skip (.exit 2)) (.seq (.block 3 (.seq (.reg f16_r12) (.seq (.reg f16_r13) (.cond (.t (K.ofNat 53)) (.seq (.reg f16_r14) .ret) .skip)))) (.reg f16_r15))))
noncomputable def f16_r16 : List EOper := [⟨(some (K.ofNat 55)), none, .bin .add (.t (K.ofNat 25)) (.c (.i .i64 (.ofNat 1)))⟩, ⟨(some (K.ofNat 25)), none, .mv (.t (K.ofNat 55))⟩]
noncomputable def f16_l1 : EC := (.seq (.reg f16_r6) (.seq (.cond (.t (K.ofNat 26)) .skip (.exit 0)) (.seq (.block 1 (.seq (.reg f16_r7) (.seq (.seq (.reg f16_r8) (.cond (.t (K.ofNat 37)) (.seq (.reg f16_r9) .ret) .skip)) (.seq (.reg f16_r10) (.block 2 (.loop f16_l0)))))) (.reg f16_r16))))
noncomputable def f16_r17 : List EOper := [⟨(some (K.ofNat 4)), none, .as (.c (.i .i64 (.ofNat 0)))⟩]
noncomputable def f16_c : EC := (.seq (.reg f16_r0) (.seq (.seq (.reg f16_r1) (.cond (.t (K.ofNat 14)) (.seq (.reg f16_r2) .ret) .skip)) (.seq (.seq (.reg f16_r3) (.cond (.t (K.ofNat 22)) (.seq (.reg f16_r4) .ret) .skip)) (.seq (.seq (.reg f16_r5) (.block 0 (.loop f16_l1))) (.seq (.reg f16_r17) .ret)))))
noncomputable def f16 : EF := ⟨56, [.tmp (K.ofNat 4)], f16_c, none⟩
theorem f16_rs : f16.rs = [.tmp (K.ofNat 4)] := of_eq_true (eq_self _)
section
variable {fs : T EF} {ro : Option K}
noncomputable def pairOk (x y : Int) : Bool := decide (y < x) && !ptI y x
noncomputable def okAt (n : Int) (S : List Int) (i : Nat) : Bool := decide (1 ≤ S.getD i 0) && decide (S.getD i 0 < 2 ^ n.toNat) && (S.take i).all (pairOk (S.getD i 0))
noncomputable def goodS (n : Int) (S : List Int) : Bool := decide (1 ≤ S.length) && decide (S.length ≤ 10) && (List.range S.length).all (okAt n S)
noncomputable def chkS (n : Int) (S : List Int) : Int := if n < 1 ∨ 6 < n then 1 else if goodS n S = true then 0 else 10
def f16_I0 (h : H) (v u : V) (S T : List Int) (n x : Int) (i : Nat) (j : Nat) (fr : Fr) (h1 : H) : Prop := h1 = h ∧ j ≤ T.length ∧ (T.take j).all (pairOk x) = true ∧ fr.get (K.ofNat 0) = some (.i .i64 n) ∧ fr.get (K.ofNat 1) = some (v) ∧ fr.get (K.ofNat 6) = some (.i .i64 x) ∧ fr.get (K.ofNat 23) = some (v) ∧ fr.get (K.ofNat 24) = some (.i .i64 (S.length : Int)) ∧ fr.get (K.ofNat 25) = some (.i .i64 (i : Int)) ∧ fr.get (K.ofNat 40) = some (u) ∧ fr.get (K.ofNat 41) = some (.i .i64 (T.length : Int)) ∧ fr.get (K.ofNat 42) = some (.i .i64 (j : Int))
theorem f16_inner {Q : Ex → Fr → H → Prop} {h : H} {v u : V} {S T : List Int} {n x : Int} {i : Nat} {fr : Fr}
    (hp : ∀ a b h P, CallP fs (.fn (K.ofNat 54) []) [.i .i64 a, .i .i64 b] h P = P (.b (ptI a b)) h) (hu : Sl iE h u T) (hT : T.length ≤ 10)
    (hg : fr.get (K.ofNat 0) = some (.i .i64 n) ∧ fr.get (K.ofNat 1) = some (v) ∧ fr.get (K.ofNat 6) = some (.i .i64 x) ∧ fr.get (K.ofNat 23) = some (v) ∧ fr.get (K.ofNat 24) = some (.i .i64 (S.length : Int)) ∧ fr.get (K.ofNat 25) = some (.i .i64 (i : Int)) ∧ fr.get (K.ofNat 40) = some (u) ∧ fr.get (K.ofNat 41) = some (.i .i64 (T.length : Int)) ∧ fr.get (K.ofNat 42) = some (.i .i64 0))
    (hq1 : T.all (pairOk x) = true → ∀ fr, fr.get (K.ofNat 0) = some (.i .i64 n) ∧ fr.get (K.ofNat 1) = some (v) ∧ fr.get (K.ofNat 23) = some (v) ∧ fr.get (K.ofNat 24) = some (.i .i64 (S.length : Int)) ∧ fr.get (K.ofNat 25) = some (.i .i64 (i : Int)) → Q (.exit 2) fr h)
    (hq2 : T.all (pairOk x) = false → ∀ fr, fr.get (K.ofNat 4) = some (.i .i64 10) → Q .ret fr h) :
    W fs ro (.loop f16_l0) Q fr h := by
  refine W_loop (f16_I0 h v u S T n x i) (fun j => T.length - j) ?_ 0 ⟨rfl, by omega, by simp, hg⟩
  clear hg fr
  rintro j fr h1 ⟨rfl, hj, hal, g0, g1, g6, g23, g24, g25, g40, g41, g42⟩
  unfold f16_l0
  by_cases hlt : j < T.length
  · have hlt' : (j : Int) < (T.length : Int) := by omega
    obtain ⟨p, hp1, hp2⟩ := hu.at j hlt
    have hs := all_snoc (p := pairOk x) hlt
    rw [hal, Bool.true_and] at hs
    have bad : pairOk x T[j] = false → T.all (pairOk x) = false := fun hf => by
      rw [List.all_eq_false]; exact ⟨T[j], List.getElem_mem _, by rw [hf]; simp⟩
    by_cases e1 : x ≤ T[j]
    · have hb := bad (by unfold pairOk; rw [decide_eq_false (by omega)]; rfl)
      simp (disch := omega) only [f16_r11, f16_r12, f16_r13, f16_r14, w_skip, w_reg, w_seq, w_cond, w_block, w_ret, seqK_n, seqK_r, atK_r, loopK_r, ckB_b, cbB_b, okG_b, asG_f, true_and, x_nil, x_g, x_mv, x_as, x_pick, x_ld, x_bin, x_iads, kx, rvP_ok, okv_some, ev_t, ev_c, getV_some, putD_some, bin_lss, bin_geq, pick_b, of10, getK_set, Nat.reduceEqDiff, ↓reduceIte, Bool.false_eq_true, Bool.not_true, g6, g40, g41, g42, hlt', decide_true, hp1, hp2, iE, e1]
      exact hq2 hb _ (by simp (disch := omega) only [getK_set, ↓reduceIte])
    · cases e2 : ptI T[j] x
      · simp (disch := omega) only [f16_r11, f16_r12, f16_r13, f16_r15, w_skip, w_reg, w_seq, w_cond, w_block, seqK_n, atK_n, loopK_n, ckB_b, cbB_b, okG_b, asG_f, true_and, x_nil, x_g, x_mv, x_as, x_pick, x_ld, x_bin, x_iads, x_call, kx, rvP_ok, okv_some, ev_t, ev_c, evs_nil, evs_cons, getV_some, putD_some, bin_add, bin_lss, bin_geq, pick_b, of1, getK_set, Nat.reduceEqDiff, ↓reduceIte, Bool.false_eq_true, Bool.not_false, g6, g40, g41, g42, hlt', decide_true, decide_false, hp1, hp2, iE, e1, hp, e2, fw64]
        refine ⟨j + 1, by omega, rfl, hlt, by rw [hs]; unfold pairOk; rw [decide_eq_true (by omega), e2]; rfl, by simp (disch := omega) only [getK_set, Nat.reduceEqDiff, ↓reduceIte, g0, g1, g6, g23, g24, g25, g40, g41, and_self, Int.natCast_add, Int.natCast_one]⟩
      · have hb := bad (by unfold pairOk; rw [e2, Bool.not_true, Bool.and_false])
        simp (disch := omega) only [f16_r11, f16_r12, f16_r13, f16_r14, w_skip, w_reg, w_seq, w_cond, w_block, w_ret, seqK_n, seqK_r, atK_r, loopK_r, ckB_b, cbB_b, okG_b, asG_f, true_and, x_nil, x_g, x_mv, x_as, x_pick, x_ld, x_bin, x_iads, x_call, kx, rvP_ok, okv_some, ev_t, ev_c, evs_nil, evs_cons, getV_some, putD_some, bin_lss, bin_geq, pick_b, of10, getK_set, Nat.reduceEqDiff, ↓reduceIte, Bool.false_eq_true, Bool.not_false, g6, g40, g41, g42, hlt', decide_true, decide_false, hp1, hp2, iE, e1, hp, e2]
        exact hq2 hb _ (by simp (disch := omega) only [getK_set, ↓reduceIte])
  · obtain rfl : j = T.length := by omega
    rw [List.take_length] at hal
    have hlt' : ¬ (T.length : Int) < (T.length : Int) := by omega
    simp (disch := omega) only [f16_r11, w_reg, w_seq, w_cond, w_exit, seqK_n, seqK_e, loopK_e, ckB_b, cbB_b, true_and, x_nil, x_bin, kx, rvP_ok, okv_some, ev_t, getV_some, putD_some, bin_lss, getK_set, ↓reduceIte, Bool.false_eq_true, g41, g42, hlt', decide_false]
    exact hq1 hal _ (by simp (disch := omega) only [getK_set, Nat.reduceEqDiff, ↓reduceIte, g0, g1, g23, g24, g25, and_self])

theorem okAt_bad {n : Int} {S : List Int} {i : Nat} (hi : i < S.length) (h : okAt n S i = false) : goodS n S = false := by
  unfold goodS
  have : (List.range S.length).all (okAt n S) = false := by rw [List.all_eq_false]; exact ⟨i, by simpa using hi, by rw [h]; simp⟩
  rw [this, Bool.and_false]
def f16_I1 (h : H) (v : V) (S : List Int) (n : Int) (i : Nat) (fr : Fr) (h1 : H) : Prop := h1 = h ∧ i ≤ S.length ∧ (List.range i).all (okAt n S) = true ∧ fr.get (K.ofNat 0) = some (.i .i64 n) ∧ fr.get (K.ofNat 1) = some (v) ∧ fr.get (K.ofNat 23) = some (v) ∧ fr.get (K.ofNat 24) = some (.i .i64 (S.length : Int)) ∧ fr.get (K.ofNat 25) = some (.i .i64 (i : Int))
theorem f16_ret {h : H} {v : V} {S : List Int} {n : Int}
    (hp : ∀ a b h P, CallP fs (.fn (K.ofNat 54) []) [.i .i64 a, .i .i64 b] h P = P (.b (ptI a b)) h) (hv : Sl iE h v S) : Ret fs f16 [.i .i64 n, v] h fun u h' => u = .i .i64 (chkS n S) ∧ h' = h := by
  apply ret_of rfl
  show W fs none f16_c _ _ _
  unfold f16_c
  by_cases h1 : n < 1
  · have : chkS n S = 1 := by unfold chkS; rw [if_pos (.inl h1)]
    simp (disch := omega) only [f16_r0, f16_r1, f16_r2, f16_rs, w_reg, w_seq, w_cond, w_ret, seqK_n, seqK_r, ckB_b, cbB_b, okG_b, asG_f, retK_r, x_nil, x_g, x_mv, x_as, x_pick, x_bin, kx, rvP_ok, okv_some, ev_t, ev_c, getV_some, putD_some, bin_lss, pick_b, oGet_s, readRs_nil, readRs_t, retV_1, frame_2, of0, of1, of6, Option.some.injEq, exists_eq_left', getK_set, Nat.reduceEqDiff, ↓reduceIte, Bool.false_eq_true, Bool.not_true, h1, decide_true, this, and_self]
  by_cases h6 : 6 < n
  · have : chkS n S = 1 := by unfold chkS; rw [if_pos (.inr h6)]
    simp (disch := omega) only [f16_r0, f16_r1, f16_r2, f16_rs, w_reg, w_seq, w_cond, w_ret, seqK_n, seqK_r, ckB_b, cbB_b, okG_b, asG_f, retK_r, x_nil, x_g, x_mv, x_as, x_pick, x_bin, kx, rvP_ok, okv_some, ev_t, ev_c, getV_some, putD_some, bin_lss, bin_gtr, pick_b, oGet_s, readRs_nil, readRs_t, retV_1, frame_2, of0, of1, of6, Option.some.injEq, exists_eq_left', getK_set, Nat.reduceEqDiff, ↓reduceIte, Bool.false_eq_true, Bool.not_false, h1, h6, decide_true, decide_false, this, and_self]
  have hc10 : goodS n S = false → chkS n S = 10 := fun hf => by unfold chkS; rw [if_neg (by omega), hf]; rfl
  by_cases l1 : S.length < 1
  · have l1' : (S.length : Int) < 1 := by omega
    have := hc10 (by unfold goodS; rw [decide_eq_false (by omega)]; rfl)
    simp (disch := omega) only [f16_r0, f16_r1, f16_r3, f16_r4, f16_rs, w_skip, w_reg, w_seq, w_cond, w_ret, seqK_n, seqK_r, ckB_b, cbB_b, okG_b, asG_f, retK_r, x_nil, x_g, x_mv, x_as, x_pick, x_bin, x_len, kx, rvP_ok, okv_some, ev_t, ev_c, getV_some, putD_some, bin_lss, bin_gtr, pick_b, oGet_s, readRs_nil, readRs_t, retV_1, frame_2, of0, of1, of6, of10, Option.some.injEq, exists_eq_left', getK_set, Nat.reduceEqDiff, ↓reduceIte, Bool.false_eq_true, Bool.not_true, Bool.not_false, h1, h6, l1', hv.len, decide_true, decide_false, this, and_self]
  have l1' : ¬ (S.length : Int) < 1 := by omega
  by_cases l2 : 10 < S.length
  · have l2' : (10 : Int) < (S.length : Int) := by omega
    have := hc10 (by unfold goodS; rw [decide_eq_false (show ¬ S.length ≤ 10 by omega), Bool.and_false]; rfl)
    simp (disch := omega) only [f16_r0, f16_r1, f16_r3, f16_r4, f16_rs, w_skip, w_reg, w_seq, w_cond, w_ret, seqK_n, seqK_r, ckB_b, cbB_b, okG_b, asG_f, retK_r, x_nil, x_g, x_mv, x_as, x_pick, x_bin, x_len, kx, rvP_ok, okv_some, ev_t, ev_c, getV_some, putD_some, bin_lss, bin_gtr, pick_b, oGet_s, readRs_nil, readRs_t, retV_1, frame_2, of0, of1, of6, of10, Option.some.injEq, exists_eq_left', getK_set, Nat.reduceEqDiff, ↓reduceIte, Bool.false_eq_true, Bool.not_false, h1, h6, l1', l2', hv.len, decide_true, decide_false, this, and_self]
  have l2' : ¬ (10 : Int) < (S.length : Int) := by omega
  simp (disch := omega) only [f16_r0, f16_r1, f16_r3, f16_r5, w_skip, w_reg, w_seq, w_cond, w_block, seqK_n, ckB_b, cbB_b, okG_b, asG_f, true_and, x_nil, x_g, x_mv, x_as, x_pick, x_bin, x_len, kx, rvP_ok, okv_some, ev_t, ev_c, getV_some, putD_some, bin_lss, bin_gtr, pick_b, frame_2, of0, of1, of6, of10, getK_set, Nat.reduceEqDiff, ↓reduceIte, Bool.false_eq_true, Bool.not_false, h1, h6, l1', l2', hv.len, decide_false]
  refine W_loop (f16_I1 h v S n) (fun i => S.length - i) ?_ 0 ⟨rfl, by omega, by simp, by simp (disch := omega) only [getK_set, Nat.reduceEqDiff, ↓reduceIte, and_self, Int.natCast_zero]⟩
  rintro i fr h2 ⟨rfl, hi, hal, g0, g1, g23, g24, g25⟩
  unfold f16_l1
  by_cases hlt : i < S.length
  · have hlt' : (i : Int) < (S.length : Int) := by omega
    obtain ⟨p, hp1, hp2⟩ := hv.at i hlt
    have hgd : S.getD i 0 = S[i] := by simp [List.getD, hlt]
    by_cases e1 : S[i] < 1
    · have := hc10 (okAt_bad hlt (by unfold okAt; rw [hgd, decide_eq_false (by omega)]; rfl))
      simp (disch := omega) only [f16_r6, f16_r7, f16_r8, f16_r9, f16_rs, w_skip, w_reg, w_seq, w_cond, w_block, w_ret, seqK_n, seqK_r, atK_r, loopK_r, ckB_b, cbB_b, okG_b, asG_f, retK_r, x_nil, x_g, x_mv, x_as, x_pick, x_ld, x_bin, x_iads, kx, rvP_ok, okv_some, ev_t, ev_c, getV_some, putD_some, bin_lss, pick_b, oGet_s, readRs_nil, readRs_t, retV_1, of1, of10, Option.some.injEq, exists_eq_left', getK_set, Nat.reduceEqDiff, ↓reduceIte, Bool.false_eq_true, Bool.not_true, g23, g24, g25, hlt', decide_true, hp1, hp2, iE, e1, this, and_self]
    · by_cases e2 : (2 : Int) ^ n.toNat ≤ S[i]
      · have := hc10 (okAt_bad hlt (by unfold okAt; rw [hgd, decide_eq_false (show ¬ S[i] < 2 ^ n.toNat by omega), Bool.and_false]; rfl))
        simp (disch := omega) only [f16_r6, f16_r7, f16_r8, f16_r9, f16_rs, w_skip, w_reg, w_seq, w_cond, w_block, w_ret, seqK_n, seqK_r, atK_r, loopK_r, ckB_b, cbB_b, okG_b, asG_f, retK_r, x_nil, x_g, x_mv, x_as, x_pick, x_ld, x_bin, x_iads, kx, rvP_ok, okv_some, ev_t, ev_c, getV_some, putD_some, bin_lss, bin_geq, pick_b, oGet_s, readRs_nil, readRs_t, retV_1, of1, of10, Option.some.injEq, exists_eq_left', getK_set, Nat.reduceEqDiff, ↓reduceIte, Bool.false_eq_true, Bool.not_false, g0, g23, g24, g25, hlt', decide_true, decide_false, hp1, hp2, iE, e1, e2, bin_shl, shl_n, this, and_self]
      · obtain ⟨u, q1, q2, _⟩ := hv.cut (lo := none) (hi := some (.i .i64 (i : Int))) (l := 0) (u := i) bnd_none bnd_i (by omega) (by omega)
        rw [List.drop_zero] at q2
        have hlen : (S.take i).length = i := by rw [List.length_take]; omega
        simp (disch := omega) only [f16_r6, f16_r7, f16_r8, f16_r10, w_skip, w_reg, w_seq, w_cond, w_block, seqK_n, ckB_b, cbB_b, okG_b, asG_f, true_and, x_nil, x_g, x_mv, x_as, x_pick, x_ld, x_bin, x_slice, sliceV_eq, Option.map_none, Option.map_some, x_iads, x_len, kx, rvP_ok, okv_some, ev_t, ev_c, getV_some, putD_some, bin_lss, bin_geq, pick_b, of0, of1, getK_set, Nat.reduceEqDiff, ↓reduceIte, Bool.false_eq_true, Bool.not_false, g0, g1, g23, g24, g25, hlt', decide_true, decide_false, hp1, hp2, iE, e1, e2, bin_shl, shl_n, q1, q2.len]
        refine f16_inner (v := v) (u := u) (S := S) (T := S.take i) (n := n) (x := S[i]) (i := i) hp q2 (by omega) (by simp (disch := omega) only [getK_set, Nat.reduceEqDiff, ↓reduceIte, g0, g1, g23, g24, g25, and_self]) ?_ ?_
        · clear g0 g1 g23 g24 g25
          rintro hall fr ⟨g0, g1, g23, g24, g25⟩
          simp (disch := omega) only [f16_r16, w_reg, seqK_n, atK_n, atK_e, loopK_n, x_nil, x_mv, x_bin, kx, rvP_ok, okv_some, ev_t, ev_c, getV_some, putD_some, bin_add, of1, getK_set, ↓reduceIte, g25, fw64]
          refine ⟨i + 1, by omega, rfl, hlt, ?_, by simp (disch := omega) only [getK_set, Nat.reduceEqDiff, ↓reduceIte, g0, g1, g23, g24, and_self, Int.natCast_add, Int.natCast_one]⟩
          rw [List.range_succ, List.all_append, hal, Bool.true_and]
          simp only [List.all_cons, List.all_nil, Bool.and_true]
          unfold okAt
          rw [hgd, decide_eq_true (by omega), decide_eq_true (by omega), hall]; rfl
        · rintro hall fr g4
          have := hc10 (okAt_bad hlt (by unfold okAt; rw [hgd, hall, Bool.and_false]))
          simp (disch := omega) only [f16_rs, seqK_r, atK_r, loopK_r, retK_r, getV_some, oGet_s, readRs_nil, readRs_t, retV_1, Option.some.injEq, exists_eq_left', g4, this, and_self]
  · obtain rfl : i = S.length := by omega
    have hlt' : ¬ (S.length : Int) < (S.length : Int) := by omega
    have : chkS n S = 0 := by
      unfold chkS goodS
      rw [if_neg (by omega), hal, decide_eq_true (by omega), decide_eq_true (by omega)]; rfl
    simp (disch := omega) only [f16_r6, f16_r17, f16_rs, w_reg, w_seq, w_cond, w_exit, w_ret, seqK_n, seqK_e, atK_e, loopK_e, ckB_b, cbB_b, retK_r, x_nil, x_as, x_bin, kx, rvP_ok, okv_some, ev_t, ev_c, getV_some, putD_some, bin_lss, oGet_s, readRs_nil, readRs_t, retV_1, of0, Option.some.injEq, exists_eq_left', getK_set, ↓reduceIte, Bool.false_eq_true, g24, g25, hlt', decide_false, this, and_self]
end
end Go.Ev
namespace Go.Ev
open Go Go.RowKit
noncomputable def f30_r0 : List EOper := [⟨(some (K.ofNat 4)), none, .as (.c (.i .i64 (.ofNat 0)))⟩, ⟨(some (K.ofNat 5)), none, .as (.c .sn)⟩]
noncomputable def f30_r1 : List EOper := [⟨(some (K.ofNat 9)), none, .mv (.t (K.ofNat 0))⟩, ⟨(some (K.ofNat 10)), none, .conv .u64 (.t (K.ofNat 9))⟩, ⟨(some (K.ofNat 11)), none, .bin .rem (.t (K.ofNat 10)) (.c (.i .u64 (.ofNat 6)))⟩, ⟨(some (K.ofNat 12)), none, .conv .i64 (.t (K.ofNat 11))⟩, ⟨(some (K.ofNat 13)), none, .bin .add (.c (.i .i64 (.ofNat 1))) (.t (K.ofNat 12))⟩, ⟨(some (K.ofNat 0)), none, .as (.t (K.ofNat 13))⟩]
noncomputable def f30_r2 : List EOper := [⟨(some (K.ofNat 14)), none, .bslice 1 1 [(.i .i64 (.ofNat 0))] [(0, 1, (.c (.i .i64 (.ofNat 1))))]⟩, ⟨(some (K.ofNat 6)), none, .as (.t (K.ofNat 14))⟩]
noncomputable def f30_r3 : List EOper := [⟨(some (K.ofNat 7)), none, .as (.c (.i .i64 (.ofNat 0)))⟩]
noncomputable def f30_r4 : List EOper := [⟨(some (K.ofNat 15)), none, .mv (.t (K.ofNat 7))⟩, ⟨(some (K.ofNat 16)), none, .mv (.t (K.ofNat 1))⟩, ⟨(some (K.ofNat 17)), none, .len (.t (K.ofNat 16))⟩, ⟨(some (K.ofNat 18)), none, .bin .lss (.t (K.ofNat 15)) (.t (K.ofNat 17))⟩, ⟨(some (K.ofNat 19)), none, .mv (.t (K.ofNat 18))⟩, ⟨(some (K.ofNat 20)), (some ((K.ofNat 19), true)), .mv (.t (K.ofNat 7))⟩, ⟨(some (K.ofNat 21)), (some ((K.ofNat 19), true)), .bin .lss (.t (K.ofNat 20)) (.c (.i .i64 (.ofNat 10)))⟩, ⟨(some (K.ofNat 22)), none, .pick (.t (K.ofNat 19)) (.t (K.ofNat 21)) (.c (.b false))⟩]
noncomputable def f30_r5 : List Stage := [⟨[⟨(some (K.ofNat 25)), none, .mv (.t (K.ofNat 6))⟩, ⟨(some (K.ofNat 26)), none, .mv (.t (K.ofNat 1))⟩, ⟨(some (K.ofNat 27)), none, .mv (.t (K.ofNat 7))⟩, ⟨(some (K.ofNat 28)), none, .iads 1 (.t (K.ofNat 26)) (.t (K.ofNat 27))⟩, ⟨(some (K.ofNat 29)), none, .ld (.t (K.ofNat 28))⟩, ⟨(some (K.ofNat 30)), none, .conv .u64 (.t (K.ofNat 29))⟩, ⟨(some (K.ofNat 31)), none, .mv (.t (K.ofNat 0))⟩, ⟨(some (K.ofNat 32)), none, .bin .shl (.c (.i .u64 (.ofNat 1))) (.t (K.ofNat 31))⟩, ⟨(some (K.ofNat 33)), none, .bin .rem (.t (K.ofNat 30)) (.t (K.ofNat 32))⟩, ⟨(some (K.ofNat 34)), none, .conv .i64 (.t (K.ofNat 33))⟩, ⟨(some (K.ofNat 35)), none, .bslice 1 1 [(.i .i64 (.ofNat 0))] [(0, 1, (.t (K.ofNat 34)))]⟩], [], (some ⟨(some (K.ofNat 36)), none, .app 1 (.t (K.ofNat 25)) (.t (K.ofNat 35))⟩), [(K.ofNat 35)]⟩, ⟨[], [], (some ⟨(some (K.ofNat 6)), none, .as (.t (K.ofNat 36))⟩), []⟩, ⟨[], [], none, []⟩]
noncomputable def f30_r6 : List EOper := [⟨(some (K.ofNat 23)), none, .mv (.t (K.ofNat 7))⟩, ⟨(some (K.ofNat 24)), none, .bin .add (.t (K.ofNat 23)) (.c (.i .i64 (.ofNat 1)))⟩, ⟨(some (K.ofNat 7)), none, .as (.t (K.ofNat 24))⟩]
noncomputable def f30_l0 : EC := (.seq (.seq (.reg f30_r4) (.cond (.t (K.ofNat 22)) .skip (.exit 0))) (.seq (.block 1 (.draw f30_r5)) (.reg f30_r6)))
noncomputable def f30_r7 : List EOper := [⟨(some (K.ofNat 37)), none, .mv (.t (K.ofNat 6))⟩, ⟨(some (K.ofNat 38)), none, .call (.c (.fn (K.ofNat 49) [])) [(.t (K.ofNat 37))]⟩, ⟨(some (K.ofNat 8)), none, .as (.t (K.ofNat 38))⟩]
noncomputable def f30_r8 : List EOper := [⟨(some (K.ofNat 39)), none, .mv (.t (K.ofNat 8))⟩, ⟨(some (K.ofNat 40)), none, .len (.t (K.ofNat 39))⟩, ⟨(some (K.ofNat 41)), none, .bin .gtr (.t (K.ofNat 40)) (.c (.i .i64 (.ofNat 1)))⟩, ⟨(some (K.ofNat 42)), none, .mv (.t (K.ofNat 41))⟩, ⟨(some (K.ofNat 43)), (some ((K.ofNat 42), true)), .mv (.t (K.ofNat 8))⟩, ⟨(some (K.ofNat 44)), (some ((K.ofNat 42), true)), .iads 1 (.t (K.ofNat 43)) (.c (.i .i64 (.ofNat 0)))⟩, ⟨(some (K.ofNat 45)), (some ((K.ofNat 42), true)), .ld (.t (K.ofNat 44))⟩, ⟨(some (K.ofNat 46)), (some ((K.ofNat 42), true)), .bin .eql (.t (K.ofNat 45)) (.c (.i .i64 (.ofNat 0)))⟩, ⟨(some (K.ofNat 47)), none, .pick (.t (K.ofNat 42)) (.t (K.ofNat 46)) (.c (.b false))⟩]
noncomputable def f30_r9 : List EOper := [⟨(some (K.ofNat 48)), none, .mv (.t (K.ofNat 8))⟩, ⟨(some (K.ofNat 49)), none, .slice 1 (.t (K.ofNat 48)) (some (.c (.i .i64 (.ofNat 1)))) none none⟩, ⟨(some (K.ofNat 8)), none, .as (.t (K.ofNat 49))⟩]
noncomputable def f30_r10 : List Stage := [⟨[⟨(some (K.ofNat 50)), none, .mv (.t (K.ofNat 0))⟩, ⟨(some (K.ofNat 51)), none, .mv (.t (K.ofNat 8))⟩, ⟨(some (K.ofNat 52)), none, .mv (.t (K.ofNat 8))⟩, ⟨(some (K.ofNat 53)), none, .len (.t (K.ofNat 52))⟩, ⟨(some (K.ofNat 54)), none, .min (.t (K.ofNat 53)) (.c (.i .i64 (.ofNat 10)))⟩, ⟨(some (K.ofNat 55)), none, .mv (.t (K.ofNat 8))⟩, ⟨(some (K.ofNat 56)), none, .len (.t (K.ofNat 55))⟩, ⟨(some (K.ofNat 57)), none, .min (.t (K.ofNat 56)) (.c (.i .i64 (.ofNat 10)))⟩, ⟨(some (K.ofNat 58)), none, .slice 1 (.t (K.ofNat 51)) none (some (.t (K.ofNat 54))) (some (.t (K.ofNat 57)))⟩], [], (some ⟨(some (K.ofNat 4)), none, .as (.t (K.ofNat 50))⟩), []⟩, ⟨[], [⟨(some (K.ofNat 51)), none, .mv (.t (K.ofNat 8))⟩, ⟨(some (K.ofNat 52)), none, .mv (.t (K.ofNat 8))⟩, ⟨(some (K.ofNat 53)), none, .len (.t (K.ofNat 52))⟩, ⟨(some (K.ofNat 54)), none, .min (.t (K.ofNat 53)) (.c (.i .i64 (.ofNat 10)))⟩, ⟨(some (K.ofNat 55)), none, .mv (.t (K.ofNat 8))⟩, ⟨(some (K.ofNat 56)), none, .len (.t (K.ofNat 55))⟩, ⟨(some (K.ofNat 57)), none, .min (.t (K.ofNat 56)) (.c (.i .i64 (.ofNat 10)))⟩, ⟨(some (K.ofNat 58)), none, .slice 1 (.t (K.ofNat 51)) none (some (.t (K.ofNat 54))) (some (.t (K.ofNat 57)))⟩], (some ⟨(some (K.ofNat 5)), none, .as (.t (K.ofNat 58))⟩), []⟩, ⟨[], [], none, []⟩]
noncomputable def f30_c : EC := (.seq (.reg f30_r0) (.seq (.reg f30_r1) (.seq (.reg f30_r2) (.seq (.seq (.reg f30_r3) (.block 0 (.loop f30_l0))) (.seq (.reg f30_r7) (.seq (.seq (.reg f30_r8) (.cond (.t (K.ofNat 47)) (.reg f30_r9) .skip)) (.seq (.draw f30_r10) .ret)))))))
noncomputable def f30 : EF := ⟨59, [.tmp (K.ofNat 4), .tmp (K.ofNat 5)], f30_c, none⟩
theorem f30_rs : f30.rs = [.tmp (K.ofNat 4), .tmp (K.ofNat 5)] := of_eq_true (eq_self _)
section
variable {fs : T EF} {ro : Option K}
noncomputable def tameN (n : Int) : Int := fw .i64 (1 + fw .i64 ((fw .u64 n).tmod 6))
theorem tameN_in (n : Int) : 1 ≤ tameN n ∧ tameN n ≤ 6 := by
  have h0 : 0 ≤ fw .u64 n := by rw [fw_eq]; exact Int.emod_nonneg _ (by decide)
  obtain ⟨m, hm⟩ := Int.eq_ofNat_of_zero_le h0
  have h1 : (fw .u64 n).tmod 6 = ((m % 6 : Nat) : Int) := by rw [hm]; rfl
  unfold tameN
  have e1 : fw .i64 ((m % 6 : Nat) : Int) = ((m % 6 : Nat) : Int) := fw64 (by omega) (by omega)
  rw [h1, e1, fw64 (by omega) (by omega)]
  omega
noncomputable def tameX (N x : Int) : Int := fw .i64 ((fw .u64 x).tmod (2 ^ N.toNat))
noncomputable def tameS (N : Int) (L : List Int) (i : Nat) : List Int := 1 :: (L.take i).map (tameX N)
noncomputable def tameP (N : Int) (L : List Int) : List Int := (fun p : List Int => if 1 < p.length ∧ p[0]? = some 0 then p.drop 1 else p) (piecesTo (tameS N L 10) 64)
theorem tameS_succ {N : Int} {L : List Int} {i : Nat} (hi : i < L.length) : tameS N L (i + 1) = tameS N L i ++ [tameX N L[i]] := by
  unfold tameS; rw [List.take_succ_eq_append_getElem hi, List.map_append]; rfl
theorem tameS_len {N : Int} {L : List Int} {i : Nat} : (tameS N L i).length ≤ i + 1 := by
  unfold tameS; rw [List.length_cons, List.length_map, List.length_take]; omega
def f30_I (h : H) (v : V) (L : List Int) (N : Int) (i : Nat) (fr : Fr) (h1 : H) : Prop := ∃ o, i ≤ L.length ∧ i ≤ 10 ∧ Sl iE h1 o (tameS N L i) ∧ Own h.nx.nat o ∧ Grow h.nx.nat h h1 ∧ fr.get (K.ofNat 0) = some (.i .i64 N) ∧ fr.get (K.ofNat 1) = some (v) ∧ fr.get (K.ofNat 6) = some (o) ∧ fr.get (K.ofNat 7) = some (.i .i64 (i : Int))
theorem f30_loop {Q : Ex → Fr → H → Prop} {h h0 : H} {v : V} {L : List Int} {N : Int} {fr : Fr} (hv : Sl iE h v L) (hc : HC h) (hn1 : 1 ≤ N) (hn6 : N ≤ 6)
    (hi0 : f30_I h v L N 0 fr h0)
    (hq : ∀ fr h1 o, Sl iE h1 o (tameS N L 10) → Own h.nx.nat o → Grow h.nx.nat h h1 → fr.get (K.ofNat 0) = some (.i .i64 N) ∧ fr.get (K.ofNat 1) = some (v) ∧ fr.get (K.ofNat 6) = some (o) → Q (.exit 0) fr h1) :
    W fs ro (.loop f30_l0) Q fr h0 := by
  refine W_loop (f30_I h v L N) (fun i => L.length - i) ?_ 0 hi0
  clear hi0 fr
  rintro i fr h1 ⟨o, hi, hi2, hso, hoo, hgr, g0, g1, g6, g7⟩
  have hv1 := hv.grow hc hgr
  have hc1 := hgr.hc hc
  unfold f30_l0
  by_cases hlt : i < L.length
  · have hlt' : (i : Int) < (L.length : Int) := by omega
    by_cases h12 : i < 10
    · have h12' : (i : Int) < 10 := by omega
      obtain ⟨p, hp1, hp2⟩ := hv1.at i hlt
      have hpw : (2 : Int) ^ N.toNat ≠ 0 := by
        have : N = 1 ∨ N = 2 ∨ N = 3 ∨ N = 4 ∨ N = 5 ∨ N = 6 := by omega
        rcases this with rfl | rfl | rfl | rfl | rfl | rfl <;> decide
      have hrem : ∀ a, binV .rem (.i .u64 a) (.i .u64 (2 ^ N.toNat)) = some (.i .u64 (a.tmod (2 ^ N.toNat))) := fun a => bin_rem hpw
      obtain ⟨v', h', q1, q2, q3, q4, q5⟩ := Sl.push (e := iE) (L := tameS N L i) (x := tameX N L[i]) (c := .i .i64 (fw .i64 ((fw .u64 L[i]).tmod (2 ^ N.toNat)))) rfl hso hoo hgr.nx hc1 (by have := tameS_len (N := N) (L := L) (i := i); omega)
      simp (disch := omega) only [f30_r4, f30_r5, w_skip, w_reg, w_draw, w_seq, w_cond, w_block, seqK_n, atK_n, ckB_b, cbB_b, okG_b, asG_t, true_and, x_nil, x_g, x_mv, x_as, x_pick, x_bin, x_len, x_app, kx, kg, xg_nil, xg_mv, xg_ld, xg_bin, xg_conv, xg_iads, xg_bslice, xd_cons, fresh_nil, stK_n, stK_s, stay_nil, rvP_ok, okv_some, ev_t, ev_c, getV_some, putD_some, bin_lss, pick_b, onI_i, oGet_s, cells1_i, fill_1, set_1, of0, of1, of10, Option.some.injEq, exists_eq_left', getK_set, Nat.reduceEqDiff, ↓reduceIte, g0, g1, g6, g7, hv1.len, hlt', h12', decide_true, hp1, hp2, iE, bin_shl, shlu_n, hrem, hc1.dead, q1]
      refine ⟨fresh_one (n := 1) (sz := 1) (by simp (disch := omega) only [getK_set, ↓reduceIte]), ?_⟩
      simp (disch := omega) only [f30_r6, loopK_n, x_nil, x_mv, x_as, x_bin, kx, rvP_ok, okv_some, ev_t, ev_c, getV_some, putD_some, bin_add, of1, getK_set, Nat.reduceEqDiff, ↓reduceIte, g7, fw64]
      exact ⟨i + 1, by omega, v', hlt, h12, by rw [tameS_succ hlt]; exact q2, q3, hgr.trans q4, by simp (disch := omega) only [getK_set, Nat.reduceEqDiff, ↓reduceIte, g0, g1, and_self, Int.natCast_add, Int.natCast_one]⟩
    · have h12' : ¬ (i : Int) < 10 := by omega
      obtain rfl : i = 10 := by omega
      simp (disch := omega) only [f30_r4, w_reg, w_seq, w_cond, w_exit, seqK_n, seqK_e, loopK_e, ckB_b, cbB_b, okG_b, asG_t, true_and, x_nil, x_g, x_mv, x_pick, x_bin, x_len, kx, rvP_ok, okv_some, ev_t, ev_c, getV_some, putD_some, bin_lss, pick_b, of10, getK_set, Nat.reduceEqDiff, ↓reduceIte, Bool.false_eq_true, g1, g7, hv1.len, hlt', h12', decide_true, decide_false]
      exact hq _ _ o hso hoo hgr (by simp (disch := omega) only [getK_set, Nat.reduceEqDiff, ↓reduceIte, g0, g1, g6, and_self])
  · have hlt' : ¬ (i : Int) < (L.length : Int) := by omega
    simp (disch := omega) only [f30_r4, w_reg, w_seq, w_cond, w_exit, seqK_n, seqK_e, loopK_e, ckB_b, cbB_b, okG_b, asG_t, true_and, x_nil, x_g, x_mv, x_pick, x_bin, x_len, kx, rvP_ok, okv_some, ev_t, ev_c, getV_some, putD_some, bin_lss, pick_b, of10, getK_set, Nat.reduceEqDiff, ↓reduceIte, Bool.false_eq_true, g1, g7, hv1.len, hlt', decide_false]
    refine hq _ _ o ?_ hoo hgr (by simp (disch := omega) only [getK_set, Nat.reduceEqDiff, ↓reduceIte, g0, g1, g6, and_self])
    have : tameS N L 10 = tameS N L i := by
      unfold tameS
      rw [List.take_of_length_le (show L.length ≤ 10 by omega), List.take_of_length_le (show L.length ≤ i by omega)]
    rw [this]; exact hso
theorem f30_ret {h : H} {v : V} {L : List Int} {n : Int}
    (hp : ∀ a b h P, CallP fs (.fn (K.ofNat 53) []) [.i .i64 a, .i .i64 b] h P = P (.b (ptI a b)) h) (h49 : fs.get (K.ofNat 49) = some f49) (hv : Sl iE h v L) (hc : HC h) :
    Ret fs f30 [.i .i64 n, v] h fun r h' => ∃ u, r = .tup [.i .i64 (tameN n), u] ∧ Sl iE h' u ((tameP (tameN n) L).take 10) ∧ Own h.nx.nat u ∧ Grow h.nx.nat h h' := by
  apply ret_of rfl
  show W fs none f30_c _ _ _
  unfold f30_c
  obtain ⟨n1, n6⟩ := tameN_in n
  have hnn : fw .i64 (1 + fw .i64 ((fw .u64 n).tmod 6)) = tameN n := rfl
  simp (disch := omega) only [f30_r0, f30_r1, f30_r2, f30_r3, w_reg, w_seq, w_block, seqK_n, x_nil, x_mv, x_as, x_bslice, x_bin, x_conv, kx, rvP_ok, okv_some, ev_t, ev_c, getV_some, putD_some, bin_add, bin_rem, onI_i, oGet_s, frame_2, cells1_i, fill_1, set_1, of0, of1, of6, getK_set, Nat.reduceEqDiff, ↓reduceIte, hnn]
  refine f30_loop (h := h) (v := v) (L := L) (N := tameN n) hv hc n1 n6 ⟨.sl h.nx 0 1 1, by omega, by omega, Sl.lit (e := iE) (x := 1), fun _ _ _ _ e => by cases e; exact Nat.le_refl _, Grow.new (Nat.le_refl _) _, by simp (disch := omega) only [getK_set, Nat.reduceEqDiff, ↓reduceIte, and_self, Int.natCast_zero]⟩ ?_
  rintro fr h1 o hso hoo hgr ⟨g0, g1, g6⟩
  have hc1 := hgr.hc hc
  simp (disch := omega) only [f30_r7, w_reg, w_seq, seqK_n, atK_e, x_mv, x_call, ev_t, ev_c, evs_nil, evs_cons, getV_some, putD_some, getK_set, ↓reduceIte, g6]
  refine (callP_0 (ef := f49) h49 rfl (f49_ret hp hso (by have := tameS_len (N := tameN n) (L := L) (i := 10); omega) hc1)).mono ?_
  rintro w h2 ⟨hsw, how, gr2⟩
  have gr := hgr.trans (gr2.low hgr.nx)
  have how' : Own h.nx.nat w := how.low hgr.nx
  generalize hP : piecesTo (tameS (tameN n) L 10) 64 = P at *
  have hlenP : P.length ≤ 64 := by rw [← hP]; exact piecesTo_len
  -- the end
  have fin : ∀ (w : V) (M : List Int) (fr : Fr), Sl iE h2 w M → Own h.nx.nat w → M = tameP (tameN n) L → fr.get (K.ofNat 0) = some (.i .i64 (tameN n)) ∧ fr.get (K.ofNat 8) = some (w) →
      W fs none (.seq (.draw f30_r10) .ret) (retK f30 fun r h' => ∃ u, r = .tup [.i .i64 (tameN n), u] ∧ Sl iE h' u ((tameP (tameN n) L).take 10) ∧ Own h.nx.nat u ∧ Grow h.nx.nat h h') fr h2 := by
    clear g0 g1 g6 fr
    rintro w M fr hsw how hM ⟨g0, g8⟩
    have hmin : min (M.length : Int) 10 = ((min M.length 10 : Nat) : Int) := by omega
    obtain ⟨x, x1, x2, x3, _⟩ := Sl.cut3 (k := .i64) (k' := .i64) (m := min M.length 10) hsw (by omega)
    rw [show M.take (min M.length 10) = M.take 10 by rw [Nat.min_comm, List.take_eq_take_iff]; omega] at x2
    simp (disch := omega) only [f30_r10, f30_rs, w_draw, w_seq, w_ret, seqK_n, true_and, retK_r, x_nil, x_as, sliceV_eq, Option.map_none, Option.map_some, kg, xg_nil, xg_mv, xg_slice, xg_len, xg_min, xd_cons, fresh_nil, stK_n, stK_s, stay_nil, stay_cons, again_ok, stay_mv, stay_len, stay_min, stay_slice, beq_i, rvP_ok, ev_t, ev_c, getV_some, putD_some, oGet_s, min_ii, readRs_nil, readRs_t, retV_2, of10, Option.some.injEq, exists_eq_left', getK_set, Nat.reduceEqDiff, ↓reduceIte, g0, g8, hsw.len, hmin, x1, hsw.beq, x2.beq, and_self]
    exact ⟨x, rfl, by rw [← hM]; exact x2, x3 _ how, gr⟩
  by_cases h1 : 1 < P.length
  · have h1' : (1 : Int) < (P.length : Int) := by omega
    obtain ⟨p, hp1, hp2⟩ := hsw.at 0 (by omega)
    have hp1' : ∀ k h1, iadsV 1 w (.i k 0) h1 = .ok p h1 := fun k h1 => hp1 k h1
    have hz : P[0]? = some P[0] := by rw [List.getElem?_eq_getElem]
    by_cases e0 : P[0] = 0
    · obtain ⟨x, x1, x2, x3, _⟩ := hsw.cut (lo := some (.i .i64 1)) (hi := none) (l := 1) (u := P.length) rfl bnd_none (by omega) (Nat.le_refl _)
      rw [List.take_length] at x2
      simp (disch := omega) only [f30_r8, f30_r9, w_reg, w_draw, w_seq, w_cond, seqK_n, ckB_b, cbB_b, okG_b, asG_t, true_and, x_nil, x_g, x_mv, x_as, x_pick, x_ld, x_bin, x_slice, sliceV_eq, Option.map_none, Option.map_some, x_iads, x_len, kx, rvP_ok, okv_some, ev_t, ev_c, getV_some, putD_some, bin_eql, bin_gtr, pick_b, of0, of1, getK_set, Nat.reduceEqDiff, ↓reduceIte, hsw.len, h1', decide_true, hp1', hp2, iE, e0, x1]
      exact fin x (P.drop 1) _ x2 (x3 _ how') (by unfold tameP; rw [hP]; simp only []; rw [if_pos ⟨h1, by rw [hz, e0]⟩]) (by simp (disch := omega) only [getK_set, Nat.reduceEqDiff, ↓reduceIte, g0, and_self])
    · simp (disch := omega) only [f30_r8, f30_r9, w_skip, w_reg, w_draw, w_seq, w_cond, seqK_n, ckB_b, cbB_b, okG_b, asG_t, true_and, x_nil, x_g, x_mv, x_as, x_pick, x_ld, x_bin, x_iads, x_len, kx, rvP_ok, okv_some, ev_t, ev_c, getV_some, putD_some, bin_eql, bin_gtr, pick_b, of0, of1, getK_set, Nat.reduceEqDiff, ↓reduceIte, Bool.false_eq_true, hsw.len, h1', decide_true, decide_false, hp1', hp2, iE, e0]
      exact fin w P _ hsw how' (by unfold tameP; rw [hP]; simp only []; rw [if_neg (fun h => e0 (by rw [hz] at h; exact Option.some.inj h.2))]) (by simp (disch := omega) only [getK_set, Nat.reduceEqDiff, ↓reduceIte, g0, and_self])
  · have h1' : ¬ (1 : Int) < (P.length : Int) := by omega
    simp (disch := omega) only [f30_r8, f30_r9, w_skip, w_reg, w_draw, w_seq, w_cond, seqK_n, ckB_b, cbB_b, okG_b, asG_t, true_and, x_nil, x_g, x_mv, x_as, x_pick, x_bin, x_len, kx, rvP_ok, okv_some, ev_t, ev_c, getV_some, putD_some, bin_gtr, pick_b, of0, of1, getK_set, Nat.reduceEqDiff, ↓reduceIte, Bool.false_eq_true, hsw.len, h1', decide_false]
    exact fin w P _ hsw how' (by unfold tameP; rw [hP]; simp only []; rw [if_neg (fun h => h1 h.1)]) (by simp (disch := omega) only [getK_set, Nat.reduceEqDiff, ↓reduceIte, g0, and_self])
end
end Go.Ev
namespace Go.Ev
open Go Go.RowKit
noncomputable def f94_r0 : List EOper := [⟨(some (K.ofNat 2)), none, .as (.c (.i .i64 (.ofNat 0)))⟩]
noncomputable def f94_r1 : List EOper := [⟨(some (K.ofNat 3)), none, .as (.c (.i .i64 (.ofNat 0)))⟩]
noncomputable def f94_r2 : List EOper := [⟨(some (K.ofNat 8)), none, .mv (.t (K.ofNat 0))⟩, ⟨(some (K.ofNat 9)), none, .len (.t (K.ofNat 8))⟩, ⟨(some (K.ofNat 10)), none, .mv (.c (.i .i64 (.ofNat 0)))⟩]
noncomputable def f94_r3 : List EOper := [⟨(some (K.ofNat 11)), none, .bin .lss (.t (K.ofNat 10)) (.t (K.ofNat 9))⟩]
noncomputable def f94_r4 : List EOper := [⟨(some (K.ofNat 12)), none, .mv (.t (K.ofNat 10))⟩, ⟨(some (K.ofNat 4)), none, .as (.t (K.ofNat 12))⟩]
noncomputable def f94_r5 : List EOper := [⟨(some (K.ofNat 13)), none, .mv (.t (K.ofNat 0))⟩, ⟨(some (K.ofNat 14)), none, .mv (.t (K.ofNat 4))⟩, ⟨(some (K.ofNat 15)), none, .iads 1 (.t (K.ofNat 13)) (.t (K.ofNat 14))⟩, ⟨(some (K.ofNat 16)), none, .ld (.t (K.ofNat 15))⟩, ⟨(some (K.ofNat 5)), none, .as (.t (K.ofNat 16))⟩]
noncomputable def f94_r6 : List EOper := [⟨(some (K.ofNat 17)), none, .mv (.t (K.ofNat 5))⟩, ⟨(some (K.ofNat 18)), none, .bin .eql (.t (K.ofNat 17)) (.c (.i .u64 (.ofNat 0)))⟩]
noncomputable def f94_r7 : List EOper := [⟨(some (K.ofNat 19)), none, .mv (.t (K.ofNat 3))⟩, ⟨(some (K.ofNat 20)), none, .bin .add (.t (K.ofNat 19)) (.c (.i .i64 (.ofNat 1)))⟩, ⟨(some (K.ofNat 3)), none, .as (.t (K.ofNat 20))⟩]
noncomputable def f94_r8 : List EOper := [⟨(some (K.ofNat 21)), none, .mv (.t (K.ofNat 5))⟩, ⟨(some (K.ofNat 22)), none, .mv (.t (K.ofNat 5))⟩, ⟨(some (K.ofNat 23)), none, .neg (.t (K.ofNat 22))⟩, ⟨(some (K.ofNat 24)), none, .bin .and (.t (K.ofNat 21)) (.t (K.ofNat 23))⟩, ⟨(some (K.ofNat 6)), none, .as (.t (K.ofNat 24))⟩]
noncomputable def f94_r9 : List EOper := [⟨(some (K.ofNat 25)), none, .mv (.t (K.ofNat 4))⟩, ⟨(some (K.ofNat 26)), none, .bin .add (.t (K.ofNat 25)) (.c (.i .i64 (.ofNat 1)))⟩, ⟨(some (K.ofNat 7)), none, .as (.t (K.ofNat 26))⟩]
noncomputable def f94_r10 : List EOper := [⟨(some (K.ofNat 27)), none, .mv (.t (K.ofNat 7))⟩, ⟨(some (K.ofNat 28)), none, .mv (.t (K.ofNat 0))⟩, ⟨(some (K.ofNat 29)), none, .len (.t (K.ofNat 28))⟩, ⟨(some (K.ofNat 30)), none, .bin .lss (.t (K.ofNat 27)) (.t (K.ofNat 29))⟩]
noncomputable def f94_r11 : List EOper := [⟨(some (K.ofNat 33)), none, .mv (.t (K.ofNat 0))⟩, ⟨(some (K.ofNat 34)), none, .mv (.t (K.ofNat 7))⟩, ⟨(some (K.ofNat 35)), none, .iads 1 (.t (K.ofNat 33)) (.t (K.ofNat 34))⟩, ⟨(some (K.ofNat 36)), none, .ld (.t (K.ofNat 35))⟩, ⟨(some (K.ofNat 37)), none, .mv (.t (K.ofNat 6))⟩, ⟨(some (K.ofNat 38)), none, .bin .and (.t (K.ofNat 36)) (.t (K.ofNat 37))⟩, ⟨(some (K.ofNat 39)), none, .bin .neq (.t (K.ofNat 38)) (.c (.i .u64 (.ofNat 0)))⟩]
noncomputable def f94_r12 : List EOper := [⟨(some (K.ofNat 40)), none, .mv (.t (K.ofNat 0))⟩, ⟨(some (K.ofNat 41)), none, .mv (.t (K.ofNat 7))⟩, ⟨(some (K.ofNat 42)), none, .iads 1 (.t (K.ofNat 40)) (.t (K.ofNat 41))⟩, ⟨(some (K.ofNat 43)), none, .ld (.t (K.ofNat 42))⟩, ⟨(some (K.ofNat 44)), none, .mv (.t (K.ofNat 5))⟩, ⟨(some (K.ofNat 45)), none, .bin .xor (.t (K.ofNat 43)) (.t (K.ofNat 44))⟩, ⟨(some (K.ofNat 46)), none, .iads 1 (.t (K.ofNat 40)) (.t (K.ofNat 41))⟩, ⟨none, none, .st 1 (.t (K.ofNat 46)) (.t (K.ofNat 45))⟩]
noncomputable def f94_r13 : List EOper := [⟨(some (K.ofNat 31)), none, .mv (.t (K.ofNat 7))⟩, ⟨(some (K.ofNat 32)), none, .bin .add (.t (K.ofNat 31)) (.c (.i .i64 (.ofNat 1)))⟩, ⟨(some (K.ofNat 7)), none, .as (.t (K.ofNat 32))⟩]
noncomputable def f94_l0 : EC := (.seq (.seq (.reg f94_r10) (.cond (.t (K.ofNat 30)) .skip (.exit 2))) (.seq (.block 3 (.seq (.reg f94_r11) (.cond (.t (K.ofNat 39)) (.reg f94_r12) .skip))) (.reg f94_r13)))
noncomputable def f94_r14 : List EOper := [⟨(some (K.ofNat 47)), none, .bin .add (.t (K.ofNat 10)) (.c (.i .i64 (.ofNat 1)))⟩, ⟨(some (K.ofNat 10)), none, .mv (.t (K.ofNat 47))⟩]
noncomputable def f94_l1 : EC := (.seq (.reg f94_r3) (.seq (.cond (.t (K.ofNat 11)) .skip (.exit 0)) (.seq (.block 1 (.seq (.reg f94_r4) (.seq (.reg f94_r5) (.seq (.seq (.reg f94_r6) (.cond (.t (K.ofNat 18)) (.exit 1) .skip)) (.seq (.reg f94_r7) (.seq (.reg f94_r8) (.seq (.reg f94_r9) (.block 2 (.loop f94_l0))))))))) (.reg f94_r14))))
noncomputable def f94_r15 : List EOper := [⟨(some (K.ofNat 48)), none, .mv (.t (K.ofNat 3))⟩, ⟨(some (K.ofNat 2)), none, .as (.t (K.ofNat 48))⟩]
noncomputable def f94_c : EC := (.seq (.reg f94_r0) (.seq (.reg f94_r1) (.seq (.seq (.reg f94_r2) (.block 0 (.loop f94_l1))) (.seq (.reg f94_r15) .ret))))
noncomputable def f94 : EF := ⟨49, [.tmp (K.ofNat 2)], f94_c, none⟩
def low (p : Nat) : Nat := p &&& (18446744073709551616 - p)
theorem and_n {k : IntKind} {m n : Nat} (hk : 9223372036854775807 ≤ kmax k) (hm : m < 9223372036854775808) (hn : n < 9223372036854775808) : binV .and (.i k (m : Int)) (.i k (n : Int)) = some (.i k ((m &&& n : Nat) : Int)) := bin_and (by omega) (by omega)
def stepR (p r : Nat) : Nat := if r &&& low p ≠ 0 then r ^^^ p else r
def elR (p : Nat) : Nat → Nat → List Nat → List Nat
  | 0, _, L => L
  | m + 1, j, L => elR p m (j + 1) (L.set j (stepR p (L.getD j 0)))
def elK : Nat → Nat → List Nat → Nat → Nat
  | 0, _, _, c => c
  | m + 1, i, L, c => if L.getD i 0 = 0 then elK m (i + 1) L c else elK m (i + 1) (elR (L.getD i 0) m (i + 1) L) (c + 1)
/-- The rank, by elimination. -/
def rankS (L : List Nat) : Nat := elK L.length 0 L 0
def Small (L : List Nat) : Prop := ∀ x ∈ L, x < 9223372036854775808
theorem Small.at {L : List Nat} (h : Small L) {i : Nat} (hi : i < L.length) : L[i] < 9223372036854775808 := h _ (List.getElem_mem hi)
theorem Small.set {L : List Nat} (h : Small L) {i x : Nat} (hx : x < 9223372036854775808) : Small (L.set i x) := fun y hy => by
  rcases List.mem_or_eq_of_mem_set hy with h1 | rfl
  · exact h _ h1
  · exact hx
def uE (x : Nat) : V := .i .u64 (x : Int)
def nE (x : Nat) : V := .i .i64 (x : Int)
theorem kmi : 9223372036854775807 ≤ kmax .i64 := by decide
section
variable {fs : T EF} {ro : Option K}
end
end Go.Ev
namespace Go.Ev
open Go Go.RowKit
noncomputable def f82_r0 : List EOper := [⟨(some (K.ofNat 1)), none, .box 1 (.t (K.ofNat 0))⟩, ⟨(some (K.ofNat 2)), none, .as (.c .fnil)⟩]
noncomputable def f82_r1 : List EOper := [⟨(some (K.ofNat 3)), none, .mkfn (K.ofNat 92) [(.t (K.ofNat 1))]⟩, ⟨(some (K.ofNat 2)), none, .as (.t (K.ofNat 3))⟩]
noncomputable def f82_c : EC := (.seq (.reg f82_r0) (.seq (.reg f82_r1) .ret))
noncomputable def f82 : EF := ⟨4, [.tmp (K.ofNat 2)], f82_c, none⟩
theorem f82_rs : f82.rs = [.tmp (K.ofNat 2)] := of_eq_true (eq_self _)
noncomputable def f93_r0 : List EOper := [⟨(some (K.ofNat 1)), none, .box 1 (.t (K.ofNat 0))⟩, ⟨(some (K.ofNat 2)), none, .as (.c (.i .u64 (.ofNat 0)))⟩]
noncomputable def f93_r1 : List EOper := [⟨(some (K.ofNat 3)), none, .alloc 1 [(.i .u64 (.ofNat 0))]⟩]
noncomputable def f93_r2 : List EOper := [⟨(some (K.ofNat 5)), none, .ld (.t (K.ofNat 1))⟩, ⟨(some (K.ofNat 6)), none, .call (.c (.fn (K.ofNat 82) [])) [(.t (K.ofNat 5))]⟩]
noncomputable def f93_r3 : List EOper := [⟨(some (K.ofNat 4)), none, .as (.t (K.ofNat 7))⟩]
noncomputable def f93_a0 : EC := (.reg f93_r3)
noncomputable def f93_r4 : List Stage := [⟨[⟨(some (K.ofNat 8)), none, .ld (.t (K.ofNat 3))⟩, ⟨(some (K.ofNat 9)), none, .ld (.t (K.ofNat 1))⟩, ⟨(some (K.ofNat 10)), none, .mv (.t (K.ofNat 4))⟩, ⟨(some (K.ofNat 11)), none, .bin .andNot (.t (K.ofNat 9)) (.t (K.ofNat 10))⟩, ⟨(some (K.ofNat 12)), none, .bin .shl (.c (.i .u64 (.ofNat 1))) (.t (K.ofNat 11))⟩, ⟨(some (K.ofNat 13)), none, .bin .xor (.t (K.ofNat 8)) (.t (K.ofNat 12))⟩], [], (some ⟨none, none, .st 1 (.t (K.ofNat 3)) (.t (K.ofNat 13))⟩), []⟩, ⟨[], [], none, []⟩]
noncomputable def f93_b0 : EC := (.block 1 (.draw f93_r4))
noncomputable def f93_r5 : List EOper := [⟨(some (K.ofNat 14)), none, .ld (.t (K.ofNat 3))⟩, ⟨(some (K.ofNat 2)), none, .as (.t (K.ofNat 14))⟩]
noncomputable def f93_c : EC := (.seq (.reg f93_r0) (.seq (.reg f93_r1) (.seq (.seq (.reg f93_r2) (.block 0 (.rangeF (.t (K.ofNat 6)) [(K.ofNat 7)] f93_a0 f93_b0))) (.seq (.reg f93_r5) .ret))))
noncomputable def f93 : EF := ⟨15, [.tmp (K.ofNat 2)], f93_c, none⟩
section
variable {fs : T EF} {ro : Option K}
/-- The corners of a set, one after another. -/
theorem corner_yields {k idp : K} {S : Int} {ef : EF} (hf : fs.get k = some coF) (hp : fs.get (.z (.z (.z (.o (.z .e))))) = some ef) (hn : ef.nv = some (flatG partG)) :
    Yields fs k [.p idp 0] (fun h => h.get idp = .cells 1 [.i .i64 S]) (((List.range 6).filter fun i => partB (cornI i) S).map fun (i : Nat) => V.i .i64 (cornI i)) := by
  intro id I D h hN h0 round
  have hlen : (((List.range 6).filter fun i => partB (cornI i) S).map fun (i : Nat) => V.i .i64 (cornI i)).length = cntB (fun i => partB (cornI i) S) 6 := by simp [cntB]
  rw [hlen]
  refine co_call (I := fun j h => I (cntB (fun i => partB (cornI i) S) j) h) (Q := D) hf hp hn (fun i h hi => hN _ _ hi) (fun j h hj hB hI => ?_) (fun j h hj hB hI => ?_) (by simpa [cntB] using h0)
  · have h1 := filter_at (B := fun i => partB (cornI i) S) hj hB
    have h2 : cntB (fun i => partB (cornI i) S) j < (((List.range 6).filter fun i => partB (cornI i) S).map fun (i : Nat) => V.i .i64 (cornI i)).length := by
      rw [List.length_map]; exact (List.getElem?_eq_some_iff.1 h1).1
    obtain ⟨b, h', r1, r2, r3⟩ := round (cntB (fun i => partB (cornI i) S) j) h h2 hI
    refine ⟨b, h', ?_, fun e => by rw [cntB_succ, if_pos hB]; exact r2 e, r3⟩
    have h3 : (((List.range 6).filter fun i => partB (cornI i) S).map fun (i : Nat) => V.i .i64 (cornI i))[cntB (fun i => partB (cornI i) S) j] = .i .i64 (cornI j) := by
      rw [List.getElem_map, (List.getElem?_eq_some_iff.1 h1).2]
    rw [← h3]; exact r1
  · rw [cntB_succ, hB]; simpa using hI
theorem f82_ret {h : H} {x : Int} : Ret fs f82 [.i .i64 x] h fun u h' => u = .fn (K.ofNat 92) [.p h.nx 0] ∧ h' = h.new (.cells 1 [.i .i64 x]) := by
  apply ret_of rfl
  show W fs none f82_c _ _ _
  unfold f82_c
  have : cellsN 1 (.i .i64 x) = some [.i .i64 x] := rfl
  simp (disch := omega) only [f82_r0, f82_r1, f82_rs, w_reg, w_seq, w_ret, seqK_n, retK_r, x_nil, x_as, x_box, x_mkfn, kx, rvP_ok, ev_t, ev_c, evs_nil, evs_cons, getV_some, putD_some, oGet_s, readRs_nil, readRs_t, retV_1, frame_1, Option.some.injEq, exists_eq_left', getK_set, Nat.reduceEqDiff, ↓reduceIte, this, and_self]
noncomputable def cornN (x : Nat) : List Nat := ((List.range 6).filter fun i => partB (cornI i) (x : Int)).map fun i => 2 ^ i
theorem cornI_eq : ∀ i, i < 6 → cornI i = ((2 ^ i : Nat) : Int) := by decide
theorem cornN_ys {x : Nat} : (((List.range 6).filter fun i => partB (cornI i) (x : Int)).map fun (i : Nat) => V.i .i64 (cornI i)) = (cornN x).map nE := by
  unfold cornN
  rw [List.map_map]
  apply List.map_congr_left
  intro i hi
  rw [List.mem_filter, List.mem_range] at hi
  show V.i .i64 (cornI i) = V.i .i64 ((2 ^ i : Nat) : Int)
  rw [cornI_eq i hi.1]
def lessC (x c : Nat) : Nat := Nat.xor x (Nat.land x c)
noncomputable def bordX (x : Nat) : Nat := (cornN x).foldl (fun s c => s ^^^ 2 ^ lessC x c) 0
theorem less_lt : ∀ x, x < 64 → ∀ c ∈ cornN x, c ≤ 32 ∧ lessC x c ≤ 62 := by decide +kernel
theorem andNot_n {m n : Nat} (hm : m < 9223372036854775808) (hn : n < 9223372036854775808) : binV .andNot (.i .i64 (m : Int)) (.i .i64 (n : Int)) = some (.i .i64 (lessC m n : Int)) := by
  have : binV .andNot (.i .i64 (m : Int)) (.i .i64 (n : Int)) = some (.i .i64 (ibits (fun m n => Nat.xor m (Nat.land m n)) (fun _ x y => x &&& ~~~y) .i64 m n)) := rfl
  rw [this, ibits_nat (by show _ ≤ 9223372036854775807; omega) (by show _ ≤ 9223372036854775807; omega)]; rfl
structure BorI (b : Nat) (h : H) (id1 id3 idf idl : K) (x s : Nat) (lb : Blk) (h1 : H) : Prop where
  gr : Grow b h h1
  e1 : h1.get id1 = .cells 1 [nE x]
  e3 : h1.get id3 = .cells 1 [uE s]
  ef : h1.get idf = .cells 1 [nE x]
  el : h1.get idl = lb
  nx : idl.nat + 1 ≤ h1.nx.nat
  o1 : id1.nat < id3.nat
  o3 : id3.nat < idf.nat
  of : idf.nat < idl.nat
  ob : b ≤ id1.nat
section
variable {b : Nat} {h h1 : H} {id1 id3 idf idl : K} {x s s' : Nat} {lb : Blk}
theorem BorI.loop (t : BorI b h id1 id3 idf idl x s lb h1) (lb' : Blk) : BorI b h id1 id3 idf idl x s lb' (h1.put idl lb') := by
  have := t.nx; have := t.o1; have := t.o3; have := t.of; have := t.ob
  exact ⟨t.gr.trans (Grow.put (by omega) (by omega) _), by rw [get_put_other (kNe (by omega))]; exact t.e1, by rw [get_put_other (kNe (by omega))]; exact t.e3, by rw [get_put_other (kNe (by omega))]; exact t.ef, get_put_same, t.nx, t.o1, t.o3, t.of, t.ob⟩
theorem BorI.put (t : BorI b h id1 id3 idf idl x s lb h1) : BorI b h id1 id3 idf idl x s' lb (h1.put id3 (.cells 1 [uE s'])) := by
  have := t.nx; have := t.o1; have := t.o3; have := t.of; have := t.ob
  exact ⟨t.gr.trans (Grow.put (by omega) (by omega) _), by rw [get_put_other (kNe (by omega))]; exact t.e1, get_put_same, by rw [get_put_other (kNe (by omega)).symm]; exact t.ef, by rw [get_put_other (kNe (by omega)).symm]; exact t.el, t.nx, t.o1, t.o3, t.of, t.ob⟩
end
end
end Go.Ev
namespace Go.Ev
open Go Go.RowKit
noncomputable def f90_r0 : List EOper := [⟨(some (K.ofNat 2)), none, .box 1 (.t (K.ofNat 0))⟩, ⟨(some (K.ofNat 4)), none, .as (.c .sn)⟩]
noncomputable def f90_r1 : List EOper := [⟨(some (K.ofNat 6)), none, .mv (.t (K.ofNat 1))⟩]
noncomputable def f90_r2 : List EOper := [⟨(some (K.ofNat 5)), none, .as (.t (K.ofNat 7))⟩]
noncomputable def f90_a0 : EC := (.reg f90_r2)
noncomputable def f90_r3 : List EOper := [⟨(some (K.ofNat 8)), none, .ld (.t (K.ofNat 2))⟩, ⟨(some (K.ofNat 9)), none, .mv (.t (K.ofNat 5))⟩, ⟨(some (K.ofNat 10)), none, .bslice 1 1 [(.i .i64 (.ofNat 0))] [(0, 1, (.t (K.ofNat 9)))]⟩, ⟨(some (K.ofNat 11)), none, .app 1 (.t (K.ofNat 8)) (.t (K.ofNat 10))⟩, ⟨none, none, .st 1 (.t (K.ofNat 2)) (.t (K.ofNat 11))⟩]
noncomputable def f90_b0 : EC := (.block 1 (.reg f90_r3))
noncomputable def f90_r4 : List EOper := [⟨(some (K.ofNat 12)), none, .ld (.t (K.ofNat 2))⟩, ⟨(some (K.ofNat 4)), none, .as (.t (K.ofNat 12))⟩]
noncomputable def f90_c : EC := (.seq (.reg f90_r0) (.seq (.seq (.reg f90_r1) (.block 0 (.rangeF (.t (K.ofNat 6)) [(K.ofNat 7)] f90_a0 f90_b0))) (.seq (.reg f90_r4) .ret)))
noncomputable def f90 : EF := ⟨13, [.tmp (K.ofNat 4)], f90_c, none⟩
noncomputable def f77_r0 : List EOper := [⟨(some (K.ofNat 2)), none, .as (.c .sn)⟩]
noncomputable def f77_r1 : List EOper := [⟨(some (K.ofNat 3)), none, .mv (.t (K.ofNat 0))⟩, ⟨(some (K.ofNat 4)), none, .call (.c (.fn (K.ofNat 90) [])) [(.c .sn), (.t (K.ofNat 3))]⟩, ⟨(some (K.ofNat 2)), none, .as (.t (K.ofNat 4))⟩]
noncomputable def f77_c : EC := (.seq (.reg f77_r0) (.seq (.reg f77_r1) .ret))
noncomputable def f77 : EF := ⟨5, [.tmp (K.ofNat 2)], f77_c, none⟩
noncomputable def f56_r0 : List EOper := [⟨(some (K.ofNat 1)), none, .box 64 (.t (K.ofNat 0))⟩, ⟨(some (K.ofNat 2)), none, .as (.c .sn)⟩]
noncomputable def f56_r1 : List EOper := [⟨(some (K.ofNat 3)), none, .ldn 64 (.t (K.ofNat 1))⟩, ⟨(some (K.ofNat 4)), none, .call (.c (.fn (K.ofNat 78) [])) [(.t (K.ofNat 3))]⟩, ⟨(some (K.ofNat 5)), none, .call (.c (.fn (K.ofNat 77) [])) [(.t (K.ofNat 4))]⟩, ⟨(some (K.ofNat 2)), none, .as (.t (K.ofNat 5))⟩]
noncomputable def f56_c : EC := (.seq (.reg f56_r0) (.seq (.reg f56_r1) .ret))
noncomputable def f56 : EF := ⟨6, [.tmp (K.ofNat 2)], f56_c, none⟩
noncomputable def f17_r0 : List EOper := [⟨(some (K.ofNat 4)), none, .as (.c .sn)⟩, ⟨(some (K.ofNat 5)), none, .as (.c (.i .i64 (.ofNat 0)))⟩]
noncomputable def f17_r1 : List EOper := [⟨(some (K.ofNat 7)), none, .mv (.t (K.ofNat 0))⟩, ⟨(some (K.ofNat 8)), none, .mv (.t (K.ofNat 1))⟩, ⟨(some (K.ofNat 9)), none, .call (.c (.fn (K.ofNat 16) [])) [(.t (K.ofNat 7)), (.t (K.ofNat 8))]⟩, ⟨(some (K.ofNat 6)), none, .as (.t (K.ofNat 9))⟩]
noncomputable def f17_r2 : List EOper := [⟨(some (K.ofNat 10)), none, .mv (.t (K.ofNat 6))⟩, ⟨(some (K.ofNat 11)), none, .bin .neq (.t (K.ofNat 10)) (.c (.i .i64 (.ofNat 0)))⟩]
noncomputable def f17_r3 : List EOper := [⟨(some (K.ofNat 12)), none, .mv (.t (K.ofNat 6))⟩, ⟨(some (K.ofNat 4)), none, .as (.c .sn)⟩, ⟨(some (K.ofNat 5)), none, .as (.t (K.ofNat 12))⟩]
noncomputable def f17_r4 : List EOper := [⟨(some (K.ofNat 13)), none, .mv (.t (K.ofNat 1))⟩, ⟨(some (K.ofNat 14)), none, .call (.c (.fn (K.ofNat 55) [])) [(.t (K.ofNat 13))]⟩, ⟨(some (K.ofNat 15)), none, .call (.c (.fn (K.ofNat 56) [])) [(.t (K.ofNat 14))]⟩, ⟨(some (K.ofNat 4)), none, .as (.t (K.ofNat 15))⟩, ⟨(some (K.ofNat 5)), none, .as (.c (.i .i64 (.ofNat 0)))⟩]
noncomputable def f17_c : EC := (.seq (.reg f17_r0) (.seq (.seq (.reg f17_r1) (.seq (.reg f17_r2) (.cond (.t (K.ofNat 11)) (.seq (.reg f17_r3) .ret) .skip))) (.seq (.reg f17_r4) .ret)))
noncomputable def f17 : EF := ⟨16, [.tmp (K.ofNat 4), .tmp (K.ofNat 5)], f17_c, none⟩
section
variable {fs : T EF} {ro : Option K}
def memI (B : Nat → Bool) : List Int := (mem64 B).map fun (k : Nat) => (k : Int)
theorem famB_list {S : List Int} : (arr (famB S) 64).map V.b = boolV (famB S) := rfl
end
end Go.Ev
namespace Go.Ev
open Go Go.RowKit
noncomputable def f57_r0 : List EOper := [⟨(some (K.ofNat 1)), none, .box 64 (.t (K.ofNat 0))⟩, ⟨(some (K.ofNat 2)), none, .as (.c .sn)⟩]
noncomputable def f57_r1 : List EOper := [⟨(some (K.ofNat 3)), none, .alloc 1 [.sn]⟩]
noncomputable def f57_r2 : List EOper := [⟨(some (K.ofNat 6)), none, .ldn 64 (.t (K.ofNat 1))⟩, ⟨(some (K.ofNat 7)), none, .call (.c (.fn (K.ofNat 78) [])) [(.t (K.ofNat 6))]⟩]
noncomputable def f57_r3 : List EOper := [⟨(some (K.ofNat 4)), none, .as (.t (K.ofNat 8))⟩]
noncomputable def f57_a0 : EC := (.reg f57_r3)
noncomputable def f57_r4 : List EOper := [⟨(some (K.ofNat 9)), none, .mv (.t (K.ofNat 4))⟩, ⟨(some (K.ofNat 10)), none, .call (.c (.fn (K.ofNat 75) [])) [(.t (K.ofNat 9))]⟩, ⟨(some (K.ofNat 5)), none, .as (.t (K.ofNat 10))⟩]
noncomputable def f57_r5 : List EOper := [⟨(some (K.ofNat 11)), none, .ld (.t (K.ofNat 3))⟩, ⟨(some (K.ofNat 12)), none, .len (.t (K.ofNat 11))⟩, ⟨(some (K.ofNat 13)), none, .mv (.t (K.ofNat 5))⟩, ⟨(some (K.ofNat 14)), none, .bin .leq (.t (K.ofNat 12)) (.t (K.ofNat 13))⟩]
noncomputable def f57_r6 : List EOper := [⟨(some (K.ofNat 15)), none, .ld (.t (K.ofNat 3))⟩, ⟨(some (K.ofNat 16)), none, .bslice 1 1 [(.i .i64 (.ofNat 0))] [(0, 1, (.c (.i .i64 (.ofNat 0))))]⟩, ⟨(some (K.ofNat 17)), none, .app 1 (.t (K.ofNat 15)) (.t (K.ofNat 16))⟩, ⟨none, none, .st 1 (.t (K.ofNat 3)) (.t (K.ofNat 17))⟩]
noncomputable def f57_l0 : EC := (.seq (.seq (.reg f57_r5) (.cond (.t (K.ofNat 14)) .skip (.exit 2))) (.block 3 (.reg f57_r6)))
noncomputable def f57_r7 : List EOper := [⟨(some (K.ofNat 18)), none, .ld (.t (K.ofNat 3))⟩, ⟨(some (K.ofNat 19)), none, .mv (.t (K.ofNat 5))⟩, ⟨(some (K.ofNat 20)), none, .iads 1 (.t (K.ofNat 18)) (.t (K.ofNat 19))⟩, ⟨(some (K.ofNat 21)), none, .ld (.t (K.ofNat 20))⟩, ⟨(some (K.ofNat 22)), none, .bin .add (.t (K.ofNat 21)) (.c (.i .i64 (.ofNat 1)))⟩, ⟨(some (K.ofNat 23)), none, .iads 1 (.t (K.ofNat 18)) (.t (K.ofNat 19))⟩, ⟨none, none, .st 1 (.t (K.ofNat 23)) (.t (K.ofNat 22))⟩]
noncomputable def f57_b0 : EC := (.block 1 (.seq (.reg f57_r4) (.seq (.block 2 (.loop f57_l0)) (.reg f57_r7))))
noncomputable def f57_r8 : List EOper := [⟨(some (K.ofNat 24)), none, .ld (.t (K.ofNat 3))⟩, ⟨(some (K.ofNat 2)), none, .as (.t (K.ofNat 24))⟩]
noncomputable def f57_c : EC := (.seq (.reg f57_r0) (.seq (.reg f57_r1) (.seq (.seq (.reg f57_r2) (.block 0 (.rangeF (.t (K.ofNat 7)) [(K.ofNat 8)] f57_a0 f57_b0))) (.seq (.reg f57_r8) .ret))))
noncomputable def f57 : EF := ⟨25, [.tmp (K.ofNat 2)], f57_c, none⟩
theorem f57_rs : f57.rs = [.tmp (K.ofNat 2)] := of_eq_true (eq_self _)
noncomputable def f18_r0 : List EOper := [⟨(some (K.ofNat 4)), none, .as (.c .sn)⟩, ⟨(some (K.ofNat 5)), none, .as (.c (.i .i64 (.ofNat 0)))⟩]
noncomputable def f18_r1 : List EOper := [⟨(some (K.ofNat 7)), none, .mv (.t (K.ofNat 0))⟩, ⟨(some (K.ofNat 8)), none, .mv (.t (K.ofNat 1))⟩, ⟨(some (K.ofNat 9)), none, .call (.c (.fn (K.ofNat 16) [])) [(.t (K.ofNat 7)), (.t (K.ofNat 8))]⟩, ⟨(some (K.ofNat 6)), none, .as (.t (K.ofNat 9))⟩]
noncomputable def f18_r2 : List EOper := [⟨(some (K.ofNat 10)), none, .mv (.t (K.ofNat 6))⟩, ⟨(some (K.ofNat 11)), none, .bin .neq (.t (K.ofNat 10)) (.c (.i .i64 (.ofNat 0)))⟩]
noncomputable def f18_r3 : List EOper := [⟨(some (K.ofNat 12)), none, .mv (.t (K.ofNat 6))⟩, ⟨(some (K.ofNat 4)), none, .as (.c .sn)⟩, ⟨(some (K.ofNat 5)), none, .as (.t (K.ofNat 12))⟩]
noncomputable def f18_r4 : List EOper := [⟨(some (K.ofNat 13)), none, .mv (.t (K.ofNat 1))⟩, ⟨(some (K.ofNat 14)), none, .call (.c (.fn (K.ofNat 55) [])) [(.t (K.ofNat 13))]⟩, ⟨(some (K.ofNat 15)), none, .call (.c (.fn (K.ofNat 57) [])) [(.t (K.ofNat 14))]⟩, ⟨(some (K.ofNat 4)), none, .as (.t (K.ofNat 15))⟩, ⟨(some (K.ofNat 5)), none, .as (.c (.i .i64 (.ofNat 0)))⟩]
noncomputable def f18_c : EC := (.seq (.reg f18_r0) (.seq (.seq (.reg f18_r1) (.seq (.reg f18_r2) (.cond (.t (K.ofNat 11)) (.seq (.reg f18_r3) .ret) .skip))) (.seq (.reg f18_r4) .ret)))
noncomputable def f18 : EF := ⟨16, [.tmp (K.ofNat 4), .tmp (K.ofNat 5)], f18_c, none⟩
section
variable {fs : T EF} {ro : Option K}
theorem snoc_ind {α : Type} {P : List α → Prop} (h0 : P []) (h1 : ∀ l a, P l → P (l ++ [a])) (l : List α) : P l := by
  have : ∀ m : List α, P m.reverse := by
    intro m
    induction m with
    | nil => exact h0
    | cons a m ih => rw [List.reverse_cons]; exact h1 _ _ ih
  have h := this l.reverse
  rwa [List.reverse_reverse] at h
noncomputable def cpad (C : List Int) (m : Nat) : List Int := C ++ List.replicate (m + 1 - C.length) 0
noncomputable def cstep (C : List Int) (m : Nat) : List Int := (cpad C m).set m ((cpad C m).getD m 0 + 1)
noncomputable def cntS (l : List Nat) : List Int := l.foldl (fun C k => cstep C (pop6 k)) []
theorem cntS_snoc {l : List Nat} {k : Nat} : cntS (l ++ [k]) = cstep (cntS l) (pop6 k) := by unfold cntS; rw [List.foldl_append]; rfl
theorem cpad_len {C : List Int} {m : Nat} : m < (cpad C m).length := by unfold cpad; rw [List.length_append, List.length_replicate]; omega
theorem cpad_bd {C : List Int} {m : Nat} {b : Int} (hb : 0 ≤ b) (h : ∀ x ∈ C, 0 ≤ x ∧ x ≤ b) : ∀ x ∈ cpad C m, 0 ≤ x ∧ x ≤ b := by
  intro x hx
  unfold cpad at hx
  rcases List.mem_append.1 hx with h1 | h1
  · exact h x h1
  · have := List.eq_of_mem_replicate h1; omega
theorem cntS_bd : ∀ (l : List Nat), ∀ x ∈ cntS l, 0 ≤ x ∧ x ≤ (l.length : Int) := by
  intro l
  refine snoc_ind (P := fun l => ∀ x ∈ cntS l, 0 ≤ x ∧ x ≤ (l.length : Int)) (fun x hx => by cases hx) (fun l k ih => ?_) l
  · intro x hx
    rw [cntS_snoc] at hx
    have h1 := cpad_bd (m := pop6 k) (b := (l.length : Int)) (by omega) ih
    unfold cstep at hx
    rw [List.length_append]
    rcases List.mem_or_eq_of_mem_set hx with h2 | h2
    · have := h1 x h2; simp; omega
    · have h3 : (cpad (cntS l) (pop6 k)).getD (pop6 k) 0 ∈ cpad (cntS l) (pop6 k) := by
        have := cpad_len (C := cntS l) (m := pop6 k)
        simp [List.getD, this]
      have := h1 _ h3; simp; omega
theorem pop6_le {k : Nat} : pop6 k ≤ 6 := by
  show k % 2 + (k / 2 % 2 + (k / 4 % 2 + (k / 8 % 2 + (k / 16 % 2 + k / 32 % 2)))) ≤ 6
  omega
theorem cntS_len : ∀ (l : List Nat), (cntS l).length ≤ 7 := by
  intro l
  refine snoc_ind (P := fun l => (cntS l).length ≤ 7) (by simp [cntS]) (fun l k ih => ?_) l
  · rw [cntS_snoc]
    unfold cstep cpad
    have := pop6_le (k := k)
    rw [List.length_set, List.length_append, List.length_replicate]
    omega
def f57_I0 (h : H) (B : Nat → Bool) (id1 id3 idf idl : K) (lb : Blk) (C : List Int) (m : Nat) (t : Nat) (fr : Fr) (h1 : H) : Prop := ∃ o, t ≤ m + 1 - C.length ∧ AccI iE h.nx.nat h id3 idl [(id1, .cells 64 (boolV B)), (idf, .cells 64 (boolV B))] o (C ++ List.replicate t 0) lb h1 ∧ fr.get (K.ofNat 3) = some (.p id3 0) ∧ fr.get (K.ofNat 5) = some (.i .i64 (m : Int))
theorem f57_inner {Q : Ex → Fr → H → Prop} {h h0 : H} {B : Nat → Bool} {id1 id3 idf idl : K} {lb : Blk} {C : List Int} {m : Nat} {fr : Fr} (hc : HC h) (hC : C.length ≤ 7) (hm : m ≤ 6)
    (hi : f57_I0 h B id1 id3 idf idl lb C m 0 fr h0)
    (hq : ∀ fr h1 o, AccI iE h.nx.nat h id3 idl [(id1, .cells 64 (boolV B)), (idf, .cells 64 (boolV B))] o (cpad C m) lb h1 → fr.get (K.ofNat 3) = some (.p id3 0) ∧ fr.get (K.ofNat 5) = some (.i .i64 (m : Int)) → Q (.exit 2) fr h1) :
    W fs ro (.loop f57_l0) Q fr h0 := by
  refine W_loop (f57_I0 h B id1 id3 idf idl lb C m) (fun t => m + 1 - C.length - t) ?_ 0 hi
  clear hi fr h0
  rintro t fr h1 ⟨o, ht, ha, g3, g5⟩
  have hc1 := ha.gr.hc hc
  have hlen : (C ++ List.replicate t (0 : Int)).length = C.length + t := by rw [List.length_append, List.length_replicate]
  unfold f57_l0
  by_cases hle : C.length + t ≤ m
  · have hle' : ((C ++ List.replicate t (0 : Int)).length : Int) ≤ (m : Int) := by rw [hlen]; omega
    obtain ⟨v', h', p1, p2, p3⟩ := ha.push (x := (0 : Int)) (c := .i .i64 0) rfl hc1 (by omega)
    simp (disch := omega) only [f57_r5, f57_r6, w_skip, w_reg, w_seq, w_cond, w_block, seqK_n, atK_n, loopK_n, ckB_b, cbB_b, true_and, x_nil, x_mv, x_bslice, x_ld, x_st, x_bin, x_len, x_app, kx, rvP_ok, okv_some, ev_t, ev_c, getV_some, putD_some, putD_none, bin_leq, oGet_s, cells1_i, fill_1, set_1, of0, getK_set, Nat.reduceEqDiff, ↓reduceIte, g3, g5, ha.ld, ha.sl.len, hle', decide_true, p1, p2]
    refine ⟨t + 1, by omega, v', by omega, ?_, by simp (disch := omega) only [getK_set, Nat.reduceEqDiff, ↓reduceIte, g3, g5, and_self]⟩
    rw [List.replicate_succ', ← List.append_assoc]; exact p3
  · have hle' : ¬ ((C ++ List.replicate t (0 : Int)).length : Int) ≤ (m : Int) := by rw [hlen]; omega
    simp (disch := omega) only [f57_r5, w_reg, w_seq, w_cond, w_exit, seqK_n, seqK_e, loopK_e, ckB_b, cbB_b, true_and, x_nil, x_mv, x_ld, x_bin, x_len, kx, rvP_ok, okv_some, ev_t, getV_some, putD_some, bin_leq, getK_set, Nat.reduceEqDiff, ↓reduceIte, Bool.false_eq_true, g3, g5, ha.ld, ha.sl.len, hle', decide_false]
    refine hq _ _ o ?_ (by simp (disch := omega) only [getK_set, Nat.reduceEqDiff, ↓reduceIte, g3, g5, and_self])
    have : t = m + 1 - C.length := by omega
    subst this; exact ha
theorem f57_ret {h : H} {B : Nat → Bool}
    (hp : ∀ m : Nat, m < 64 → ∀ h P, CallP fs (.fn (K.ofNat 75) []) [.i .i64 (m : Int)] h P = P (.i .i64 (pop6 m : Int)) h) (h78 : fs.get (K.ofNat 78) = some f78) (h91 : fs.get (K.ofNat 91) = some alF) (hc : HC h) :
    Ret fs f57 [.agg (boolV B)] h fun u h' => Sl iE h' u (cntS (mem64 B)) ∧ Own h.nx.nat u ∧ Grow h.nx.nat h h' := by
  apply ret_of rfl
  show W fs none f57_c _ _ _
  unfold f57_c
  have n1 := nx_new h (.cells 64 (boolV B))
  have n2 := nx_new (h.new (.cells 64 (boolV B))) (.cells 1 [.sn])
  have hA : Ar V.b ((h.new (.cells 64 (boolV B))).new (.cells 1 [.sn])) h.nx (arr B 64) := by
    unfold Ar; rw [arr_len, get_new_old (by omega), get_new_same]; rfl
  simp (disch := omega) only [f57_r0, f57_r1, f57_r2, w_reg, w_seq, seqK_n, x_nil, x_as, x_alloc, x_box, x_ldn, x_call, kx, rvP_ok, ev_t, ev_c, evs_nil, evs_cons, getV_some, putD_some, oGet_s, frame_1, getK_set, Nat.reduceEqDiff, ↓reduceIte, cells64 (boolV_len (B := B)), hA.ldn (n := 64) (by rw [arr_len])]
  refine (callP_0 (ef := f78) h78 rfl (f78_ret (boolV_len (B := B)))).mono ?_
  rintro u h1 ⟨rfl, rfl⟩
  simp (disch := omega) only [w_block, seqK_n, x_nil, kx, putD_some]
  have g0 : Grow h.nx.nat h ((h.new (.cells 64 (boolV B))).new (.cells 1 [.sn])) := (Grow.new (Nat.le_refl _) _).trans (Grow.new (by omega) _)
  have e3 : ((h.new (.cells 64 (boolV B))).new (.cells 1 [.sn])).get (h.new (.cells 64 (boolV B))).nx = .cells 1 [.sn] := get_new_same
  have e1 : ((h.new (.cells 64 (boolV B))).new (.cells 1 [.sn])).get h.nx = .cells 64 (boolV B) := by rw [get_new_old (by omega), get_new_same]
  generalize hid3 : (h.new (.cells 64 (boolV B))).nx = id3 at *
  generalize hh2 : (h.new (.cells 64 (boolV B))).new (.cells 1 [.sn]) = h2 at *
  have n3 := nx_new h2 (.cells 64 (boolV B))
  have hc2 := g0.hc hc
  have ga : Grow h2.nx.nat h2 (h2.new (.cells 64 (boolV B))) := Grow.new (Nat.le_refl _) _
  have ef : (h2.new (.cells 64 (boolV B))).get h2.nx = .cells 64 (boolV B) := get_new_same
  rw [← ga.old _ (by omega)] at e3 e1
  have g1 := g0.trans (ga.low (b := h.nx.nat) (by omega))
  generalize hh3 : h2.new (.cells 64 (boolV B)) = h3 at *
  have hc3 := g1.hc hc
  generalize hfr1 : T.set (K.ofNat 7) (V.fn (K.ofNat 91) [V.p h2.nx 0]) _ = fr1
  have f7 : fr1.get (K.ofNat 7) = some (.fn (K.ofNat 91) [.p h2.nx 0]) := by rw [← hfr1]; simp (disch := omega) only [getK_set, ↓reduceIte]
  have f3 : fr1.get (K.ofNat 3) = some (.p id3 0) := by rw [← hfr1]; simp (disch := omega) only [getK_set, Nat.reduceEqDiff, ↓reduceIte]
  clear hfr1
  have hlen := ysOf_len (B := B)
  have n4 := nx_new h3 (rdyB fr1 [(K.ofNat 8)] f57_a0 f57_b0)
  have hnew : Grow h3.nx.nat h3 (h3.new (rdyB fr1 [(K.ofNat 8)] f57_a0 f57_b0)) := Grow.new (Nat.le_refl _) _
  refine W_range (k := (K.ofNat 91)) (caps := [.p h2.nx 0]) (N := fun h => h.get h2.nx = .cells 64 (boolV B)) (ys := ysOf B) rfl (by simp (disch := omega) only [ev_t, getV_some, f7]) (all_yields h91 boolV_at)
    (fun j h5 => ∃ o lb, AccI iE h.nx.nat h id3 h3.nx [(h.nx, .cells 64 (boolV B)), (h2.nx, .cells 64 (boolV B))] o (cntS ((mem64 B).take j)) lb h5) (fun _ _ => False) (fun i h5 ⟨o, lb, ht⟩ => ht.kp (h2.nx, _) (by simp))
    ⟨.sn, _, Sl.nil, Own.sn, g1.trans (hnew.low (by omega)), by rw [hnew.old _ (by omega)]; exact e3, fun p hp => ?_, get_new_same, by omega, by omega, by omega, fun p hp => ?_⟩ ?_ ?_ (fun _ _ _ hf => hf.elim)
  · simp only [List.mem_cons, List.not_mem_nil, or_false] at hp
    rcases hp with rfl | rfl
    · rw [hnew.old _ (by show h.nx.nat < _; omega)]; exact e1
    · rw [hnew.old _ (by show h2.nx.nat < _; omega)]; exact ef
  · simp only [List.mem_cons, List.not_mem_nil, or_false] at hp
    rcases hp with rfl | rfl
    · exact ⟨by show h.nx.nat < _; omega, kNe (by show h.nx.nat < _; omega)⟩
    · exact ⟨by show h2.nx.nat < _; omega, (kNe (by show _ < h2.nx.nat; omega)).symm⟩
  · rintro j h5 hj ⟨o, lb, ht⟩ hrd
    have hj' : j < (mem64 B).length := by omega
    rw [ysOf_at hj]
    obtain rfl : lb = rdyB fr1 [(K.ofNat 8)] f57_a0 f57_b0 := ht.el.symm.trans hrd
    rw [show ∀ Q fr h, W fs (some h3.nx) f57_a0 Q fr h = X fs f57_r3 (Q .normal) fr h from fun _ _ _ => rfl]
    simp (disch := omega) only [f57_r3, rndA_n, x_nil, x_as, ev_t, getV_some, putD_some, getK_set, ↓reduceIte]
    refine ⟨ht.el, ?_⟩
    have ht7 := ht.loop (bsyB fr1 [(K.ofNat 8)] f57_a0 f57_b0)
    generalize h5.put h3.nx (bsyB fr1 [(K.ofNat 8)] f57_a0 f57_b0) = h7 at *
    have hx64 : (mem64 B)[j] < 64 := by
      have := List.getElem_mem hj'
      unfold mem64 at this
      rw [List.mem_filter, List.mem_range] at this
      exact this.1
    rw [show ∀ Q fr h, W fs (some h3.nx) f57_b0 Q fr h = X fs f57_r4 (seqK (W fs (some h3.nx) (.seq (.block 2 (.loop f57_l0)) (.reg f57_r7))) (atK 1 Q) .normal) fr h from fun _ _ _ => rfl]
    simp (disch := omega) only [f57_r4, w_seq, w_block, seqK_n, x_nil, x_mv, x_as, x_call, kx, ev_t, ev_c, evs_nil, evs_cons, getV_some, putD_some, getK_set, ↓reduceIte, hp _ hx64]
    refine f57_inner (h := h) (B := B) (id1 := h.nx) (id3 := id3) (idf := h2.nx) (idl := h3.nx) (lb := bsyB fr1 [(K.ofNat 8)] f57_a0 f57_b0) (C := cntS ((mem64 B).take j)) (m := pop6 (mem64 B)[j]) hc (cntS_len _) pop6_le ⟨o, by omega, by rw [List.replicate_zero, List.append_nil]; exact ht7, by simp (disch := omega) only [getK_set, Nat.reduceEqDiff, ↓reduceIte, f3, and_self]⟩ ?_
    rintro fr h8 o2 ha ⟨g3, g5⟩
    have hc8 := ha.gr.hc hc
    have hml := cpad_len (C := cntS ((mem64 B).take j)) (m := pop6 (mem64 B)[j])
    obtain ⟨p, hp1, hp2⟩ := ha.sl.at _ hml
    have hbd := cpad_bd (m := pop6 (mem64 B)[j]) (b := ((((mem64 B).take j).length : Nat) : Int)) (by omega) (cntS_bd ((mem64 B).take j)) _ (List.getElem_mem hml)
    have hl64 := mem64_len (B := B)
    have hlt : ((mem64 B).take j).length ≤ 64 := by rw [List.length_take]; omega
    obtain ⟨p2, id, m2, cs2, q1, q2, q3, ⟨off, nn, sz, q4⟩, q5⟩ := ha.sl.st hml (x := (cpad (cntS ((mem64 B).take j)) (pop6 (mem64 B)[j]))[pop6 (mem64 B)[j]] + 1) (c := .i .i64 ((cpad (cntS ((mem64 B).take j)) (pop6 (mem64 B)[j]))[pop6 (mem64 B)[j]] + 1)) rfl rfl hc8
    have hpp : p2 = p := by
      have h1 := hp1 .i64 h8
      have h2 := q1 .i64 h8
      rw [h1] at h2
      cases h2; rfl
    subst hpp
    have hid := ha.own id off nn sz q4
    have hfw : fw .i64 ((cpad (cntS ((mem64 B).take j)) (pop6 (mem64 B)[j]))[pop6 (mem64 B)[j]] + 1) = (cpad (cntS ((mem64 B).take j)) (pop6 (mem64 B)[j]))[pop6 (mem64 B)[j]] + 1 := fw64 (by omega) (by omega)
    simp (disch := omega) only [f57_r7, w_reg, seqK_n, atK_n, atK_e, rndK_n, x_nil, x_mv, x_ld, x_st, x_bin, x_iads, kx, rvP_ok, okv_some, ev_t, ev_c, getV_some, putD_some, putD_none, bin_add, of1, getK_set, Nat.reduceEqDiff, ↓reduceIte, g3, g5, ha.ld, hp1, hp2, iE, hfw, q2]
    have hfin := ha.turned q3 (Grow.put hid q5 _)
    refine ⟨hfin.el, o2, rdyB fr1 [(K.ofNat 8)] f57_a0 f57_b0, ?_⟩
    have hst : cntS ((mem64 B).take (j + 1)) = (cpad (cntS ((mem64 B).take j)) (pop6 (mem64 B)[j])).set (pop6 (mem64 B)[j]) ((cpad (cntS ((mem64 B).take j)) (pop6 (mem64 B)[j]))[pop6 (mem64 B)[j]] + 1) := by
      rw [List.take_succ_eq_append_getElem hj', cntS_snoc]
      unfold cstep
      rw [show (cpad (cntS ((mem64 B).take j)) (pop6 (mem64 B)[j])).getD (pop6 (mem64 B)[j]) 0 = (cpad (cntS ((mem64 B).take j)) (pop6 (mem64 B)[j]))[pop6 (mem64 B)[j]] by simp [List.getD, hml]]
    rw [hst]
    exact hfin.loop _
  · rintro h5 ⟨o, lb, ht⟩
    have ht2 := ht.loop .dead
    rw [hlen, List.take_length] at ht2
    simp (disch := omega) only [f57_r8, f57_rs, w_reg, w_seq, w_ret, seqK_n, atK_n, retK_r, x_nil, x_as, x_ld, kx, rvP_ok, ev_t, getV_some, putD_some, oGet_s, readRs_nil, readRs_t, retV_1, Option.some.injEq, exists_eq_left', getK_set, ↓reduceIte, f3, ht2.ld]
    exact ⟨ht2.sl, ht2.own.low (by omega), ht2.gr⟩
end
end Go.Ev
namespace Go.Ev
open Go Go.RowKit
noncomputable def f89_r0 : List EOper := [⟨(some (K.ofNat 2)), none, .box 64 (.t (K.ofNat 0))⟩, ⟨(some (K.ofNat 3)), none, .box 1 (.t (K.ofNat 1))⟩, ⟨(some (K.ofNat 4)), none, .as (.c (.i .i64 (.ofNat 0)))⟩]
noncomputable def f89_r1 : List EOper := [⟨(some (K.ofNat 5)), none, .alloc 1 [.sn]⟩]
noncomputable def f89_r2 : List EOper := [⟨(some (K.ofNat 7)), none, .ldn 64 (.t (K.ofNat 2))⟩, ⟨(some (K.ofNat 8)), none, .call (.c (.fn (K.ofNat 78) [])) [(.t (K.ofNat 7))]⟩]
noncomputable def f89_r3 : List EOper := [⟨(some (K.ofNat 6)), none, .as (.t (K.ofNat 9))⟩]
noncomputable def f89_a0 : EC := (.reg f89_r3)
noncomputable def f89_r4 : List Stage := [⟨[⟨(some (K.ofNat 10)), none, .mv (.t (K.ofNat 6))⟩, ⟨(some (K.ofNat 12)), none, .ld (.t (K.ofNat 3))⟩], [], (some ⟨(some (K.ofNat 11)), none, .call (.c (.fn (K.ofNat 75) [])) [(.t (K.ofNat 10))]⟩), []⟩, ⟨[⟨(some (K.ofNat 13)), none, .bin .eql (.t (K.ofNat 11)) (.t (K.ofNat 12))⟩], [⟨(some (K.ofNat 12)), none, .ld (.t (K.ofNat 3))⟩], none, []⟩]
noncomputable def f89_r5 : List Stage := [⟨[⟨(some (K.ofNat 14)), none, .ld (.t (K.ofNat 5))⟩, ⟨(some (K.ofNat 15)), none, .mv (.t (K.ofNat 6))⟩], [], (some ⟨(some (K.ofNat 16)), none, .call (.c (.fn (K.ofNat 93) [])) [(.t (K.ofNat 15))]⟩), []⟩, ⟨[⟨(some (K.ofNat 17)), none, .bslice 1 1 [(.i .u64 (.ofNat 0))] [(0, 1, (.t (K.ofNat 16)))]⟩], [⟨(some (K.ofNat 14)), none, .ld (.t (K.ofNat 5))⟩], (some ⟨(some (K.ofNat 18)), none, .app 1 (.t (K.ofNat 14)) (.t (K.ofNat 17))⟩), [(K.ofNat 17)]⟩, ⟨[], [], (some ⟨none, none, .st 1 (.t (K.ofNat 5)) (.t (K.ofNat 18))⟩), []⟩, ⟨[], [], none, []⟩]
noncomputable def f89_b0 : EC := (.block 1 (.seq (.draw f89_r4) (.cond (.t (K.ofNat 13)) (.draw f89_r5) .skip)))
noncomputable def f89_r6 : List EOper := [⟨(some (K.ofNat 19)), none, .ld (.t (K.ofNat 5))⟩, ⟨(some (K.ofNat 20)), none, .call (.c (.fn (K.ofNat 94) [])) [(.t (K.ofNat 19))]⟩, ⟨(some (K.ofNat 4)), none, .as (.t (K.ofNat 20))⟩]
noncomputable def f89_c : EC := (.seq (.reg f89_r0) (.seq (.reg f89_r1) (.seq (.seq (.reg f89_r2) (.block 0 (.rangeF (.t (K.ofNat 8)) [(K.ofNat 9)] f89_a0 f89_b0))) (.seq (.reg f89_r6) .ret))))
noncomputable def f89 : EF := ⟨21, [.tmp (K.ofNat 4)], f89_c, none⟩
section
variable {fs : T EF} {ro : Option K}
noncomputable def rowsOf (l : List Nat) (k : Nat) : List Nat := (l.filter fun x => decide (pop6 x = k)).map bordX
theorem rowsOf_snoc {l : List Nat} {x k : Nat} : rowsOf (l ++ [x]) k = if pop6 x = k then rowsOf l k ++ [bordX x] else rowsOf l k := by
  unfold rowsOf
  rw [List.filter_append, List.map_append]
  by_cases e : pop6 x = k <;> simp [e]
/-- The rank of the borders of the faces of this size. -/
noncomputable def brS (B : Nat → Bool) (k : Nat) : Nat := rankS (rowsOf (mem64 B) k)
end
end Go.Ev
namespace Go.Ev
open Go Go.RowKit
noncomputable def f64_r0 : List EOper := [⟨(some (K.ofNat 1)), none, .box 64 (.t (K.ofNat 0))⟩, ⟨(some (K.ofNat 2)), none, .as (.c .sn)⟩]
noncomputable def f64_r1 : List EOper := [⟨(some (K.ofNat 6)), none, .ldn 64 (.t (K.ofNat 1))⟩, ⟨(some (K.ofNat 7)), none, .call (.c (.fn (K.ofNat 57) [])) [(.t (K.ofNat 6))]⟩, ⟨(some (K.ofNat 3)), none, .as (.t (K.ofNat 7))⟩]
noncomputable def f64_r2 : List EOper := [⟨(some (K.ofNat 8)), none, .mv (.t (K.ofNat 3))⟩, ⟨(some (K.ofNat 9)), none, .len (.t (K.ofNat 8))⟩, ⟨(some (K.ofNat 10)), none, .bin .sub (.t (K.ofNat 9)) (.c (.i .i64 (.ofNat 1)))⟩, ⟨(some (K.ofNat 11)), none, .mkslice 1 [(.i .i64 (.ofNat 0))] (.t (K.ofNat 10))⟩, ⟨(some (K.ofNat 4)), none, .as (.t (K.ofNat 11))⟩]
noncomputable def f64_r3 : List EOper := [⟨(some (K.ofNat 12)), none, .mv (.t (K.ofNat 4))⟩, ⟨(some (K.ofNat 13)), none, .len (.t (K.ofNat 12))⟩, ⟨(some (K.ofNat 14)), none, .mv (.c (.i .i64 (.ofNat 0)))⟩]
noncomputable def f64_r4 : List EOper := [⟨(some (K.ofNat 15)), none, .bin .lss (.t (K.ofNat 14)) (.t (K.ofNat 13))⟩]
noncomputable def f64_r5 : List EOper := [⟨(some (K.ofNat 16)), none, .mv (.t (K.ofNat 14))⟩, ⟨(some (K.ofNat 5)), none, .as (.t (K.ofNat 16))⟩]
noncomputable def f64_r6 : List Stage := [⟨[⟨(some (K.ofNat 17)), none, .mv (.t (K.ofNat 4))⟩, ⟨(some (K.ofNat 18)), none, .mv (.t (K.ofNat 5))⟩, ⟨(some (K.ofNat 19)), none, .mv (.t (K.ofNat 3))⟩, ⟨(some (K.ofNat 20)), none, .mv (.t (K.ofNat 5))⟩, ⟨(some (K.ofNat 21)), none, .bin .add (.t (K.ofNat 20)) (.c (.i .i64 (.ofNat 1)))⟩, ⟨(some (K.ofNat 22)), none, .iads 1 (.t (K.ofNat 19)) (.t (K.ofNat 21))⟩, ⟨(some (K.ofNat 23)), none, .ld (.t (K.ofNat 22))⟩, ⟨(some (K.ofNat 24)), none, .ldn 64 (.t (K.ofNat 1))⟩, ⟨(some (K.ofNat 25)), none, .mv (.t (K.ofNat 5))⟩, ⟨(some (K.ofNat 26)), none, .bin .add (.t (K.ofNat 25)) (.c (.i .i64 (.ofNat 1)))⟩, ⟨(some (K.ofNat 29)), none, .ldn 64 (.t (K.ofNat 1))⟩, ⟨(some (K.ofNat 30)), none, .mv (.t (K.ofNat 5))⟩, ⟨(some (K.ofNat 31)), none, .bin .add (.t (K.ofNat 30)) (.c (.i .i64 (.ofNat 2)))⟩], [], (some ⟨(some (K.ofNat 27)), none, .call (.c (.fn (K.ofNat 89) [])) [(.t (K.ofNat 24)), (.t (K.ofNat 26))]⟩), []⟩, ⟨[⟨(some (K.ofNat 28)), none, .bin .sub (.t (K.ofNat 23)) (.t (K.ofNat 27))⟩], [⟨(some (K.ofNat 17)), none, .mv (.t (K.ofNat 4))⟩, ⟨(some (K.ofNat 18)), none, .mv (.t (K.ofNat 5))⟩, ⟨(some (K.ofNat 19)), none, .mv (.t (K.ofNat 3))⟩, ⟨(some (K.ofNat 20)), none, .mv (.t (K.ofNat 5))⟩, ⟨(some (K.ofNat 21)), none, .bin .add (.t (K.ofNat 20)) (.c (.i .i64 (.ofNat 1)))⟩, ⟨(some (K.ofNat 22)), none, .iads 1 (.t (K.ofNat 19)) (.t (K.ofNat 21))⟩, ⟨(some (K.ofNat 23)), none, .ld (.t (K.ofNat 22))⟩, ⟨(some (K.ofNat 29)), none, .ldn 64 (.t (K.ofNat 1))⟩, ⟨(some (K.ofNat 30)), none, .mv (.t (K.ofNat 5))⟩, ⟨(some (K.ofNat 31)), none, .bin .add (.t (K.ofNat 30)) (.c (.i .i64 (.ofNat 2)))⟩], (some ⟨(some (K.ofNat 32)), none, .call (.c (.fn (K.ofNat 89) [])) [(.t (K.ofNat 29)), (.t (K.ofNat 31))]⟩), []⟩, ⟨[⟨(some (K.ofNat 33)), none, .bin .sub (.t (K.ofNat 28)) (.t (K.ofNat 32))⟩, ⟨(some (K.ofNat 34)), none, .iads 1 (.t (K.ofNat 17)) (.t (K.ofNat 18))⟩], [⟨(some (K.ofNat 17)), none, .mv (.t (K.ofNat 4))⟩, ⟨(some (K.ofNat 18)), none, .mv (.t (K.ofNat 5))⟩, ⟨(some (K.ofNat 19)), none, .mv (.t (K.ofNat 3))⟩, ⟨(some (K.ofNat 20)), none, .mv (.t (K.ofNat 5))⟩, ⟨(some (K.ofNat 21)), none, .bin .add (.t (K.ofNat 20)) (.c (.i .i64 (.ofNat 1)))⟩, ⟨(some (K.ofNat 22)), none, .iads 1 (.t (K.ofNat 19)) (.t (K.ofNat 21))⟩, ⟨(some (K.ofNat 23)), none, .ld (.t (K.ofNat 22))⟩, ⟨(some (K.ofNat 28)), none, .bin .sub (.t (K.ofNat 23)) (.t (K.ofNat 27))⟩], (some ⟨none, none, .st 1 (.t (K.ofNat 34)) (.t (K.ofNat 33))⟩), []⟩, ⟨[], [], none, []⟩]
noncomputable def f64_r7 : List EOper := [⟨(some (K.ofNat 35)), none, .bin .add (.t (K.ofNat 14)) (.c (.i .i64 (.ofNat 1)))⟩, ⟨(some (K.ofNat 14)), none, .mv (.t (K.ofNat 35))⟩]
noncomputable def f64_l0 : EC := (.seq (.reg f64_r4) (.seq (.cond (.t (K.ofNat 15)) .skip (.exit 0)) (.seq (.block 1 (.seq (.reg f64_r5) (.draw f64_r6))) (.reg f64_r7))))
noncomputable def f64_r8 : List EOper := [⟨(some (K.ofNat 36)), none, .mv (.t (K.ofNat 4))⟩, ⟨(some (K.ofNat 2)), none, .as (.t (K.ofNat 36))⟩]
noncomputable def f64_c : EC := (.seq (.reg f64_r0) (.seq (.reg f64_r1) (.seq (.reg f64_r2) (.seq (.seq (.reg f64_r3) (.block 0 (.loop f64_l0))) (.seq (.reg f64_r8) .ret)))))
noncomputable def f64 : EF := ⟨37, [.tmp (K.ofNat 2)], f64_c, none⟩
noncomputable def f26_r0 : List EOper := [⟨(some (K.ofNat 4)), none, .as (.c .sn)⟩, ⟨(some (K.ofNat 5)), none, .as (.c (.i .i64 (.ofNat 0)))⟩]
noncomputable def f26_r1 : List EOper := [⟨(some (K.ofNat 7)), none, .mv (.t (K.ofNat 0))⟩, ⟨(some (K.ofNat 8)), none, .mv (.t (K.ofNat 1))⟩, ⟨(some (K.ofNat 9)), none, .call (.c (.fn (K.ofNat 16) [])) [(.t (K.ofNat 7)), (.t (K.ofNat 8))]⟩, ⟨(some (K.ofNat 6)), none, .as (.t (K.ofNat 9))⟩]
noncomputable def f26_r2 : List EOper := [⟨(some (K.ofNat 10)), none, .mv (.t (K.ofNat 6))⟩, ⟨(some (K.ofNat 11)), none, .bin .neq (.t (K.ofNat 10)) (.c (.i .i64 (.ofNat 0)))⟩]
noncomputable def f26_r3 : List EOper := [⟨(some (K.ofNat 12)), none, .mv (.t (K.ofNat 6))⟩, ⟨(some (K.ofNat 4)), none, .as (.c .sn)⟩, ⟨(some (K.ofNat 5)), none, .as (.t (K.ofNat 12))⟩]
noncomputable def f26_r4 : List EOper := [⟨(some (K.ofNat 13)), none, .mv (.t (K.ofNat 1))⟩, ⟨(some (K.ofNat 14)), none, .call (.c (.fn (K.ofNat 55) [])) [(.t (K.ofNat 13))]⟩, ⟨(some (K.ofNat 15)), none, .call (.c (.fn (K.ofNat 64) [])) [(.t (K.ofNat 14))]⟩, ⟨(some (K.ofNat 4)), none, .as (.t (K.ofNat 15))⟩, ⟨(some (K.ofNat 5)), none, .as (.c (.i .i64 (.ofNat 0)))⟩]
noncomputable def f26_c : EC := (.seq (.reg f26_r0) (.seq (.seq (.reg f26_r1) (.seq (.reg f26_r2) (.cond (.t (K.ofNat 11)) (.seq (.reg f26_r3) .ret) .skip))) (.seq (.reg f26_r4) .ret)))
noncomputable def f26 : EF := ⟨16, [.tmp (K.ofNat 4), .tmp (K.ofNat 5)], f26_c, none⟩
section
variable {fs : T EF} {ro : Option K}
noncomputable def hvS (C : List Int) (B : Nat → Bool) (t : Nat) : Int := fw .i64 (fw .i64 (C.getD (t + 1) 0 - (brS B (t + 1) : Int)) - (brS B (t + 2) : Int))
noncomputable def hollS (C : List Int) (B : Nat → Bool) : List Int := (List.range (C.length - 1)).map (hvS C B)
end
end Go.Ev
namespace Go.Ev
open Go Go.RowKit
noncomputable def f19_r0 : List EOper := [⟨(some (K.ofNat 4)), none, .as (.c .sn)⟩, ⟨(some (K.ofNat 5)), none, .as (.c (.i .i64 (.ofNat 0)))⟩]
noncomputable def f19_r1 : List EOper := [⟨(some (K.ofNat 10)), none, .mv (.t (K.ofNat 0))⟩, ⟨(some (K.ofNat 11)), none, .mv (.t (K.ofNat 1))⟩, ⟨(some (K.ofNat 12)), none, .call (.c (.fn (K.ofNat 16) [])) [(.t (K.ofNat 10)), (.t (K.ofNat 11))]⟩, ⟨(some (K.ofNat 6)), none, .as (.t (K.ofNat 12))⟩]
noncomputable def f19_r2 : List EOper := [⟨(some (K.ofNat 13)), none, .mv (.t (K.ofNat 6))⟩, ⟨(some (K.ofNat 14)), none, .bin .neq (.t (K.ofNat 13)) (.c (.i .i64 (.ofNat 0)))⟩]
noncomputable def f19_r3 : List EOper := [⟨(some (K.ofNat 15)), none, .mv (.t (K.ofNat 6))⟩, ⟨(some (K.ofNat 4)), none, .as (.c .sn)⟩, ⟨(some (K.ofNat 5)), none, .as (.t (K.ofNat 15))⟩]
noncomputable def f19_r4 : List EOper := [⟨(some (K.ofNat 16)), none, .mv (.t (K.ofNat 1))⟩, ⟨(some (K.ofNat 17)), none, .call (.c (.fn (K.ofNat 55) [])) [(.t (K.ofNat 16))]⟩, ⟨(some (K.ofNat 18)), none, .call (.c (.fn (K.ofNat 57) [])) [(.t (K.ofNat 17))]⟩, ⟨(some (K.ofNat 7)), none, .as (.t (K.ofNat 18))⟩]
noncomputable def f19_r5 : List EOper := [⟨(some (K.ofNat 19)), none, .mv (.t (K.ofNat 7))⟩, ⟨(some (K.ofNat 20)), none, .len (.t (K.ofNat 19))⟩, ⟨(some (K.ofNat 21)), none, .mv (.c (.i .i64 (.ofNat 0)))⟩]
noncomputable def f19_r6 : List EOper := [⟨(some (K.ofNat 22)), none, .bin .lss (.t (K.ofNat 21)) (.t (K.ofNat 20))⟩]
noncomputable def f19_r7 : List EOper := [⟨(some (K.ofNat 23)), none, .mv (.t (K.ofNat 21))⟩, ⟨(some (K.ofNat 8)), none, .as (.t (K.ofNat 23))⟩]
noncomputable def f19_r8 : List EOper := [⟨(some (K.ofNat 24)), none, .mv (.t (K.ofNat 8))⟩, ⟨(some (K.ofNat 9)), none, .as (.t (K.ofNat 24))⟩]
noncomputable def f19_r9 : List EOper := [⟨(some (K.ofNat 25)), none, .mv (.t (K.ofNat 9))⟩, ⟨(some (K.ofNat 26)), none, .bin .gtr (.t (K.ofNat 25)) (.c (.i .i64 (.ofNat 0)))⟩]
noncomputable def f19_r10 : List Stage := [⟨[⟨(some (K.ofNat 29)), none, .mv (.t (K.ofNat 7))⟩, ⟨(some (K.ofNat 30)), none, .mv (.t (K.ofNat 9))⟩, ⟨(some (K.ofNat 31)), none, .iads 1 (.t (K.ofNat 29)) (.t (K.ofNat 30))⟩, ⟨(some (K.ofNat 32)), none, .ld (.t (K.ofNat 31))⟩, ⟨(some (K.ofNat 33)), none, .mv (.t (K.ofNat 7))⟩, ⟨(some (K.ofNat 34)), none, .mv (.t (K.ofNat 9))⟩, ⟨(some (K.ofNat 35)), none, .bin .sub (.t (K.ofNat 34)) (.c (.i .i64 (.ofNat 1)))⟩, ⟨(some (K.ofNat 36)), none, .iads 1 (.t (K.ofNat 33)) (.t (K.ofNat 35))⟩, ⟨(some (K.ofNat 37)), none, .ld (.t (K.ofNat 36))⟩, ⟨(some (K.ofNat 38)), none, .bin .sub (.t (K.ofNat 32)) (.t (K.ofNat 37))⟩, ⟨(some (K.ofNat 39)), none, .iads 1 (.t (K.ofNat 29)) (.t (K.ofNat 30))⟩], [], (some ⟨none, none, .st 1 (.t (K.ofNat 39)) (.t (K.ofNat 38))⟩), []⟩, ⟨[], [], none, []⟩]
noncomputable def f19_r11 : List EOper := [⟨(some (K.ofNat 27)), none, .mv (.t (K.ofNat 9))⟩, ⟨(some (K.ofNat 28)), none, .bin .sub (.t (K.ofNat 27)) (.c (.i .i64 (.ofNat 1)))⟩, ⟨(some (K.ofNat 9)), none, .as (.t (K.ofNat 28))⟩]
noncomputable def f19_l0 : EC := (.seq (.seq (.reg f19_r9) (.cond (.t (K.ofNat 26)) .skip (.exit 2))) (.seq (.block 3 (.draw f19_r10)) (.reg f19_r11)))
noncomputable def f19_r12 : List EOper := [⟨(some (K.ofNat 40)), none, .bin .add (.t (K.ofNat 21)) (.c (.i .i64 (.ofNat 1)))⟩, ⟨(some (K.ofNat 21)), none, .mv (.t (K.ofNat 40))⟩]
noncomputable def f19_l1 : EC := (.seq (.reg f19_r6) (.seq (.cond (.t (K.ofNat 22)) .skip (.exit 0)) (.seq (.block 1 (.seq (.reg f19_r7) (.seq (.reg f19_r8) (.block 2 (.loop f19_l0))))) (.reg f19_r12))))
noncomputable def f19_r13 : List EOper := [⟨(some (K.ofNat 41)), none, .mv (.t (K.ofNat 7))⟩, ⟨(some (K.ofNat 4)), none, .as (.t (K.ofNat 41))⟩, ⟨(some (K.ofNat 5)), none, .as (.c (.i .i64 (.ofNat 0)))⟩]
noncomputable def f19_c : EC := (.seq (.reg f19_r0) (.seq (.seq (.reg f19_r1) (.seq (.reg f19_r2) (.cond (.t (K.ofNat 14)) (.seq (.reg f19_r3) .ret) .skip))) (.seq (.reg f19_r4) (.seq (.seq (.reg f19_r5) (.block 0 (.loop f19_l1))) (.seq (.reg f19_r13) .ret)))))
noncomputable def f19 : EF := ⟨42, [.tmp (K.ofNat 4), .tmp (K.ofNat 5)], f19_c, none⟩
theorem f19_rs : f19.rs = [.tmp (K.ofNat 4), .tmp (K.ofNat 5)] := of_eq_true (eq_self _)
noncomputable def f20_r0 : List EOper := [⟨(some (K.ofNat 4)), none, .as (.c (.i .i64 (.ofNat 0)))⟩, ⟨(some (K.ofNat 5)), none, .as (.c (.i .i64 (.ofNat 0)))⟩]
noncomputable def f20_r1 : List EOper := [⟨(some (K.ofNat 11)), none, .mv (.t (K.ofNat 0))⟩, ⟨(some (K.ofNat 12)), none, .mv (.t (K.ofNat 1))⟩, ⟨(some (K.ofNat 13)), none, .call (.c (.fn (K.ofNat 16) [])) [(.t (K.ofNat 11)), (.t (K.ofNat 12))]⟩, ⟨(some (K.ofNat 6)), none, .as (.t (K.ofNat 13))⟩]
noncomputable def f20_r2 : List EOper := [⟨(some (K.ofNat 14)), none, .mv (.t (K.ofNat 6))⟩, ⟨(some (K.ofNat 15)), none, .bin .neq (.t (K.ofNat 14)) (.c (.i .i64 (.ofNat 0)))⟩]
noncomputable def f20_r3 : List EOper := [⟨(some (K.ofNat 16)), none, .mv (.t (K.ofNat 6))⟩, ⟨(some (K.ofNat 4)), none, .as (.c (.i .i64 (.ofNat 0)))⟩, ⟨(some (K.ofNat 5)), none, .as (.t (K.ofNat 16))⟩]
noncomputable def f20_r4 : List EOper := [⟨(some (K.ofNat 7)), none, .as (.c (.i .i64 (.ofNat 0)))⟩, ⟨(some (K.ofNat 8)), none, .as (.c (.i .i64 (.ofNat 1)))⟩]
noncomputable def f20_r5 : List EOper := [⟨(some (K.ofNat 17)), none, .mv (.t (K.ofNat 1))⟩, ⟨(some (K.ofNat 18)), none, .call (.c (.fn (K.ofNat 55) [])) [(.t (K.ofNat 17))]⟩, ⟨(some (K.ofNat 19)), none, .call (.c (.fn (K.ofNat 57) [])) [(.t (K.ofNat 18))]⟩, ⟨(some (K.ofNat 20)), none, .slice 1 (.t (K.ofNat 19)) (some (.c (.i .i64 (.ofNat 1)))) none none⟩, ⟨(some (K.ofNat 21)), none, .len (.t (K.ofNat 20))⟩, ⟨(some (K.ofNat 22)), none, .mv (.c (.i .i64 (.ofNat 0)))⟩]
noncomputable def f20_r6 : List EOper := [⟨(some (K.ofNat 23)), none, .bin .lss (.t (K.ofNat 22)) (.t (K.ofNat 21))⟩]
noncomputable def f20_r7 : List EOper := [⟨(some (K.ofNat 24)), none, .iads 1 (.t (K.ofNat 20)) (.t (K.ofNat 22))⟩, ⟨(some (K.ofNat 25)), none, .ld (.t (K.ofNat 24))⟩, ⟨(some (K.ofNat 10)), none, .as (.t (K.ofNat 25))⟩]
noncomputable def f20_r8 : List EOper := [⟨(some (K.ofNat 26)), none, .mv (.t (K.ofNat 7))⟩, ⟨(some (K.ofNat 27)), none, .mv (.t (K.ofNat 8))⟩, ⟨(some (K.ofNat 28)), none, .mv (.t (K.ofNat 10))⟩, ⟨(some (K.ofNat 29)), none, .bin .mul (.t (K.ofNat 27)) (.t (K.ofNat 28))⟩, ⟨(some (K.ofNat 30)), none, .bin .add (.t (K.ofNat 26)) (.t (K.ofNat 29))⟩, ⟨(some (K.ofNat 7)), none, .as (.t (K.ofNat 30))⟩]
noncomputable def f20_r9 : List EOper := [⟨(some (K.ofNat 31)), none, .mv (.t (K.ofNat 8))⟩, ⟨(some (K.ofNat 32)), none, .neg (.t (K.ofNat 31))⟩, ⟨(some (K.ofNat 8)), none, .as (.t (K.ofNat 32))⟩]
noncomputable def f20_r10 : List EOper := [⟨(some (K.ofNat 33)), none, .bin .add (.t (K.ofNat 22)) (.c (.i .i64 (.ofNat 1)))⟩, ⟨(some (K.ofNat 22)), none, .mv (.t (K.ofNat 33))⟩]
noncomputable def f20_l0 : EC := (.seq (.reg f20_r6) (.seq (.cond (.t (K.ofNat 23)) .skip (.exit 0)) (.seq (.block 1 (.seq (.reg f20_r7) (.seq (.reg f20_r8) (.reg f20_r9)))) (.reg f20_r10))))
noncomputable def f20_r11 : List EOper := [⟨(some (K.ofNat 34)), none, .mv (.t (K.ofNat 7))⟩, ⟨(some (K.ofNat 4)), none, .as (.t (K.ofNat 34))⟩, ⟨(some (K.ofNat 5)), none, .as (.c (.i .i64 (.ofNat 0)))⟩]
noncomputable def f20_c : EC := (.seq (.reg f20_r0) (.seq (.seq (.reg f20_r1) (.seq (.reg f20_r2) (.cond (.t (K.ofNat 15)) (.seq (.reg f20_r3) .ret) .skip))) (.seq (.reg f20_r4) (.seq (.seq (.reg f20_r5) (.block 0 (.loop f20_l0))) (.seq (.reg f20_r11) .ret)))))
noncomputable def f20 : EF := ⟨35, [.tmp (K.ofNat 4), .tmp (K.ofNat 5)], f20_c, none⟩
section
variable {fs : T EF} {ro : Option K}
noncomputable def innerS : List Int → Nat → List Int
  | L, 0 => L
  | L, i + 1 => innerS (L.set (i + 1) (fw .i64 (L.getD (i + 1) 0 - L.getD i 0))) i
theorem innerS_len : ∀ (i : Nat) (L : List Int), (innerS L i).length = L.length
  | 0, L => rfl
  | i + 1, L => by rw [innerS, innerS_len i, List.length_set]
noncomputable def hsTo (L : List Int) (i : Nat) : List Int := (List.range i).foldl innerS L
theorem hsTo_succ {L : List Int} {i : Nat} : hsTo L (i + 1) = innerS (hsTo L i) i := by unfold hsTo; rw [List.range_succ, List.foldl_append]; rfl
theorem hsTo_len {L : List Int} : ∀ i, (hsTo L i).length = L.length
  | 0 => rfl
  | i + 1 => by rw [hsTo_succ, innerS_len, hsTo_len i]
noncomputable def hsS (L : List Int) : List Int := hsTo L L.length
def f19_I0 (h : H) (n : Nat) (last : Nat) (R : List Int) (v : V) (i : Nat) (fr : Fr) (h1 : H) : Prop := ∃ L, i < L.length ∧ L.length = n ∧ innerS L i = R ∧ Sl iE h1 v L ∧ Own h.nx.nat v ∧ Grow h.nx.nat h h1 ∧ fr.get (K.ofNat 7) = some (v) ∧ fr.get (K.ofNat 9) = some (.i .i64 (i : Int)) ∧ fr.get (K.ofNat 20) = some (.i .i64 (n : Int)) ∧ fr.get (K.ofNat 21) = some (.i .i64 (last : Int))
theorem f19_inner {Q : Ex → Fr → H → Prop} {h h0 : H} {n last : Nat} {R : List Int} {v : V} {i : Nat} {fr : Fr} (hc : HC h) (hn : n ≤ 7)
    (hi : f19_I0 h n last R v i fr h0)
    (hq : ∀ fr h1, Sl iE h1 v R → Grow h.nx.nat h h1 → fr.get (K.ofNat 7) = some (v) ∧ fr.get (K.ofNat 20) = some (.i .i64 (n : Int)) ∧ fr.get (K.ofNat 21) = some (.i .i64 (last : Int)) → Q (.exit 2) fr h1) :
    W fs ro (.loop f19_l0) Q fr h0 := by
  refine W_loop (f19_I0 h n last R v) (fun i => i) ?_ i hi
  clear hi fr h0 i
  rintro i fr h1 ⟨L, hi, hn', hR, hs, ho, hgr, g7, g9, g20, g21⟩
  have hc1 := hgr.hc hc
  unfold f19_l0
  cases i with
  | zero =>
    have h0 : ¬ (0 : Int) < ((0 : Nat) : Int) := by omega
    simp (disch := omega) only [f19_r9, w_reg, w_seq, w_cond, w_exit, seqK_n, seqK_e, loopK_e, ckB_b, cbB_b, true_and, x_nil, x_mv, x_bin, kx, rvP_ok, okv_some, ev_t, ev_c, getV_some, putD_some, bin_gtr, of0, getK_set, ↓reduceIte, Bool.false_eq_true, g9, h0, decide_false]
    exact hq _ _ (by rw [← hR]; exact hs) hgr (by simp (disch := omega) only [getK_set, Nat.reduceEqDiff, ↓reduceIte, g7, g20, g21, and_self])
  | succ i =>
    have h0 : (0 : Int) < ((i + 1 : Nat) : Int) := by omega
    obtain ⟨p, hp1, hp2⟩ := hs.at (i + 1) hi
    obtain ⟨p', hp1', hp2'⟩ := hs.at i (by omega)
    obtain ⟨p2, id, m2, cs2, q1, q2, q3, ⟨off, nn, sz, q4⟩, q5⟩ := hs.st hi (x := fw .i64 (L[i + 1] - L[i])) (c := .i .i64 (fw .i64 (L[i + 1] - L[i]))) rfl rfl hc1
    have hpp : p2 = p := by
      have h1' := hp1 .i64 h1
      have h2' := q1 .i64 h1
      rw [h1'] at h2'
      cases h2'; rfl
    subst hpp
    have hid := ho id off nn sz q4
    have hsub : fw .i64 (((i + 1 : Nat) : Int) - 1) = (i : Int) := by rw [fw64 (by omega) (by omega)]; omega
    simp (disch := omega) only [f19_r9, f19_r10, f19_r11, w_skip, w_reg, w_draw, w_seq, w_cond, w_block, seqK_n, atK_n, loopK_n, ckB_b, cbB_b, true_and, x_nil, x_mv, x_as, x_st, x_bin, kx, kg, xg_nil, xg_mv, xg_ld, xg_bin, xg_iads, xd_cons, fresh_nil, stK_n, stK_s, stay_nil, rvP_ok, okv_some, ev_t, ev_c, getV_some, putD_some, putD_none, bin_sub, bin_gtr, of0, of1, getK_set, Nat.reduceEqDiff, ↓reduceIte, g7, g9, h0, decide_true, hp1, hp2, hsub, hp1', hp2', iE, q2]
    refine ⟨i, by omega, L.set (i + 1) (fw .i64 (L[i + 1] - L[i])), by rw [List.length_set]; omega, by rw [List.length_set]; exact hn', ?_, q3, ho, hgr.trans (Grow.put hid q5 _), by simp (disch := omega) only [getK_set, Nat.reduceEqDiff, ↓reduceIte, g7, g20, g21, and_self]⟩
    rw [← hR, innerS]
    congr 2
    have hi2 : i < L.length := by omega
    simp [List.getD, hi, hi2]
def f19_I1 (h : H) (n : Nat) (C : List Int) (v : V) (i : Nat) (fr : Fr) (h1 : H) : Prop := i ≤ n ∧ Sl iE h1 v (hsTo C i) ∧ Own h.nx.nat v ∧ Grow h.nx.nat h h1 ∧ fr.get (K.ofNat 7) = some (v) ∧ fr.get (K.ofNat 20) = some (.i .i64 (n : Int)) ∧ fr.get (K.ofNat 21) = some (.i .i64 (i : Int))
theorem f19_ret {h : H} {v : V} {S : List Int} {n : Int} (hp : ∀ a b h P, CallP fs (.fn (K.ofNat 54) []) [.i .i64 a, .i .i64 b] h P = P (.b (ptI a b)) h)
    (hp75 : ∀ m : Nat, m < 64 → ∀ h P, CallP fs (.fn (K.ofNat 75) []) [.i .i64 (m : Int)] h P = P (.i .i64 (pop6 m : Int)) h)
    (h16 : fs.get (K.ofNat 16) = some f16) (h55 : fs.get (K.ofNat 55) = some f55) (h57 : fs.get (K.ofNat 57) = some f57) (h78 : fs.get (K.ofNat 78) = some f78) (h91 : fs.get (K.ofNat 91) = some alF)
    (hv : Sl iE h v S) (hc : HC h) (hS : S.length ≤ 1000000) :
    Ret fs f19 [.i .i64 n, v] h fun r h' => ∃ u, r = .tup [u, .i .i64 (chkS n S)] ∧ Sl iE h' u (if chkS n S = 0 then hsS (cntS (mem64 (famB S))) else []) ∧ Own h.nx.nat u ∧ Grow h.nx.nat h h' := by
  apply ret_of rfl
  show W fs none f19_c _ _ _
  unfold f19_c
  simp (disch := omega) only [f19_r0, f19_r1, w_reg, w_seq, seqK_n, x_nil, x_mv, x_as, x_call, ev_t, ev_c, evs_nil, evs_cons, getV_some, putD_some, frame_2, of0, getK_set, Nat.reduceEqDiff, ↓reduceIte]
  refine (callP_0 (ef := f16) h16 rfl (f16_ret hp hv)).mono ?_
  rintro u h1 ⟨rfl, rfl⟩
  by_cases e : chkS n S = 0
  · simp (disch := omega) only [f19_r2, f19_r4, w_skip, w_reg, w_seq, w_cond, seqK_n, ckB_b, cbB_b, true_and, x_nil, x_mv, x_as, x_bin, x_call, kx, rvP_ok, okv_some, ev_t, ev_c, evs_nil, evs_cons, getV_some, putD_some, bin_neq, of0, getK_set, Nat.reduceEqDiff, ↓reduceIte, Bool.false_eq_true, e, ne_eq, not_true_eq_false, decide_false]
    refine (callP_0 (ef := f55) h55 rfl (f55_ret (S := S) hp hv hc hS)).mono ?_
    rintro u h2 ⟨rfl, g2⟩
    rw [famB_list]
    simp (disch := omega) only [x_call, kx, ev_t, ev_c, evs_nil, evs_cons, getV_some, putD_some, getK_set, ↓reduceIte]
    refine (callP_0 (ef := f57) h57 rfl (f57_ret (B := famB S) hp75 h78 h91 (g2.hc hc))).mono ?_
    rintro u h3 ⟨hs, ho, g3⟩
    have hgr := g2.trans (g3.low g2.nx)
    have ho' := ho.low g2.nx
    have hl7 := cntS_len (mem64 (famB S))
    generalize cntS (mem64 (famB S)) = C at *
    simp (disch := omega) only [f19_r5, w_reg, w_seq, w_block, seqK_n, x_nil, x_mv, x_as, x_len, kx, rvP_ok, ev_t, ev_c, getV_some, putD_some, of0, getK_set, ↓reduceIte, hs.len]
    refine W_loop (f19_I1 h1 C.length C u) (fun i => C.length - i) ?_ 0 ⟨Nat.zero_le _, hs, ho', hgr, by simp (disch := omega) only [getK_set, Nat.reduceEqDiff, ↓reduceIte, and_self, Int.natCast_zero]⟩
    rintro i fr h4 ⟨hi, hs4, ho4, hgr4, g7, g20, g21⟩
    unfold f19_l1
    by_cases hlt : i < C.length
    · have hlt' : (i : Int) < (C.length : Int) := by omega
      simp (disch := omega) only [f19_r6, f19_r7, f19_r8, w_skip, w_reg, w_seq, w_cond, w_block, seqK_n, ckB_b, cbB_b, true_and, x_nil, x_mv, x_as, x_bin, kx, rvP_ok, okv_some, ev_t, getV_some, putD_some, bin_lss, getK_set, Nat.reduceEqDiff, ↓reduceIte, g20, g21, hlt', decide_true]
      refine f19_inner (h := h1) (n := C.length) (last := i) (R := hsTo C (i + 1)) (v := u) (i := i) hc hl7 ⟨hsTo C i, by rw [hsTo_len]; exact hlt, hsTo_len i, hsTo_succ.symm, hs4, ho4, hgr4, by simp (disch := omega) only [getK_set, Nat.reduceEqDiff, ↓reduceIte, g7, g20, g21, and_self]⟩ ?_
      rintro fr h5 hs5 hgr5 ⟨g7, g20, g21⟩
      simp (disch := omega) only [f19_r12, w_reg, seqK_n, atK_n, atK_e, loopK_n, x_nil, x_mv, x_bin, kx, rvP_ok, okv_some, ev_t, ev_c, getV_some, putD_some, bin_add, of1, getK_set, ↓reduceIte, g21, fw64]
      exact ⟨i + 1, by omega, hlt, hs5, ho4, hgr5, by simp (disch := omega) only [getK_set, Nat.reduceEqDiff, ↓reduceIte, g7, g20, and_self, Int.natCast_add, Int.natCast_one]⟩
    · obtain rfl : i = C.length := by omega
      have hlt' : ¬ (C.length : Int) < (C.length : Int) := by omega
      simp (disch := omega) only [f19_r6, f19_r13, f19_rs, w_reg, w_seq, w_cond, w_exit, w_ret, seqK_n, seqK_e, atK_e, loopK_e, ckB_b, cbB_b, true_and, retK_r, x_nil, x_mv, x_as, x_bin, kx, rvP_ok, okv_some, ev_t, ev_c, getV_some, putD_some, bin_lss, oGet_s, readRs_nil, readRs_t, retV_2, of0, Option.some.injEq, exists_eq_left', getK_set, Nat.reduceEqDiff, ↓reduceIte, Bool.false_eq_true, g7, g20, g21, hlt', decide_false]
      exact ⟨u, rfl, hs4, ho4, hgr4⟩
  · simp (disch := omega) only [f19_r2, f19_r3, f19_rs, w_reg, w_seq, w_cond, w_ret, seqK_n, seqK_r, ckB_b, cbB_b, true_and, retK_r, x_nil, x_mv, x_as, x_bin, kx, rvP_ok, okv_some, ev_t, ev_c, getV_some, putD_some, bin_neq, oGet_s, readRs_nil, readRs_t, retV_2, of0, Option.some.injEq, exists_eq_left', getK_set, Nat.reduceEqDiff, ↓reduceIte, e, ne_eq, not_false_eq_true, decide_true]
    exact ⟨.sn, rfl, Sl.nil, Own.sn, Grow.refl _ _⟩
/-- The sum with signs. -/
noncomputable def euS : List Int → Int → Int → Int
  | [], sum, _ => sum
  | x :: l, sum, sign => euS l (fw .i64 (sum + fw .i64 (sign * x))) (fw .i64 (isub 0 sign))
end
end Go.Ev
namespace Go.Ev
open Go Go.RowKit
section
variable {fs : T EF} {ro : Option K} {momL : Int → Int → List Int}
structure Made9 : Prop where
  m4 : ∀ n S, badMade n S = false → anyPos S = false → madeS n S = ([], 4)
  m8 : ∀ n S, badMade n S = false → anyPos S = true → madeS n S = if 10 < (piecesTo S 64).length then ([], 8) else (piecesTo S 64, 0)
end
end Go.Ev
namespace Go.Ev
open Go Go.RowKit
theorem xor_zero {a b : Nat} : a ^^^ b = 0 ↔ a = b := by
  constructor
  · intro h
    apply Nat.eq_of_testBit_eq
    intro i
    have := congrArg (fun n => Nat.testBit n i) h
    simp only [Nat.testBit_xor, Nat.zero_testBit] at this
    cases h1 : a.testBit i <;> cases h2 : b.testBit i <;> simp_all
  · rintro rfl; exact Nat.xor_self a
theorem ptI_nat {a b : Nat} (ha : a < 64) (hb : b < 64) : ptI (a : Int) (b : Int) = decide (a &&& b = a) := by
  unfold ptI
  rw [ibits_nat (by show a ≤ 9223372036854775807; omega) (by show b ≤ 9223372036854775807; omega), ieq_eq]
  have : (((Nat.xor a (Nat.land a b) : Nat) : Int) == Int.ofNat 0) = decide (a ^^^ (a &&& b) = 0) := by
    show ((((a ^^^ (a &&& b)) : Nat) : Int) == ((0 : Nat) : Int)) = _
    by_cases h : a ^^^ (a &&& b) = 0 <;> simp [h]
  rw [this]
  by_cases h : a &&& b = a
  · rw [decide_eq_true h, decide_eq_true (xor_zero.2 h.symm)]
  · rw [decide_eq_false h, decide_eq_false (fun e => h (xor_zero.1 e).symm)]
theorem sub_le {a b : Nat} (h : a &&& b = a) : a ≤ b := by rw [← h]; exact Nat.and_le_right
theorem sub_trans {a b c : Nat} (h1 : a &&& b = a) (h2 : b &&& c = b) : a &&& c = a := by
  rw [← h1, Nat.and_assoc, h2]
/-- All are sets of six corners. -/
def Sets (S : List Int) : Prop := ∀ s ∈ S, ∃ t : Nat, t < 64 ∧ s = (t : Int)
/-- A greatest number. -/
theorem exists_max : ∀ (S : List Int), S ≠ [] → ∃ m ∈ S, ∀ s ∈ S, s ≤ m
  | [], h => absurd rfl h
  | [x], _ => ⟨x, by simp, by simp⟩
  | x :: y :: l, _ => by
    obtain ⟨m, hm, h⟩ := exists_max (y :: l) (by simp)
    by_cases e : m ≤ x
    · exact ⟨x, by simp, fun s hs => by
        rcases List.mem_cons.1 hs with rfl | h1
        · exact Int.le_refl _
        · exact Int.le_trans (h s h1) e⟩
    · exact ⟨m, List.mem_cons_of_mem _ hm, fun s hs => by
        rcases List.mem_cons.1 hs with rfl | h1
        · omega
        · exact h s h1⟩
end Go.Ev
namespace Go.Ev
open Go Go.RowKit
noncomputable def f45_r0 : List EOper := [⟨(some (K.ofNat 4)), none, .as (.c (.b false))⟩]
noncomputable def f45_r1 : List EOper := [⟨(some (K.ofNat 5)), none, .as (.c (.i .i64 (.ofNat 0)))⟩]
noncomputable def f45_r2 : List EOper := [⟨(some (K.ofNat 6)), none, .mv (.t (K.ofNat 5))⟩, ⟨(some (K.ofNat 7)), none, .mv (.t (K.ofNat 0))⟩, ⟨(some (K.ofNat 8)), none, .len (.t (K.ofNat 7))⟩, ⟨(some (K.ofNat 9)), none, .bin .lss (.t (K.ofNat 6)) (.t (K.ofNat 8))⟩]
noncomputable def f45_r3 : List EOper := [⟨(some (K.ofNat 12)), none, .mv (.t (K.ofNat 1))⟩, ⟨(some (K.ofNat 13)), none, .mv (.t (K.ofNat 0))⟩, ⟨(some (K.ofNat 14)), none, .mv (.t (K.ofNat 5))⟩, ⟨(some (K.ofNat 15)), none, .iads 1 (.t (K.ofNat 13)) (.t (K.ofNat 14))⟩, ⟨(some (K.ofNat 16)), none, .ld (.t (K.ofNat 15))⟩, ⟨(some (K.ofNat 17)), none, .call (.c (.fn (K.ofNat 53) [])) [(.t (K.ofNat 12)), (.t (K.ofNat 16))]⟩]
noncomputable def f45_r4 : List EOper := [⟨(some (K.ofNat 4)), none, .as (.c (.b true))⟩]
noncomputable def f45_r5 : List EOper := [⟨(some (K.ofNat 10)), none, .mv (.t (K.ofNat 5))⟩, ⟨(some (K.ofNat 11)), none, .bin .add (.t (K.ofNat 10)) (.c (.i .i64 (.ofNat 1)))⟩, ⟨(some (K.ofNat 5)), none, .as (.t (K.ofNat 11))⟩]
noncomputable def f45_l0 : EC := (.seq (.seq (.reg f45_r2) (.cond (.t (K.ofNat 9)) .skip (.exit 0))) (.seq (.block 1 (.seq (.reg f45_r3) (.cond (.t (K.ofNat 17)) (.seq (.reg f45_r4) .ret) .skip))) (.reg f45_r5)))
noncomputable def f45_r6 : List EOper := [⟨(some (K.ofNat 4)), none, .as (.c (.b false))⟩]
noncomputable def f45_c : EC := (.seq (.reg f45_r0) (.seq (.seq (.reg f45_r1) (.block 0 (.loop f45_l0))) (.seq (.reg f45_r6) .ret)))
noncomputable def f45 : EF := ⟨18, [.tmp (K.ofNat 4)], f45_c, none⟩
noncomputable def f33_r0 : List EOper := [⟨(some (K.ofNat 4)), none, .as (.c .sn)⟩]
noncomputable def f33_r1 : List EOper := [⟨(some (K.ofNat 5)), none, .as (.c .sn)⟩]
noncomputable def f33_r2 : List EOper := [⟨(some (K.ofNat 6)), none, .as (.c (.i .i64 (.ofNat 0)))⟩]
noncomputable def f33_r3 : List EOper := [⟨(some (K.ofNat 7)), none, .mv (.t (K.ofNat 6))⟩, ⟨(some (K.ofNat 8)), none, .mv (.t (K.ofNat 0))⟩, ⟨(some (K.ofNat 9)), none, .bin .shl (.c (.i .i64 (.ofNat 1))) (.t (K.ofNat 8))⟩, ⟨(some (K.ofNat 10)), none, .bin .lss (.t (K.ofNat 7)) (.t (K.ofNat 9))⟩]
noncomputable def f33_r4 : List EOper := [⟨(some (K.ofNat 13)), none, .mv (.t (K.ofNat 1))⟩, ⟨(some (K.ofNat 14)), none, .mv (.t (K.ofNat 6))⟩, ⟨(some (K.ofNat 15)), none, .call (.c (.fn (K.ofNat 45) [])) [(.t (K.ofNat 13)), (.t (K.ofNat 14))]⟩]
noncomputable def f33_r5 : List EOper := [⟨(some (K.ofNat 16)), none, .mv (.t (K.ofNat 5))⟩, ⟨(some (K.ofNat 17)), none, .mv (.t (K.ofNat 6))⟩, ⟨(some (K.ofNat 18)), none, .bslice 1 1 [(.i .i64 (.ofNat 0))] [(0, 1, (.t (K.ofNat 17)))]⟩, ⟨(some (K.ofNat 19)), none, .app 1 (.t (K.ofNat 16)) (.t (K.ofNat 18))⟩, ⟨(some (K.ofNat 5)), none, .as (.t (K.ofNat 19))⟩]
noncomputable def f33_r6 : List EOper := [⟨(some (K.ofNat 11)), none, .mv (.t (K.ofNat 6))⟩, ⟨(some (K.ofNat 12)), none, .bin .add (.t (K.ofNat 11)) (.c (.i .i64 (.ofNat 1)))⟩, ⟨(some (K.ofNat 6)), none, .as (.t (K.ofNat 12))⟩]
noncomputable def f33_l0 : EC := (.seq (.seq (.reg f33_r3) (.cond (.t (K.ofNat 10)) .skip (.exit 0))) (.seq (.block 1 (.seq (.reg f33_r4) (.cond (.t (K.ofNat 15)) (.reg f33_r5) .skip))) (.reg f33_r6)))
noncomputable def f33_r7 : List EOper := [⟨(some (K.ofNat 20)), none, .mv (.t (K.ofNat 5))⟩, ⟨(some (K.ofNat 4)), none, .as (.t (K.ofNat 20))⟩]
noncomputable def f33_c : EC := (.seq (.reg f33_r0) (.seq (.reg f33_r1) (.seq (.seq (.reg f33_r2) (.block 0 (.loop f33_l0))) (.seq (.reg f33_r7) .ret))))
noncomputable def f33 : EF := ⟨21, [.tmp (K.ofNat 4)], f33_c, none⟩
noncomputable def f31_r0 : List EOper := [⟨(some (K.ofNat 4)), none, .as (.c .sn)⟩]
noncomputable def f31_r1 : List EOper := [⟨(some (K.ofNat 5)), none, .as (.c (.i .i64 (.ofNat 0)))⟩]
noncomputable def f31_r2 : List EOper := [⟨(some (K.ofNat 6)), none, .as (.c (.i .i64 (.ofNat 0)))⟩]
noncomputable def f31_r3 : List EOper := [⟨(some (K.ofNat 10)), none, .mv (.t (K.ofNat 6))⟩, ⟨(some (K.ofNat 11)), none, .mv (.t (K.ofNat 1))⟩, ⟨(some (K.ofNat 12)), none, .len (.t (K.ofNat 11))⟩, ⟨(some (K.ofNat 13)), none, .bin .lss (.t (K.ofNat 10)) (.t (K.ofNat 12))⟩]
noncomputable def f31_r4 : List EOper := [⟨(some (K.ofNat 16)), none, .mv (.t (K.ofNat 5))⟩, ⟨(some (K.ofNat 17)), none, .mv (.t (K.ofNat 1))⟩, ⟨(some (K.ofNat 18)), none, .mv (.t (K.ofNat 6))⟩, ⟨(some (K.ofNat 19)), none, .iads 1 (.t (K.ofNat 17)) (.t (K.ofNat 18))⟩, ⟨(some (K.ofNat 20)), none, .ld (.t (K.ofNat 19))⟩, ⟨(some (K.ofNat 21)), none, .call (.c (.fn (K.ofNat 52) [])) [(.t (K.ofNat 20))]⟩, ⟨(some (K.ofNat 22)), none, .max (.t (K.ofNat 16)) (.t (K.ofNat 21))⟩, ⟨(some (K.ofNat 5)), none, .as (.t (K.ofNat 22))⟩]
noncomputable def f31_r5 : List EOper := [⟨(some (K.ofNat 14)), none, .mv (.t (K.ofNat 6))⟩, ⟨(some (K.ofNat 15)), none, .bin .add (.t (K.ofNat 14)) (.c (.i .i64 (.ofNat 1)))⟩, ⟨(some (K.ofNat 6)), none, .as (.t (K.ofNat 15))⟩]
noncomputable def f31_l0 : EC := (.seq (.seq (.reg f31_r3) (.cond (.t (K.ofNat 13)) .skip (.exit 0))) (.seq (.block 1 (.reg f31_r4)) (.reg f31_r5)))
noncomputable def f31_r6 : List EOper := [⟨(some (K.ofNat 23)), none, .mv (.t (K.ofNat 5))⟩, ⟨(some (K.ofNat 24)), none, .bin .add (.t (K.ofNat 23)) (.c (.i .i64 (.ofNat 1)))⟩, ⟨(some (K.ofNat 25)), none, .mkslice 1 [(.i .i64 (.ofNat 0))] (.t (K.ofNat 24))⟩, ⟨(some (K.ofNat 7)), none, .as (.t (K.ofNat 25))⟩]
noncomputable def f31_r7 : List EOper := [⟨(some (K.ofNat 26)), none, .mv (.t (K.ofNat 0))⟩, ⟨(some (K.ofNat 27)), none, .mv (.t (K.ofNat 1))⟩, ⟨(some (K.ofNat 28)), none, .call (.c (.fn (K.ofNat 33) [])) [(.t (K.ofNat 26)), (.t (K.ofNat 27))]⟩, ⟨(some (K.ofNat 8)), none, .as (.t (K.ofNat 28))⟩]
noncomputable def f31_r8 : List EOper := [⟨(some (K.ofNat 9)), none, .as (.c (.i .i64 (.ofNat 0)))⟩]
noncomputable def f31_r9 : List EOper := [⟨(some (K.ofNat 29)), none, .mv (.t (K.ofNat 9))⟩, ⟨(some (K.ofNat 30)), none, .mv (.t (K.ofNat 8))⟩, ⟨(some (K.ofNat 31)), none, .len (.t (K.ofNat 30))⟩, ⟨(some (K.ofNat 32)), none, .bin .lss (.t (K.ofNat 29)) (.t (K.ofNat 31))⟩]
noncomputable def f31_r10 : List EOper := [⟨(some (K.ofNat 35)), none, .mv (.t (K.ofNat 7))⟩, ⟨(some (K.ofNat 36)), none, .mv (.t (K.ofNat 8))⟩, ⟨(some (K.ofNat 37)), none, .mv (.t (K.ofNat 9))⟩, ⟨(some (K.ofNat 38)), none, .iads 1 (.t (K.ofNat 36)) (.t (K.ofNat 37))⟩, ⟨(some (K.ofNat 39)), none, .ld (.t (K.ofNat 38))⟩, ⟨(some (K.ofNat 40)), none, .call (.c (.fn (K.ofNat 52) [])) [(.t (K.ofNat 39))]⟩, ⟨(some (K.ofNat 41)), none, .iads 1 (.t (K.ofNat 35)) (.t (K.ofNat 40))⟩, ⟨(some (K.ofNat 42)), none, .ld (.t (K.ofNat 41))⟩, ⟨(some (K.ofNat 43)), none, .bin .add (.t (K.ofNat 42)) (.c (.i .i64 (.ofNat 1)))⟩, ⟨(some (K.ofNat 44)), none, .iads 1 (.t (K.ofNat 35)) (.t (K.ofNat 40))⟩, ⟨none, none, .st 1 (.t (K.ofNat 44)) (.t (K.ofNat 43))⟩]
noncomputable def f31_r11 : List EOper := [⟨(some (K.ofNat 33)), none, .mv (.t (K.ofNat 9))⟩, ⟨(some (K.ofNat 34)), none, .bin .add (.t (K.ofNat 33)) (.c (.i .i64 (.ofNat 1)))⟩, ⟨(some (K.ofNat 9)), none, .as (.t (K.ofNat 34))⟩]
noncomputable def f31_l1 : EC := (.seq (.seq (.reg f31_r9) (.cond (.t (K.ofNat 32)) .skip (.exit 2))) (.seq (.block 3 (.reg f31_r10)) (.reg f31_r11)))
noncomputable def f31_r12 : List EOper := [⟨(some (K.ofNat 45)), none, .mv (.t (K.ofNat 7))⟩, ⟨(some (K.ofNat 4)), none, .as (.t (K.ofNat 45))⟩]
noncomputable def f31_c : EC := (.seq (.reg f31_r0) (.seq (.reg f31_r1) (.seq (.seq (.reg f31_r2) (.block 0 (.loop f31_l0))) (.seq (.reg f31_r6) (.seq (.reg f31_r7) (.seq (.seq (.reg f31_r8) (.block 2 (.loop f31_l1))) (.seq (.reg f31_r12) .ret)))))))
noncomputable def f31 : EF := ⟨46, [.tmp (K.ofNat 4)], f31_c, none⟩
noncomputable def f35_r0 : List EOper := [⟨(some (K.ofNat 2)), none, .as (.c (.i .i64 (.ofNat 0)))⟩]
noncomputable def f35_r1 : List EOper := [⟨(some (K.ofNat 3)), none, .as (.c (.i .i64 (.ofNat 0)))⟩]
noncomputable def f35_r2 : List EOper := [⟨(some (K.ofNat 4)), none, .as (.c (.i .i64 (.ofNat 1)))⟩]
noncomputable def f35_r3 : List EOper := [⟨(some (K.ofNat 5)), none, .mv (.t (K.ofNat 4))⟩, ⟨(some (K.ofNat 6)), none, .mv (.t (K.ofNat 0))⟩, ⟨(some (K.ofNat 7)), none, .len (.t (K.ofNat 6))⟩, ⟨(some (K.ofNat 8)), none, .bin .lss (.t (K.ofNat 5)) (.t (K.ofNat 7))⟩]
noncomputable def f35_r4 : List EOper := [⟨(some (K.ofNat 11)), none, .mv (.t (K.ofNat 3))⟩, ⟨(some (K.ofNat 12)), none, .mv (.t (K.ofNat 0))⟩, ⟨(some (K.ofNat 13)), none, .mv (.t (K.ofNat 4))⟩, ⟨(some (K.ofNat 14)), none, .iads 1 (.t (K.ofNat 12)) (.t (K.ofNat 13))⟩, ⟨(some (K.ofNat 15)), none, .ld (.t (K.ofNat 14))⟩, ⟨(some (K.ofNat 16)), none, .mv (.t (K.ofNat 4))⟩, ⟨(some (K.ofNat 17)), none, .bin .rem (.t (K.ofNat 16)) (.c (.i .i64 (.ofNat 2)))⟩, ⟨(some (K.ofNat 18)), none, .bin .mul (.c (.i .i64 (.ofNat 2))) (.t (K.ofNat 17))⟩, ⟨(some (K.ofNat 19)), none, .bin .sub (.t (K.ofNat 18)) (.c (.i .i64 (.ofNat 1)))⟩, ⟨(some (K.ofNat 20)), none, .bin .mul (.t (K.ofNat 15)) (.t (K.ofNat 19))⟩, ⟨(some (K.ofNat 21)), none, .bin .add (.t (K.ofNat 11)) (.t (K.ofNat 20))⟩, ⟨(some (K.ofNat 3)), none, .as (.t (K.ofNat 21))⟩]
noncomputable def f35_r5 : List EOper := [⟨(some (K.ofNat 9)), none, .mv (.t (K.ofNat 4))⟩, ⟨(some (K.ofNat 10)), none, .bin .add (.t (K.ofNat 9)) (.c (.i .i64 (.ofNat 1)))⟩, ⟨(some (K.ofNat 4)), none, .as (.t (K.ofNat 10))⟩]
noncomputable def f35_l0 : EC := (.seq (.seq (.reg f35_r3) (.cond (.t (K.ofNat 8)) .skip (.exit 0))) (.seq (.block 1 (.reg f35_r4)) (.reg f35_r5)))
noncomputable def f35_r6 : List EOper := [⟨(some (K.ofNat 22)), none, .mv (.t (K.ofNat 3))⟩, ⟨(some (K.ofNat 2)), none, .as (.t (K.ofNat 22))⟩]
noncomputable def f35_c : EC := (.seq (.reg f35_r0) (.seq (.reg f35_r1) (.seq (.seq (.reg f35_r2) (.block 0 (.loop f35_l0))) (.seq (.reg f35_r6) .ret))))
noncomputable def f35 : EF := ⟨23, [.tmp (K.ofNat 2)], f35_c, none⟩
section
variable {fs : T EF} {ro : Option K}
noncomputable def isF (S : List Int) (x : Int) : Bool := S.any fun s => ptI x s
noncomputable def facTo (S : List Int) (i : Nat) : List Int := ((List.range i).filter fun (k : Nat) => isF S (k : Int)).map fun (k : Nat) => (k : Int)
theorem pow_n {n : Int} (h1 : 1 ≤ n) (h6 : n ≤ 6) : 2 ^ n.toNat ≤ 64 ∧ ((2 ^ n.toNat : Nat) : Int) = (2 : Int) ^ n.toNat := by
  have : n = 1 ∨ n = 2 ∨ n = 3 ∨ n = 4 ∨ n = 5 ∨ n = 6 := by omega
  rcases this with rfl | rfl | rfl | rfl | rfl | rfl <;> decide
/-- The greatest number of elements. -/
noncomputable def maxS (S : List Int) : Nat := S.foldl (fun d s => max d (pop6 s.toNat)) 0
noncomputable def bump (C : List Int) (k : Nat) : List Int := C.set (pop6 k) (C.getD (pop6 k) 0 + 1)
noncomputable def rcnt (d : Nat) (l : List Nat) : List Int := l.foldl bump (List.replicate (d + 1) 0)
theorem rcnt_snoc {d : Nat} {l : List Nat} {k : Nat} : rcnt d (l ++ [k]) = bump (rcnt d l) k := by unfold rcnt; rw [List.foldl_append]; rfl
theorem rcnt_len {d : Nat} : ∀ l, (rcnt d l).length = d + 1 := by
  intro l
  refine snoc_ind (P := fun l => (rcnt d l).length = d + 1) (by simp [rcnt]) (fun l k ih => ?_) l
  rw [rcnt_snoc, bump, List.length_set, ih]
theorem rcnt_bd {d : Nat} : ∀ (l : List Nat), ∀ x ∈ rcnt d l, 0 ≤ x ∧ x ≤ (l.length : Int) := by
  intro l
  refine snoc_ind (P := fun l => ∀ x ∈ rcnt d l, 0 ≤ x ∧ x ≤ (l.length : Int)) (fun x hx => ?_) (fun l k ih x hx => ?_) l
  · have := List.eq_of_mem_replicate (show x ∈ List.replicate (d + 1) (0 : Int) from hx); simp; omega
  · rw [rcnt_snoc] at hx
    unfold bump at hx
    rw [List.length_append]
    rcases List.mem_or_eq_of_mem_set hx with h2 | h2
    · have := ih x h2; simp; omega
    · by_cases hk : pop6 k < (rcnt d l).length
      · have h3 : (rcnt d l).getD (pop6 k) 0 ∈ rcnt d l := by simp [List.getD, hk]
        have := ih _ h3; simp; omega
      · have : (rcnt d l).getD (pop6 k) 0 = 0 := by simp [List.getD, hk]
        simp; omega
noncomputable def facN (S : List Int) (m : Nat) : List Nat := (List.range m).filter fun (k : Nat) => isF S (k : Int)
/-- The sum of the counts with signs, as the reference has it: from the i-th on. -/
noncomputable def reuS (L : List Int) : Nat → Nat → Int → Int
  | 0, _, sum => sum
  | t + 1, i, sum => reuS L t (i + 1) (fw .i64 (sum + fw .i64 (L.getD i 0 * fw .i64 (fw .i64 (2 * ((i : Int).tmod 2)) - 1))))
end
end Go.Ev
namespace Go.Ev
open Go Go.RowKit
noncomputable def f74_r0 : List EOper := [⟨(some (K.ofNat 2)), none, .as (.c (.i .i64 (.ofNat 0)))⟩]
noncomputable def f74_r1 : List EOper := [⟨(some (K.ofNat 3)), none, .as (.c .sn)⟩]
noncomputable def f74_r2 : List EOper := [⟨(some (K.ofNat 8)), none, .mv (.t (K.ofNat 3))⟩, ⟨(some (K.ofNat 9)), none, .mv (.t (K.ofNat 0))⟩, ⟨(some (K.ofNat 10)), none, .app 1 (.t (K.ofNat 8)) (.t (K.ofNat 9))⟩, ⟨(some (K.ofNat 3)), none, .as (.t (K.ofNat 10))⟩]
noncomputable def f74_r3 : List EOper := [⟨(some (K.ofNat 4)), none, .as (.c (.i .i64 (.ofNat 0)))⟩]
noncomputable def f74_r4 : List EOper := [⟨(some (K.ofNat 5)), none, .as (.c (.i .i64 (.ofNat 0)))⟩]
noncomputable def f74_r5 : List EOper := [⟨(some (K.ofNat 11)), none, .mv (.t (K.ofNat 5))⟩, ⟨(some (K.ofNat 12)), none, .mv (.t (K.ofNat 3))⟩, ⟨(some (K.ofNat 13)), none, .len (.t (K.ofNat 12))⟩, ⟨(some (K.ofNat 14)), none, .bin .lss (.t (K.ofNat 11)) (.t (K.ofNat 13))⟩]
noncomputable def f74_r6 : List EOper := [⟨(some (K.ofNat 17)), none, .mv (.t (K.ofNat 3))⟩, ⟨(some (K.ofNat 18)), none, .mv (.t (K.ofNat 5))⟩, ⟨(some (K.ofNat 19)), none, .iads 1 (.t (K.ofNat 17)) (.t (K.ofNat 18))⟩, ⟨(some (K.ofNat 20)), none, .ld (.t (K.ofNat 19))⟩, ⟨(some (K.ofNat 21)), none, .bin .eql (.t (K.ofNat 20)) (.c (.i .i64 (.ofNat 0)))⟩]
noncomputable def f74_r7 : List EOper := [⟨(some (K.ofNat 22)), none, .mv (.t (K.ofNat 4))⟩, ⟨(some (K.ofNat 23)), none, .bin .add (.t (K.ofNat 22)) (.c (.i .i64 (.ofNat 1)))⟩, ⟨(some (K.ofNat 4)), none, .as (.t (K.ofNat 23))⟩]
noncomputable def f74_r8 : List Stage := [⟨[⟨(some (K.ofNat 24)), none, .mv (.t (K.ofNat 3))⟩, ⟨(some (K.ofNat 25)), none, .mv (.t (K.ofNat 5))⟩, ⟨(some (K.ofNat 26)), none, .iads 1 (.t (K.ofNat 24)) (.t (K.ofNat 25))⟩, ⟨(some (K.ofNat 27)), none, .ld (.t (K.ofNat 26))⟩, ⟨(some (K.ofNat 28)), none, .mv (.t (K.ofNat 3))⟩, ⟨(some (K.ofNat 29)), none, .mv (.t (K.ofNat 5))⟩, ⟨(some (K.ofNat 30)), none, .iads 1 (.t (K.ofNat 28)) (.t (K.ofNat 29))⟩, ⟨(some (K.ofNat 31)), none, .ld (.t (K.ofNat 30))⟩, ⟨(some (K.ofNat 32)), none, .neg (.t (K.ofNat 31))⟩, ⟨(some (K.ofNat 33)), none, .bin .and (.t (K.ofNat 27)) (.t (K.ofNat 32))⟩], [], (some ⟨(some (K.ofNat 6)), none, .as (.t (K.ofNat 33))⟩), []⟩, ⟨[], [], none, []⟩]
noncomputable def f74_r9 : List EOper := [⟨(some (K.ofNat 34)), none, .mv (.t (K.ofNat 5))⟩, ⟨(some (K.ofNat 35)), none, .bin .add (.t (K.ofNat 34)) (.c (.i .i64 (.ofNat 1)))⟩, ⟨(some (K.ofNat 7)), none, .as (.t (K.ofNat 35))⟩]
noncomputable def f74_r10 : List EOper := [⟨(some (K.ofNat 36)), none, .mv (.t (K.ofNat 7))⟩, ⟨(some (K.ofNat 37)), none, .mv (.t (K.ofNat 3))⟩, ⟨(some (K.ofNat 38)), none, .len (.t (K.ofNat 37))⟩, ⟨(some (K.ofNat 39)), none, .bin .lss (.t (K.ofNat 36)) (.t (K.ofNat 38))⟩]
noncomputable def f74_r11 : List EOper := [⟨(some (K.ofNat 42)), none, .mv (.t (K.ofNat 3))⟩, ⟨(some (K.ofNat 43)), none, .mv (.t (K.ofNat 7))⟩, ⟨(some (K.ofNat 44)), none, .iads 1 (.t (K.ofNat 42)) (.t (K.ofNat 43))⟩, ⟨(some (K.ofNat 45)), none, .ld (.t (K.ofNat 44))⟩, ⟨(some (K.ofNat 46)), none, .mv (.t (K.ofNat 6))⟩, ⟨(some (K.ofNat 47)), none, .bin .and (.t (K.ofNat 45)) (.t (K.ofNat 46))⟩, ⟨(some (K.ofNat 48)), none, .bin .neq (.t (K.ofNat 47)) (.c (.i .i64 (.ofNat 0)))⟩]
noncomputable def f74_r12 : List Stage := [⟨[⟨(some (K.ofNat 49)), none, .mv (.t (K.ofNat 3))⟩, ⟨(some (K.ofNat 50)), none, .mv (.t (K.ofNat 7))⟩, ⟨(some (K.ofNat 51)), none, .mv (.t (K.ofNat 3))⟩, ⟨(some (K.ofNat 52)), none, .mv (.t (K.ofNat 7))⟩, ⟨(some (K.ofNat 53)), none, .iads 1 (.t (K.ofNat 51)) (.t (K.ofNat 52))⟩, ⟨(some (K.ofNat 54)), none, .ld (.t (K.ofNat 53))⟩, ⟨(some (K.ofNat 55)), none, .mv (.t (K.ofNat 3))⟩, ⟨(some (K.ofNat 56)), none, .mv (.t (K.ofNat 5))⟩, ⟨(some (K.ofNat 57)), none, .iads 1 (.t (K.ofNat 55)) (.t (K.ofNat 56))⟩, ⟨(some (K.ofNat 58)), none, .ld (.t (K.ofNat 57))⟩, ⟨(some (K.ofNat 59)), none, .bin .xor (.t (K.ofNat 54)) (.t (K.ofNat 58))⟩, ⟨(some (K.ofNat 60)), none, .iads 1 (.t (K.ofNat 49)) (.t (K.ofNat 50))⟩], [], (some ⟨none, none, .st 1 (.t (K.ofNat 60)) (.t (K.ofNat 59))⟩), []⟩, ⟨[], [], none, []⟩]
noncomputable def f74_r13 : List EOper := [⟨(some (K.ofNat 40)), none, .mv (.t (K.ofNat 7))⟩, ⟨(some (K.ofNat 41)), none, .bin .add (.t (K.ofNat 40)) (.c (.i .i64 (.ofNat 1)))⟩, ⟨(some (K.ofNat 7)), none, .as (.t (K.ofNat 41))⟩]
noncomputable def f74_l0 : EC := (.seq (.seq (.reg f74_r10) (.cond (.t (K.ofNat 39)) .skip (.exit 2))) (.seq (.block 3 (.seq (.reg f74_r11) (.cond (.t (K.ofNat 48)) (.draw f74_r12) .skip))) (.reg f74_r13)))
noncomputable def f74_r14 : List EOper := [⟨(some (K.ofNat 15)), none, .mv (.t (K.ofNat 5))⟩, ⟨(some (K.ofNat 16)), none, .bin .add (.t (K.ofNat 15)) (.c (.i .i64 (.ofNat 1)))⟩, ⟨(some (K.ofNat 5)), none, .as (.t (K.ofNat 16))⟩]
noncomputable def f74_l1 : EC := (.seq (.seq (.reg f74_r5) (.cond (.t (K.ofNat 14)) .skip (.exit 0))) (.seq (.block 1 (.seq (.seq (.reg f74_r6) (.cond (.t (K.ofNat 21)) (.exit 1) .skip)) (.seq (.reg f74_r7) (.seq (.draw f74_r8) (.seq (.reg f74_r9) (.block 2 (.loop f74_l0))))))) (.reg f74_r14)))
noncomputable def f74_r15 : List EOper := [⟨(some (K.ofNat 61)), none, .mv (.t (K.ofNat 4))⟩, ⟨(some (K.ofNat 2)), none, .as (.t (K.ofNat 61))⟩]
noncomputable def f74_c : EC := (.seq (.reg f74_r0) (.seq (.reg f74_r1) (.seq (.reg f74_r2) (.seq (.reg f74_r3) (.seq (.seq (.reg f74_r4) (.block 0 (.loop f74_l1))) (.seq (.reg f74_r15) .ret))))))
noncomputable def f74 : EF := ⟨62, [.tmp (K.ofNat 2)], f74_c, none⟩
noncomputable def f73_r0 : List EOper := [⟨(some (K.ofNat 4)), none, .as (.c .sn)⟩]
noncomputable def f73_r1 : List EOper := [⟨(some (K.ofNat 5)), none, .as (.c .sn)⟩]
noncomputable def f73_r2 : List EOper := [⟨(some (K.ofNat 6)), none, .as (.c (.i .i64 (.ofNat 0)))⟩]
noncomputable def f73_r3 : List EOper := [⟨(some (K.ofNat 9)), none, .mv (.t (K.ofNat 6))⟩, ⟨(some (K.ofNat 10)), none, .mv (.t (K.ofNat 0))⟩, ⟨(some (K.ofNat 11)), none, .len (.t (K.ofNat 10))⟩, ⟨(some (K.ofNat 12)), none, .bin .lss (.t (K.ofNat 9)) (.t (K.ofNat 11))⟩]
noncomputable def f73_r4 : List EOper := [⟨(some (K.ofNat 15)), none, .mv (.t (K.ofNat 0))⟩, ⟨(some (K.ofNat 16)), none, .mv (.t (K.ofNat 6))⟩, ⟨(some (K.ofNat 17)), none, .iads 1 (.t (K.ofNat 15)) (.t (K.ofNat 16))⟩, ⟨(some (K.ofNat 18)), none, .ld (.t (K.ofNat 17))⟩, ⟨(some (K.ofNat 19)), none, .call (.c (.fn (K.ofNat 52) [])) [(.t (K.ofNat 18))]⟩, ⟨(some (K.ofNat 20)), none, .mv (.t (K.ofNat 1))⟩, ⟨(some (K.ofNat 21)), none, .bin .neq (.t (K.ofNat 19)) (.t (K.ofNat 20))⟩]
noncomputable def f73_r5 : List EOper := [⟨(some (K.ofNat 7)), none, .as (.c (.i .i64 (.ofNat 0)))⟩]
noncomputable def f73_r6 : List EOper := [⟨(some (K.ofNat 8)), none, .as (.c (.i .i64 (.ofNat 0)))⟩]
noncomputable def f73_r7 : List EOper := [⟨(some (K.ofNat 22)), none, .mv (.t (K.ofNat 8))⟩, ⟨(some (K.ofNat 23)), none, .bin .lss (.t (K.ofNat 22)) (.c (.i .i64 (.ofNat 6)))⟩]
noncomputable def f73_r8 : List EOper := [⟨(some (K.ofNat 26)), none, .mv (.t (K.ofNat 0))⟩, ⟨(some (K.ofNat 27)), none, .mv (.t (K.ofNat 6))⟩, ⟨(some (K.ofNat 28)), none, .iads 1 (.t (K.ofNat 26)) (.t (K.ofNat 27))⟩, ⟨(some (K.ofNat 29)), none, .ld (.t (K.ofNat 28))⟩, ⟨(some (K.ofNat 30)), none, .mv (.t (K.ofNat 8))⟩, ⟨(some (K.ofNat 31)), none, .bin .shr (.t (K.ofNat 29)) (.t (K.ofNat 30))⟩, ⟨(some (K.ofNat 32)), none, .bin .rem (.t (K.ofNat 31)) (.c (.i .i64 (.ofNat 2)))⟩, ⟨(some (K.ofNat 33)), none, .bin .eql (.t (K.ofNat 32)) (.c (.i .i64 (.ofNat 1)))⟩]
noncomputable def f73_r9 : List Stage := [⟨[⟨(some (K.ofNat 34)), none, .mv (.t (K.ofNat 7))⟩, ⟨(some (K.ofNat 35)), none, .mv (.t (K.ofNat 0))⟩, ⟨(some (K.ofNat 36)), none, .mv (.t (K.ofNat 6))⟩, ⟨(some (K.ofNat 37)), none, .iads 1 (.t (K.ofNat 35)) (.t (K.ofNat 36))⟩, ⟨(some (K.ofNat 38)), none, .ld (.t (K.ofNat 37))⟩, ⟨(some (K.ofNat 39)), none, .mv (.t (K.ofNat 8))⟩, ⟨(some (K.ofNat 40)), none, .bin .shl (.c (.i .i64 (.ofNat 1))) (.t (K.ofNat 39))⟩, ⟨(some (K.ofNat 41)), none, .bin .andNot (.t (K.ofNat 38)) (.t (K.ofNat 40))⟩, ⟨(some (K.ofNat 42)), none, .bin .shl (.c (.i .i64 (.ofNat 1))) (.t (K.ofNat 41))⟩, ⟨(some (K.ofNat 43)), none, .bin .or (.t (K.ofNat 34)) (.t (K.ofNat 42))⟩], [], (some ⟨(some (K.ofNat 7)), none, .as (.t (K.ofNat 43))⟩), []⟩, ⟨[], [], none, []⟩]
noncomputable def f73_r10 : List EOper := [⟨(some (K.ofNat 24)), none, .mv (.t (K.ofNat 8))⟩, ⟨(some (K.ofNat 25)), none, .bin .add (.t (K.ofNat 24)) (.c (.i .i64 (.ofNat 1)))⟩, ⟨(some (K.ofNat 8)), none, .as (.t (K.ofNat 25))⟩]
noncomputable def f73_l0 : EC := (.seq (.seq (.reg f73_r7) (.cond (.t (K.ofNat 23)) .skip (.exit 2))) (.seq (.block 3 (.seq (.reg f73_r8) (.cond (.t (K.ofNat 33)) (.draw f73_r9) .skip))) (.reg f73_r10)))
noncomputable def f73_r11 : List EOper := [⟨(some (K.ofNat 44)), none, .mv (.t (K.ofNat 5))⟩, ⟨(some (K.ofNat 45)), none, .mv (.t (K.ofNat 7))⟩, ⟨(some (K.ofNat 46)), none, .bslice 1 1 [(.i .i64 (.ofNat 0))] [(0, 1, (.t (K.ofNat 45)))]⟩, ⟨(some (K.ofNat 47)), none, .app 1 (.t (K.ofNat 44)) (.t (K.ofNat 46))⟩, ⟨(some (K.ofNat 5)), none, .as (.t (K.ofNat 47))⟩]
noncomputable def f73_r12 : List EOper := [⟨(some (K.ofNat 13)), none, .mv (.t (K.ofNat 6))⟩, ⟨(some (K.ofNat 14)), none, .bin .add (.t (K.ofNat 13)) (.c (.i .i64 (.ofNat 1)))⟩, ⟨(some (K.ofNat 6)), none, .as (.t (K.ofNat 14))⟩]
noncomputable def f73_l1 : EC := (.seq (.seq (.reg f73_r3) (.cond (.t (K.ofNat 12)) .skip (.exit 0))) (.seq (.block 1 (.seq (.seq (.reg f73_r4) (.cond (.t (K.ofNat 21)) (.exit 1) .skip)) (.seq (.reg f73_r5) (.seq (.seq (.reg f73_r6) (.block 2 (.loop f73_l0))) (.reg f73_r11))))) (.reg f73_r12)))
noncomputable def f73_r13 : List EOper := [⟨(some (K.ofNat 48)), none, .mv (.t (K.ofNat 5))⟩, ⟨(some (K.ofNat 4)), none, .as (.t (K.ofNat 48))⟩]
noncomputable def f73_c : EC := (.seq (.reg f73_r0) (.seq (.reg f73_r1) (.seq (.seq (.reg f73_r2) (.block 0 (.loop f73_l1))) (.seq (.reg f73_r13) .ret))))
noncomputable def f73 : EF := ⟨49, [.tmp (K.ofNat 4)], f73_c, none⟩
section
variable {fs : T EF} {ro : Option K}
theorem Sl.unmap {α β : Type} {e : β → V} {f : α → β} {h : H} {v : V} {L : List α} (hs : Sl e h v (L.map f)) : Sl (fun x => e (f x)) h v L := by
  rcases hs with ⟨rfl, hl⟩ | ⟨id, off, m, cs, rfl, hb, hl, hm, hx⟩
  · have : L = [] := by simpa using hl
    exact .inl ⟨rfl, this⟩
  · exact .inr ⟨id, off, m, cs, by rw [List.length_map], hb, by simpa using hl, by simpa using hm, fun i hi => by have := hx i (by simpa using hi); simpa using this⟩
theorem or_n {m n : Nat} (hm : m < 9223372036854775808) (hn : n < 9223372036854775808) : binV .or (.i .i64 (m : Int)) (.i .i64 (n : Int)) = some (.i .i64 ((m ||| n : Nat) : Int)) := bin_or (by show _ ≤ 9223372036854775807; omega) (by show _ ≤ 9223372036854775807; omega)
end
end Go.Ev
