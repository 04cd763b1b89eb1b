/-
  The law ShellsCollapses.
  Slices of pairs that come in: their numbers are in range; as pairs.
-/
import Derived.Test.YtneacehpoaambaaPh
import Derived.Test.YtneacehpoaambaaPf
namespace Go.Ev
open Go Go.RowKit
noncomputable def f7_r0 : List EOper := [⟨(some (K.ofNat 6)), none, .as (.c (.b false))⟩]
noncomputable def f7_r1 : List EOper := [⟨(some (K.ofNat 33)), none, .mv (.t (K.ofNat 0))⟩, ⟨(some (K.ofNat 34)), none, .mv (.t (K.ofNat 1))⟩, ⟨(some (K.ofNat 35)), none, .call (.c (.fn (K.ofNat 30) [])) [(.t (K.ofNat 33)), (.t (K.ofNat 34))]⟩, ⟨(some (K.ofNat 32)), none, .mv (.t (K.ofNat 35))⟩, ⟨(some (K.ofNat 36)), none, .ext (.t (K.ofNat 32)) 0⟩, ⟨(some (K.ofNat 37)), none, .ext (.t (K.ofNat 32)) 1⟩, ⟨(some (K.ofNat 7)), none, .as (.t (K.ofNat 36))⟩, ⟨(some (K.ofNat 8)), none, .as (.t (K.ofNat 37))⟩]
noncomputable def f7_r2 : List EOper := [⟨(some (K.ofNat 38)), none, .mv (.t (K.ofNat 7))⟩, ⟨(some (K.ofNat 39)), none, .mv (.t (K.ofNat 8))⟩, ⟨(some (K.ofNat 40)), none, .call (.c (.fn (K.ofNat 33) [])) [(.t (K.ofNat 38)), (.t (K.ofNat 39))]⟩, ⟨(some (K.ofNat 9)), none, .as (.t (K.ofNat 40))⟩]
noncomputable def f7_r3 : List EOper := [⟨(some (K.ofNat 42)), none, .mv (.t (K.ofNat 7))⟩, ⟨(some (K.ofNat 43)), none, .mv (.t (K.ofNat 8))⟩, ⟨(some (K.ofNat 44)), none, .call (.c (.fn (K.ofNat 24) [])) [(.t (K.ofNat 42)), (.t (K.ofNat 43))]⟩, ⟨(some (K.ofNat 41)), none, .mv (.t (K.ofNat 44))⟩, ⟨(some (K.ofNat 45)), none, .ext (.t (K.ofNat 41)) 0⟩, ⟨(some (K.ofNat 46)), none, .ext (.t (K.ofNat 41)) 1⟩, ⟨(some (K.ofNat 47)), none, .ext (.t (K.ofNat 41)) 2⟩, ⟨(some (K.ofNat 10)), none, .as (.t (K.ofNat 45))⟩, ⟨(some (K.ofNat 11)), none, .as (.t (K.ofNat 46))⟩, ⟨(some (K.ofNat 12)), none, .as (.t (K.ofNat 47))⟩]
noncomputable def f7_r4 : List EOper := [⟨(some (K.ofNat 48)), none, .mv (.t (K.ofNat 12))⟩, ⟨(some (K.ofNat 49)), none, .bin .neq (.t (K.ofNat 48)) (.c (.i .i64 (.ofNat 0)))⟩, ⟨(some (K.ofNat 50)), none, .mv (.t (K.ofNat 49))⟩, ⟨(some (K.ofNat 51)), (some ((K.ofNat 50), false)), .mv (.t (K.ofNat 11))⟩, ⟨(some (K.ofNat 52)), (some ((K.ofNat 50), false)), .mv (.t (K.ofNat 7))⟩, ⟨(some (K.ofNat 53)), (some ((K.ofNat 50), false)), .mv (.t (K.ofNat 8))⟩, ⟨(some (K.ofNat 54)), (some ((K.ofNat 50), false)), .call (.c (.fn (K.ofNat 40) [])) [(.t (K.ofNat 52)), (.t (K.ofNat 53))]⟩, ⟨(some (K.ofNat 55)), (some ((K.ofNat 50), false)), .eqk (.one none) true (.t (K.ofNat 51)) (.t (K.ofNat 54))⟩, ⟨(some (K.ofNat 56)), none, .pick (.t (K.ofNat 50)) (.c (.b true)) (.t (K.ofNat 55))⟩, ⟨(some (K.ofNat 57)), none, .mv (.t (K.ofNat 56))⟩, ⟨(some (K.ofNat 58)), (some ((K.ofNat 57), false)), .mv (.t (K.ofNat 11))⟩, ⟨(some (K.ofNat 59)), (some ((K.ofNat 57), false)), .not (.t (K.ofNat 58))⟩, ⟨(some (K.ofNat 60)), (some ((K.ofNat 57), false)), .mv (.t (K.ofNat 59))⟩, ⟨(some (K.ofNat 61)), (some ((K.ofNat 60), true)), .mv (.t (K.ofNat 10))⟩, ⟨(some (K.ofNat 62)), (some ((K.ofNat 60), true)), .len (.t (K.ofNat 61))⟩, ⟨(some (K.ofNat 63)), (some ((K.ofNat 60), true)), .bin .neq (.t (K.ofNat 62)) (.c (.i .i64 (.ofNat 0)))⟩, ⟨(some (K.ofNat 64)), (some ((K.ofNat 57), false)), .pick (.t (K.ofNat 60)) (.t (K.ofNat 63)) (.c (.b false))⟩, ⟨(some (K.ofNat 65)), none, .pick (.t (K.ofNat 57)) (.c (.b true)) (.t (K.ofNat 64))⟩]
noncomputable def f7_r5 : List EOper := [⟨(some (K.ofNat 6)), none, .as (.c (.b false))⟩]
noncomputable def f7_r6 : List EOper := [⟨(some (K.ofNat 66)), none, .mv (.t (K.ofNat 11))⟩]
noncomputable def f7_r7 : List EOper := [⟨(some (K.ofNat 68)), none, .mv (.t (K.ofNat 9))⟩, ⟨(some (K.ofNat 69)), none, .mv (.t (K.ofNat 10))⟩, ⟨(some (K.ofNat 70)), none, .call (.c (.fn (K.ofNat 41) [])) [(.t (K.ofNat 68)), (.t (K.ofNat 69))]⟩, ⟨(some (K.ofNat 67)), none, .mv (.t (K.ofNat 70))⟩, ⟨(some (K.ofNat 71)), none, .ext (.t (K.ofNat 67)) 0⟩, ⟨(some (K.ofNat 72)), none, .ext (.t (K.ofNat 67)) 1⟩, ⟨(some (K.ofNat 13)), none, .as (.t (K.ofNat 71))⟩, ⟨(some (K.ofNat 14)), none, .as (.t (K.ofNat 72))⟩]
noncomputable def f7_r8 : List EOper := [⟨(some (K.ofNat 73)), none, .mv (.t (K.ofNat 14))⟩, ⟨(some (K.ofNat 74)), none, .not (.t (K.ofNat 73))⟩, ⟨(some (K.ofNat 75)), none, .mv (.t (K.ofNat 74))⟩, ⟨(some (K.ofNat 76)), (some ((K.ofNat 75), false)), .mv (.t (K.ofNat 13))⟩, ⟨(some (K.ofNat 77)), (some ((K.ofNat 75), false)), .call (.c (.fn (K.ofNat 42) [])) [(.t (K.ofNat 76))]⟩, ⟨(some (K.ofNat 78)), (some ((K.ofNat 75), false)), .not (.t (K.ofNat 77))⟩, ⟨(some (K.ofNat 79)), none, .pick (.t (K.ofNat 75)) (.c (.b true)) (.t (K.ofNat 78))⟩]
noncomputable def f7_r9 : List EOper := [⟨(some (K.ofNat 6)), none, .as (.c (.b false))⟩]
noncomputable def f7_r10 : List EOper := [⟨(some (K.ofNat 81)), none, .mv (.t (K.ofNat 7))⟩, ⟨(some (K.ofNat 82)), none, .mv (.t (K.ofNat 8))⟩, ⟨(some (K.ofNat 83)), none, .mv (.t (K.ofNat 10))⟩, ⟨(some (K.ofNat 84)), none, .call (.c (.fn (K.ofNat 25) [])) [(.t (K.ofNat 81)), (.t (K.ofNat 82)), (.t (K.ofNat 83))]⟩, ⟨(some (K.ofNat 80)), none, .mv (.t (K.ofNat 84))⟩, ⟨(some (K.ofNat 85)), none, .ext (.t (K.ofNat 80)) 0⟩, ⟨(some (K.ofNat 86)), none, .ext (.t (K.ofNat 80)) 1⟩, ⟨(some (K.ofNat 87)), none, .ext (.t (K.ofNat 80)) 2⟩, ⟨(some (K.ofNat 15)), none, .as (.t (K.ofNat 85))⟩, ⟨(some (K.ofNat 16)), none, .as (.t (K.ofNat 86))⟩, ⟨(some (K.ofNat 17)), none, .as (.t (K.ofNat 87))⟩]
noncomputable def f7_r11 : List EOper := [⟨(some (K.ofNat 88)), none, .mv (.t (K.ofNat 17))⟩, ⟨(some (K.ofNat 89)), none, .bin .neq (.t (K.ofNat 88)) (.c (.i .i64 (.ofNat 0)))⟩, ⟨(some (K.ofNat 90)), none, .mv (.t (K.ofNat 89))⟩, ⟨(some (K.ofNat 91)), (some ((K.ofNat 90), false)), .mv (.t (K.ofNat 16))⟩, ⟨(some (K.ofNat 92)), (some ((K.ofNat 90), false)), .not (.t (K.ofNat 91))⟩, ⟨(some (K.ofNat 93)), none, .pick (.t (K.ofNat 90)) (.c (.b true)) (.t (K.ofNat 92))⟩, ⟨(some (K.ofNat 94)), none, .mv (.t (K.ofNat 93))⟩, ⟨(some (K.ofNat 95)), (some ((K.ofNat 94), false)), .mv (.t (K.ofNat 15))⟩, ⟨(some (K.ofNat 96)), (some ((K.ofNat 94), false)), .mv (.t (K.ofNat 13))⟩, ⟨(some (K.ofNat 97)), (some ((K.ofNat 94), false)), .call (.c (.fn (K.ofNat 32) [])) [(.t (K.ofNat 95)), (.t (K.ofNat 96))]⟩, ⟨(some (K.ofNat 98)), (some ((K.ofNat 94), false)), .not (.t (K.ofNat 97))⟩, ⟨(some (K.ofNat 99)), none, .pick (.t (K.ofNat 94)) (.c (.b true)) (.t (K.ofNat 98))⟩]
noncomputable def f7_r12 : List EOper := [⟨(some (K.ofNat 6)), none, .as (.c (.b false))⟩]
noncomputable def f7_r13 : List EOper := [⟨(some (K.ofNat 18)), none, .as (.c .sn)⟩]
noncomputable def f7_r14 : List EOper := [⟨(some (K.ofNat 19)), none, .as (.c (.i .i64 (.ofNat 0)))⟩]
noncomputable def f7_r15 : List EOper := [⟨(some (K.ofNat 100)), none, .mv (.t (K.ofNat 19))⟩, ⟨(some (K.ofNat 101)), none, .mv (.t (K.ofNat 2))⟩, ⟨(some (K.ofNat 102)), none, .len (.t (K.ofNat 101))⟩, ⟨(some (K.ofNat 103)), none, .bin .lss (.t (K.ofNat 100)) (.t (K.ofNat 102))⟩, ⟨(some (K.ofNat 104)), none, .mv (.t (K.ofNat 103))⟩, ⟨(some (K.ofNat 105)), (some ((K.ofNat 104), true)), .mv (.t (K.ofNat 19))⟩, ⟨(some (K.ofNat 106)), (some ((K.ofNat 104), true)), .bin .lss (.t (K.ofNat 105)) (.c (.i .i64 (.ofNat 12)))⟩, ⟨(some (K.ofNat 107)), none, .pick (.t (K.ofNat 104)) (.t (K.ofNat 106)) (.c (.b false))⟩]
noncomputable def f7_r16 : List EOper := [⟨(some (K.ofNat 110)), none, .mv (.t (K.ofNat 18))⟩, ⟨(some (K.ofNat 111)), none, .mv (.t (K.ofNat 2))⟩, ⟨(some (K.ofNat 112)), none, .mv (.t (K.ofNat 19))⟩, ⟨(some (K.ofNat 113)), none, .iads 2 (.t (K.ofNat 111)) (.t (K.ofNat 112))⟩, ⟨(some (K.ofNat 114)), none, .ldn 2 (.t (K.ofNat 113))⟩, ⟨(some (K.ofNat 115)), none, .bslice 1 2 [(.i .i64 (.ofNat 0)), (.i .i64 (.ofNat 0))] [(0, 2, (.t (K.ofNat 114)))]⟩, ⟨(some (K.ofNat 116)), none, .app 2 (.t (K.ofNat 110)) (.t (K.ofNat 115))⟩, ⟨(some (K.ofNat 18)), none, .as (.t (K.ofNat 116))⟩]
noncomputable def f7_r17 : List EOper := [⟨(some (K.ofNat 108)), none, .mv (.t (K.ofNat 19))⟩, ⟨(some (K.ofNat 109)), none, .bin .add (.t (K.ofNat 108)) (.c (.i .i64 (.ofNat 1)))⟩, ⟨(some (K.ofNat 19)), none, .as (.t (K.ofNat 109))⟩]
noncomputable def f7_l0 : EC := (.seq (.seq (.reg f7_r15) (.cond (.t (K.ofNat 107)) .skip (.exit 0))) (.seq (.block 1 (.reg f7_r16)) (.reg f7_r17)))
noncomputable def f7_r18 : List EOper := [⟨(some (K.ofNat 20)), none, .as (.c (.i .i64 (.ofNat 0)))⟩]
noncomputable def f7_r19 : List EOper := [⟨(some (K.ofNat 117)), none, .mv (.t (K.ofNat 20))⟩, ⟨(some (K.ofNat 118)), none, .bin .lss (.t (K.ofNat 117)) (.c (.i .i64 (.ofNat 2)))⟩]
noncomputable def f7_r20 : List EOper := [⟨(some (K.ofNat 122)), none, .mv (.t (K.ofNat 9))⟩, ⟨(some (K.ofNat 123)), none, .mv (.t (K.ofNat 18))⟩, ⟨(some (K.ofNat 124)), none, .call (.c (.fn (K.ofNat 41) [])) [(.t (K.ofNat 122)), (.t (K.ofNat 123))]⟩, ⟨(some (K.ofNat 121)), none, .mv (.t (K.ofNat 124))⟩, ⟨(some (K.ofNat 125)), none, .ext (.t (K.ofNat 121)) 0⟩, ⟨(some (K.ofNat 126)), none, .ext (.t (K.ofNat 121)) 1⟩, ⟨(some (K.ofNat 21)), none, .as (.t (K.ofNat 125))⟩, ⟨(some (K.ofNat 22)), none, .as (.t (K.ofNat 126))⟩]
noncomputable def f7_r21 : List EOper := [⟨(some (K.ofNat 128)), none, .mv (.t (K.ofNat 7))⟩, ⟨(some (K.ofNat 129)), none, .mv (.t (K.ofNat 8))⟩, ⟨(some (K.ofNat 130)), none, .mv (.t (K.ofNat 18))⟩, ⟨(some (K.ofNat 131)), none, .call (.c (.fn (K.ofNat 25) [])) [(.t (K.ofNat 128)), (.t (K.ofNat 129)), (.t (K.ofNat 130))]⟩, ⟨(some (K.ofNat 127)), none, .mv (.t (K.ofNat 131))⟩, ⟨(some (K.ofNat 132)), none, .ext (.t (K.ofNat 127)) 0⟩, ⟨(some (K.ofNat 133)), none, .ext (.t (K.ofNat 127)) 1⟩, ⟨(some (K.ofNat 134)), none, .ext (.t (K.ofNat 127)) 2⟩, ⟨(some (K.ofNat 23)), none, .as (.t (K.ofNat 132))⟩, ⟨(some (K.ofNat 24)), none, .as (.t (K.ofNat 133))⟩, ⟨(some (K.ofNat 25)), none, .as (.t (K.ofNat 134))⟩]
noncomputable def f7_r22 : List EOper := [⟨(some (K.ofNat 135)), none, .mv (.t (K.ofNat 25))⟩, ⟨(some (K.ofNat 136)), none, .bin .neq (.t (K.ofNat 135)) (.c (.i .i64 (.ofNat 0)))⟩, ⟨(some (K.ofNat 137)), none, .mv (.t (K.ofNat 136))⟩, ⟨(some (K.ofNat 138)), (some ((K.ofNat 137), false)), .mv (.t (K.ofNat 24))⟩, ⟨(some (K.ofNat 139)), (some ((K.ofNat 137), false)), .mv (.t (K.ofNat 22))⟩, ⟨(some (K.ofNat 140)), (some ((K.ofNat 137), false)), .eqk (.one none) true (.t (K.ofNat 138)) (.t (K.ofNat 139))⟩, ⟨(some (K.ofNat 141)), none, .pick (.t (K.ofNat 137)) (.c (.b true)) (.t (K.ofNat 140))⟩, ⟨(some (K.ofNat 142)), none, .mv (.t (K.ofNat 141))⟩, ⟨(some (K.ofNat 143)), (some ((K.ofNat 142), false)), .mv (.t (K.ofNat 22))⟩, ⟨(some (K.ofNat 144)), (some ((K.ofNat 142), false)), .mv (.t (K.ofNat 143))⟩, ⟨(some (K.ofNat 145)), (some ((K.ofNat 144), true)), .mv (.t (K.ofNat 23))⟩, ⟨(some (K.ofNat 146)), (some ((K.ofNat 144), true)), .mv (.t (K.ofNat 21))⟩, ⟨(some (K.ofNat 147)), (some ((K.ofNat 144), true)), .call (.c (.fn (K.ofNat 32) [])) [(.t (K.ofNat 145)), (.t (K.ofNat 146))]⟩, ⟨(some (K.ofNat 148)), (some ((K.ofNat 144), true)), .not (.t (K.ofNat 147))⟩, ⟨(some (K.ofNat 149)), (some ((K.ofNat 142), false)), .pick (.t (K.ofNat 144)) (.t (K.ofNat 148)) (.c (.b false))⟩, ⟨(some (K.ofNat 150)), none, .pick (.t (K.ofNat 142)) (.c (.b true)) (.t (K.ofNat 149))⟩, ⟨(some (K.ofNat 151)), none, .mv (.t (K.ofNat 150))⟩, ⟨(some (K.ofNat 152)), (some ((K.ofNat 151), false)), .mv (.t (K.ofNat 22))⟩, ⟨(some (K.ofNat 153)), (some ((K.ofNat 151), false)), .not (.t (K.ofNat 152))⟩, ⟨(some (K.ofNat 154)), (some ((K.ofNat 151), false)), .mv (.t (K.ofNat 153))⟩, ⟨(some (K.ofNat 155)), (some ((K.ofNat 154), true)), .mv (.t (K.ofNat 23))⟩, ⟨(some (K.ofNat 156)), (some ((K.ofNat 154), true)), .len (.t (K.ofNat 155))⟩, ⟨(some (K.ofNat 157)), (some ((K.ofNat 154), true)), .bin .neq (.t (K.ofNat 156)) (.c (.i .i64 (.ofNat 0)))⟩, ⟨(some (K.ofNat 158)), (some ((K.ofNat 151), false)), .pick (.t (K.ofNat 154)) (.t (K.ofNat 157)) (.c (.b false))⟩, ⟨(some (K.ofNat 159)), none, .pick (.t (K.ofNat 151)) (.c (.b true)) (.t (K.ofNat 158))⟩]
noncomputable def f7_r23 : List EOper := [⟨(some (K.ofNat 6)), none, .as (.c (.b false))⟩]
noncomputable def f7_r24 : List EOper := [⟨(some (K.ofNat 26)), none, .as (.c .sn)⟩]
noncomputable def f7_r25 : List EOper := [⟨(some (K.ofNat 160)), none, .mv (.t (K.ofNat 9))⟩, ⟨(some (K.ofNat 27)), none, .as (.t (K.ofNat 160))⟩]
noncomputable def f7_r26 : List EOper := [⟨(some (K.ofNat 28)), none, .as (.c (.i .i64 (.ofNat 0)))⟩]
noncomputable def f7_r27 : List EOper := [⟨(some (K.ofNat 161)), none, .mv (.t (K.ofNat 28))⟩, ⟨(some (K.ofNat 162)), none, .mv (.t (K.ofNat 2))⟩, ⟨(some (K.ofNat 163)), none, .len (.t (K.ofNat 162))⟩, ⟨(some (K.ofNat 164)), none, .bin .lss (.t (K.ofNat 161)) (.t (K.ofNat 163))⟩, ⟨(some (K.ofNat 165)), none, .mv (.t (K.ofNat 164))⟩, ⟨(some (K.ofNat 166)), (some ((K.ofNat 165), true)), .mv (.t (K.ofNat 28))⟩, ⟨(some (K.ofNat 167)), (some ((K.ofNat 165), true)), .bin .lss (.t (K.ofNat 166)) (.c (.i .i64 (.ofNat 12)))⟩, ⟨(some (K.ofNat 168)), none, .pick (.t (K.ofNat 165)) (.t (K.ofNat 167)) (.c (.b false))⟩]
noncomputable def f7_r28 : List Stage := [⟨[⟨(some (K.ofNat 171)), none, .mv (.t (K.ofNat 27))⟩, ⟨(some (K.ofNat 172)), none, .mv (.t (K.ofNat 2))⟩, ⟨(some (K.ofNat 173)), none, .mv (.t (K.ofNat 28))⟩, ⟨(some (K.ofNat 174)), none, .iads 2 (.t (K.ofNat 172)) (.t (K.ofNat 173))⟩, ⟨(some (K.ofNat 175)), none, .iadr 2 1 (.t (K.ofNat 174)) (.c (.i .i64 (.ofNat 0)))⟩, ⟨(some (K.ofNat 176)), none, .ld (.t (K.ofNat 175))⟩, ⟨(some (K.ofNat 177)), none, .conv .u64 (.t (K.ofNat 176))⟩, ⟨(some (K.ofNat 178)), none, .mv (.t (K.ofNat 27))⟩, ⟨(some (K.ofNat 179)), none, .len (.t (K.ofNat 178))⟩, ⟨(some (K.ofNat 180)), none, .conv .u64 (.t (K.ofNat 179))⟩, ⟨(some (K.ofNat 181)), none, .bin .rem (.t (K.ofNat 177)) (.t (K.ofNat 180))⟩, ⟨(some (K.ofNat 182)), none, .conv .i64 (.t (K.ofNat 181))⟩, ⟨(some (K.ofNat 183)), none, .iads 1 (.t (K.ofNat 171)) (.t (K.ofNat 182))⟩, ⟨(some (K.ofNat 184)), none, .ld (.t (K.ofNat 183))⟩, ⟨(some (K.ofNat 185)), none, .mv (.t (K.ofNat 27))⟩, ⟨(some (K.ofNat 186)), none, .mv (.t (K.ofNat 2))⟩, ⟨(some (K.ofNat 187)), none, .mv (.t (K.ofNat 28))⟩, ⟨(some (K.ofNat 188)), none, .iads 2 (.t (K.ofNat 186)) (.t (K.ofNat 187))⟩, ⟨(some (K.ofNat 189)), none, .iadr 2 1 (.t (K.ofNat 188)) (.c (.i .i64 (.ofNat 1)))⟩, ⟨(some (K.ofNat 190)), none, .ld (.t (K.ofNat 189))⟩, ⟨(some (K.ofNat 191)), none, .conv .u64 (.t (K.ofNat 190))⟩, ⟨(some (K.ofNat 192)), none, .mv (.t (K.ofNat 27))⟩, ⟨(some (K.ofNat 193)), none, .len (.t (K.ofNat 192))⟩, ⟨(some (K.ofNat 194)), none, .conv .u64 (.t (K.ofNat 193))⟩, ⟨(some (K.ofNat 195)), none, .bin .rem (.t (K.ofNat 191)) (.t (K.ofNat 194))⟩, ⟨(some (K.ofNat 196)), none, .conv .i64 (.t (K.ofNat 195))⟩, ⟨(some (K.ofNat 197)), none, .iads 1 (.t (K.ofNat 185)) (.t (K.ofNat 196))⟩, ⟨(some (K.ofNat 198)), none, .ld (.t (K.ofNat 197))⟩, ⟨(some (K.ofNat 199)), none, .build [(.i .i64 (.ofNat 0)), (.i .i64 (.ofNat 0))] [(0, 1, (.t (K.ofNat 184))), (1, 1, (.t (K.ofNat 198)))]⟩], [], (some ⟨(some (K.ofNat 29)), none, .alloc 2 [(.i .i64 (.ofNat 0)), (.i .i64 (.ofNat 0))]⟩), []⟩, ⟨[], [⟨(some (K.ofNat 171)), none, .mv (.t (K.ofNat 27))⟩, ⟨(some (K.ofNat 172)), none, .mv (.t (K.ofNat 2))⟩, ⟨(some (K.ofNat 173)), none, .mv (.t (K.ofNat 28))⟩, ⟨(some (K.ofNat 174)), none, .iads 2 (.t (K.ofNat 172)) (.t (K.ofNat 173))⟩, ⟨(some (K.ofNat 175)), none, .iadr 2 1 (.t (K.ofNat 174)) (.c (.i .i64 (.ofNat 0)))⟩, ⟨(some (K.ofNat 176)), none, .ld (.t (K.ofNat 175))⟩, ⟨(some (K.ofNat 177)), none, .conv .u64 (.t (K.ofNat 176))⟩, ⟨(some (K.ofNat 178)), none, .mv (.t (K.ofNat 27))⟩, ⟨(some (K.ofNat 179)), none, .len (.t (K.ofNat 178))⟩, ⟨(some (K.ofNat 180)), none, .conv .u64 (.t (K.ofNat 179))⟩, ⟨(some (K.ofNat 181)), none, .bin .rem (.t (K.ofNat 177)) (.t (K.ofNat 180))⟩, ⟨(some (K.ofNat 182)), none, .conv .i64 (.t (K.ofNat 181))⟩, ⟨(some (K.ofNat 183)), none, .iads 1 (.t (K.ofNat 171)) (.t (K.ofNat 182))⟩, ⟨(some (K.ofNat 184)), none, .ld (.t (K.ofNat 183))⟩, ⟨(some (K.ofNat 185)), none, .mv (.t (K.ofNat 27))⟩, ⟨(some (K.ofNat 186)), none, .mv (.t (K.ofNat 2))⟩, ⟨(some (K.ofNat 187)), none, .mv (.t (K.ofNat 28))⟩, ⟨(some (K.ofNat 188)), none, .iads 2 (.t (K.ofNat 186)) (.t (K.ofNat 187))⟩, ⟨(some (K.ofNat 189)), none, .iadr 2 1 (.t (K.ofNat 188)) (.c (.i .i64 (.ofNat 1)))⟩, ⟨(some (K.ofNat 190)), none, .ld (.t (K.ofNat 189))⟩, ⟨(some (K.ofNat 191)), none, .conv .u64 (.t (K.ofNat 190))⟩, ⟨(some (K.ofNat 192)), none, .mv (.t (K.ofNat 27))⟩, ⟨(some (K.ofNat 193)), none, .len (.t (K.ofNat 192))⟩, ⟨(some (K.ofNat 194)), none, .conv .u64 (.t (K.ofNat 193))⟩, ⟨(some (K.ofNat 195)), none, .bin .rem (.t (K.ofNat 191)) (.t (K.ofNat 194))⟩, ⟨(some (K.ofNat 196)), none, .conv .i64 (.t (K.ofNat 195))⟩, ⟨(some (K.ofNat 197)), none, .iads 1 (.t (K.ofNat 185)) (.t (K.ofNat 196))⟩, ⟨(some (K.ofNat 198)), none, .ld (.t (K.ofNat 197))⟩, ⟨(some (K.ofNat 199)), none, .build [(.i .i64 (.ofNat 0)), (.i .i64 (.ofNat 0))] [(0, 1, (.t (K.ofNat 184))), (1, 1, (.t (K.ofNat 198)))]⟩], (some ⟨none, none, .st 2 (.t (K.ofNat 29)) (.t (K.ofNat 199))⟩), []⟩, ⟨[], [], none, []⟩]
noncomputable def f7_r29 : List EOper := [⟨(some (K.ofNat 201)), none, .mv (.t (K.ofNat 27))⟩, ⟨(some (K.ofNat 202)), none, .ldn 2 (.t (K.ofNat 29))⟩, ⟨(some (K.ofNat 203)), none, .call (.c (.fn (K.ofNat 43) [])) [(.t (K.ofNat 201)), (.t (K.ofNat 202))]⟩, ⟨(some (K.ofNat 200)), none, .mv (.t (K.ofNat 203))⟩, ⟨(some (K.ofNat 204)), none, .ext (.t (K.ofNat 200)) 0⟩, ⟨(some (K.ofNat 205)), none, .ext (.t (K.ofNat 200)) 1⟩, ⟨(some (K.ofNat 30)), none, .as (.t (K.ofNat 204))⟩, ⟨(some (K.ofNat 31)), none, .as (.t (K.ofNat 205))⟩]
noncomputable def f7_r30 : List EOper := [⟨(some (K.ofNat 206)), none, .mv (.t (K.ofNat 31))⟩]
noncomputable def f7_r31 : List EOper := [⟨(some (K.ofNat 207)), none, .mv (.t (K.ofNat 30))⟩, ⟨(some (K.ofNat 27)), none, .as (.t (K.ofNat 207))⟩]
noncomputable def f7_r32 : List EOper := [⟨(some (K.ofNat 208)), none, .mv (.t (K.ofNat 26))⟩, ⟨(some (K.ofNat 209)), none, .ldn 2 (.t (K.ofNat 29))⟩, ⟨(some (K.ofNat 210)), none, .bslice 1 2 [(.i .i64 (.ofNat 0)), (.i .i64 (.ofNat 0))] [(0, 2, (.t (K.ofNat 209)))]⟩, ⟨(some (K.ofNat 211)), none, .app 2 (.t (K.ofNat 208)) (.t (K.ofNat 210))⟩, ⟨(some (K.ofNat 26)), none, .as (.t (K.ofNat 211))⟩]
noncomputable def f7_r33 : List EOper := [⟨(some (K.ofNat 169)), none, .mv (.t (K.ofNat 28))⟩, ⟨(some (K.ofNat 170)), none, .bin .add (.t (K.ofNat 169)) (.c (.i .i64 (.ofNat 1)))⟩, ⟨(some (K.ofNat 28)), none, .as (.t (K.ofNat 170))⟩]
noncomputable def f7_l1 : EC := (.seq (.seq (.reg f7_r27) (.cond (.t (K.ofNat 168)) .skip (.exit 4))) (.seq (.block 5 (.seq (.draw f7_r28) (.seq (.reg f7_r29) (.seq (.reg f7_r30) (.cond (.t (K.ofNat 206)) (.seq (.reg f7_r31) (.reg f7_r32)) .skip))))) (.reg f7_r33)))
noncomputable def f7_r34 : List EOper := [⟨(some (K.ofNat 212)), none, .mv (.t (K.ofNat 26))⟩, ⟨(some (K.ofNat 18)), none, .as (.t (K.ofNat 212))⟩]
noncomputable def f7_r35 : List EOper := [⟨(some (K.ofNat 119)), none, .mv (.t (K.ofNat 20))⟩, ⟨(some (K.ofNat 120)), none, .bin .add (.t (K.ofNat 119)) (.c (.i .i64 (.ofNat 1)))⟩, ⟨(some (K.ofNat 20)), none, .as (.t (K.ofNat 120))⟩]
noncomputable def f7_l2 : EC := (.seq (.seq (.reg f7_r19) (.cond (.t (K.ofNat 118)) .skip (.exit 2))) (.seq (.block 3 (.seq (.reg f7_r20) (.seq (.reg f7_r21) (.seq (.seq (.reg f7_r22) (.cond (.t (K.ofNat 159)) (.seq (.reg f7_r23) .ret) .skip)) (.seq (.reg f7_r24) (.seq (.reg f7_r25) (.seq (.seq (.reg f7_r26) (.block 4 (.loop f7_l1))) (.reg f7_r34)))))))) (.reg f7_r35)))
noncomputable def f7_r36 : List EOper := [⟨(some (K.ofNat 213)), none, .call (.c (.fn (K.ofNat 29) [])) []⟩, ⟨(some (K.ofNat 6)), none, .as (.t (K.ofNat 213))⟩]
noncomputable def f7_c : EC := (.seq (.reg f7_r0) (.seq (.reg f7_r1) (.seq (.reg f7_r2) (.seq (.reg f7_r3) (.seq (.seq (.reg f7_r4) (.cond (.t (K.ofNat 65)) (.seq (.reg f7_r5) .ret) .skip)) (.seq (.seq (.reg f7_r6) (.cond (.t (K.ofNat 66)) (.seq (.reg f7_r7) (.seq (.seq (.reg f7_r8) (.cond (.t (K.ofNat 79)) (.seq (.reg f7_r9) .ret) .skip)) (.seq (.reg f7_r10) (.seq (.reg f7_r11) (.cond (.t (K.ofNat 99)) (.seq (.reg f7_r12) .ret) .skip))))) .skip)) (.seq (.reg f7_r13) (.seq (.seq (.reg f7_r14) (.block 0 (.loop f7_l0))) (.seq (.seq (.reg f7_r18) (.block 2 (.loop f7_l2))) (.seq (.reg f7_r36) .ret))))))))))
noncomputable def f7 : EF := ⟨214, [.tmp (K.ofNat 6)], f7_c, none⟩
theorem f7_rs : f7.rs = [.tmp (K.ofNat 6)] := of_eq_true (eq_self _)
section
variable {fs : T EF} {ro : Option K}
theorem stay_conv {fr : Fr} {h : H} {x : EO} {k : K} {kk : IntKind} : (stays fs goNo fr h ⟨some k, none, .conv kk x⟩ = true) = again ((ev fr x).onI .no fun _ n => .ok (.i kk (fw kk n)) h) (getV (fr.get k)) := chk_again
theorem Srp.beq {h : H} {v : V} {L : List (Int × Int)} (hs : Srp h v L) : beqV v v = true := by
  rcases hs with ⟨rfl, _⟩ | ⟨id, off, m, cs, rfl, _⟩
  · rfl
  · show (id.beq id && Nat.beq off off && Nat.beq L.length L.length && Nat.beq 2 2) = true
    rw [K.beq_refl, Nat.beq_same, Nat.beq_same, Nat.beq_same]; rfl
/-- A number modulo a length. -/
theorem rem_len (x : Int) {n : Nat} (hn : 0 < n) (h64 : n ≤ 64) : ∃ q : Nat, q < n ∧ (fw .u64 x).tmod (n : Int) = (q : Int) := by
  have h0 : 0 ≤ fw .u64 x := by rw [fw_eq]; exact Int.emod_nonneg _ (by decide)
  obtain ⟨m, hm⟩ := Int.eq_ofNat_of_zero_le h0
  exact ⟨m % n, Nat.mod_lt _ hn, by rw [hm]; rfl⟩
structure Calls7 (fs : T EF) : Prop extends Calls24 fs where
  p53 : ∀ a b h P, CallP fs (.fn (K.ofNat 53) []) [.i .i64 a, .i .i64 b] h P = P (.b (ptI a b)) h
  aw : ∀ h P, CallP fs (.fn (K.ofNat 29) []) [] h P = P (.b true) h
  c32 : ∀ h v u L M P, Sl iE h v L → Sl iE h u M → L.length ≤ 1000000 → P (.b (decide (L = M))) h → CallP fs (.fn (K.ofNat 32) []) [v, u] h P
  c24 : fs.get (K.ofNat 24) = some f24
  c25 : fs.get (K.ofNat 25) = some f25
  c30 : fs.get (K.ofNat 30) = some f30
  c31 : fs.get (K.ofNat 31) = some f31
  c33 : fs.get (K.ofNat 33) = some f33
  c40 : fs.get (K.ofNat 40) = some f40
  c41 : fs.get (K.ofNat 41) = some f41
  c42 : fs.get (K.ofNat 42) = some f42
  c43 : fs.get (K.ofNat 43) = some f43
  c44 : fs.get (K.ofNat 44) = some f44
  c45 : fs.get (K.ofNat 45) = some f45
  c49 : fs.get (K.ofNat 49) = some f49
  c52 : fs.get (K.ofNat 52) = some f52
  c56 : fs.get (K.ofNat 56) = some f56
  c63 : fs.get (K.ofNat 63) = some f63
  c72 : fs.get (K.ofNat 72) = some f72
  c73 : fs.get (K.ofNat 73) = some f73
  c74 : fs.get (K.ofNat 74) = some f74
  c77 : fs.get (K.ofNat 77) = some f77
  c90 : fs.get (K.ofNat 90) = some f90
theorem Calls7.z52 (k : Calls7 fs) : ∀ a, inR .i64 a = true → ∀ h P, CallP fs (.fn (K.ofNat 52) []) [.i .i64 a] h P = P (.i .i64 (sizZ a : Int)) h := fun _ ha _ P => callP_eq (callP_0 (ef := f52) k.c52 rfl (f52_ret ha)) P
theorem Calls7.q52 (k : Calls7 fs) : ∀ m : Nat, m < 64 → ∀ h P, CallP fs (.fn (K.ofNat 52) []) [.i .i64 (m : Int)] h P = P (.i .i64 (pop6 m : Int)) h := fun m hm h P => by
  rw [k.z52 _ (inR_n (by omega)), sizZ_n hm]
def InRp (L : List (Int × Int)) : Prop := ∀ x ∈ L, inR .i64 x.1 = true ∧ inR .i64 x.2 = true
def f7_I0 (h : H) (w u a : V) (N : Int) (M : List (Int × Int)) (i : Nat) (fr : Fr) (h1 : H) : Prop := ∃ o, i ≤ M.length ∧ i ≤ 12 ∧ Sk 2 qE h1 o (M.take i) ∧ Own h.nx.nat o ∧ Grow h.nx.nat h h1 ∧ fr.get (K.ofNat 2) = some (w) ∧ fr.get (K.ofNat 7) = some (.i .i64 N) ∧ fr.get (K.ofNat 8) = some (u) ∧ fr.get (K.ofNat 9) = some (a) ∧ fr.get (K.ofNat 18) = some (o) ∧ fr.get (K.ofNat 19) = some (.i .i64 (i : Int))
theorem f7_l0_ok {Q : Ex → Fr → H → Prop} {h h0 : H} {w u a : V} {N : Int} {M : List (Int × Int)} {fr : Fr} (hw : Srp h w M) (hM : InRp M) (hc : HC h) (hi : f7_I0 h w u a N M 0 fr h0)
    (hq : ∀ fr h1 o L, L.length ≤ 12 → InRp L → Sk 2 qE h1 o L → Own h.nx.nat o → Grow h.nx.nat h h1 → fr.get (K.ofNat 2) = some (w) ∧ fr.get (K.ofNat 7) = some (.i .i64 N) ∧ fr.get (K.ofNat 8) = some (u) ∧ fr.get (K.ofNat 9) = some (a) ∧ fr.get (K.ofNat 18) = some (o) → Q (.exit 0) fr h1) : W fs ro (.loop f7_l0) Q fr h0 := by
  refine W_loop (f7_I0 h w u a N M) (fun i => M.length - i) ?_ 0 hi
  clear hi fr h0
  rintro i fr h1 ⟨o, hi, hi12, hso, hoo, gr, g2, g7, g8, g9, g18, g19⟩
  have hc1 := gr.hc hc
  have hw1 := hw.grow hc gr
  have done : ∀ fr, fr.get (K.ofNat 2) = some (w) ∧ fr.get (K.ofNat 7) = some (.i .i64 N) ∧ fr.get (K.ofNat 8) = some (u) ∧ fr.get (K.ofNat 9) = some (a) ∧ fr.get (K.ofNat 18) = some (o) → Q (.exit 0) fr h1 := fun fr p => hq fr h1 o (M.take i) (by rw [List.length_take]; omega) (fun x hx => hM x (List.mem_of_mem_take hx)) hso hoo gr p
  unfold f7_l0
  by_cases hlt : i < M.length
  · have hlt' : (i : Int) < (M.length : Int) := by omega
    by_cases h12 : i < 12
    · have h12' : (i : Int) < 12 := by omega
      obtain ⟨id, q, hp1, hp2, _, _⟩ := hw1.at2 hlt
      have htk : M.take (i + 1) = M.take i ++ [M[i]] := List.take_succ_eq_append_getElem hlt
      generalize M[i] = x at *
      obtain ⟨o', h2, p1, p2, p3, p4, _⟩ := Sk.push (e := qE) qE_len (by omega) (x := x) hso hoo gr.nx hc1 (by rw [List.length_take]; omega)
      change appV 2 (h1.new (.cells (1 * 2) [.i .i64 x.1, .i .i64 x.2])) o (.sl h1.nx 0 1 2) = _ at p1
      have fp : ∀ fr : Fr, fr.get (K.ofNat 114) = some (.agg [.i .i64 x.1, .i .i64 x.2]) → fillE fr [.i .i64 0, .i .i64 0] [(0, 2, .t (K.ofNat 114))] = some [.i .i64 x.1, .i .i64 x.2] := fun fr g => fill_p (by rw [ev_t, g]; rfl)
      simp (disch := omega) only [f7_r15, f7_r16, w_skip, w_reg, w_seq, w_cond, w_block, seqK_n, ckB_b, cbB_b, okG_b, asG_t, true_and, x_nil, x_g, x_mv, x_pick, x_bslice, x_ldn, x_bin, x_iads, x_len, kx, rvP_ok, okv_some, ev_t, ev_c, getV_some, putD_some, bin_lss, pick_b, of0, of12, getK_set, Nat.reduceEqDiff, ↓reduceIte, g2, g18, g19, hw1.len, hlt', h12', decide_true, hp1, hp2]
      rw [fp _ (by simp (disch := omega) only [getK_set, ↓reduceIte])]
      simp (disch := omega) only [f7_r17, w_reg, seqK_n, atK_n, loopK_n, x_nil, x_mv, x_as, x_bin, x_app, kx, rvP_ok, okv_some, ev_t, ev_c, getV_some, putD_some, bin_add, oGet_s, of1, getK_set, Nat.reduceEqDiff, ↓reduceIte, g19, p1, fw64]
      exact ⟨i + 1, by omega, o', hlt, by omega, by rw [htk]; exact p2, p3, gr.trans p4, by simp (disch := omega) only [getK_set, Nat.reduceEqDiff, ↓reduceIte, g2, g7, g8, g9, and_self, Int.natCast_add, Int.natCast_one]⟩
    · have h12' : ¬ (i : Int) < 12 := by omega
      simp (disch := omega) only [f7_r15, w_reg, w_seq, w_cond, w_exit, seqK_n, seqK_e, loopK_e, ckB_b, cbB_b, okG_b, asG_t, true_and, x_nil, x_g, x_mv, x_pick, x_bin, x_len, kx, rvP_ok, okv_some, ev_t, ev_c, getV_some, putD_some, bin_lss, pick_b, of12, getK_set, Nat.reduceEqDiff, ↓reduceIte, Bool.false_eq_true, g2, g19, hw1.len, hlt', h12', decide_true, decide_false]
      exact done _ (by simp (disch := omega) only [getK_set, Nat.reduceEqDiff, ↓reduceIte, g2, g7, g8, g9, g18, and_self])
  · have hlt' : ¬ (i : Int) < (M.length : Int) := by omega
    simp (disch := omega) only [f7_r15, w_reg, w_seq, w_cond, w_exit, seqK_n, seqK_e, loopK_e, ckB_b, cbB_b, okG_b, asG_t, true_and, x_nil, x_g, x_mv, x_pick, x_bin, x_len, kx, rvP_ok, okv_some, ev_t, ev_c, getV_some, putD_some, bin_lss, pick_b, of12, getK_set, Nat.reduceEqDiff, ↓reduceIte, Bool.false_eq_true, g2, g19, hw1.len, hlt', decide_false]
    exact done _ (by simp (disch := omega) only [getK_set, Nat.reduceEqDiff, ↓reduceIte, g2, g7, g8, g9, g18, and_self])
def f7_I1 (h : H) (w u a : V) (N : Int) (t : Nat) (M : List (Int × Int)) (i : Nat) (fr : Fr) (h1 : H) : Prop := ∃ o r L B, i ≤ M.length ∧ i ≤ 12 ∧ L.length ≤ i ∧ InRp L ∧ Low B ∧ Clo B ∧ B 0 = true ∧ Sk 2 qE h1 o L ∧ Own h.nx.nat o ∧ Sl iE h1 r (memI B) ∧ Grow h.nx.nat h h1 ∧ fr.get (K.ofNat 2) = some (w) ∧ fr.get (K.ofNat 7) = some (.i .i64 N) ∧ fr.get (K.ofNat 8) = some (u) ∧ fr.get (K.ofNat 9) = some (a) ∧ fr.get (K.ofNat 20) = some (.i .i64 (t : Int)) ∧ fr.get (K.ofNat 26) = some (o) ∧ fr.get (K.ofNat 27) = some (r) ∧ fr.get (K.ofNat 28) = some (.i .i64 (i : Int))
theorem f7_l1_ok {Q : Ex → Fr → H → Prop} {h h0 : H} {w u a : V} {N : Int} {t : Nat} {M : List (Int × Int)} {fr : Fr} (k : Calls7 fs) (hw : Srp h w M) (hc : HC h) (hi : f7_I1 h w u a N t M 0 fr h0)
    (hq : ∀ fr h1 o L, L.length ≤ 12 → InRp L → Sk 2 qE h1 o L → Own h.nx.nat o → Grow h.nx.nat h h1 → fr.get (K.ofNat 2) = some (w) ∧ fr.get (K.ofNat 7) = some (.i .i64 N) ∧ fr.get (K.ofNat 8) = some (u) ∧ fr.get (K.ofNat 9) = some (a) ∧ fr.get (K.ofNat 20) = some (.i .i64 (t : Int)) ∧ fr.get (K.ofNat 26) = some (o) → Q (.exit 4) fr h1) : W fs ro (.loop f7_l1) Q fr h0 := by
  refine W_loop (f7_I1 h w u a N t M) (fun i => M.length - i) ?_ 0 hi
  clear hi fr h0
  rintro i fr h1 ⟨o, r, L, B, hi, hi12, hLi, hLr, hlo, hcl, hB0, hso, hoo, hsr, gr, g2, g7, g8, g9, g20, g26, g27, g28⟩
  have hc1 := gr.hc hc
  have hw1 := hw.grow hc gr
  have done : ∀ fr, fr.get (K.ofNat 2) = some (w) ∧ fr.get (K.ofNat 7) = some (.i .i64 N) ∧ fr.get (K.ofNat 8) = some (u) ∧ fr.get (K.ofNat 9) = some (a) ∧ fr.get (K.ofNat 20) = some (.i .i64 (t : Int)) ∧ fr.get (K.ofNat 26) = some (o) → Q (.exit 4) fr h1 := fun fr p => hq fr h1 o L (by omega) hLr hso hoo gr p
  unfold f7_l1
  by_cases hlt : i < M.length
  · have hlt' : (i : Int) < (M.length : Int) := by omega
    by_cases h12 : i < 12
    · have h12' : (i : Int) < 12 := by omega
      have hrl : (memI B).length ≤ 64 := memI_len
      have hr0 : 0 < (memI B).length := List.length_pos_iff.2 fun e => by
        have : (0 : Int) ∈ memI B := memI_iff.2 ⟨0, rfl, by omega, hB0⟩
        rw [e] at this; cases this
      have n2 := nx_new h1 (.cells 2 [.i .i64 0, .i .i64 0])
      have gn : Grow h1.nx.nat h1 (h1.new (.cells 2 [.i .i64 0, .i .i64 0])) := Grow.new (Nat.le_refl _) _
      have e2 : (h1.new (.cells 2 [.i .i64 0, .i .i64 0])).get h1.nx = .cells 2 [.i .i64 0, .i .i64 0] := get_new_same
      have hw2 := hw1.grow hc1 gn
      have hsr2 := hsr.grow hc1 gn
      obtain ⟨id, q, hp1, hp2, hp3, hp4⟩ := hw1.at2 hlt
      obtain ⟨id', q', hp1', hp2', hp3', hp4'⟩ := hw2.at2 hlt
      obtain ⟨a0, ha0, hm0⟩ := rem_len M[i].1 hr0 hrl
      obtain ⟨a1, ha1, hm1⟩ := rem_len M[i].2 hr0 hrl
      have hsame : (V.p id q) = .p id' q' := by have := (hp1 .i64 h1).symm.trans (hp1' .i64 h1); cases this; rfl
      cases hsame
      obtain ⟨s0, hs0, ht0, hb0⟩ := hsr.atb a0 ha0
      obtain ⟨s1, hs1, ht1, hb1⟩ := hsr.atb a1 ha1
      obtain ⟨s0', hs0', ht0'⟩ := hsr2.at a0 ha0
      obtain ⟨s1', hs1', ht1'⟩ := hsr2.at a1 ha1
      have hsame : s0 = s0' := by have := (hs0 .i64 h1).symm.trans (hs0' .i64 h1); cases this; rfl
      cases hsame
      have hsame : s1 = s1' := by have := (hs1 .i64 h1).symm.trans (hs1' .i64 h1); cases this; rfl
      cases hsame
      have hm0e := List.getElem_mem ha0
      have hm1e := List.getElem_mem ha1
      generalize M[i] = x at *
      generalize (memI B)[a0] = y0 at *
      generalize (memI B)[a1] = y1 at *
      have l0 : loadV h1 (.p id (q + 0 * 1)) one? = .ok (.i .i64 x.1) h1 := hp3
      have ix0 : ∀ ff : Nat → RV, idxV (.i .i64 0) 2 ff = ff 0 := fun ff => idx_n (m := 0) (by omega)
      have ix1 : ∀ ff : Nat → RV, idxV (.i .i64 1) 2 ff = ff 1 := fun ff => idx_n (m := 1) (by omega)
      have fwl : fw .u64 (((memI B).length : Nat) : Int) = ((memI B).length : Int) := fwu64 (by omega) (by omega)
      have fw0 : fw .i64 (a0 : Int) = (a0 : Int) := fw64 (by omega) (by omega)
      have fw1 : fw .i64 (a1 : Int) = (a1 : Int) := fw64 (by omega) (by omega)
      have s5 := st2 (c := .i .i64 y0) (d := .i .i64 y1) e2
      simp (disch := omega) only [f7_r27, f7_r28, w_skip, w_reg, w_draw, w_seq, w_cond, w_block, seqK_n, ckB_b, cbB_b, okG_b, asG_t, true_and, x_nil, x_g, x_mv, x_pick, x_alloc, x_st, x_bin, x_len, kx, kg, xg_nil, xg_mv, xg_build, xg_ld, xg_bin, xg_conv, xg_iadr, xg_iads, xg_len, xd_cons, fresh_nil, stK_n, stK_s, stay_nil, stay_cons, again_ok, stay_mv, stay_len, beq_i, stay_iads, stay_ld, stay_bin, beq_p, rvP_ok, okv_some, ev_t, ev_c, getV_some, putD_some, putD_none, bin_lss, bin_rem, pick_b, onI_i, onP_p, oGet_s, cells1_i, of0, of1, of12, getK_set, Nat.reduceEqDiff, ↓reduceIte, g2, g27, g28, hw1.len, hlt', h12', decide_true, hp1, hp3, hp4, ix0, ix1, hsr.len, fwl, hm0, hm1, fw0, fw1, hs0, hs1, ht0, ht1, iE, fill_2, set_2, hsr.beq, hw1.beq, stay_iadr, stay_conv, stay_build, hp3', hp4', ht0', ht1', beq_2, hb0, hb1, and_self, s5]
      have e5 : ((h1.new (.cells 2 [.i .i64 0, .i .i64 0])).put h1.nx (.cells 2 [.i .i64 y0, .i .i64 y1])).get h1.nx = .cells 2 [.i .i64 y0, .i .i64 y1] := get_put_same
      have n5 : ((h1.new (.cells 2 [.i .i64 0, .i .i64 0])).put h1.nx (.cells 2 [.i .i64 y0, .i .i64 y1])).nx.nat = h1.nx.nat + 1 := n2
      have g5 : Grow h1.nx.nat h1 ((h1.new (.cells 2 [.i .i64 0, .i .i64 0])).put h1.nx (.cells 2 [.i .i64 y0, .i .i64 y1])) := gn.trans (Grow.put (Nat.le_refl _) (by omega) _)
      generalize (h1.new (.cells 2 [.i .i64 0, .i .i64 0])).put h1.nx (.cells 2 [.i .i64 y0, .i .i64 y1]) = h5 at *
      clear hp1 hp2 hp3 hp4 hp1' hp2' hp3' hp4' hs0 ht0 hs1 ht1 hs0' ht0' hs1' ht1' hw2 hsr2 e2 s5 l0 gn
      have hc5 := g5.hc hc1
      have hsr5 := hsr.grow hc1 g5
      obtain ⟨m0, rfl, hm064, _⟩ := memI_iff.1 hm0e
      obtain ⟨m1, rfl, hm164, _⟩ := memI_iff.1 hm1e
      simp (disch := omega) only [f7_r29, x_mv, x_ldn, x_call, kx, rvP_ok, ev_t, ev_c, evs_nil, evs_cons, getV_some, putD_some, getK_set, Nat.reduceEqDiff, ↓reduceIte, g27, ldn2 e5]
      refine (callP_0 (ef := f43) k.c43 rfl (f43_ret k.p53 k.z52 hsr5 (by omega) (inR_n (by omega)) (inR_n (by omega)) hc5)).mono ?_
      rintro rr h6 ⟨v6, rfl, hv6, g6⟩
      have nx5 := g5.nx
      have nx6 := g6.nx
      have gr6 := gr.trans ((g5.trans (g6.low (by omega))).low gr.nx)
      have hso6 := (hso.grow hc1 g5).grow hc5 g6
      have hsr6 := hsr5.grow hc5 g6
      have e6 : h6.get h1.nx = .cells 2 [.i .i64 (m0 : Int), .i .i64 (m1 : Int)] := by rw [g6.old _ (by omega)]; exact e5
      have hc6 := g6.hc hc5
      have key : ∀ F, colR (memI B) (m0 : Int) (m1 : Int) = some F → ∃ B', F = memI B' ∧ Low B' ∧ Clo B' ∧ B' 0 = true := fun F hF => by
        rw [col_ref hcl] at hF
        cases hcs : colS B (m0 : Int) with
        | none => rw [hcs] at hF; cases hF
        | some o =>
          rw [hcs] at hF
          change (if (o : Int) = (m1 : Int) then some (memI (lessB B ((m0 : Int)).toNat o)) else none) = some F at hF
          split at hF
          · cases hF
            obtain ⟨m, em, hm1, hm64, hBm, hov, ho64, hBo, hne⟩ := col_mem hcs
            obtain rfl : m0 = m := by omega
            refine ⟨_, rfl, low_less hlo, clo_less hcl hcs, ?_⟩
            have ho0 : o ≠ 0 := fun e => by
              have h1 : o ∈ ovB B m0 := by rw [hov]; simp
              unfold ovB at h1
              have h2 := (List.mem_filter.1 h1).2
              rw [ovP_iff hm64 ho64, e, Nat.and_zero] at h2
              omega
            show (if 0 = o then false else if 0 = m0 then false else B 0) = true
            rw [if_neg (Ne.symm ho0), if_neg (by omega)]
            exact hB0
          · cases hF
      generalize colR (memI B) (m0 : Int) (m1 : Int) = X at *
      cases X with
      | none =>
        simp (disch := omega) only [f7_r30, f7_r33, w_skip, w_reg, w_seq, w_cond, seqK_n, atK_n, loopK_n, ckB_b, cbB_b, true_and, x_nil, x_mv, x_as, x_bin, x_ext, kx, rvP_ok, okv_some, ev_t, ev_c, getV_some, putD_some, bin_add, onTup_t, nth0, nth1, of1, getK_set, Nat.reduceEqDiff, ↓reduceIte, Bool.false_eq_true, g28, Option.isSome_none, fw64]
        exact ⟨i + 1, by omega, o, r, L, B, hlt, by omega, by omega, hLr, hlo, hcl, hB0, hso6, hoo, hsr6, gr6, by simp (disch := omega) only [getK_set, Nat.reduceEqDiff, ↓reduceIte, g2, g7, g8, g9, g20, g26, g27, and_self, Int.natCast_add, Int.natCast_one]⟩
      | some F =>
        obtain ⟨B', rfl, hlo', hcl', hB0'⟩ := key _ rfl
        obtain ⟨hs6, ho6⟩ := hv6 _ rfl
        obtain ⟨o', h7, p1, p2, p3, p4, p5⟩ := Sk.push (e := qE) qE_len (by omega) (x := ((m0 : Int), (m1 : Int))) hso6 hoo gr6.nx hc6 (by omega)
        change appV 2 (h6.new (.cells (1 * 2) [.i .i64 (m0 : Int), .i .i64 (m1 : Int)])) o (.sl h6.nx 0 1 2) = _ at p1
        have fp : ∀ fr : Fr, fr.get (K.ofNat 209) = some (.agg [.i .i64 (m0 : Int), .i .i64 (m1 : Int)]) → fillE fr [.i .i64 0, .i .i64 0] [(0, 2, .t (K.ofNat 209))] = some [.i .i64 (m0 : Int), .i .i64 (m1 : Int)] := fun fr g => fill_p (by rw [ev_t, g]; rfl)
        simp (disch := omega) only [f7_r30, f7_r31, f7_r32, w_reg, w_seq, w_cond, seqK_n, ckB_b, cbB_b, true_and, x_nil, x_mv, x_as, x_bslice, x_ldn, x_ext, kx, rvP_ok, okv_some, ev_t, getV_some, putD_some, onTup_t, nth0, nth1, of0, getK_set, Nat.reduceEqDiff, ↓reduceIte, g26, Option.isSome_some, ldn2 e6]
        rw [fp _ (by simp (disch := omega) only [getK_set, ↓reduceIte])]
        simp (disch := omega) only [f7_r33, w_reg, seqK_n, atK_n, loopK_n, x_nil, x_mv, x_as, x_bin, x_app, kx, rvP_ok, okv_some, ev_t, ev_c, getV_some, putD_some, bin_add, oGet_s, of1, getK_set, Nat.reduceEqDiff, ↓reduceIte, g28, p1, fw64]
        exact ⟨i + 1, by omega, o', v6, L ++ [((m0 : Int), (m1 : Int))], B', hlt, by omega, by simp; omega, fun x hx => by
          rcases List.mem_append.1 hx with hx | hx
          · exact hLr x hx
          · rw [List.mem_singleton.1 hx]; exact ⟨inR_n (by omega), inR_n (by omega)⟩, hlo', hcl', hB0', p2, p3, hs6.same (fun id off n sz e => (p5 id (hs6.lt hc6 _ _ _ _ e) fun off' n' sz' e' => (by have := ho6 _ _ _ _ e; have := hso.lt hc1 _ _ _ _ e'; omega)).1), gr6.trans p4, by simp (disch := omega) only [getK_set, Nat.reduceEqDiff, ↓reduceIte, g2, g7, g8, g9, g20, and_self, Int.natCast_add, Int.natCast_one]⟩
    · have h12' : ¬ (i : Int) < 12 := by omega
      simp (disch := omega) only [f7_r27, w_reg, w_seq, w_cond, w_exit, seqK_n, seqK_e, loopK_e, ckB_b, cbB_b, okG_b, asG_t, true_and, x_nil, x_g, x_mv, x_pick, x_bin, x_len, kx, rvP_ok, okv_some, ev_t, ev_c, getV_some, putD_some, bin_lss, pick_b, of12, getK_set, Nat.reduceEqDiff, ↓reduceIte, Bool.false_eq_true, g2, g28, hw1.len, hlt', h12', decide_true, decide_false]
      exact done _ (by simp (disch := omega) only [getK_set, Nat.reduceEqDiff, ↓reduceIte, g2, g7, g8, g9, g20, g26, and_self])
  · have hlt' : ¬ (i : Int) < (M.length : Int) := by omega
    simp (disch := omega) only [f7_r27, w_reg, w_seq, w_cond, w_exit, seqK_n, seqK_e, loopK_e, ckB_b, cbB_b, okG_b, asG_t, true_and, x_nil, x_g, x_mv, x_pick, x_bin, x_len, kx, rvP_ok, okv_some, ev_t, ev_c, getV_some, putD_some, bin_lss, pick_b, of12, getK_set, Nat.reduceEqDiff, ↓reduceIte, Bool.false_eq_true, g2, g28, hw1.len, hlt', decide_false]
    exact done _ (by simp (disch := omega) only [getK_set, Nat.reduceEqDiff, ↓reduceIte, g2, g7, g8, g9, g20, g26, and_self])
def f7_I2 (h : H) (w u a : V) (N : Int) (t : Nat) (fr : Fr) (h1 : H) : Prop := ∃ o L, t ≤ 2 ∧ L.length ≤ 12 ∧ InRp L ∧ Sk 2 qE h1 o L ∧ Own h.nx.nat o ∧ Grow h.nx.nat h h1 ∧ fr.get (K.ofNat 2) = some (w) ∧ fr.get (K.ofNat 7) = some (.i .i64 N) ∧ fr.get (K.ofNat 8) = some (u) ∧ fr.get (K.ofNat 9) = some (a) ∧ fr.get (K.ofNat 18) = some (o) ∧ fr.get (K.ofNat 20) = some (.i .i64 (t : Int))
theorem keyB1 (p q : Bool) : keyEq (.one none) (.b p) (.b q) = some (p == q) := rfl
theorem f7_l2_ok {Q : Ex → Fr → H → Prop} {h h0 : H} {w u a : V} {N : Int} {P : List Int} {M : List (Int × Int)} {fr : Fr} (k : Calls7 fs) (m8 : Facts8 N P) (hB0 : lowB (famB P) 0 = true) (hw : Srp h w M) (hu : Sl iE h u P) (ha : Sl iE h a (memI (lowB (famB P)))) (hc : HC h) (hi : f7_I2 h w u a N 0 fr h0)
    (hq : ∀ fr h1, Grow h.nx.nat h h1 → Q (.exit 2) fr h1) : W fs ro (.loop f7_l2) Q fr h0 := by
  refine W_loop (f7_I2 h w u a N) (fun i => 2 - i) ?_ 0 hi
  clear hi fr h0
  rintro t fr h1 ⟨o, L, ht, hL12, hLr, hso, hoo, gr, g2, g7, g8, g9, g18, g20⟩
  have hc1 := gr.hc hc
  have hw1 := hw.grow hc gr
  have hu1 := hu.grow hc gr
  have ha1 := ha.grow hc gr
  have ml := m8.len
  have hcl := clo_fam m8.sets
  unfold f7_l2
  by_cases hlt : t < 2
  · have hlt' : (t : Int) < 2 := by omega
    have hadd : fw .i64 ((t : Int) + 1) = ((t + 1 : Nat) : Int) := by rw [fw64 (by omega) (by omega)]; omega
    simp (disch := omega) only [f7_r19, f7_r20, w_skip, w_reg, w_seq, w_cond, w_block, seqK_n, ckB_b, cbB_b, true_and, x_nil, x_mv, x_bin, x_call, kx, rvP_ok, okv_some, ev_t, ev_c, evs_nil, evs_cons, getV_some, putD_some, bin_lss, of2, getK_set, Nat.reduceEqDiff, ↓reduceIte, g9, g18, g20, hlt', decide_true]
    refine (callP_0 (ef := f41) k.c41 rfl (f41_ret k.p53 k.z52 k.c43 ha1 (Nat.le_trans memI_len (by omega)) hso hLr (by omega) hc1)).mono ?_
    rintro r h2 ⟨v21, rfl, hs21, gB⟩
    rw [lft_ref L hcl] at hs21 ⊢
    have hc2 := gB.hc hc1
    have hu2 := hu1.grow hc1 gB
    have hso2 := hso.grow hc1 gB
    simp (disch := omega) only [f7_r21, w_reg, w_seq, seqK_n, x_nil, x_mv, x_as, x_ext, x_call, kx, rvP_ok, okv_some, ev_t, ev_c, evs_nil, evs_cons, getV_some, putD_some, onTup_t, nth0, nth1, getK_set, Nat.reduceEqDiff, ↓reduceIte, g7, g8, g18]
    refine (callP_0 (ef := f25) k.c25 rfl (f25_ret (n := N) k.p54 k.c16 k.c55 k.c63 k.c56 k.c77 k.c90 k.c78 k.c91 k.c87 k.c88 hu2 hso2 hLr (by omega) hc2 (by omega) m8.chk)).mono ?_
    rintro r h3 ⟨v23, rfl, hs23, gC⟩
    have hc3 := gC.hc hc2
    have nx1 := gr.nx; have nx2 := gB.nx; have nx3 := gC.nx
    have hs21' := hs21.grow hc2 gC
    have gr3 : Grow h.nx.nat h h3 := gr.trans ((gB.trans (gC.low nx2)).low gr.nx)
    have hw3 := hw.grow hc gr3
    have ha3 := ha.grow hc gr3
    have eq0 : decide ((0 : Int) = 0) = true := rfl
    have eq1 : ¬ (0 : Int) ≠ 0 := fun h => h rfl
    generalize colsS (lowB (famB P)) L = X at *
    cases X with
    | none =>
      change Sl iE h3 v23 [] at hs23
      have l23 : ∀ h, lenV v23 h = .ok (.i .i64 0) h := fun h => hs23.len h
      simp (disch := omega) only [f7_r22, w_skip, w_reg, w_seq, w_cond, seqK_n, ckB_b, cbB_b, okG_b, asG_t, asG_f, true_and, x_nil, x_g, x_mv, x_as, x_pick, x_bin, x_eqk, x_not, Option.map_none, x_ext, x_len, kx, rvP_ok, okv_some, ev_t, ev_c, getV_some, putD_some, bin_neq, pick_b, onB_b, onTup_t, oGet_s, nth0, nth1, nth2, of0, getK_set, Nat.reduceEqDiff, ↓reduceIte, Bool.false_eq_true, Bool.not_true, Bool.not_false, Option.map_none, Option.isSome_none, eq1, decide_false, keyB1, cond_true, beq_self_eq_true, Bool.not_true, l23]
      simp (disch := omega) only [f7_r24, f7_r25, f7_r26, w_reg, w_seq, w_block, seqK_n, x_nil, x_mv, x_as, ev_t, ev_c, getV_some, putD_some, of0, getK_set, Nat.reduceEqDiff, ↓reduceIte, g9]
      refine f7_l1_ok (h := h3) (u := u) (a := a) (N := N) (t := t) (M := M) k hw3 hc3 ⟨.sn, a, [], lowB (famB P), Nat.zero_le _, Nat.zero_le _, Nat.le_refl _, fun x hx => (by cases hx), low_low, hcl, hB0, Sk.nil, Own.sn, ha3, .refl _ _, by simp (disch := omega) only [getK_set, Nat.reduceEqDiff, ↓reduceIte, g2, g7, g8, g9, g20, and_self, Int.natCast_zero]⟩ ?_
      clear g2 g7 g8 g9 g18 g20
      rintro fr h4 o' L' hL' hLr' hso' hoo' gr4 ⟨g2, g7, g8, g9, g20, g26⟩
      have gr34 := gr3.trans (gr4.low gr3.nx)
      simp (disch := omega) only [f7_r34, f7_r35, w_reg, seqK_n, atK_n, atK_e, loopK_n, x_nil, x_mv, x_as, x_bin, kx, rvP_ok, okv_some, ev_t, ev_c, getV_some, putD_some, bin_add, of1, getK_set, Nat.reduceEqDiff, ↓reduceIte, g20, g26, hadd]
      exact ⟨t + 1, by omega, o', L', by omega, hL', hLr', hso', hoo'.low gr3.nx, gr34, by simp (disch := omega) only [getK_set, Nat.reduceEqDiff, ↓reduceIte, g2, g7, g8, g9, and_self]⟩
    | some B' =>
      change Sl iE h3 v23 (memI B') at hs23
      change Sl iE h3 v21 (memI B') at hs21'
      simp (disch := omega) only [f7_r22, w_reg, w_seq, seqK_n, okG_b, asG_t, asG_f, true_and, x_nil, x_g, x_mv, x_as, x_pick, x_bin, x_eqk, Option.map_some, x_ext, x_call, kx, rvP_ok, okv_some, ev_t, ev_c, evs_nil, evs_cons, getV_some, putD_some, bin_neq, pick_b, onTup_t, oGet_s, nth0, nth1, nth2, of0, getK_set, Nat.reduceEqDiff, ↓reduceIte, Bool.false_eq_true, Bool.not_true, Bool.not_false, Option.map_some, Option.isSome_some, eq1, decide_false, keyB1, cond_true, beq_self_eq_true, Bool.not_true]
      refine k.c32 _ _ _ _ _ _ hs23 hs21' (Nat.le_trans memI_len (by omega)) ?_
      simp (disch := omega) only [w_skip, w_reg, w_seq, w_cond, seqK_n, ckB_b, cbB_b, okG_b, asG_t, asG_f, true_and, x_nil, x_g, x_mv, x_pick, x_not, kx, rvP_ok, ev_t, ev_c, getV_some, putD_some, pick_b, onB_b, getK_set, Nat.reduceEqDiff, ↓reduceIte, Bool.false_eq_true, Bool.not_true, Bool.not_false, decide_true]
      simp (disch := omega) only [f7_r24, f7_r25, f7_r26, w_reg, w_seq, w_block, seqK_n, x_nil, x_mv, x_as, ev_t, ev_c, getV_some, putD_some, of0, getK_set, Nat.reduceEqDiff, ↓reduceIte, g9]
      refine f7_l1_ok (h := h3) (u := u) (a := a) (N := N) (t := t) (M := M) k hw3 hc3 ⟨.sn, a, [], lowB (famB P), Nat.zero_le _, Nat.zero_le _, Nat.le_refl _, fun x hx => (by cases hx), low_low, hcl, hB0, Sk.nil, Own.sn, ha3, .refl _ _, by simp (disch := omega) only [getK_set, Nat.reduceEqDiff, ↓reduceIte, g2, g7, g8, g9, g20, and_self, Int.natCast_zero]⟩ ?_
      clear g2 g7 g8 g9 g18 g20
      rintro fr h4 o' L' hL' hLr' hso' hoo' gr4 ⟨g2, g7, g8, g9, g20, g26⟩
      have gr34 := gr3.trans (gr4.low gr3.nx)
      simp (disch := omega) only [f7_r34, f7_r35, w_reg, seqK_n, atK_n, atK_e, loopK_n, x_nil, x_mv, x_as, x_bin, kx, rvP_ok, okv_some, ev_t, ev_c, getV_some, putD_some, bin_add, of1, getK_set, Nat.reduceEqDiff, ↓reduceIte, g20, g26, hadd]
      exact ⟨t + 1, by omega, o', L', by omega, hL', hLr', hso', hoo'.low gr3.nx, gr34, by simp (disch := omega) only [getK_set, Nat.reduceEqDiff, ↓reduceIte, g2, g7, g8, g9, and_self]⟩
  · have hlt' : ¬ (t : Int) < 2 := by omega
    simp (disch := omega) only [f7_r19, w_reg, w_seq, w_cond, w_exit, seqK_n, seqK_e, loopK_e, ckB_b, cbB_b, true_and, x_nil, x_mv, x_bin, kx, rvP_ok, okv_some, ev_t, ev_c, getV_some, putD_some, bin_lss, of2, getK_set, ↓reduceIte, Bool.false_eq_true, g20, hlt', decide_false]
    exact hq _ _ gr
noncomputable def f7_t : EC := (.seq (.reg f7_r13) (.seq (.seq (.reg f7_r14) (.block 0 (.loop f7_l0))) (.seq (.seq (.reg f7_r18) (.block 2 (.loop f7_l2))) (.seq (.reg f7_r36) .ret))))
theorem f7_tail {h h0 : H} {w u a : V} {N : Int} {P : List Int} {M : List (Int × Int)} {fr : Fr} (k : Calls7 fs) (m8 : Facts8 N P) (hB0 : lowB (famB P) 0 = true) (hw : Srp h w M) (hM : InRp M) (hu : Sl iE h u P) (ha : Sl iE h a (memI (lowB (famB P)))) (hc : HC h) (hg : fr.get (K.ofNat 2) = some (w) ∧ fr.get (K.ofNat 7) = some (.i .i64 N) ∧ fr.get (K.ofNat 8) = some (u) ∧ fr.get (K.ofNat 9) = some (a)) (gr0 : Grow h0.nx.nat h0 h) :
    W fs none f7_t (retK f7 fun r h' => r = .b true ∧ Grow h0.nx.nat h0 h') fr h := by
  obtain ⟨g2, g7, g8, g9⟩ := hg
  unfold f7_t
  simp (disch := omega) only [f7_r13, f7_r14, w_reg, w_seq, w_block, seqK_n, x_nil, x_as, ev_c, putD_some, of0]
  refine f7_l0_ok (h := h) (w := w) (u := u) (a := a) (N := N) hw hM hc ⟨.sn, Nat.zero_le _, Nat.zero_le _, Sk.nil, Own.sn, .refl _ _, by simp (disch := omega) only [getK_set, Nat.reduceEqDiff, ↓reduceIte, g2, g7, g8, g9, and_self, Int.natCast_zero]⟩ ?_
  clear g2 g7 g8 g9 fr
  rintro fr h1 o L hL12 hLr hso hoo gr1 ⟨g2, g7, g8, g9, g18⟩
  have hc1 := gr1.hc hc
  simp (disch := omega) only [f7_r18, w_reg, w_seq, w_block, seqK_n, atK_e, x_nil, x_as, ev_c, putD_some, of0, ↓reduceIte]
  refine f7_l2_ok (h := h) (w := w) (u := u) (a := a) (N := N) (P := P) (M := M) k m8 hB0 hw hu ha hc ⟨o, L, Nat.zero_le _, hL12, hLr, hso, hoo, gr1, by simp (disch := omega) only [getK_set, Nat.reduceEqDiff, ↓reduceIte, g2, g7, g8, g9, g18, and_self, Int.natCast_zero]⟩ ?_
  intro fr h2 gr2
  simp (disch := omega) only [f7_r36, f7_rs, w_reg, w_seq, w_ret, seqK_n, atK_e, true_and, retK_r, x_nil, x_as, x_call, kx, ev_t, ev_c, evs_nil, getV_some, putD_some, oGet_s, readRs_nil, readRs_t, retV_1, Option.some.injEq, exists_eq_left', getK_set, ↓reduceIte, k.aw, true_and]
  exact gr0.trans (gr2.low gr0.nx)
theorem f7_c_eq : f7_c = (.seq (.reg f7_r0) (.seq (.reg f7_r1) (.seq (.reg f7_r2) (.seq (.reg f7_r3) (.seq (.seq (.reg f7_r4) (.cond (.t (K.ofNat 65)) (.seq (.reg f7_r5) .ret) .skip)) (.seq (.seq (.reg f7_r6) (.cond (.t (K.ofNat 66)) (.seq (.reg f7_r7) (.seq (.seq (.reg f7_r8) (.cond (.t (K.ofNat 79)) (.seq (.reg f7_r9) .ret) .skip)) (.seq (.reg f7_r10) (.seq (.reg f7_r11) (.cond (.t (K.ofNat 99)) (.seq (.reg f7_r12) .ret) .skip))))) .skip)) f7_t)))))) := rfl
theorem f7_ret {h : H} {v w : V} {L : List Int} {M : List (Int × Int)} {n : Int} (k : Calls7 fs) (hv : Sr iE h v L) (hw : Srp h w M) (hM : InRp M) (hc : HC h) :
    Ret fs f7 [.i .i64 n, v, w] h fun u h' => u = .b true ∧ Grow h.nx.nat h h' := by
  apply ret_of rfl
  show W fs none f7_c _ _ _
  rw [f7_c_eq]
  obtain ⟨n1, n6⟩ := tameN_in n
  have m8 := facts8 n L
  have m4 := facts4 n L
  simp (disch := omega) only [f7_r0, f7_r1, w_reg, w_seq, seqK_n, x_nil, x_mv, x_as, x_call, ev_t, ev_c, evs_nil, evs_cons, getV_some, putD_some, frame_3, getK_set, Nat.reduceEqDiff, ↓reduceIte]
  refine (callP_0 (ef := f30) k.c30 rfl (f30_sr (n := n) k.p53 k.c49 hv hc)).mono ?_
  rintro r h1 ⟨u, rfl, hsu, _, gA⟩
  generalize tameN n = N at *
  generalize (tameP N L).take 10 = P at *
  have ml := m8.len
  have hc1 := gA.hc hc
  have hB0 : lowB (famB P) 0 = true := by rw [lowB_at (by omega)]; exact chk_zero m8.chk
  have hcl := clo_fam m8.sets
  simp (disch := omega) only [f7_r2, w_reg, w_seq, seqK_n, x_nil, x_mv, x_as, x_ext, x_call, kx, rvP_ok, okv_some, ev_t, ev_c, evs_nil, evs_cons, getV_some, putD_some, onTup_t, nth0, nth1, getK_set, Nat.reduceEqDiff, ↓reduceIte]
  refine (callP_0 (ef := f33) k.c33 rfl (f33_ret (n := N) k.p53 k.c45 hsu hc1 (by omega) n1 n6)).mono ?_
  rintro a h2 ⟨hsa, _, gB⟩
  rw [← m4.fac, ← memI_low] at hsa
  have hc2 := gB.hc hc1
  have hsu2 := hsu.grow hc1 gB
  simp (disch := omega) only [f7_r3, w_reg, w_seq, seqK_n, x_nil, x_mv, x_as, x_call, kx, ev_t, ev_c, evs_nil, evs_cons, getV_some, putD_some, getK_set, Nat.reduceEqDiff, ↓reduceIte]
  refine (callP_0 (ef := f24) k.c24 rfl (f24_ret (n := N) k.toCalls24 hsu2 hc2 (by omega) m8.chk m8.ne)).mono ?_
  rintro r h3 ⟨x, l, rfl, gC, hx1, hx0⟩
  have hc3 := gC.hc hc2
  have hsu3 := hsu2.grow hc2 gC
  have hsa3 := hsa.grow hc2 gC
  have nA := gA.nx; have nB := gB.nx; have nC := gC.nx
  have gr3 : Grow h.nx.nat h h3 := gA.trans ((gB.trans (gC.low nB)).low nA)
  have eq1 : ¬ (0 : Int) ≠ 0 := fun h => h rfl
  simp (disch := omega) only [f7_r4, w_reg, w_seq, seqK_n, okG_b, asG_f, true_and, x_nil, x_g, x_mv, x_as, x_bin, x_ext, x_call, kx, rvP_ok, okv_some, ev_t, ev_c, evs_nil, evs_cons, getV_some, putD_some, bin_neq, onTup_t, nth0, nth1, nth2, of0, getK_set, Nat.reduceEqDiff, ↓reduceIte, Bool.not_false, eq1, decide_false]
  refine (callP_0 (ef := f40) k.c40 rfl (f40_ret (n := N) k.p53 k.z52 k.q52 k.c42 k.c43 k.c72 k.c45 k.c33 k.c31 k.c73 k.c74 k.c44 m8 m4 n1 n6 hsu3 hc3)).mono ?_
  rintro r h4 ⟨y, rfl, hy, gD⟩
  have hxy : x = y := by
    cases x
    · cases y
      · rfl
      · obtain ⟨h1, h2⟩ := hy.1 rfl
        rcases (hx0 rfl).2 with h | h
        · rw [h1] at h; cases h
        · exact absurd h2 h
    · cases y
      · obtain ⟨h1, D, _, _, hD⟩ := hx1 rfl
        exact absurd (hy.2 ⟨h1, hD.to⟩) (by simp)
      · rfl
  subst hxy
  have hc4 := gD.hc hc3
  have hsu4 := hsu3.grow hc3 gD
  have hsa4 := hsa3.grow hc3 gD
  have nD := gD.nx
  have gr4 : Grow h.nx.nat h h4 := gr3.trans (gD.low gr3.nx)
  cases x
  · obtain ⟨rfl, _⟩ := hx0 rfl
    have l0 : ∀ h1, lenV .sn h1 = .ok (.i .i64 0) h1 := fun _ => rfl
    simp (disch := omega) only [f7_r6, w_skip, w_reg, w_seq, w_cond, seqK_n, ckB_b, cbB_b, okG_b, asG_t, asG_f, true_and, x_nil, x_g, x_mv, x_pick, x_bin, x_eqk, x_not, x_len, kx, rvP_ok, okv_some, ev_t, ev_c, getV_some, putD_some, bin_neq, pick_b, onB_b, oGet_s, getK_set, Nat.reduceEqDiff, ↓reduceIte, Bool.false_eq_true, Bool.not_true, Bool.not_false, keyB1, cond_true, beq_self_eq_true, Bool.not_true, l0, eq1, decide_false]
    exact f7_tail k m8 hB0 (hw.grow hc gr4) hM hsu4 hsa4 hc4 (by simp (disch := omega) only [getK_set, Nat.reduceEqDiff, ↓reduceIte, and_self]) gr4
  · obtain ⟨_, D, hD1, _, hD2⟩ := hx1 rfl
    obtain ⟨B', hB1, hB2⟩ := seq_cols D hD2
    obtain ⟨hDl, hDm⟩ := seq_len D hD2
    have hD3 : InRp (castP D) := fun p hp => by
      unfold castP at hp
      obtain ⟨q, hq, rfl⟩ := List.mem_map.1 hp
      have := hDm q hq
      exact ⟨inR_n (by omega), inR_n (by omega)⟩
    have hcard : card (lowB (famB P)) ≤ 64 := mem64_len
    have hDl' : (castP D).length ≤ 1000000 := by unfold castP; rw [List.length_map]; omega
    have hD4 := (hD1.castP.grow hc3 gD)
    simp (disch := omega) only [f7_r6, f7_r7, w_skip, w_reg, w_seq, w_cond, seqK_n, ckB_b, cbB_b, okG_b, asG_t, asG_f, true_and, x_nil, x_g, x_mv, x_pick, x_eqk, x_not, x_call, kx, rvP_ok, okv_some, ev_t, ev_c, evs_nil, evs_cons, getV_some, putD_some, pick_b, onB_b, oGet_s, getK_set, Nat.reduceEqDiff, ↓reduceIte, Bool.false_eq_true, Bool.not_true, Bool.not_false, keyB1, cond_true, beq_self_eq_true, Bool.not_true]
    refine (callP_0 (ef := f41) k.c41 rfl (f41_ret k.p53 k.z52 k.c43 hsa4 (Nat.le_trans memI_len (by omega)) hD4 hD3 hDl' hc4)).mono ?_
    rintro r h5 ⟨v13, rfl, hs13, gE⟩
    rw [lft_ref _ hcl, hB1] at hs13 ⊢
    change Sl iE h5 v13 (memI B') at hs13
    have hc5 := gE.hc hc4
    have hsu5 := hsu4.grow hc4 gE
    simp (disch := omega) only [f7_r8, w_reg, w_seq, seqK_n, okG_b, asG_f, true_and, x_nil, x_g, x_mv, x_as, x_not, Option.map_some, x_ext, x_call, kx, rvP_ok, okv_some, ev_t, ev_c, evs_nil, evs_cons, getV_some, putD_some, onB_b, onTup_t, nth0, nth1, getK_set, Nat.reduceEqDiff, ↓reduceIte, Bool.not_true, Bool.not_false, Option.map_some, Option.isSome_some]
    refine (callP_0 (ef := f42) k.c42 rfl (f42_ret k.z52 hs13 (fun x hx => by obtain ⟨m, rfl, hm, _⟩ := memI_iff.1 hx; exact inR_n (by omega)) (Nat.le_trans memI_len (by omega)))).mono ?_
    rintro r h5' ⟨rfl, rfl⟩
    rw [one_ref, hB2]
    simp (disch := omega) only [f7_r10, w_skip, w_reg, w_seq, w_cond, seqK_n, ckB_b, cbB_b, okG_b, asG_f, true_and, x_nil, x_g, x_mv, x_pick, x_not, x_call, kx, rvP_ok, ev_t, ev_c, evs_nil, evs_cons, getV_some, putD_some, pick_b, onB_b, getK_set, Nat.reduceEqDiff, ↓reduceIte, Bool.false_eq_true, Bool.not_true, Bool.not_false]
    refine (callP_0 (ef := f25) k.c25 rfl (f25_ret (n := N) k.p54 k.c16 k.c55 k.c63 k.c56 k.c77 k.c90 k.c78 k.c91 k.c87 k.c88 hsu5 (hD4.grow hc4 gE) hD3 hDl' hc5 (by omega) m8.chk)).mono ?_
    rintro r h6 ⟨v15, rfl, hs15, gF⟩
    rw [hB1] at hs15 ⊢
    change Sl iE h6 v15 (memI B') at hs15
    have hc6 := gF.hc hc5
    have nE' := gE.nx
    have gr6 : Grow h.nx.nat h h6 := gr4.trans ((gE.trans (gF.low nE')).low gr4.nx)
    simp (disch := omega) only [f7_r11, w_reg, w_seq, seqK_n, okG_b, asG_f, true_and, x_nil, x_g, x_mv, x_as, x_pick, x_bin, x_not, x_ext, x_call, kx, rvP_ok, okv_some, ev_t, ev_c, evs_nil, evs_cons, getV_some, putD_some, bin_neq, pick_b, onB_b, onTup_t, nth0, nth1, nth2, of0, getK_set, Nat.reduceEqDiff, ↓reduceIte, Bool.false_eq_true, Bool.not_true, Bool.not_false, eq1, decide_false, Option.isSome_some]
    refine k.c32 _ _ _ _ _ _ hs15 (hs13.grow hc5 gF) (Nat.le_trans memI_len (by omega)) ?_
    simp (disch := omega) only [w_skip, w_cond, seqK_n, ckB_b, cbB_b, okG_b, asG_f, true_and, x_nil, x_g, x_pick, x_not, kx, rvP_ok, ev_t, ev_c, getV_some, putD_some, pick_b, onB_b, getK_set, Nat.reduceEqDiff, ↓reduceIte, Bool.false_eq_true, Bool.not_true, Bool.not_false, decide_true]
    exact f7_tail k m8 hB0 (hw.grow hc gr6) hM (hsu5.grow hc5 gF) ((hsa4.grow hc4 gE).grow hc5 gF) hc6 (by simp (disch := omega) only [getK_set, Nat.reduceEqDiff, ↓reduceIte, and_self]) gr6
end
end Go.Ev
namespace Go.Ev
open Go Go.RowKit Go.ChangeShapes Go.WideShapes Go.ChangeAt
theorem inR_of {z : Int} (h : (Lit.int .i64 z).wf = true) : inR .i64 z = true := by
  have h : (decide (IntKind.min .i64 ≤ z) && decide (z ≤ IntKind.max .i64)) = true := h
  rw [Bool.and_eq_true, decide_eq_true_eq, decide_eq_true_eq] at h
  have h1 : -9223372036854775808 ≤ z := h.1
  have h2 : z ≤ 9223372036854775807 := h.2
  cases z with
  | ofNat m => exact Nat.ble_eq_true_of_le (by show m ≤ 9223372036854775807; have : Int.ofNat m = (m : Int) := rfl; omega)
  | negSucc m => exact Nat.ble_eq_true_of_le (by show m + 1 ≤ 9223372036854775808; omega)
theorem trod_iw {H : Type} {enc : TypeId × Value → H} {P : Program} {w : World} {base : Nat} {spare : Nat → Bool} {held : Bool} {e : TypeId} {fuel : Nat} {c : Value} {x : DataW H × List MemPlace} (he : P.underlying e = some (.int .i64))
    (h : DataW.trod enc P w base spare held fuel e [c] = some x) : ∃ z, c = .int .i64 z ∧ inR .i64 z = true := by
  cases fuel with
  | zero => simp [DataW.trod] at h
  | succ n =>
    rw [DataW.trod_step] at h
    unfold DataW.trodStep at h
    simp only [he] at h
    cases c <;> simp only [reduceCtorEq] at h
    rename_i k' z
    split at h
    · rename_i hk; exact ⟨z, by rw [hk.1], inR_of hk.2⟩
    · cases h
/-- A slice of pairs that comes in. -/
theorem trod_slArg2w {H : Type} {enc : TypeId × Value → H} {P : Program} {W : World} {base : Nat} {t e i : TypeId} (ht : P.underlying t = some (.slice e)) (he : P.underlying e = some (.array 2 i)) (hi : P.underlying i = some (.int .i64)) (hci : P.cellsOf i = 1) (hce : P.cellsOf e = 2) {v : Value} {d : DataW H} {p ps : List MemPlace}
    (hval : Value.okWide P W .any base t v) (hd : DataW.Trod enc P W 0 (fun _ => true) true t v d p) (hps : ∀ x ∈ p, x ∈ ps) (hnf : W.noneFrozen ps) :
    ∃ len zs, SlArgK 2 W v len zs ∧ (∀ z ∈ zs, inR .i64 z = true) ∧ ∀ W', Below W.heap.size W W' → DataW.Trod enc P W' 0 (fun b => decide (b < W.heap.size)) true t v d p := by
  have back : ∀ W', Below W.heap.size W W' → DataW.Trod enc P W' 0 (fun b => decide (b < W.heap.size)) true t v d p := fun W' hb => trod_slice_frame ht (plain_arr he (plain_int hi)) (by omega) hb hd
  obtain ⟨ao, len0, cap0, rfl⟩ := okWide_slice ht hval
  obtain ⟨fuel, hf⟩ := hd
  have hcells : (Value.slice ao len0 cap0).cells.toList = [.slice ao len0 cap0] := rfl
  rw [hcells] at hf
  rcases DataW.trod_slice ht hf with ⟨hcs, hx⟩ | ⟨a, len, cap, elems, rest, n, rfl, hcs, hx, h0, hl, hm, hlen, hel, hsp, _⟩
  · cases hcs
    exact ⟨0, [], .inl ⟨rfl, rfl, rfl⟩, fun z hz => (by cases hz), back⟩
  · cases hcs
    cases hx
    obtain ⟨hrl, hr⟩ := hsp rfl
    have hspot : a.spot = none := by
      simp only [Value.okWide, ht, Cell.okWide, Cell.ok] at hval
      exact hval.2.2.2.1
    obtain ⟨b, off, sp⟩ := a
    have hspot : sp = none := hspot
    subst hspot
    have el : ∀ j, j < cap0 → ∃ y, (W.cells? 0 ((⟨b, off, none⟩ : Addr).add (j * 2)) 2).bind (DataW.trod enc P W 0 (fun _ => true) true n e) = some y := by
      intro j hj
      rw [hce] at hel hr
      by_cases h1 : j < len0
      · exact ⟨elems[j]'(by omega), by rw [hel j h1, List.getElem?_eq_getElem (by omega)]⟩
      · refine ⟨rest[j - len0]'(by omega), ?_⟩
        have := hr (j - len0) (by omega)
        rw [show len0 + (j - len0) = j by omega] at this
        rw [this, List.getElem?_eq_getElem (by omega)]
    have cell : ∀ j, j < cap0 * 2 → ∃ z, W.cell? ((⟨b, off, none⟩ : Addr).add j) = some (.int .i64 z) ∧ inR .i64 z = true := by
      intro j hj
      obtain ⟨y, hy⟩ := el (j / 2) (by omega)
      obtain ⟨cs, h1, h2⟩ := Option.bind_eq_some_iff.1 hy
      obtain ⟨c0, c1, rfl, q0, q1⟩ := cells2_of h1
      obtain ⟨y0, y1, n', r0, r1⟩ := trod_array2 he hci h2
      obtain ⟨z0, rfl, w0⟩ := trod_iw hi r0
      obtain ⟨z1, rfl, w1⟩ := trod_iw hi r1
      rw [add_lit', add_lit'] at q0 q1
      rcases Nat.mod_two_eq_zero_or_one j with h | h
      · refine ⟨z0, ?_, w0⟩
        rw [add_lit', ← q0]
        have : j = j / 2 * 2 := by omega
        rw [Nat.add_zero, ← this]
      · refine ⟨z1, ?_, w1⟩
        rw [add_lit', ← q1]
        rw [show off + j / 2 * 2 + 1 = off + j by omega]
    refine ⟨len0, (List.range (cap0 * 2)).map fun j => numZ (W.cell? ⟨b, off + j, none⟩), .inr ⟨b, off, cap0, rfl, hl, by simp, fun j hj => ?_, fun j hj => ?_⟩, fun z hz => ?_, back⟩
    · have hj : j < cap0 * 2 := by simpa using hj
      obtain ⟨z, hz, _⟩ := cell j hj
      rw [add_lit'] at hz
      have hz : W.cell? ⟨b, off + j, none⟩ = some (.int .i64 z) := hz
      rw [List.getElem_map, List.getElem_range, hz]; rfl
    · have hj : j < cap0 * 2 := by simpa using hj
      refine hnf b (off + j) (hps _ (List.mem_append_left _ ?_))
      unfold MemPlace.row
      rw [List.mem_map]
      exact ⟨j, by rw [List.mem_range, hce]; omega, rfl⟩
    · obtain ⟨j, hj, rfl⟩ := List.mem_map.1 hz
      obtain ⟨z, hz, hw⟩ := cell j (List.mem_range.1 hj)
      rw [add_lit'] at hz
      have hz : W.cell? ⟨b, off + j, none⟩ = some (.int .i64 z) := hz
      rw [hz]; exact hw
/-- Numbers, two by two. -/
def pairsOf (len : Nat) (zs : List Int) : List (Int × Int) := (List.range len).map fun i => (zs.getD (i * 2) 0, zs.getD (i * 2 + 1) 0)
theorem pairsOf_len {len : Nat} {zs : List Int} : (pairsOf len zs).length = len := by simp [pairsOf]
theorem pairsOf_flat : ∀ (len : Nat) {zs : List Int}, len * 2 ≤ zs.length → (pairsOf len zs).flatMap qE = (zs.take (len * 2)).map iE
  | 0, zs, _ => by simp [pairsOf]
  | len + 1, zs, h => by
    have ih := pairsOf_flat len (zs := zs) (by omega)
    unfold pairsOf at ih ⊢
    rw [List.range_succ, List.map_append, List.flatMap_append, ih, show (len + 1) * 2 = len * 2 + 1 + 1 by omega, List.take_succ_eq_append_getElem (by omega), List.take_succ_eq_append_getElem (by omega), List.map_append, List.map_append, List.append_assoc]
    congr 1
    simp only [List.map_cons, List.map_nil, List.flatMap_cons, List.flatMap_nil, List.append_nil, qE, iE, List.getD, List.getElem?_eq_getElem (show len * 2 < zs.length by omega), List.getElem?_eq_getElem (show len * 2 + 1 < zs.length by omega), Option.getD_some, List.singleton_append]
theorem pairsOf_in {len : Nat} {zs : List Int} (h : ∀ z ∈ zs, inR .i64 z = true) : ∀ x ∈ pairsOf len zs, inR .i64 x.1 = true ∧ inR .i64 x.2 = true := fun x hx => by
  have g : ∀ i, inR .i64 (zs.getD i 0) = true := fun i => by
    by_cases hi : i < zs.length
    · rw [List.getD, List.getElem?_eq_getElem hi]; exact h _ (List.getElem_mem hi)
    · rw [List.getD, List.getElem?_eq_none (by omega)]; rfl
  unfold pairsOf at hx
  obtain ⟨i, _, rfl⟩ := List.mem_map.1 hx
  exact ⟨g _, g _⟩
theorem SlArgK.le {k len : Nat} {W : World} {v : Value} {zs : List Int} (h : SlArgK k W v len zs) : len * k ≤ zs.length := by
  rcases h with ⟨_, rfl, rfl⟩ | ⟨b, off, cap, _, h1, h2, _⟩
  · simp
  · rw [h2]; exact Nat.mul_le_mul_right _ h1
theorem Srk.srp {h : H} {v : V} {len : Nat} {zs : List Int} (hs : Srk 2 h v len ((zs.take (len * 2)).map iE)) (hl : len * 2 ≤ zs.length) : Srp h v (pairsOf len zs) := by
  unfold Srp
  rw [pairsOf_len, pairsOf_flat len hl]; exact hs
end Go.Ev
