/-
  Rounds: the laws RoundsChecks and RoundsRings.
  Loops over a function that yields new slices.
  Rounds: the versions of a round.
  Rounds: lists of schedules; the one with the fewest breaks.
  Rounds: the fewest breaks, version by version.
  Rounds: a schedule with the fewest breaks of all that play alike.
  Rounds: at least n - 2 breaks; with just these, another team plays the other way round.
  Rounds: the fewest breaks (Least), the other way round (exchanged), numbers of teams.
  Rounds: the fewest breaks, from mask to mask (plain).
  Rounds: the law RoundsWerra.
-/
import Derived.Test.YthememdeglgnpaaPg
import Derived.Test.YthememdeglgnpaaPf
namespace Go.Ev
open Go Go.RowKit
noncomputable def f3_r0 : List EOper := [⟨(some (K.ofNat 4)), none, .as (.c (.b false))⟩]
noncomputable def f3_r1 : List EOper := [⟨(some (K.ofNat 24)), none, .mv (.t (K.ofNat 1))⟩, ⟨(some (K.ofNat 25)), none, .call (.c (.fn (K.ofNat 13) [])) [(.t (K.ofNat 24)), (.c (.i .i64 (.ofNat 10))), (.c (.i .i64 (.ofNat 6)))]⟩, ⟨(some (K.ofNat 5)), none, .as (.t (K.ofNat 25))⟩]
noncomputable def f3_r2 : List EOper := [⟨(some (K.ofNat 26)), none, .mv (.t (K.ofNat 0))⟩, ⟨(some (K.ofNat 27)), none, .mv (.t (K.ofNat 5))⟩, ⟨(some (K.ofNat 28)), none, .call (.c (.fn (K.ofNat 14) [])) [(.t (K.ofNat 26)), (.t (K.ofNat 27))]⟩, ⟨(some (K.ofNat 6)), none, .as (.t (K.ofNat 28))⟩]
noncomputable def f3_r3 : List EOper := [⟨(some (K.ofNat 29)), none, .mv (.t (K.ofNat 0))⟩, ⟨(some (K.ofNat 30)), none, .mv (.t (K.ofNat 5))⟩, ⟨(some (K.ofNat 31)), none, .call (.c (.fn (K.ofNat 15) [])) [(.t (K.ofNat 29)), (.t (K.ofNat 30))]⟩, ⟨(some (K.ofNat 32)), none, .mv (.t (K.ofNat 6))⟩, ⟨(some (K.ofNat 33)), none, .bin .neq (.t (K.ofNat 31)) (.t (K.ofNat 32))⟩]
noncomputable def f3_r4 : List EOper := [⟨(some (K.ofNat 4)), none, .as (.c (.b false))⟩]
noncomputable def f3_r5 : List EOper := [⟨(some (K.ofNat 35)), none, .mv (.t (K.ofNat 0))⟩, ⟨(some (K.ofNat 36)), none, .mv (.t (K.ofNat 5))⟩, ⟨(some (K.ofNat 37)), none, .call (.c (.fn (K.ofNat 16) [])) [(.t (K.ofNat 35)), (.t (K.ofNat 36))]⟩, ⟨(some (K.ofNat 34)), none, .mv (.t (K.ofNat 37))⟩, ⟨(some (K.ofNat 38)), none, .ext (.t (K.ofNat 34)) 0⟩, ⟨(some (K.ofNat 39)), none, .ext (.t (K.ofNat 34)) 1⟩, ⟨(some (K.ofNat 7)), none, .as (.t (K.ofNat 38))⟩, ⟨(some (K.ofNat 8)), none, .as (.t (K.ofNat 39))⟩]
noncomputable def f3_r6 : List EOper := [⟨(some (K.ofNat 41)), none, .mv (.t (K.ofNat 0))⟩, ⟨(some (K.ofNat 42)), none, .mv (.t (K.ofNat 5))⟩, ⟨(some (K.ofNat 43)), none, .call (.c (.fn (K.ofNat 17) [])) [(.t (K.ofNat 41)), (.t (K.ofNat 42))]⟩, ⟨(some (K.ofNat 40)), none, .mv (.t (K.ofNat 43))⟩, ⟨(some (K.ofNat 44)), none, .ext (.t (K.ofNat 40)) 0⟩, ⟨(some (K.ofNat 45)), none, .ext (.t (K.ofNat 40)) 1⟩, ⟨(some (K.ofNat 9)), none, .as (.t (K.ofNat 44))⟩, ⟨(some (K.ofNat 10)), none, .as (.t (K.ofNat 45))⟩]
noncomputable def f3_r7 : List EOper := [⟨(some (K.ofNat 47)), none, .mv (.t (K.ofNat 0))⟩, ⟨(some (K.ofNat 48)), none, .mv (.t (K.ofNat 5))⟩, ⟨(some (K.ofNat 49)), none, .call (.c (.fn (K.ofNat 18) [])) [(.t (K.ofNat 47)), (.t (K.ofNat 48))]⟩, ⟨(some (K.ofNat 46)), none, .mv (.t (K.ofNat 49))⟩, ⟨(some (K.ofNat 50)), none, .ext (.t (K.ofNat 46)) 0⟩, ⟨(some (K.ofNat 51)), none, .ext (.t (K.ofNat 46)) 1⟩, ⟨(some (K.ofNat 11)), none, .as (.t (K.ofNat 50))⟩, ⟨(some (K.ofNat 12)), none, .as (.t (K.ofNat 51))⟩]
noncomputable def f3_r8 : List EOper := [⟨(some (K.ofNat 53)), none, .mv (.t (K.ofNat 0))⟩, ⟨(some (K.ofNat 54)), none, .mv (.t (K.ofNat 5))⟩, ⟨(some (K.ofNat 55)), none, .call (.c (.fn (K.ofNat 19) [])) [(.t (K.ofNat 53)), (.t (K.ofNat 54))]⟩, ⟨(some (K.ofNat 52)), none, .mv (.t (K.ofNat 55))⟩, ⟨(some (K.ofNat 56)), none, .ext (.t (K.ofNat 52)) 0⟩, ⟨(some (K.ofNat 57)), none, .ext (.t (K.ofNat 52)) 1⟩, ⟨(some (K.ofNat 13)), none, .as (.t (K.ofNat 56))⟩, ⟨(some (K.ofNat 14)), none, .as (.t (K.ofNat 57))⟩]
noncomputable def f3_r9 : List EOper := [⟨(some (K.ofNat 59)), none, .mv (.t (K.ofNat 0))⟩, ⟨(some (K.ofNat 60)), none, .mv (.t (K.ofNat 5))⟩, ⟨(some (K.ofNat 61)), none, .call (.c (.fn (K.ofNat 20) [])) [(.t (K.ofNat 59)), (.t (K.ofNat 60))]⟩, ⟨(some (K.ofNat 58)), none, .mv (.t (K.ofNat 61))⟩, ⟨(some (K.ofNat 62)), none, .ext (.t (K.ofNat 58)) 0⟩, ⟨(some (K.ofNat 63)), none, .ext (.t (K.ofNat 58)) 1⟩, ⟨(some (K.ofNat 15)), none, .as (.t (K.ofNat 62))⟩, ⟨(some (K.ofNat 16)), none, .as (.t (K.ofNat 63))⟩]
noncomputable def f3_r10 : List EOper := [⟨(some (K.ofNat 65)), none, .mv (.t (K.ofNat 0))⟩, ⟨(some (K.ofNat 66)), none, .mv (.t (K.ofNat 5))⟩, ⟨(some (K.ofNat 67)), none, .call (.c (.fn (K.ofNat 21) [])) [(.t (K.ofNat 65)), (.t (K.ofNat 66)), (.c (.i .i64 (.ofNat 0)))]⟩, ⟨(some (K.ofNat 64)), none, .mv (.t (K.ofNat 67))⟩, ⟨(some (K.ofNat 68)), none, .ext (.t (K.ofNat 64)) 0⟩, ⟨(some (K.ofNat 69)), none, .ext (.t (K.ofNat 64)) 1⟩, ⟨(some (K.ofNat 17)), none, .as (.t (K.ofNat 68))⟩, ⟨(some (K.ofNat 18)), none, .as (.t (K.ofNat 69))⟩]
noncomputable def f3_r11 : List EOper := [⟨(some (K.ofNat 70)), none, .mv (.t (K.ofNat 6))⟩, ⟨(some (K.ofNat 71)), none, .bin .eql (.t (K.ofNat 70)) (.c (.i .i64 (.ofNat 0)))⟩]
noncomputable def f3_r12 : List EOper := [⟨(some (K.ofNat 72)), none, .mv (.t (K.ofNat 8))⟩, ⟨(some (K.ofNat 73)), none, .bin .eql (.t (K.ofNat 72)) (.c (.i .i64 (.ofNat 0)))⟩, ⟨(some (K.ofNat 74)), none, .mv (.t (K.ofNat 73))⟩, ⟨(some (K.ofNat 75)), (some ((K.ofNat 74), true)), .mv (.t (K.ofNat 10))⟩, ⟨(some (K.ofNat 76)), (some ((K.ofNat 74), true)), .bin .eql (.t (K.ofNat 75)) (.c (.i .i64 (.ofNat 0)))⟩, ⟨(some (K.ofNat 77)), none, .pick (.t (K.ofNat 74)) (.t (K.ofNat 76)) (.c (.b false))⟩, ⟨(some (K.ofNat 78)), none, .mv (.t (K.ofNat 77))⟩, ⟨(some (K.ofNat 79)), (some ((K.ofNat 78), true)), .mv (.t (K.ofNat 12))⟩, ⟨(some (K.ofNat 80)), (some ((K.ofNat 78), true)), .bin .eql (.t (K.ofNat 79)) (.c (.i .i64 (.ofNat 0)))⟩, ⟨(some (K.ofNat 81)), none, .pick (.t (K.ofNat 78)) (.t (K.ofNat 80)) (.c (.b false))⟩, ⟨(some (K.ofNat 82)), none, .mv (.t (K.ofNat 81))⟩, ⟨(some (K.ofNat 83)), (some ((K.ofNat 82), true)), .mv (.t (K.ofNat 14))⟩, ⟨(some (K.ofNat 84)), (some ((K.ofNat 82), true)), .bin .eql (.t (K.ofNat 83)) (.c (.i .i64 (.ofNat 0)))⟩, ⟨(some (K.ofNat 85)), none, .pick (.t (K.ofNat 82)) (.t (K.ofNat 84)) (.c (.b false))⟩, ⟨(some (K.ofNat 86)), none, .mv (.t (K.ofNat 85))⟩, ⟨(some (K.ofNat 87)), (some ((K.ofNat 86), true)), .mv (.t (K.ofNat 16))⟩, ⟨(some (K.ofNat 88)), (some ((K.ofNat 86), true)), .bin .eql (.t (K.ofNat 87)) (.c (.i .i64 (.ofNat 0)))⟩, ⟨(some (K.ofNat 89)), none, .pick (.t (K.ofNat 86)) (.t (K.ofNat 88)) (.c (.b false))⟩, ⟨(some (K.ofNat 90)), none, .mv (.t (K.ofNat 89))⟩, ⟨(some (K.ofNat 91)), (some ((K.ofNat 90), true)), .mv (.t (K.ofNat 18))⟩, ⟨(some (K.ofNat 92)), (some ((K.ofNat 90), true)), .bin .eql (.t (K.ofNat 91)) (.c (.i .i64 (.ofNat 0)))⟩, ⟨(some (K.ofNat 93)), none, .pick (.t (K.ofNat 90)) (.t (K.ofNat 92)) (.c (.b false))⟩, ⟨(some (K.ofNat 94)), none, .mv (.t (K.ofNat 93))⟩, ⟨(some (K.ofNat 95)), (some ((K.ofNat 94), true)), .call (.c (.fn (K.ofNat 22) [])) []⟩, ⟨(some (K.ofNat 96)), none, .pick (.t (K.ofNat 94)) (.t (K.ofNat 95)) (.c (.b false))⟩, ⟨(some (K.ofNat 4)), none, .as (.t (K.ofNat 96))⟩]
noncomputable def f3_r13 : List EOper := [⟨(some (K.ofNat 98)), none, .mv (.t (K.ofNat 0))⟩, ⟨(some (K.ofNat 99)), none, .mv (.t (K.ofNat 5))⟩, ⟨(some (K.ofNat 100)), none, .call (.c (.fn (K.ofNat 23) [])) [(.t (K.ofNat 98)), (.t (K.ofNat 99))]⟩, ⟨(some (K.ofNat 97)), none, .mv (.t (K.ofNat 100))⟩, ⟨(some (K.ofNat 101)), none, .ext (.t (K.ofNat 97)) 0⟩, ⟨(some (K.ofNat 102)), none, .ext (.t (K.ofNat 97)) 1⟩, ⟨(some (K.ofNat 103)), none, .ext (.t (K.ofNat 97)) 2⟩, ⟨(some (K.ofNat 19)), none, .as (.t (K.ofNat 101))⟩, ⟨(some (K.ofNat 20)), none, .as (.t (K.ofNat 102))⟩, ⟨(some (K.ofNat 21)), none, .as (.t (K.ofNat 103))⟩]
noncomputable def f3_r14 : List EOper := [⟨(some (K.ofNat 105)), none, .mv (.t (K.ofNat 0))⟩, ⟨(some (K.ofNat 106)), none, .mv (.t (K.ofNat 5))⟩, ⟨(some (K.ofNat 107)), none, .call (.c (.fn (K.ofNat 24) [])) [(.t (K.ofNat 105)), (.t (K.ofNat 106)), (.c .sn)]⟩, ⟨(some (K.ofNat 104)), none, .mv (.t (K.ofNat 107))⟩, ⟨(some (K.ofNat 108)), none, .ext (.t (K.ofNat 104)) 0⟩, ⟨(some (K.ofNat 109)), none, .ext (.t (K.ofNat 104)) 1⟩, ⟨(some (K.ofNat 22)), none, .as (.t (K.ofNat 108))⟩, ⟨(some (K.ofNat 23)), none, .as (.t (K.ofNat 109))⟩]
noncomputable def f3_r15 : List EOper := [⟨(some (K.ofNat 110)), none, .mv (.t (K.ofNat 8))⟩, ⟨(some (K.ofNat 111)), none, .mv (.t (K.ofNat 6))⟩, ⟨(some (K.ofNat 112)), none, .bin .eql (.t (K.ofNat 110)) (.t (K.ofNat 111))⟩, ⟨(some (K.ofNat 113)), none, .mv (.t (K.ofNat 112))⟩, ⟨(some (K.ofNat 114)), (some ((K.ofNat 113), true)), .mv (.t (K.ofNat 10))⟩, ⟨(some (K.ofNat 115)), (some ((K.ofNat 113), true)), .mv (.t (K.ofNat 6))⟩, ⟨(some (K.ofNat 116)), (some ((K.ofNat 113), true)), .bin .eql (.t (K.ofNat 114)) (.t (K.ofNat 115))⟩, ⟨(some (K.ofNat 117)), none, .pick (.t (K.ofNat 113)) (.t (K.ofNat 116)) (.c (.b false))⟩, ⟨(some (K.ofNat 118)), none, .mv (.t (K.ofNat 117))⟩, ⟨(some (K.ofNat 119)), (some ((K.ofNat 118), true)), .mv (.t (K.ofNat 21))⟩, ⟨(some (K.ofNat 120)), (some ((K.ofNat 118), true)), .mv (.t (K.ofNat 6))⟩, ⟨(some (K.ofNat 121)), (some ((K.ofNat 118), true)), .bin .eql (.t (K.ofNat 119)) (.t (K.ofNat 120))⟩, ⟨(some (K.ofNat 122)), none, .pick (.t (K.ofNat 118)) (.t (K.ofNat 121)) (.c (.b false))⟩, ⟨(some (K.ofNat 123)), none, .mv (.t (K.ofNat 122))⟩, ⟨(some (K.ofNat 124)), (some ((K.ofNat 123), true)), .mv (.t (K.ofNat 23))⟩, ⟨(some (K.ofNat 125)), (some ((K.ofNat 123), true)), .mv (.t (K.ofNat 6))⟩, ⟨(some (K.ofNat 126)), (some ((K.ofNat 123), true)), .bin .eql (.t (K.ofNat 124)) (.t (K.ofNat 125))⟩, ⟨(some (K.ofNat 127)), none, .pick (.t (K.ofNat 123)) (.t (K.ofNat 126)) (.c (.b false))⟩, ⟨(some (K.ofNat 128)), none, .mv (.t (K.ofNat 127))⟩, ⟨(some (K.ofNat 129)), (some ((K.ofNat 128), true)), .mv (.t (K.ofNat 12))⟩, ⟨(some (K.ofNat 130)), (some ((K.ofNat 128), true)), .mv (.t (K.ofNat 6))⟩, ⟨(some (K.ofNat 131)), (some ((K.ofNat 128), true)), .bin .eql (.t (K.ofNat 129)) (.t (K.ofNat 130))⟩, ⟨(some (K.ofNat 132)), none, .pick (.t (K.ofNat 128)) (.t (K.ofNat 131)) (.c (.b false))⟩, ⟨(some (K.ofNat 133)), none, .mv (.t (K.ofNat 132))⟩, ⟨(some (K.ofNat 134)), (some ((K.ofNat 133), true)), .mv (.t (K.ofNat 14))⟩, ⟨(some (K.ofNat 135)), (some ((K.ofNat 133), true)), .mv (.t (K.ofNat 6))⟩, ⟨(some (K.ofNat 136)), (some ((K.ofNat 133), true)), .bin .eql (.t (K.ofNat 134)) (.t (K.ofNat 135))⟩, ⟨(some (K.ofNat 137)), none, .pick (.t (K.ofNat 133)) (.t (K.ofNat 136)) (.c (.b false))⟩, ⟨(some (K.ofNat 138)), none, .mv (.t (K.ofNat 137))⟩, ⟨(some (K.ofNat 139)), (some ((K.ofNat 138), true)), .mv (.t (K.ofNat 16))⟩, ⟨(some (K.ofNat 140)), (some ((K.ofNat 138), true)), .mv (.t (K.ofNat 6))⟩, ⟨(some (K.ofNat 141)), (some ((K.ofNat 138), true)), .bin .eql (.t (K.ofNat 139)) (.t (K.ofNat 140))⟩, ⟨(some (K.ofNat 142)), none, .pick (.t (K.ofNat 138)) (.t (K.ofNat 141)) (.c (.b false))⟩, ⟨(some (K.ofNat 143)), none, .mv (.t (K.ofNat 142))⟩, ⟨(some (K.ofNat 144)), (some ((K.ofNat 143), true)), .mv (.t (K.ofNat 18))⟩, ⟨(some (K.ofNat 145)), (some ((K.ofNat 143), true)), .mv (.t (K.ofNat 6))⟩, ⟨(some (K.ofNat 146)), (some ((K.ofNat 143), true)), .bin .eql (.t (K.ofNat 144)) (.t (K.ofNat 145))⟩, ⟨(some (K.ofNat 147)), none, .pick (.t (K.ofNat 143)) (.t (K.ofNat 146)) (.c (.b false))⟩, ⟨(some (K.ofNat 148)), none, .mv (.t (K.ofNat 147))⟩, ⟨(some (K.ofNat 149)), (some ((K.ofNat 148), true)), .mv (.t (K.ofNat 13))⟩, ⟨(some (K.ofNat 150)), (some ((K.ofNat 148), true)), .not (.t (K.ofNat 149))⟩, ⟨(some (K.ofNat 151)), none, .pick (.t (K.ofNat 148)) (.t (K.ofNat 150)) (.c (.b false))⟩, ⟨(some (K.ofNat 152)), none, .mv (.t (K.ofNat 151))⟩, ⟨(some (K.ofNat 153)), (some ((K.ofNat 152), true)), .mv (.t (K.ofNat 15))⟩, ⟨(some (K.ofNat 154)), (some ((K.ofNat 152), true)), .not (.t (K.ofNat 153))⟩, ⟨(some (K.ofNat 155)), none, .pick (.t (K.ofNat 152)) (.t (K.ofNat 154)) (.c (.b false))⟩, ⟨(some (K.ofNat 156)), none, .mv (.t (K.ofNat 155))⟩, ⟨(some (K.ofNat 157)), (some ((K.ofNat 156), true)), .mv (.t (K.ofNat 7))⟩, ⟨(some (K.ofNat 158)), (some ((K.ofNat 156), true)), .mv (.t (K.ofNat 9))⟩, ⟨(some (K.ofNat 159)), (some ((K.ofNat 156), true)), .len (.t (K.ofNat 158))⟩, ⟨(some (K.ofNat 160)), (some ((K.ofNat 156), true)), .bin .add (.t (K.ofNat 157)) (.t (K.ofNat 159))⟩, ⟨(some (K.ofNat 161)), (some ((K.ofNat 156), true)), .mv (.t (K.ofNat 19))⟩, ⟨(some (K.ofNat 162)), (some ((K.ofNat 156), true)), .bin .add (.t (K.ofNat 160)) (.t (K.ofNat 161))⟩, ⟨(some (K.ofNat 163)), (some ((K.ofNat 156), true)), .mv (.t (K.ofNat 20))⟩, ⟨(some (K.ofNat 164)), (some ((K.ofNat 156), true)), .len (.t (K.ofNat 163))⟩, ⟨(some (K.ofNat 165)), (some ((K.ofNat 156), true)), .bin .add (.t (K.ofNat 162)) (.t (K.ofNat 164))⟩, ⟨(some (K.ofNat 166)), (some ((K.ofNat 156), true)), .mv (.t (K.ofNat 11))⟩, ⟨(some (K.ofNat 167)), (some ((K.ofNat 156), true)), .len (.t (K.ofNat 166))⟩, ⟨(some (K.ofNat 168)), (some ((K.ofNat 156), true)), .bin .add (.t (K.ofNat 165)) (.t (K.ofNat 167))⟩, ⟨(some (K.ofNat 169)), (some ((K.ofNat 156), true)), .mv (.t (K.ofNat 17))⟩, ⟨(some (K.ofNat 170)), (some ((K.ofNat 156), true)), .len (.t (K.ofNat 169))⟩, ⟨(some (K.ofNat 171)), (some ((K.ofNat 156), true)), .bin .add (.t (K.ofNat 168)) (.t (K.ofNat 170))⟩, ⟨(some (K.ofNat 172)), (some ((K.ofNat 156), true)), .mv (.t (K.ofNat 22))⟩, ⟨(some (K.ofNat 173)), (some ((K.ofNat 156), true)), .len (.t (K.ofNat 172))⟩, ⟨(some (K.ofNat 174)), (some ((K.ofNat 156), true)), .bin .add (.t (K.ofNat 171)) (.t (K.ofNat 173))⟩, ⟨(some (K.ofNat 175)), (some ((K.ofNat 156), true)), .bin .eql (.t (K.ofNat 174)) (.c (.i .i64 (.ofNat 0)))⟩, ⟨(some (K.ofNat 176)), none, .pick (.t (K.ofNat 156)) (.t (K.ofNat 175)) (.c (.b false))⟩, ⟨(some (K.ofNat 177)), none, .mv (.t (K.ofNat 176))⟩, ⟨(some (K.ofNat 178)), (some ((K.ofNat 177), true)), .call (.c (.fn (K.ofNat 22) [])) []⟩, ⟨(some (K.ofNat 179)), none, .pick (.t (K.ofNat 177)) (.t (K.ofNat 178)) (.c (.b false))⟩, ⟨(some (K.ofNat 4)), none, .as (.t (K.ofNat 179))⟩]
noncomputable def f3_c : EC := (.seq (.reg f3_r0) (.seq (.reg f3_r1) (.seq (.reg f3_r2) (.seq (.seq (.reg f3_r3) (.cond (.t (K.ofNat 33)) (.seq (.reg f3_r4) .ret) .skip)) (.seq (.reg f3_r5) (.seq (.reg f3_r6) (.seq (.reg f3_r7) (.seq (.reg f3_r8) (.seq (.reg f3_r9) (.seq (.reg f3_r10) (.seq (.seq (.reg f3_r11) (.cond (.t (K.ofNat 71)) (.seq (.reg f3_r12) .ret) .skip)) (.seq (.reg f3_r13) (.seq (.reg f3_r14) (.seq (.reg f3_r15) .ret))))))))))))))
noncomputable def f3 : EF := ⟨180, [.tmp (K.ofNat 4)], f3_c, none⟩
noncomputable def f8_r0 : List EOper := [⟨(some (K.ofNat 6)), none, .as (.c (.b false))⟩]
noncomputable def f8_r1 : List EOper := [⟨(some (K.ofNat 18)), none, .mv (.t (K.ofNat 1))⟩, ⟨(some (K.ofNat 19)), none, .call (.c (.fn (K.ofNat 13) [])) [(.t (K.ofNat 18)), (.c (.i .i64 (.ofNat 2))), (.c (.i .i64 (.ofNat 6)))]⟩, ⟨(some (K.ofNat 7)), none, .as (.t (K.ofNat 19))⟩]
noncomputable def f8_r2 : List EOper := [⟨(some (K.ofNat 20)), none, .mv (.t (K.ofNat 7))⟩, ⟨(some (K.ofNat 21)), none, .len (.t (K.ofNat 20))⟩, ⟨(some (K.ofNat 22)), none, .bin .lss (.t (K.ofNat 21)) (.c (.i .i64 (.ofNat 2)))⟩]
noncomputable def f8_r3 : List EOper := [⟨(some (K.ofNat 23)), none, .mv (.t (K.ofNat 7))⟩, ⟨(some (K.ofNat 24)), none, .bslice 1 1 [.sn] [(0, 1, (.c .sn))]⟩, ⟨(some (K.ofNat 25)), none, .app 1 (.t (K.ofNat 23)) (.t (K.ofNat 24))⟩, ⟨(some (K.ofNat 7)), none, .as (.t (K.ofNat 25))⟩]
noncomputable def f8_l0 : EC := (.seq (.seq (.reg f8_r2) (.cond (.t (K.ofNat 22)) .skip (.exit 0))) (.block 1 (.reg f8_r3)))
noncomputable def f8_r4 : List Stage := [⟨[⟨(some (K.ofNat 26)), none, .mv (.t (K.ofNat 7))⟩, ⟨(some (K.ofNat 27)), none, .iads 1 (.t (K.ofNat 26)) (.c (.i .i64 (.ofNat 0)))⟩, ⟨(some (K.ofNat 28)), none, .ld (.t (K.ofNat 27))⟩, ⟨(some (K.ofNat 29)), none, .mv (.t (K.ofNat 7))⟩, ⟨(some (K.ofNat 30)), none, .iads 1 (.t (K.ofNat 29)) (.c (.i .i64 (.ofNat 1)))⟩, ⟨(some (K.ofNat 31)), none, .ld (.t (K.ofNat 30))⟩], [], (some ⟨(some (K.ofNat 8)), none, .as (.t (K.ofNat 28))⟩), []⟩, ⟨[], [⟨(some (K.ofNat 29)), none, .mv (.t (K.ofNat 7))⟩, ⟨(some (K.ofNat 30)), none, .iads 1 (.t (K.ofNat 29)) (.c (.i .i64 (.ofNat 1)))⟩, ⟨(some (K.ofNat 31)), none, .ld (.t (K.ofNat 30))⟩], (some ⟨(some (K.ofNat 9)), none, .as (.t (K.ofNat 31))⟩), []⟩, ⟨[], [], none, []⟩]
noncomputable def f8_r5 : List EOper := [⟨(some (K.ofNat 10)), none, .as (.c (.i .i64 (.ofNat 0)))⟩]
noncomputable def f8_r6 : List EOper := [⟨(some (K.ofNat 32)), none, .mv (.t (K.ofNat 10))⟩, ⟨(some (K.ofNat 33)), none, .bin .lss (.t (K.ofNat 32)) (.c (.i .i64 (.ofNat 2)))⟩]
noncomputable def f8_r7 : List EOper := [⟨(some (K.ofNat 37)), none, .mv (.t (K.ofNat 0))⟩, ⟨(some (K.ofNat 38)), none, .mv (.t (K.ofNat 8))⟩, ⟨(some (K.ofNat 39)), none, .mv (.t (K.ofNat 9))⟩, ⟨(some (K.ofNat 40)), none, .call (.c (.fn (K.ofNat 44) [])) [(.t (K.ofNat 37)), (.t (K.ofNat 38)), (.t (K.ofNat 39))]⟩, ⟨(some (K.ofNat 36)), none, .mv (.t (K.ofNat 40))⟩, ⟨(some (K.ofNat 41)), none, .ext (.t (K.ofNat 36)) 0⟩, ⟨(some (K.ofNat 42)), none, .ext (.t (K.ofNat 36)) 1⟩, ⟨(some (K.ofNat 11)), none, .as (.t (K.ofNat 41))⟩, ⟨(some (K.ofNat 12)), none, .as (.t (K.ofNat 42))⟩]
noncomputable def f8_r8 : List EOper := [⟨(some (K.ofNat 55)), none, .mv (.t (K.ofNat 0))⟩, ⟨(some (K.ofNat 56)), none, .call (.c (.fn (K.ofNat 37) [])) [(.t (K.ofNat 55))]⟩, ⟨(some (K.ofNat 57)), none, .not (.t (K.ofNat 56))⟩, ⟨(some (K.ofNat 54)), none, .as (.t (K.ofNat 57))⟩]
noncomputable def f8_r9 : List EOper := [⟨(some (K.ofNat 58)), none, .mv (.t (K.ofNat 12))⟩, ⟨(some (K.ofNat 59)), none, .bin .neq (.t (K.ofNat 58)) (.c (.i .i64 (.ofNat 1)))⟩, ⟨(some (K.ofNat 60)), none, .mv (.t (K.ofNat 59))⟩, ⟨(some (K.ofNat 61)), (some ((K.ofNat 60), false)), .mv (.t (K.ofNat 11))⟩, ⟨(some (K.ofNat 62)), (some ((K.ofNat 60), false)), .len (.t (K.ofNat 61))⟩, ⟨(some (K.ofNat 63)), (some ((K.ofNat 60), false)), .bin .neq (.t (K.ofNat 62)) (.c (.i .i64 (.ofNat 0)))⟩, ⟨(some (K.ofNat 64)), none, .pick (.t (K.ofNat 60)) (.c (.b true)) (.t (K.ofNat 63))⟩]
noncomputable def f8_r10 : List EOper := [⟨(some (K.ofNat 6)), none, .as (.c (.b false))⟩]
noncomputable def f8_r11 : List EOper := [⟨(some (K.ofNat 66)), none, .mv (.t (K.ofNat 0))⟩, ⟨(some (K.ofNat 67)), none, .mv (.t (K.ofNat 8))⟩, ⟨(some (K.ofNat 68)), none, .call (.c (.fn (K.ofNat 45) [])) [(.t (K.ofNat 66)), (.t (K.ofNat 67))]⟩, ⟨(some (K.ofNat 69)), none, .not (.t (K.ofNat 68))⟩, ⟨(some (K.ofNat 70)), none, .mv (.t (K.ofNat 69))⟩, ⟨(some (K.ofNat 71)), (some ((K.ofNat 70), false)), .mv (.t (K.ofNat 0))⟩, ⟨(some (K.ofNat 72)), (some ((K.ofNat 70), false)), .mv (.t (K.ofNat 9))⟩, ⟨(some (K.ofNat 73)), (some ((K.ofNat 70), false)), .call (.c (.fn (K.ofNat 45) [])) [(.t (K.ofNat 71)), (.t (K.ofNat 72))]⟩, ⟨(some (K.ofNat 74)), (some ((K.ofNat 70), false)), .not (.t (K.ofNat 73))⟩, ⟨(some (K.ofNat 75)), none, .pick (.t (K.ofNat 70)) (.c (.b true)) (.t (K.ofNat 74))⟩, ⟨(some (K.ofNat 65)), none, .as (.t (K.ofNat 75))⟩]
noncomputable def f8_r12 : List EOper := [⟨(some (K.ofNat 76)), none, .mv (.t (K.ofNat 12))⟩, ⟨(some (K.ofNat 77)), none, .bin .neq (.t (K.ofNat 76)) (.c (.i .i64 (.ofNat 40)))⟩, ⟨(some (K.ofNat 78)), none, .mv (.t (K.ofNat 77))⟩, ⟨(some (K.ofNat 79)), (some ((K.ofNat 78), false)), .mv (.t (K.ofNat 11))⟩, ⟨(some (K.ofNat 80)), (some ((K.ofNat 78), false)), .len (.t (K.ofNat 79))⟩, ⟨(some (K.ofNat 81)), (some ((K.ofNat 78), false)), .bin .neq (.t (K.ofNat 80)) (.c (.i .i64 (.ofNat 0)))⟩, ⟨(some (K.ofNat 82)), none, .pick (.t (K.ofNat 78)) (.c (.b true)) (.t (K.ofNat 81))⟩]
noncomputable def f8_r13 : List EOper := [⟨(some (K.ofNat 6)), none, .as (.c (.b false))⟩]
noncomputable def f8_r14 : List EOper := [⟨(some (K.ofNat 43)), none, .mv (.t (K.ofNat 12))⟩, ⟨(some (K.ofNat 44)), none, .bin .neq (.t (K.ofNat 43)) (.c (.i .i64 (.ofNat 0)))⟩, ⟨(some (K.ofNat 45)), none, .mv (.t (K.ofNat 44))⟩, ⟨(some (K.ofNat 46)), (some ((K.ofNat 45), false)), .mv (.t (K.ofNat 11))⟩, ⟨(some (K.ofNat 47)), (some ((K.ofNat 45), false)), .mv (.t (K.ofNat 0))⟩, ⟨(some (K.ofNat 48)), (some ((K.ofNat 45), false)), .mv (.t (K.ofNat 8))⟩, ⟨(some (K.ofNat 49)), (some ((K.ofNat 45), false)), .mv (.t (K.ofNat 9))⟩, ⟨(some (K.ofNat 50)), (some ((K.ofNat 45), false)), .call (.c (.fn (K.ofNat 46) [])) [(.t (K.ofNat 47)), (.t (K.ofNat 48)), (.t (K.ofNat 49))]⟩, ⟨(some (K.ofNat 51)), (some ((K.ofNat 45), false)), .call (.c (.fn (K.ofNat 28) [])) [(.t (K.ofNat 46)), (.t (K.ofNat 50))]⟩, ⟨(some (K.ofNat 52)), (some ((K.ofNat 45), false)), .not (.t (K.ofNat 51))⟩, ⟨(some (K.ofNat 53)), none, .pick (.t (K.ofNat 45)) (.c (.b true)) (.t (K.ofNat 52))⟩]
noncomputable def f8_r15 : List EOper := [⟨(some (K.ofNat 6)), none, .as (.c (.b false))⟩]
noncomputable def f8_r16 : List EOper := [⟨(some (K.ofNat 84)), none, .mv (.t (K.ofNat 0))⟩, ⟨(some (K.ofNat 85)), none, .mv (.t (K.ofNat 2))⟩, ⟨(some (K.ofNat 86)), none, .call (.c (.fn (K.ofNat 25) [])) [(.t (K.ofNat 84)), (.t (K.ofNat 85))]⟩, ⟨(some (K.ofNat 83)), none, .mv (.t (K.ofNat 86))⟩, ⟨(some (K.ofNat 87)), none, .ext (.t (K.ofNat 83)) 0⟩, ⟨(some (K.ofNat 88)), none, .ext (.t (K.ofNat 83)) 1⟩, ⟨(some (K.ofNat 13)), none, .as (.t (K.ofNat 87))⟩, ⟨(some (K.ofNat 14)), none, .as (.t (K.ofNat 88))⟩]
noncomputable def f8_r17 : List Stage := [⟨[⟨(some (K.ofNat 89)), none, .mv (.t (K.ofNat 13))⟩, ⟨(some (K.ofNat 90)), none, .mv (.t (K.ofNat 14))⟩, ⟨(some (K.ofNat 91)), none, .iads 1 (.t (K.ofNat 90)) (.c (.i .i64 (.ofNat 0)))⟩, ⟨(some (K.ofNat 92)), none, .ld (.t (K.ofNat 91))⟩], [], (some ⟨(some (K.ofNat 0)), none, .as (.t (K.ofNat 89))⟩), []⟩, ⟨[], [⟨(some (K.ofNat 90)), none, .mv (.t (K.ofNat 14))⟩, ⟨(some (K.ofNat 91)), none, .iads 1 (.t (K.ofNat 90)) (.c (.i .i64 (.ofNat 0)))⟩, ⟨(some (K.ofNat 92)), none, .ld (.t (K.ofNat 91))⟩], (some ⟨(some (K.ofNat 8)), none, .as (.t (K.ofNat 92))⟩), []⟩, ⟨[], [], none, []⟩]
noncomputable def f8_r18 : List EOper := [⟨(some (K.ofNat 15)), none, .as (.c .sn)⟩]
noncomputable def f8_r19 : List EOper := [⟨(some (K.ofNat 93)), none, .mv (.t (K.ofNat 13))⟩, ⟨(some (K.ofNat 94)), none, .mv (.t (K.ofNat 2))⟩, ⟨(some (K.ofNat 95)), none, .call (.c (.fn (K.ofNat 33) [])) [(.t (K.ofNat 93)), (.t (K.ofNat 94))]⟩, ⟨(some (K.ofNat 16)), none, .as (.t (K.ofNat 95))⟩]
noncomputable def f8_r20 : List EOper := [⟨(some (K.ofNat 17)), none, .as (.c (.i .i64 (.ofNat 0)))⟩]
noncomputable def f8_r21 : List EOper := [⟨(some (K.ofNat 96)), none, .mv (.t (K.ofNat 17))⟩, ⟨(some (K.ofNat 97)), none, .bin .add (.t (K.ofNat 96)) (.c (.i .i64 (.ofNat 1)))⟩, ⟨(some (K.ofNat 98)), none, .mv (.t (K.ofNat 13))⟩, ⟨(some (K.ofNat 99)), none, .bin .lss (.t (K.ofNat 97)) (.t (K.ofNat 98))⟩]
noncomputable def f8_r22 : List Stage := [⟨[⟨(some (K.ofNat 102)), none, .mv (.t (K.ofNat 15))⟩, ⟨(some (K.ofNat 103)), none, .mv (.t (K.ofNat 16))⟩, ⟨(some (K.ofNat 104)), none, .mv (.t (K.ofNat 17))⟩, ⟨(some (K.ofNat 105)), none, .iads 1 (.t (K.ofNat 103)) (.t (K.ofNat 104))⟩, ⟨(some (K.ofNat 106)), none, .ld (.t (K.ofNat 105))⟩, ⟨(some (K.ofNat 107)), none, .mv (.t (K.ofNat 16))⟩, ⟨(some (K.ofNat 108)), none, .mv (.t (K.ofNat 17))⟩, ⟨(some (K.ofNat 109)), none, .bin .add (.t (K.ofNat 108)) (.c (.i .i64 (.ofNat 1)))⟩, ⟨(some (K.ofNat 110)), none, .iads 1 (.t (K.ofNat 107)) (.t (K.ofNat 109))⟩, ⟨(some (K.ofNat 111)), none, .ld (.t (K.ofNat 110))⟩, ⟨(some (K.ofNat 112)), none, .build [(.i .i64 (.ofNat 0)), (.i .i64 (.ofNat 0))] [(0, 1, (.t (K.ofNat 106))), (1, 1, (.t (K.ofNat 111)))]⟩, ⟨(some (K.ofNat 113)), none, .bslice 1 2 [(.i .i64 (.ofNat 0)), (.i .i64 (.ofNat 0))] [(0, 2, (.t (K.ofNat 112)))]⟩], [], (some ⟨(some (K.ofNat 114)), none, .app 2 (.t (K.ofNat 102)) (.t (K.ofNat 113))⟩), [(K.ofNat 113)]⟩, ⟨[], [], (some ⟨(some (K.ofNat 15)), none, .as (.t (K.ofNat 114))⟩), []⟩, ⟨[], [], none, []⟩]
noncomputable def f8_r23 : List EOper := [⟨(some (K.ofNat 100)), none, .mv (.t (K.ofNat 17))⟩, ⟨(some (K.ofNat 101)), none, .bin .add (.t (K.ofNat 100)) (.c (.i .i64 (.ofNat 2)))⟩, ⟨(some (K.ofNat 17)), none, .as (.t (K.ofNat 101))⟩]
noncomputable def f8_l1 : EC := (.seq (.seq (.reg f8_r21) (.cond (.t (K.ofNat 99)) .skip (.exit 5))) (.seq (.block 6 (.draw f8_r22)) (.reg f8_r23)))
noncomputable def f8_r24 : List EOper := [⟨(some (K.ofNat 115)), none, .mv (.t (K.ofNat 15))⟩, ⟨(some (K.ofNat 9)), none, .as (.t (K.ofNat 115))⟩]
noncomputable def f8_r25 : List EOper := [⟨(some (K.ofNat 34)), none, .mv (.t (K.ofNat 10))⟩, ⟨(some (K.ofNat 35)), none, .bin .add (.t (K.ofNat 34)) (.c (.i .i64 (.ofNat 1)))⟩, ⟨(some (K.ofNat 10)), none, .as (.t (K.ofNat 35))⟩]
noncomputable def f8_l2 : EC := (.seq (.seq (.reg f8_r6) (.cond (.t (K.ofNat 33)) .skip (.exit 2))) (.seq (.block 3 (.seq (.reg f8_r7) (.seq (.block 4 (.seq (.reg f8_r8) (.cond (.t (K.ofNat 54)) (.seq (.reg f8_r9) (.cond (.t (K.ofNat 64)) (.seq (.reg f8_r10) .ret) .skip)) (.seq (.reg f8_r11) (.cond (.t (K.ofNat 65)) (.seq (.reg f8_r12) (.cond (.t (K.ofNat 82)) (.seq (.reg f8_r13) .ret) .skip)) (.seq (.reg f8_r14) (.cond (.t (K.ofNat 53)) (.seq (.reg f8_r15) .ret) .skip))))))) (.seq (.reg f8_r16) (.seq (.draw f8_r17) (.seq (.reg f8_r18) (.seq (.reg f8_r19) (.seq (.seq (.reg f8_r20) (.block 5 (.loop f8_l1))) (.reg f8_r24))))))))) (.reg f8_r25)))
noncomputable def f8_r26 : List EOper := [⟨(some (K.ofNat 116)), none, .call (.c (.fn (K.ofNat 22) [])) []⟩, ⟨(some (K.ofNat 6)), none, .as (.t (K.ofNat 116))⟩]
noncomputable def f8_c : EC := (.seq (.reg f8_r0) (.seq (.reg f8_r1) (.seq (.block 0 (.loop f8_l0)) (.seq (.draw f8_r4) (.seq (.seq (.reg f8_r5) (.block 2 (.loop f8_l2))) (.seq (.reg f8_r26) .ret))))))
noncomputable def f8 : EF := ⟨117, [.tmp (K.ofNat 6)], f8_c, none⟩
section
variable {fs : T EF} {h : H} {v : V} {us : List V} {Ls : List (List (Int × Int))}
end
section
variable {fs : T EF} {h : H} {v v2 : V} {us : List V} {Ls : List (List (Int × Int))}
end
end Go.Ev
namespace Go.Ev
open Go Go.RowKit
section
variable {fs : T EF} {α : Type}
/-- The function, called with a body, goes through these: each is a new slice of which B tells what it holds. -/
def YieldsM (fs : T EF) (k : K) (caps : List V) (N : H → Prop) (B : H → V → α → Prop) (Y : List α) : Prop :=
  ∀ (id : K) (I : Nat → H → Prop) (D : H → Prop) (h : H), (∀ i h1, I i h1 → N h1 ∧ HC h1) → I 0 h →
    (∀ i h1 h2 v (hi : i < Y.length), I i h1 → Grow h1.nx.nat h1 h2 → B h2 v Y[i] → Own h1.nx.nat v → ∃ r h', Round fs id v h2 r h' ∧ (r = true → I (i + 1) h') ∧ (r = false → D h')) →
    CallP fs (.fn k caps) [.yl id] h fun r h' => r = .tup [] ∧ ((∃ h1, I Y.length h1 ∧ Grow h1.nx.nat h1 h') ∨ D h')
theorem W_rangeM {ro : Option K} {f : EO} {k : K} {caps : List V} {p : K} {a c : EC} {fr : Fr} {h : H} {Q : Ex → Fr → H → Prop} {N : H → Prop} {B : H → V → α → Prop} {Y : List α} (hro : roOk ro h = true) (hf : ev fr f = .fn k caps) (hy : YieldsM fs k caps N B Y)
    (I : Nat → H → Prop) (D : Ex → H → Prop) (hN : ∀ i h1, I i h1 → N h1 ∧ HC h1 ∧ h.nx.nat < h1.nx.nat) (hI0 : I 0 (h.new (rdyB fr [p] a c)))
    (step : ∀ i h1 h2 v (hi : i < Y.length), I i h1 → Grow h1.nx.nat h1 h2 → h2.get h.nx = rdyB fr [p] a c → B h2 v Y[i] → Own h1.nx.nat v → W fs (some h.nx) a (rndA fs h.nx fr [p] a c (I (i + 1)) D) (fr.set p v) h2)
    (fin : ∀ h1 h2, I Y.length h1 → Grow h1.nx.nat h1 h2 → Q .normal fr (h2.put h.nx .dead)) (brk : ∀ e h1, e ≠ .normal → D e h1 → Q e fr h1) : W fs ro (.rangeF f [p] a c) Q fr h := by
  have key := hy h.nx (fun i h1 => I i h1 ∧ h1.get h.nx = rdyB fr [p] a c) (fun h1 => ∃ e, e ≠ .normal ∧ D e (h1.put h.nx .dead) ∧ h1.get h.nx = .loop .done (some e) fr [p] a c) (h.new (rdyB fr [p] a c)) (fun i h1 hi => ⟨(hN i h1 hi.1).1, (hN i h1 hi.1).2.1⟩) ⟨hI0, get_new_same⟩ ?_
  · obtain ⟨n, r, h1, hc, rfl, hq⟩ := key
    rcases hq with ⟨h0, ⟨hI, hb⟩, hG⟩ | ⟨e, hne, hD, hb⟩
    · have hb1 : h1.get h.nx = rdyB fr [p] a c := (hG.old _ (hN _ _ hI).2.2).trans hb
      exact ⟨.normal, fr, _, Runs.range hro hf ⟨n, hc⟩ hb1 (.inl ⟨rfl, rfl, rfl⟩), fin h0 h1 hI hG⟩
    · exact ⟨e, fr, _, Runs.range hro hf ⟨n, hc⟩ hb (.inr ⟨rfl, rfl⟩), brk e _ hne hD⟩
  · rintro i h1 h2 v hi ⟨hI, hb⟩ hG hs ho
    have hb2 : h2.get h.nx = rdyB fr [p] a c := (hG.old _ (hN _ _ hI).2.2).trans hb
    obtain ⟨e1, fr1, h3, r1, rfl, hb3, hw⟩ := W_ok _ _ _ _ (step i h1 h2 v hi hI hG hb2 hs ho)
    obtain ⟨e2, fr2, h4, r2, hb4, hq⟩ := W_ok _ _ _ _ hw
    refine ⟨isNo e2, h4.put h.nx (afterR e2 fr [p] a c), round_of hb2 rfl r1 hb3 r2 hb4, fun he => ?_, fun he => ?_⟩
    · cases e2 <;> first | exact ⟨hq, get_put_same⟩ | cases he
    · cases e2 with
      | normal => cases he
      | exit j => exact ⟨.exit j, by simp, by rw [H.put_put]; exact hq, get_put_same⟩
      | ret => exact ⟨.ret, by simp, by rw [H.put_put]; exact hq, get_put_same⟩
/-! ### What is kept, said of ids -/
/-- These blocks stay. -/
def Keep (S : K → Prop) (h h' : H) : Prop := ∀ id, S id → h'.get id = h.get id
/-- The slice's block is one of these. -/
def In (S : K → Prop) (v : V) : Prop := ∀ id off n sz, v = .sl id off n sz → S id
theorem In.sn {S : K → Prop} : In S .sn := fun _ _ _ _ e => by cases e
theorem In.mono {S S' : K → Prop} {v : V} (h : In S v) (hs : ∀ id, S id → S' id) : In S' v := fun id off n sz e => hs _ (h _ _ _ _ e)
theorem Sr.in' {β : Type} {e : β → V} {h h' : H} {v : V} {L : List β} {S : K → Prop} (s : Sr e h v L) (hi : In S v) (hk : Keep S h h') : Sr e h' v L := s.same fun id off n sz ev => hk _ (hi _ _ _ _ ev)
theorem Srp.in' {h h' : H} {v : V} {L : List (Int × Int)} {S : K → Prop} (s : Srp h v L) (hi : In S v) (hk : Keep S h h') : Srp h' v L := s.old fun id off n sz ev => hk _ (hi _ _ _ _ ev)
end
end Go.Ev
namespace Go.Ev
open Go Go.RowKit
noncomputable def f94_r0 : List EOper := [⟨(some (K.ofNat 2)), none, .as (.c .sn)⟩]
noncomputable def f94_r1 : List EOper := [⟨(some (K.ofNat 3)), none, .mv (.t (K.ofNat 0))⟩, ⟨(some (K.ofNat 4)), none, .isnil false (.t (K.ofNat 3))⟩]
noncomputable def f94_r2 : List EOper := [⟨(some (K.ofNat 2)), none, .as (.c .sn)⟩]
noncomputable def f94_r3 : List EOper := [⟨(some (K.ofNat 5)), none, .bslice 0 2 [] []⟩, ⟨(some (K.ofNat 6)), none, .mv (.t (K.ofNat 0))⟩, ⟨(some (K.ofNat 7)), none, .app 2 (.t (K.ofNat 5)) (.t (K.ofNat 6))⟩, ⟨(some (K.ofNat 2)), none, .as (.t (K.ofNat 7))⟩]
noncomputable def f94_c : EC := (.seq (.reg f94_r0) (.seq (.seq (.reg f94_r1) (.cond (.t (K.ofNat 4)) (.seq (.reg f94_r2) .ret) .skip)) (.seq (.reg f94_r3) .ret)))
noncomputable def f94 : EF := ⟨8, [.tmp (K.ofNat 2)], f94_c, none⟩
theorem f94_rs : f94.rs = [.tmp (K.ofNat 2)] := of_eq_true (eq_self _)
noncomputable def f93_r0 : List EOper := [⟨(some (K.ofNat 7)), none, .ld (.t (K.ofNat 1))⟩, ⟨(some (K.ofNat 8)), none, .len (.t (K.ofNat 7))⟩, ⟨(some (K.ofNat 9)), none, .bin .shl (.c (.i .i64 (.ofNat 1))) (.t (K.ofNat 8))⟩, ⟨(some (K.ofNat 10)), none, .mv (.c (.i .i64 (.ofNat 0)))⟩]
noncomputable def f93_r1 : List EOper := [⟨(some (K.ofNat 11)), none, .bin .lss (.t (K.ofNat 10)) (.t (K.ofNat 9))⟩]
noncomputable def f93_r2 : List EOper := [⟨(some (K.ofNat 12)), none, .mv (.t (K.ofNat 10))⟩, ⟨(some (K.ofNat 3)), none, .as (.t (K.ofNat 12))⟩]
noncomputable def f93_r3 : List EOper := [⟨(some (K.ofNat 13)), none, .ld (.t (K.ofNat 1))⟩, ⟨(some (K.ofNat 14)), none, .call (.c (.fn (K.ofNat 94) [])) [(.t (K.ofNat 13))]⟩, ⟨(some (K.ofNat 4)), none, .as (.t (K.ofNat 14))⟩]
noncomputable def f93_r4 : List EOper := [⟨(some (K.ofNat 15)), none, .ld (.t (K.ofNat 1))⟩, ⟨(some (K.ofNat 16)), none, .len (.t (K.ofNat 15))⟩, ⟨(some (K.ofNat 17)), none, .mv (.c (.i .i64 (.ofNat 0)))⟩]
noncomputable def f93_r5 : List EOper := [⟨(some (K.ofNat 18)), none, .bin .lss (.t (K.ofNat 17)) (.t (K.ofNat 16))⟩]
noncomputable def f93_r6 : List EOper := [⟨(some (K.ofNat 19)), none, .mv (.t (K.ofNat 17))⟩, ⟨(some (K.ofNat 20)), none, .iads 2 (.t (K.ofNat 15)) (.t (K.ofNat 17))⟩, ⟨(some (K.ofNat 21)), none, .ldn 2 (.t (K.ofNat 20))⟩, ⟨(some (K.ofNat 6)), none, .alloc 2 [(.i .i64 (.ofNat 0)), (.i .i64 (.ofNat 0))]⟩, ⟨(some (K.ofNat 5)), none, .as (.t (K.ofNat 19))⟩, ⟨none, none, .st 2 (.t (K.ofNat 6)) (.t (K.ofNat 21))⟩]
noncomputable def f93_r7 : List EOper := [⟨(some (K.ofNat 22)), none, .mv (.t (K.ofNat 3))⟩, ⟨(some (K.ofNat 23)), none, .mv (.t (K.ofNat 5))⟩, ⟨(some (K.ofNat 24)), none, .bin .shr (.t (K.ofNat 22)) (.t (K.ofNat 23))⟩, ⟨(some (K.ofNat 25)), none, .bin .and (.t (K.ofNat 24)) (.c (.i .i64 (.ofNat 1)))⟩, ⟨(some (K.ofNat 26)), none, .bin .eql (.t (K.ofNat 25)) (.c (.i .i64 (.ofNat 1)))⟩]
noncomputable def f93_r8 : List EOper := [⟨(some (K.ofNat 27)), none, .mv (.t (K.ofNat 4))⟩, ⟨(some (K.ofNat 28)), none, .mv (.t (K.ofNat 5))⟩, ⟨(some (K.ofNat 29)), none, .ldn 2 (.t (K.ofNat 6))⟩, ⟨(some (K.ofNat 30)), none, .call (.c (.fn (K.ofNat 84) [])) [(.t (K.ofNat 29))]⟩, ⟨(some (K.ofNat 31)), none, .iads 2 (.t (K.ofNat 27)) (.t (K.ofNat 28))⟩, ⟨none, none, .st 2 (.t (K.ofNat 31)) (.t (K.ofNat 30))⟩]
noncomputable def f93_r9 : List EOper := [⟨(some (K.ofNat 32)), none, .bin .add (.t (K.ofNat 17)) (.c (.i .i64 (.ofNat 1)))⟩, ⟨(some (K.ofNat 17)), none, .mv (.t (K.ofNat 32))⟩]
noncomputable def f93_l0 : EC := (.seq (.reg f93_r5) (.seq (.cond (.t (K.ofNat 18)) .skip (.exit 2)) (.seq (.block 3 (.seq (.reg f93_r6) (.seq (.reg f93_r7) (.cond (.t (K.ofNat 26)) (.reg f93_r8) .skip)))) (.reg f93_r9))))
noncomputable def f93_r10 : List EOper := [⟨(some (K.ofNat 33)), none, .mv (.t (K.ofNat 0))⟩, ⟨(some (K.ofNat 34)), none, .mv (.t (K.ofNat 4))⟩, ⟨(some (K.ofNat 35)), none, .call (.t (K.ofNat 33)) [(.t (K.ofNat 34))]⟩, ⟨(some (K.ofNat 36)), none, .not (.t (K.ofNat 35))⟩]
noncomputable def f93_r11 : List EOper := [⟨(some (K.ofNat 37)), none, .bin .add (.t (K.ofNat 10)) (.c (.i .i64 (.ofNat 1)))⟩, ⟨(some (K.ofNat 10)), none, .mv (.t (K.ofNat 37))⟩]
noncomputable def f93_l1 : EC := (.seq (.reg f93_r1) (.seq (.cond (.t (K.ofNat 11)) .skip (.exit 0)) (.seq (.block 1 (.seq (.reg f93_r2) (.seq (.reg f93_r3) (.seq (.seq (.reg f93_r4) (.block 2 (.loop f93_l0))) (.seq (.reg f93_r10) (.cond (.t (K.ofNat 36)) .ret .skip)))))) (.reg f93_r11))))
noncomputable def f93_c : EC := (.seq (.reg f93_r0) (.block 0 (.loop f93_l1)))
noncomputable def f93 : EF := ⟨38, [], f93_c, none⟩
theorem f93_rs : f93.rs = [] := of_eq_true (eq_self _)
noncomputable def f80_r0 : List EOper := [⟨(some (K.ofNat 1)), none, .box 1 (.t (K.ofNat 0))⟩, ⟨(some (K.ofNat 2)), none, .as (.c .fnil)⟩]
noncomputable def f80_r1 : List EOper := [⟨(some (K.ofNat 3)), none, .mkfn (K.ofNat 93) [(.t (K.ofNat 1))]⟩, ⟨(some (K.ofNat 2)), none, .as (.t (K.ofNat 3))⟩]
noncomputable def f80_c : EC := (.seq (.reg f80_r0) (.seq (.reg f80_r1) .ret))
noncomputable def f80 : EF := ⟨4, [.tmp (K.ofNat 2)], f80_c, none⟩
theorem f80_rs : f80.rs = [.tmp (K.ofNat 2)] := of_eq_true (eq_self _)
def flp (e : Int × Int) : Int × Int := (e.2, e.1)
def verE (l : List (Int × Int)) (s i : Nat) : Int × Int := if s.testBit i then flp (l.getD i (0, 0)) else l.getD i (0, 0)
/-- One version of a round. -/
def verL (l : List (Int × Int)) (s : Nat) : List (Int × Int) := (List.range l.length).map (verE l s)
def verA (l : List (Int × Int)) : List (List (Int × Int)) := (List.range (2 ^ l.length)).map (verL l)
section
variable {fs : T EF} {h : H} {v : V} {l : List (Int × Int)}
/-- append to an empty literal. -/
theorem Srp.appE {id : K} {u : V} {M : List (Int × Int)} (hs : Srp h u M) (hc : HC h) (hb : h.get id = .cells (0 * 2) []) (hne : M ≠ []) (hn : M.length ≤ 16777216) : ∃ h', appV 2 h (.sl id 0 0 2) u = .ok (.sl h.nx 0 M.length 2) h' ∧ Sk 2 qE h' (.sl h.nx 0 M.length 2) M ∧ (∀ b, b ≤ id.nat → b ≤ h.nx.nat → Grow b h h') := by
  have hadd : Go.Ev.addOf 2 h u = some (M.length, M.flatMap qE) := by
    rcases hs with ⟨rfl, h0, h1⟩ | ⟨id, off, m, cs, rfl, hb, hll, hm, hx⟩
    · rw [h1, h0]; rfl
    · show (h.get id).onC none (fun len cs => bif Nat.beq 2 2 && Nat.ble (off + M.length * 2) len then some (M.length, takeN (M.length * 2) (dropN off cs)) else none) = _
      have e0 : (h.get id).onC none (fun len cs => bif Nat.beq 2 2 && Nat.ble (off + M.length * 2) len then some (M.length, takeN (M.length * 2) (dropN off cs)) else none) = (bif Nat.beq 2 2 && Nat.ble (off + M.length * 2) m then some (M.length, takeN (M.length * 2) (dropN off cs)) else none) := by
        rcases hb with hb | hb <;> rw [hb] <;> rfl
      rw [e0, Nat.ble_eq_true_of_le hm, takeN_eq, dropN_eq, hx]; rfl
  have hl : 1 ≤ M.length := List.length_pos_iff.2 hne
  have hid : id.nat < h.nx.nat := hc.cells hb
  have ha : appV 2 h (.sl id 0 0 2) u = .ok (.sl h.nx 0 (0 + M.length) 2) ((h.put id .dead).new (.cells ((0 + M.length) * 2) (cat (takeN (0 * 2) (dropN 0 [])) (M.flatMap qE)))) := by
    unfold appV
    rw [hadd]
    show (h.get id).onW RV.no (fun len cs => bif Nat.beq 2 2 && Nat.ble (0 + 0 * 2) len && Nat.ble (0 + M.length) 16777216 then app1 2 h id 0 0 cs M.length (M.flatMap qE) else .no) = _
    rw [hb]
    show (bif Nat.beq 2 2 && Nat.ble (0 + 0 * 2) (0 * 2) && Nat.ble (0 + M.length) 16777216 then app1 2 h id 0 0 [] M.length (M.flatMap qE) else RV.no) = _
    rw [show Nat.ble (0 + M.length) 16777216 = true from Nat.ble_eq_true_of_le (by omega)]
    show app1 2 h id 0 0 [] M.length (M.flatMap qE) = _
    unfold app1
    rw [show Nat.beq M.length 0 = false by rw [← Bool.not_eq_true]; intro h; have := Nat.eq_of_beq_eq_true h; omega]
    rfl
  rw [Nat.zero_add] at ha
  refine ⟨_, ha, .inr ⟨h.nx, 0, _, _, rfl, get_new_same, ?_, by omega, ?_⟩, fun b h1 h2 => (Grow.put h1 hid _).trans (Grow.new (by exact h2) _)⟩
  · rw [cat_eq, takeN_eq, dropN_eq]
    simp only [List.drop_nil, List.take_nil, List.nil_append]
    rw [List.length_flatMap]
    have : ∀ L : List (Int × Int), (L.map fun a => (qE a).length).sum = L.length * 2 := by
      intro L
      induction L with
      | nil => rfl
      | cons a L ih => simp only [List.map_cons, List.sum_cons, ih, List.length_cons]; show 2 + _ = _; omega
    exact this M
  · rw [cat_eq, takeN_eq, dropN_eq]
    simp only [List.drop_nil, List.take_nil, List.nil_append, List.drop_zero]
    refine List.take_of_length_le ?_
    rw [List.length_flatMap]
    have : ∀ L : List (Int × Int), (L.map fun a => (qE a).length).sum = L.length * 2 := by
      intro L
      induction L with
      | nil => rfl
      | cons a L ih => simp only [List.map_cons, List.sum_cons, ih, List.length_cons]; show 2 + _ = _; omega
    exact Nat.le_of_eq (this M)
theorem f94_ret (hv : Srp h v l) (hl : l.length ≤ 1000) (hne : l ≠ []) (hc : HC h) : Ret fs f94 [v] h fun r h' => Sk 2 qE h' r l ∧ Own h.nx.nat r ∧ Grow h.nx.nat h h' := by
  apply ret_of rfl
  show W fs none f94_c _ _ _
  unfold f94_c
  have hl1 : 1 ≤ l.length := List.length_pos_iff.2 hne
  have g1 := Grow.new (Nat.le_refl h.nx.nat) (.cells (0 * 2) [])
  have hc1 := g1.hc hc
  have nx1 := nx_new h (.cells (0 * 2) [])
  have hv1 := hv.grow hc g1
  obtain ⟨h2, a1, a2, a3⟩ := hv1.appE hc1 (id := h.nx) get_new_same hne (by omega)
  have hnil : ∀ h1, isnilV false v h1 = .ok (.b false) h1 := fun h1 => by
    rcases hv with ⟨rfl, h0, _⟩ | ⟨id, off, m, cs, rfl, _⟩
    · omega
    · rfl
  simp (disch := omega) only [f94_r0, f94_r1, f94_r3, f94_rs, w_skip, w_reg, w_seq, w_cond, w_ret, seqK_n, ckB_b, cbB_b, true_and, retK_r, x_nil, x_mv, x_as, x_bslice, x_app, x_isnil, kx, rvP_ok, ev_t, ev_c, getV_some, putD_some, oGet_s, readRs_nil, readRs_t, retV_1, frame_1, Option.some.injEq, exists_eq_left', getK_set, Nat.reduceEqDiff, ↓reduceIte, Bool.false_eq_true, fill_0, hnil, fill_0, a1]
  exact ⟨a2, fun _ _ _ _ e => by cases e; rw [nx1]; omega, g1.trans (a3 _ (Nat.le_refl _) (by omega))⟩
theorem and1 {x : Nat} (hx : x ≤ 1000000) : binV .and (.i .i64 (x : Int)) (.i .i64 1) = some (.i .i64 ((x % 2 : Nat) : Int)) := by
  show some (V.i .i64 (bif Nat.ble x 9223372036854775807 && Nat.ble 1 9223372036854775807 then Int.ofNat (Nat.land x 1) else _)) = _
  rw [Nat.ble_eq_true_of_le (by omega), show Nat.land x 1 = x % 2 from Nat.and_one_is_mod x]; rfl
structure NV (idr : K) (v : V) (l : List (Int × Int)) (h : H) : Prop where
  e : h.get idr = .cells 1 [v]
  s : Srp h v l
theorem NV.grow {h' : H} {idr : K} (n : NV idr v l h) (hc : HC h) (hg : Grow h.nx.nat h h') : NV idr v l h' := ⟨by rw [hg.old _ (hc.cells n.e)]; exact n.e, n.s.grow hc hg⟩
structure CallsVe (fs : T EF) : Prop where
  c80 : fs.get (K.ofNat 80) = some f80
  c84 : fs.get (K.ofNat 84) = some f84
  c93 : fs.get (K.ofNat 93) = some f93
  c94 : fs.get (K.ofNat 94) = some f94
def f93_I (id idr : K) (v : V) (l : List (Int × Int)) (I : Nat → H → Prop) (s : Nat) (fr : Fr) (h1 : H) : Prop := s ≤ 2 ^ l.length ∧ I s h1 ∧ fr.get (K.ofNat 0) = some (.yl id) ∧ fr.get (K.ofNat 1) = some (.p idr 0) ∧ fr.get (K.ofNat 9) = some (.i .i64 ((2 ^ l.length : Nat) : Int)) ∧ fr.get (K.ofNat 10) = some (.i .i64 (s : Int))
def f93_J (h0 : H) (id idr : K) (v : V) (l : List (Int × Int)) (s : Nat) (w : V) (j : Nat) (fr : Fr) (h1 : H) : Prop := j ≤ l.length ∧ Grow h0.nx.nat h0 h1 ∧ Sk 2 qE h1 w ((List.range j).map (verE l s) ++ l.drop j) ∧ Own h0.nx.nat w ∧ fr.get (K.ofNat 0) = some (.yl id) ∧ fr.get (K.ofNat 1) = some (.p idr 0) ∧ fr.get (K.ofNat 3) = some (.i .i64 (s : Int)) ∧ fr.get (K.ofNat 4) = some (w) ∧ fr.get (K.ofNat 9) = some (.i .i64 ((2 ^ l.length : Nat) : Int)) ∧ fr.get (K.ofNat 10) = some (.i .i64 (s : Int)) ∧ fr.get (K.ofNat 15) = some (v) ∧ fr.get (K.ofNat 16) = some (.i .i64 (l.length : Int)) ∧ fr.get (K.ofNat 17) = some (.i .i64 (j : Int))
theorem verA_at {s : Nat} (h : s < (verA l).length) : (verA l)[s] = verL l s := by simp [verA]
theorem ver_yield {idr : K} (k : CallsVe fs) (hl : l.length ≤ 8) (hne : l ≠ []) : YieldsM fs (K.ofNat 93) [.p idr 0] (NV idr v l) (fun h v l => Srp h v l) (verA l) := by
  intro id I D h hN hI round
  have hYl : (verA l).length = 2 ^ l.length := by simp [verA]
  have hpow : 2 ^ l.length ≤ 2 ^ 8 := Nat.pow_le_pow_right (by omega) hl
  have hp8 : 2 ^ 8 = 256 := by decide
  refine callP_of (ef := f93) k.c93 rfl ?_
  show Ret fs f93 [.yl id, .p idr 0] h _
  apply ret_of rfl
  show W fs none f93_c _ _ _
  unfold f93_c
  obtain ⟨N0, _⟩ := hN _ _ hI
  have l1 : loadV h (.p idr 0) one? = .ok v h := load_p N0.e rfl
  have hsh := (bit_i (m := 0) (show l.length ≤ 15 by omega)).2.2.2.1
  have hlv := N0.s.len
  simp (disch := omega) only [f93_r0, w_reg, w_seq, w_block, seqK_n, x_nil, x_mv, x_ld, x_bin, x_len, kx, rvP_ok, okv_some, ev_t, ev_c, getV_some, putD_some, frame_2, of0, of1, getK_set, ↓reduceIte, l1, hlv, hsh]
  refine W_loop (f93_I id idr v l I) (fun s => 2 ^ l.length - s) ?_ 0 ⟨by omega, hI, by simp (disch := omega) only [getK_set, Nat.reduceEqDiff, ↓reduceIte, and_self, Int.natCast_zero]⟩
  clear l1 N0 hI hlv
  rintro s fr h0 ⟨hs, hIs, g0, g1, g9, g10⟩
  obtain ⟨N0, hc0⟩ := hN _ _ hIs
  unfold f93_l1
  by_cases hlt : s < 2 ^ l.length
  · have d0 : decide ((s : Int) < ((2 ^ l.length : Nat) : Int)) = true := decide_eq_true (by omega)
    have l1 : loadV h0 (.p idr 0) one? = .ok v h0 := load_p N0.e rfl
    simp (disch := omega) only [f93_r1, f93_r2, f93_r3, w_skip, w_reg, w_seq, w_cond, w_block, seqK_n, ckB_b, cbB_b, true_and, x_nil, x_mv, x_as, x_ld, x_bin, x_call, kx, rvP_ok, okv_some, ev_t, ev_c, evs_nil, evs_cons, getV_some, putD_some, bin_lss, getK_set, Nat.reduceEqDiff, ↓reduceIte, g1, g9, g10, d0, l1]
    refine (callP_0 (ef := f94) k.c94 rfl (f94_ret N0.s (by omega) hne hc0)).mono ?_
    rintro w h1 ⟨hw, how, hG1⟩
    have N1 := N0.grow hc0 hG1
    have l2 : loadV h1 (.p idr 0) one? = .ok v h1 := load_p N1.e rfl
    have hlv := N1.s.len
    simp (disch := omega) only [f93_r4, w_reg, w_seq, w_block, seqK_n, x_nil, x_mv, x_as, x_ld, x_len, kx, rvP_ok, ev_t, ev_c, getV_some, putD_some, of0, getK_set, Nat.reduceEqDiff, ↓reduceIte, g1, l2, hlv]
    refine W_loop (f93_J h0 id idr v l s w) (fun j => l.length - j) ?_ 0 ⟨by omega, hG1, by simpa using hw, how, by simp (disch := omega) only [getK_set, Nat.reduceEqDiff, ↓reduceIte, g0, g1, g9, g10, and_self, Int.natCast_zero]⟩
    clear hw how hG1 N1 l2 hlv g0 g1 g9 g10 fr h1 l1
    rintro j fr h1 ⟨hj, hG, hw, how, g0, g1, g3, g4, g9, g10, g15, g16, g17⟩
    have hc1 := hG.hc hc0
    unfold f93_l0
    by_cases hlt2 : j < l.length
    · have d1 : decide ((j : Int) < (l.length : Int)) = true := decide_eq_true (by omega)
      obtain ⟨ida, q, hq1, hq2, _, _⟩ := (N0.s.grow hc0 hG).at2 hlt2
      have hdr : l.drop j = l[j] :: l.drop (j + 1) := List.drop_eq_getElem_cons hlt2
      have hsn : (List.range (j + 1)).map (verE l s) = (List.range j).map (verE l s) ++ [verE l s j] := by rw [List.range_succ, List.map_append]; rfl
      have hve : verE l s j = if s.testBit j then flp l[j] else l[j] := by unfold verE; rw [getD_at hlt2]
      generalize l[j] = e at *
      have hst2 : storeV (h1.new (.cells 2 [.i .i64 0, .i .i64 0])) 2 (.p h1.nx 0) (.agg [.i .i64 e.1, .i .i64 e.2]) = .ok undefV ((h1.new (.cells 2 [.i .i64 0, .i .i64 0])).put h1.nx (.cells 2 [.i .i64 e.1, .i .i64 e.2])) := st2 (a := .i .i64 0) (b := .i .i64 0) get_new_same
      have nx1 := nx_new h1 (.cells 2 [.i .i64 0, .i .i64 0])
      have gB : Grow h1.nx.nat h1 ((h1.new (.cells 2 [.i .i64 0, .i .i64 0])).put h1.nx (.cells 2 [.i .i64 e.1, .i .i64 e.2])) := (Grow.new (Nat.le_refl _) _).trans (Grow.put (Nat.le_refl _) (by omega) _)
      have c7 : ((h1.new (.cells 2 [.i .i64 0, .i .i64 0])).put h1.nx (.cells 2 [.i .i64 e.1, .i .i64 e.2])).get h1.nx = .cells 2 [.i .i64 e.1, .i .i64 e.2] := get_put_same
      have hq2 : loadV h1 (.p ida q) (many? 2) = .ok (.agg [.i .i64 e.1, .i .i64 e.2]) h1 := hq2
      obtain ⟨s1, _, s3, s4, _⟩ := bit_i (m := s) (show j ≤ 15 by omega)
      have hle : s / 2 ^ j ≤ 1000000 := Nat.le_trans (Nat.div_le_self _ _) (by omega)
      have ha := and1 hle
      have hG2 := hG.trans (gB.low hG.nx)
      have hc2 := gB.hc hc1
      have hw2 := hw.grow hc1 gB
      simp (disch := omega) only [f93_r5, f93_r6, w_skip, w_reg, w_seq, w_cond, w_block, seqK_n, ckB_b, cbB_b, true_and, x_nil, x_mv, x_as, x_alloc, x_ldn, x_st, x_bin, x_iads, kx, rvP_ok, okv_some, ev_t, getV_some, putD_some, putD_none, bin_lss, of0, getK_set, Nat.reduceEqDiff, ↓reduceIte, g15, g16, g17, d1, hq1, hq2, hst2]
      generalize (h1.new (.cells 2 [.i .i64 0, .i .i64 0])).put h1.nx (.cells 2 [.i .i64 e.1, .i .i64 e.2]) = h2 at *
      have l2 : loadV h2 (.p h1.nx 0) (many? 2) = .ok (.agg [.i .i64 e.1, .i .i64 e.2]) h2 := ldn2 c7
      cases hb : s.testBit j with
      | true =>
        rw [hb] at s3 hve
        simp (disch := omega) only [f93_r7, f93_r8, w_reg, w_cond, seqK_n, ckB_b, cbB_b, true_and, x_nil, x_mv, x_ldn, x_bin, x_call, kx, rvP_ok, okv_some, ev_t, ev_c, evs_nil, evs_cons, getV_some, putD_some, bin_eql, of1, getK_set, Nat.reduceEqDiff, ↓reduceIte, g3, g4, s1, ha, s3, l2]
        refine (callP_0 (ef := f84) k.c84 rfl (f84_ret (x := e) hc2)).mono ?_
        rintro r h3 ⟨rfl, gC⟩
        have hc3 := gC.hc hc2
        have hG3 := hG2.trans (gC.low hG2.nx)
        have hw3 := hw2.grow hc2 gC
        have hil : j < ((List.range j).map (verE l s) ++ l.drop j).length := by simp; omega
        obtain ⟨p, id2, m, cs', w1, w2, w3, ⟨off', n', sz', w4⟩, w5⟩ := hw3.st2 hil (x := (e.2, e.1)) hc3
        have hset : ((List.range j).map (verE l s) ++ l.drop j).set j (e.2, e.1) = (List.range (j + 1)).map (verE l s) ++ l.drop (j + 1) := by
          have hlen : ((List.range j).map (verE l s)).length = j := by simp
          rw [List.set_append_right _ _ (by omega), hlen, Nat.sub_self, hdr, List.set_cons_zero, hsn, hve, List.append_assoc]; rfl
        rw [hset] at w3
        have gP := Grow.put (how _ _ _ _ w4) w5 (.cells m cs')
        simp (disch := omega) only [f93_r9, w_reg, seqK_n, atK_n, loopK_n, x_nil, x_mv, x_st, x_bin, x_iads, kx, rvP_ok, okv_some, ev_t, ev_c, getV_some, putD_some, putD_none, bin_add, of1, getK_set, Nat.reduceEqDiff, ↓reduceIte, g17, pZ, w1, w2, fw64]
        exact ⟨j + 1, by omega, by omega, hG3.trans gP, w3, how, by simp (disch := omega) only [getK_set, Nat.reduceEqDiff, ↓reduceIte, g0, g1, g3, g4, g9, g10, g15, g16, and_self, Int.natCast_add, Int.natCast_one]⟩
      | false =>
        rw [hb] at s3 hve
        have heq : (List.range j).map (verE l s) ++ l.drop j = (List.range (j + 1)).map (verE l s) ++ l.drop (j + 1) := by
          rw [hdr, hsn, hve, List.append_assoc]; rfl
        rw [heq] at hw2
        simp (disch := omega) only [f93_r7, f93_r9, w_skip, w_reg, w_cond, seqK_n, atK_n, loopK_n, ckB_b, cbB_b, true_and, x_nil, x_mv, x_bin, kx, rvP_ok, okv_some, ev_t, ev_c, getV_some, putD_some, bin_add, bin_eql, of1, getK_set, Nat.reduceEqDiff, ↓reduceIte, Bool.false_eq_true, g3, g17, s1, ha, s3, fw64]
        exact ⟨j + 1, by omega, by omega, hG2, hw2, how, by simp (disch := omega) only [getK_set, Nat.reduceEqDiff, ↓reduceIte, g0, g1, g3, g4, g9, g10, g15, g16, and_self, Int.natCast_add, Int.natCast_one]⟩
    · have d1 : decide ((j : Int) < (l.length : Int)) = false := decide_eq_false (by omega)
      have ej : j = l.length := by omega
      rw [ej, List.drop_length, List.append_nil] at hw
      have hi : s < (verA l).length := by rw [hYl]; exact hlt
      obtain ⟨r, h6, hr, r1, r2⟩ := round s h0 h1 w hi hIs hG (by rw [verA_at hi]; exact hw.srp) how
      simp (disch := omega) only [f93_r5, f93_r10, w_reg, w_seq, w_cond, w_exit, seqK_n, seqK_e, atK_e, loopK_e, ckB_b, cbB_b, true_and, x_nil, x_mv, x_bin, x_call, kx, rvP_ok, okv_some, ev_t, evs_nil, evs_cons, getV_some, putD_some, bin_lss, getK_set, Nat.reduceEqDiff, ↓reduceIte, Bool.false_eq_true, g0, g4, g16, g17, d1]
      obtain ⟨m, hm⟩ := hr
      refine ⟨m, _, _, hm, ?_⟩
      cases r with
      | false =>
        simp (disch := omega) only [f93_rs, w_cond, w_ret, seqK_n, seqK_r, atK_r, loopK_r, ckB_b, cbB_b, true_and, retK_r, x_nil, x_not, kx, rvP_ok, ev_t, getV_some, putD_some, onB_b, readRs_nil, retV_0, Option.some.injEq, exists_eq_left', getK_set, ↓reduceIte, Bool.not_false, Bool.not_false, true_and]
        exact .inr (r2 rfl)
      | true =>
        simp (disch := omega) only [f93_r11, w_skip, w_reg, w_cond, seqK_n, atK_n, loopK_n, ckB_b, cbB_b, true_and, x_nil, x_mv, x_bin, x_not, kx, rvP_ok, okv_some, ev_t, ev_c, getV_some, putD_some, bin_add, onB_b, of1, getK_set, Nat.reduceEqDiff, ↓reduceIte, Bool.false_eq_true, Bool.not_true, g10, Bool.not_true, fw64]
        exact ⟨s + 1, by omega, by omega, r1 rfl, by simp (disch := omega) only [getK_set, Nat.reduceEqDiff, ↓reduceIte, g0, g1, g9, and_self, Int.natCast_add, Int.natCast_one]⟩
  · have d0 : decide ((s : Int) < ((2 ^ l.length : Nat) : Int)) = false := decide_eq_false (by omega)
    have es : s = 2 ^ l.length := by omega
    simp (disch := omega) only [f93_r1, f93_rs, w_reg, w_seq, w_cond, w_exit, seqK_n, seqK_e, atK_e, loopK_e, ckB_b, cbB_b, true_and, retK_n, x_nil, x_bin, kx, rvP_ok, okv_some, ev_t, getV_some, putD_some, bin_lss, readRs_nil, retV_0, Option.some.injEq, exists_eq_left', getK_set, ↓reduceIte, Bool.false_eq_true, g9, g10, d0, true_and]
    exact .inl ⟨h0, by rw [hYl, ← es]; exact hIs, Grow.refl _ _⟩
theorem f80_ret (hv : Srp h v l) (hc : HC h) : Ret fs f80 [v] h fun r h' => r = .fn (K.ofNat 93) [.p h.nx 0] ∧ NV h.nx v l h' ∧ h'.nx.nat = h.nx.nat + 1 ∧ Grow h.nx.nat h h' := by
  apply ret_of rfl
  show W fs none f80_c _ _ _
  unfold f80_c
  have hsl := hv.cell
  have g1 := Grow.new (Nat.le_refl h.nx.nat) (.cells 1 [v])
  simp (disch := omega) only [f80_r0, f80_r1, f80_rs, w_reg, w_seq, w_ret, seqK_n, true_and, retK_r, x_nil, x_as, x_box, x_mkfn, kx, rvP_ok, ev_t, ev_c, evs_nil, evs_cons, getV_some, putD_some, oGet_s, readRs_nil, readRs_t, retV_1, frame_1, Option.some.injEq, exists_eq_left', getK_set, Nat.reduceEqDiff, ↓reduceIte, hsl]
  exact ⟨⟨get_new_same, hv.grow hc g1⟩, nx_new _ _, g1⟩
end
end Go.Ev
namespace Go.Ev
open Go Go.RowKit
noncomputable def f97_r0 : List EOper := [⟨(some (K.ofNat 4)), none, .as (.c (.i .i64 (.ofNat 0)))⟩]
noncomputable def f97_r1 : List EOper := [⟨(some (K.ofNat 7)), none, .mv (.t (K.ofNat 0))⟩, ⟨(some (K.ofNat 8)), none, .call (.c (.fn (K.ofNat 103) [])) [(.t (K.ofNat 7))]⟩, ⟨(some (K.ofNat 5)), none, .as (.t (K.ofNat 8))⟩]
noncomputable def f97_r2 : List EOper := [⟨(some (K.ofNat 9)), none, .mv (.t (K.ofNat 1))⟩, ⟨(some (K.ofNat 10)), none, .call (.c (.fn (K.ofNat 103) [])) [(.t (K.ofNat 9))]⟩, ⟨(some (K.ofNat 6)), none, .as (.t (K.ofNat 10))⟩]
noncomputable def f97_r3 : List EOper := [⟨(some (K.ofNat 11)), none, .mv (.t (K.ofNat 5))⟩]
noncomputable def f97_r4 : List EOper := [⟨(some (K.ofNat 12)), none, .mv (.t (K.ofNat 6))⟩]
noncomputable def f97_r5 : List EOper := [⟨(some (K.ofNat 4)), none, .as (.c (.i .i64 (.ofNat 0)))⟩]
noncomputable def f97_r6 : List EOper := [⟨(some (K.ofNat 4)), none, .as (.c (.i .i64 (.negSucc 0)))⟩]
noncomputable def f97_r7 : List EOper := [⟨(some (K.ofNat 13)), none, .mv (.t (K.ofNat 6))⟩]
noncomputable def f97_r8 : List EOper := [⟨(some (K.ofNat 4)), none, .as (.c (.i .i64 (.ofNat 1)))⟩]
noncomputable def f97_r9 : List EOper := [⟨(some (K.ofNat 14)), none, .mv (.t (K.ofNat 0))⟩, ⟨(some (K.ofNat 15)), none, .mv (.t (K.ofNat 1))⟩, ⟨(some (K.ofNat 16)), none, .bin .lss (.t (K.ofNat 14)) (.t (K.ofNat 15))⟩]
noncomputable def f97_r10 : List EOper := [⟨(some (K.ofNat 4)), none, .as (.c (.i .i64 (.negSucc 0)))⟩]
noncomputable def f97_r11 : List EOper := [⟨(some (K.ofNat 17)), none, .mv (.t (K.ofNat 0))⟩, ⟨(some (K.ofNat 18)), none, .mv (.t (K.ofNat 1))⟩, ⟨(some (K.ofNat 19)), none, .bin .gtr (.t (K.ofNat 17)) (.t (K.ofNat 18))⟩]
noncomputable def f97_r12 : List EOper := [⟨(some (K.ofNat 4)), none, .as (.c (.i .i64 (.ofNat 1)))⟩]
noncomputable def f97_r13 : List EOper := [⟨(some (K.ofNat 4)), none, .as (.c (.i .i64 (.ofNat 0)))⟩]
noncomputable def f97_c : EC := (.seq (.reg f97_r0) (.seq (.reg f97_r1) (.seq (.reg f97_r2) (.seq (.seq (.reg f97_r3) (.cond (.t (K.ofNat 11)) (.seq (.seq (.reg f97_r4) (.cond (.t (K.ofNat 12)) (.seq (.reg f97_r5) .ret) .skip)) (.seq (.reg f97_r6) .ret)) .skip)) (.seq (.seq (.reg f97_r7) (.cond (.t (K.ofNat 13)) (.seq (.reg f97_r8) .ret) .skip)) (.seq (.seq (.reg f97_r9) (.cond (.t (K.ofNat 16)) (.seq (.reg f97_r10) .ret) .skip)) (.seq (.seq (.reg f97_r11) (.cond (.t (K.ofNat 19)) (.seq (.reg f97_r12) .ret) .skip)) (.seq (.reg f97_r13) .ret))))))))
noncomputable def f97 : EF := ⟨20, [.tmp (K.ofNat 4)], f97_c, none⟩
theorem f97_rs : f97.rs = [.tmp (K.ofNat 4)] := of_eq_true (eq_self _)
noncomputable def f96_r0 : List EOper := [⟨(some (K.ofNat 5)), none, .as (.c (.i .i64 (.ofNat 0)))⟩]
noncomputable def f96_r1 : List Stage := [⟨[⟨(some (K.ofNat 6)), none, .mv (.t (K.ofNat 0))⟩, ⟨(some (K.ofNat 7)), none, .ld (.t (K.ofNat 2))⟩, ⟨(some (K.ofNat 9)), none, .mv (.t (K.ofNat 1))⟩, ⟨(some (K.ofNat 10)), none, .ld (.t (K.ofNat 2))⟩], [], (some ⟨(some (K.ofNat 8)), none, .call (.c (.fn (K.ofNat 52) [])) [(.t (K.ofNat 6)), (.t (K.ofNat 7))]⟩), []⟩, ⟨[], [⟨(some (K.ofNat 9)), none, .mv (.t (K.ofNat 1))⟩, ⟨(some (K.ofNat 10)), none, .ld (.t (K.ofNat 2))⟩], (some ⟨(some (K.ofNat 11)), none, .call (.c (.fn (K.ofNat 52) [])) [(.t (K.ofNat 9)), (.t (K.ofNat 10))]⟩), []⟩, ⟨[], [], (some ⟨(some (K.ofNat 12)), none, .call (.c (.fn (K.ofNat 97) [])) [(.t (K.ofNat 8)), (.t (K.ofNat 11))]⟩), []⟩, ⟨[], [], (some ⟨(some (K.ofNat 5)), none, .as (.t (K.ofNat 12))⟩), []⟩, ⟨[], [], none, []⟩]
noncomputable def f96_c : EC := (.seq (.reg f96_r0) (.seq (.draw f96_r1) .ret))
noncomputable def f96 : EF := ⟨13, [.tmp (K.ofNat 5)], f96_c, none⟩
theorem f96_rs : f96.rs = [.tmp (K.ofNat 5)] := of_eq_true (eq_self _)
noncomputable def f95_r0 : List EOper := [⟨(some (K.ofNat 4)), none, .as (.c .sn)⟩]
noncomputable def f95_r1 : List EOper := [⟨(some (K.ofNat 7)), none, .mv (.t (K.ofNat 0))⟩, ⟨(some (K.ofNat 8)), none, .len (.t (K.ofNat 7))⟩, ⟨(some (K.ofNat 9)), none, .bin .lss (.t (K.ofNat 8)) (.c (.i .i64 (.ofNat 1)))⟩]
noncomputable def f95_r2 : List EOper := [⟨none, none, .no⟩, ⟨none, none, .no⟩]
noncomputable def f95_r3 : List EOper := [⟨(some (K.ofNat 11)), none, .mv (.t (K.ofNat 0))⟩, ⟨(some (K.ofNat 12)), none, .iads 1 (.t (K.ofNat 11)) (.c (.i .i64 (.ofNat 0)))⟩, ⟨(some (K.ofNat 13)), none, .ld (.t (K.ofNat 12))⟩, ⟨(some (K.ofNat 5)), none, .as (.t (K.ofNat 13))⟩]
noncomputable def f95_r4 : List EOper := [⟨(some (K.ofNat 6)), none, .as (.c (.i .i64 (.ofNat 1)))⟩]
noncomputable def f95_r5 : List EOper := [⟨(some (K.ofNat 14)), none, .mv (.t (K.ofNat 6))⟩, ⟨(some (K.ofNat 15)), none, .mv (.t (K.ofNat 0))⟩, ⟨(some (K.ofNat 16)), none, .len (.t (K.ofNat 15))⟩, ⟨(some (K.ofNat 17)), none, .bin .lss (.t (K.ofNat 14)) (.t (K.ofNat 16))⟩]
noncomputable def f95_r6 : List EOper := [⟨(some (K.ofNat 20)), none, .mv (.t (K.ofNat 1))⟩, ⟨(some (K.ofNat 21)), none, .mv (.t (K.ofNat 0))⟩, ⟨(some (K.ofNat 22)), none, .mv (.t (K.ofNat 6))⟩, ⟨(some (K.ofNat 23)), none, .iads 1 (.t (K.ofNat 21)) (.t (K.ofNat 22))⟩, ⟨(some (K.ofNat 24)), none, .ld (.t (K.ofNat 23))⟩, ⟨(some (K.ofNat 25)), none, .mv (.t (K.ofNat 5))⟩, ⟨(some (K.ofNat 26)), none, .call (.t (K.ofNat 20)) [(.t (K.ofNat 24)), (.t (K.ofNat 25))]⟩, ⟨(some (K.ofNat 27)), none, .bin .lss (.t (K.ofNat 26)) (.c (.i .i64 (.ofNat 0)))⟩]
noncomputable def f95_r7 : List EOper := [⟨(some (K.ofNat 28)), none, .mv (.t (K.ofNat 0))⟩, ⟨(some (K.ofNat 29)), none, .mv (.t (K.ofNat 6))⟩, ⟨(some (K.ofNat 30)), none, .iads 1 (.t (K.ofNat 28)) (.t (K.ofNat 29))⟩, ⟨(some (K.ofNat 31)), none, .ld (.t (K.ofNat 30))⟩, ⟨(some (K.ofNat 5)), none, .as (.t (K.ofNat 31))⟩]
noncomputable def f95_r8 : List EOper := [⟨(some (K.ofNat 18)), none, .mv (.t (K.ofNat 6))⟩, ⟨(some (K.ofNat 19)), none, .bin .add (.t (K.ofNat 18)) (.c (.i .i64 (.ofNat 1)))⟩, ⟨(some (K.ofNat 6)), none, .as (.t (K.ofNat 19))⟩]
noncomputable def f95_l0 : EC := (.seq (.seq (.reg f95_r5) (.cond (.t (K.ofNat 17)) .skip (.exit 0))) (.seq (.block 1 (.seq (.reg f95_r6) (.cond (.t (K.ofNat 27)) (.reg f95_r7) .skip))) (.reg f95_r8)))
noncomputable def f95_r9 : List EOper := [⟨(some (K.ofNat 32)), none, .mv (.t (K.ofNat 5))⟩, ⟨(some (K.ofNat 4)), none, .as (.t (K.ofNat 32))⟩]
noncomputable def f95_c : EC := (.seq (.reg f95_r0) (.seq (.seq (.reg f95_r1) (.cond (.t (K.ofNat 9)) (.reg f95_r2) .skip)) (.seq (.reg f95_r3) (.seq (.seq (.reg f95_r4) (.block 0 (.loop f95_l0))) (.seq (.reg f95_r9) .ret)))))
noncomputable def f95 : EF := ⟨33, [.tmp (K.ofNat 4)], f95_c, none⟩
theorem f95_rs : f95.rs = [.tmp (K.ofNat 4)] := of_eq_true (eq_self _)
noncomputable def f82_r0 : List EOper := [⟨(some (K.ofNat 2)), none, .box 1 (.t (K.ofNat 0))⟩, ⟨(some (K.ofNat 4)), none, .as (.c .sn)⟩]
noncomputable def f82_r1 : List EOper := [⟨(some (K.ofNat 5)), none, .mv (.t (K.ofNat 1))⟩, ⟨(some (K.ofNat 6)), none, .mkfn (K.ofNat 96) [(.t (K.ofNat 2))]⟩, ⟨(some (K.ofNat 7)), none, .call (.c (.fn (K.ofNat 95) [])) [(.t (K.ofNat 5)), (.t (K.ofNat 6))]⟩, ⟨(some (K.ofNat 4)), none, .as (.t (K.ofNat 7))⟩]
noncomputable def f82_c : EC := (.seq (.reg f82_r0) (.seq (.reg f82_r1) .ret))
noncomputable def f82 : EF := ⟨8, [.tmp (K.ofNat 4)], f82_c, none⟩
theorem f82_rs : f82.rs = [.tmp (K.ofNat 4)] := of_eq_true (eq_self _)
noncomputable def f81_r0 : List EOper := [⟨(some (K.ofNat 2)), none, .as (.c .sn)⟩]
noncomputable def f81_r1 : List EOper := [⟨(some (K.ofNat 3)), none, .mv (.t (K.ofNat 0))⟩, ⟨(some (K.ofNat 4)), none, .isnil false (.t (K.ofNat 3))⟩]
noncomputable def f81_r2 : List EOper := [⟨(some (K.ofNat 2)), none, .as (.c .sn)⟩]
noncomputable def f81_r3 : List EOper := [⟨(some (K.ofNat 5)), none, .bslice 0 1 [] []⟩, ⟨(some (K.ofNat 6)), none, .mv (.t (K.ofNat 0))⟩, ⟨(some (K.ofNat 7)), none, .app 1 (.t (K.ofNat 5)) (.t (K.ofNat 6))⟩, ⟨(some (K.ofNat 2)), none, .as (.t (K.ofNat 7))⟩]
noncomputable def f81_c : EC := (.seq (.reg f81_r0) (.seq (.seq (.reg f81_r1) (.cond (.t (K.ofNat 4)) (.seq (.reg f81_r2) .ret) .skip)) (.seq (.reg f81_r3) .ret)))
noncomputable def f81 : EF := ⟨8, [.tmp (K.ofNat 2)], f81_c, none⟩
theorem f81_rs : f81.rs = [.tmp (K.ofNat 2)] := of_eq_true (eq_self _)
section
variable {fs : T EF} {h h' : H} {v u : V} {us : List V} {B : List (List (Int × Int))} {Bs : List (List (List (Int × Int)))} {S S' : K → Prop} {bad : List K} {b : Nat}
/-- A schedule, in these blocks. -/
def Sch (S : K → Prop) (h : H) (u : V) (B : List (List (Int × Int))) : Prop := ∃ ws, Nrp h u ws B ∧ In S u ∧ ∀ x ∈ ws, In S x
theorem Sch.move (s : Sch S h u B) (hk : Keep S h h') (hs : ∀ id, S id → S' id) : Sch S' h' u B := by
  obtain ⟨ws, hN, h1, h2⟩ := s
  exact ⟨ws, ⟨hN.len, hN.out.in' h1 hk, fun i hi hj => (hN.inn i hi hj).in' (h2 _ (List.getElem_mem hi)) hk⟩, h1.mono hs, fun x hx => (h2 x hx).mono hs⟩
structure Lst (S : K → Prop) (h : H) (v : V) (us : List V) (Bs : List (List (List (Int × Int)))) : Prop where
  len : us.length = Bs.length
  out : Sl vE h v us
  inn : ∀ i (h1 : i < us.length) (h2 : i < Bs.length), Sch S h us[i] Bs[i]
theorem Lst.move (s : Lst S h v us Bs) (ho : Sl vE h' v us) (hk : Keep S h h') (hs : ∀ id, S id → S' id) : Lst S' h' v us Bs := ⟨s.len, ho, fun i h1 h2 => (s.inn i h1 h2).move hk hs⟩
/-- What is there, is no part of v, and none of these. -/
def Fr' (bad : List K) (v : V) (h : H) : K → Prop := fun id => id.nat < h.nx.nat ∧ NotIn id v ∧ id ∉ bad
theorem Lst.grow (s : Lst (Fr' bad v h) h v us Bs) (hc : HC h) (hg : Grow h.nx.nat h h') : Lst (Fr' bad v h') h' v us Bs :=
  s.move (s.out.grow hc hg) (fun id hi => hg.old id hi.1) fun id hi => ⟨Nat.lt_of_lt_of_le hi.1 hg.nx, hi.2.1, hi.2.2⟩
theorem Lst.push (s : Lst (Fr' bad v h) h v us Bs) (ho : Own b v) (hb : b ≤ h.nx.nat) (hc : HC h) (hn : Bs.length < 16777216) (hu : Sch (Fr' bad v h) h u B) :
    ∃ v' h', appV 1 (h.new (.cells (1 * 1) [u])) v (.sl h.nx 0 1 1) = .ok v' h' ∧ Lst (Fr' bad v' h') h' v' (us ++ [u]) (Bs ++ [B]) ∧ Own b v' ∧ Grow b h h' ∧ ∀ id : K, id.nat < h.nx.nat → NotIn id v → h'.get id = h.get id ∧ NotIn id v' := by
  obtain ⟨v', h', e1, e2, e3, e4, e5⟩ := Sl.push (e := vE) (x := u) (c := u) rfl s.out ho hb hc (by rw [s.len]; exact hn)
  have hk : Keep (Fr' bad v h) h h' := fun id hi => (e5 id hi.1 hi.2.1).1
  have hs : ∀ id, Fr' bad v h id → Fr' bad v' h' id := fun id hi => ⟨Nat.lt_of_lt_of_le hi.1 e4.nx, (e5 id hi.1 hi.2.1).2, hi.2.2⟩
  refine ⟨v', h', e1, ⟨by rw [List.length_append, List.length_append, s.len]; rfl, e2, fun i h1 h2 => ?_⟩, e3, e4, e5⟩
  by_cases hi : i < us.length
  · have hi2 : i < Bs.length := by rw [← s.len]; exact hi
    rw [List.getElem_append_left hi, List.getElem_append_left hi2]
    exact (s.inn i hi hi2).move hk hs
  · have hl : i = us.length := by rw [List.length_append] at h1; simp at h1; omega
    subst hl
    rw [List.getElem_append_right (Nat.le_refl _), List.getElem_append_right (by rw [s.len]; exact Nat.le_refl _)]
    simp only [Nat.sub_self, List.getElem_cons_zero, s.len]
    exact hu.move hk hs
/-! ### The fewest breaks -/
def cmpI (a b : Int) : Int := if a < b then -1 else if a > b then 1 else 0
theorem f97_ret {x y : Int} (hn : fs.get (K.ofNat 103) = some f103) : Ret fs f97 [.i .i64 x, .i .i64 y] h fun r h' => r = .i .i64 (cmpI x y) ∧ h' = h := by
  apply ret_of rfl
  show W fs none f97_c _ _ _
  unfold f97_c
  simp (disch := omega) only [f97_r0, f97_r1, w_reg, w_seq, seqK_n, x_nil, x_mv, x_as, x_call, ev_t, ev_c, evs_nil, evs_cons, getV_some, putD_some, frame_2, of0, getK_set, Nat.reduceEqDiff, ↓reduceIte]
  refine (callP_0 (ef := f103) hn rfl nan_ret).mono ?_
  rintro r h1 ⟨rfl, rfl⟩
  simp (disch := omega) only [f97_r2, w_reg, w_seq, seqK_n, x_nil, x_mv, x_as, x_call, kx, ev_t, ev_c, evs_nil, evs_cons, getV_some, putD_some, getK_set, Nat.reduceEqDiff, ↓reduceIte]
  refine (callP_0 (ef := f103) hn rfl nan_ret).mono ?_
  rintro r h2 ⟨rfl, rfl⟩
  unfold cmpI
  by_cases h1 : x < y
  · have d1 : decide (x < y) = true := decide_eq_true h1
    have neg1 : Int.negSucc 0 = -1 := rfl
    simp (disch := omega) only [f97_r3, f97_r7, f97_r9, f97_r10, f97_rs, w_skip, w_reg, w_seq, w_cond, w_ret, seqK_n, seqK_r, ckB_b, cbB_b, retK_r, x_nil, x_mv, x_as, x_bin, kx, rvP_ok, okv_some, ev_t, ev_c, getV_some, putD_some, bin_lss, oGet_s, readRs_nil, readRs_t, retV_1, Option.some.injEq, exists_eq_left', getK_set, Nat.reduceEqDiff, ↓reduceIte, Bool.false_eq_true, decide_eq_true_eq, h1, neg1, and_self]
  · have d1 : decide (x < y) = false := decide_eq_false h1
    by_cases h2 : x > y
    · have d2 : decide (x > y) = true := decide_eq_true h2
      simp (disch := omega) only [f97_r3, f97_r7, f97_r9, f97_r11, f97_r12, f97_rs, w_skip, w_reg, w_seq, w_cond, w_ret, seqK_n, seqK_r, ckB_b, cbB_b, retK_r, x_nil, x_mv, x_as, x_bin, kx, rvP_ok, okv_some, ev_t, ev_c, getV_some, putD_some, bin_lss, bin_gtr, oGet_s, readRs_nil, readRs_t, retV_1, of1, Option.some.injEq, exists_eq_left', getK_set, Nat.reduceEqDiff, ↓reduceIte, Bool.false_eq_true, decide_eq_true_eq, h1, h2, and_self]
    · have d2 : decide (x > y) = false := decide_eq_false h2
      simp (disch := omega) only [f97_r3, f97_r7, f97_r9, f97_r11, f97_r13, f97_rs, w_skip, w_reg, w_seq, w_cond, w_ret, seqK_n, ckB_b, cbB_b, retK_r, x_nil, x_mv, x_as, x_bin, kx, rvP_ok, okv_some, ev_t, ev_c, getV_some, putD_some, bin_lss, bin_gtr, oGet_s, readRs_nil, readRs_t, retV_1, of0, Option.some.injEq, exists_eq_left', getK_set, Nat.reduceEqDiff, ↓reduceIte, Bool.false_eq_true, decide_eq_true_eq, h1, h2, and_self]
/-- Its breaks. -/
def brk (n : Nat) (B : List (List (Int × Int))) : Int := smI (bkL n B (B.length - 1))
structure CallsFe (fs : T EF) : Prop extends CallsBk fs where
  c81 : fs.get (K.ofNat 81) = some f81
  c82 : fs.get (K.ofNat 82) = some f82
  c95 : fs.get (K.ofNat 95) = some f95
  c96 : fs.get (K.ofNat 96) = some f96
  c97 : fs.get (K.ofNat 97) = some f97
  c103 : fs.get (K.ofNat 103) = some f103
structure Good (B : List (List (Int × Int))) : Prop where
  few : Few B
  ne : 1 ≤ B.length
theorem f96_ret {n : Nat} {idn : K} {u1 u2 : V} {B1 B2 : List (List (Int × Int))} (k : CallsFe fs) (hn : n ≤ 16) (hb : h.get idn = .cells 1 [.i .i64 (n : Int)]) (h1 : Sch S h u1 B1) (h2 : Sch S h u2 B2) (g1 : Good B1) (g2 : Good B2) (hc : HC h) : Ret fs f96 [u1, u2, .p idn 0] h fun r h' => r = .i .i64 (cmpI (brk n B1) (brk n B2)) ∧ Grow h.nx.nat h h' := by
  obtain ⟨ws1, n1, _⟩ := h1
  obtain ⟨ws2, n2, _⟩ := h2
  have l0 : loadV h (.p idn 0) one? = .ok (.i .i64 (n : Int)) h := load_p hb rfl
  have b2 := n2.out.beq
  apply ret_of rfl
  show W fs none f96_c _ _ _
  unfold f96_c
  simp (disch := omega) only [f96_r0, f96_r1, w_reg, w_draw, w_seq, seqK_n, true_and, x_nil, x_as, x_call, kg, xg_nil, xg_mv, xg_ld, xd_cons, fresh_nil, stK_s, stay_nil, rvP_ok, ev_t, ev_c, evs_nil, evs_cons, getV_some, putD_some, frame_3, of0, getK_set, Nat.reduceEqDiff, ↓reduceIte, l0]
  refine (callP_0 (ef := f52) k.c52 rfl (f52_ret k.toCallsBk hn n1 g1.few g1.ne hc)).mono ?_
  rintro r h1 ⟨rfl, hG1⟩
  have hc1 := hG1.hc hc
  have l1 : loadV h1 (.p idn 0) one? = .ok (.i .i64 (n : Int)) h1 := load_p ((hG1.old _ (hc.cells hb)).trans hb) rfl
  simp (disch := omega) only [true_and, x_nil, x_call, kx, xg_nil, xd_cons, fresh_nil, stK_s, stay_nil, stay_cons, again_ok, stay_mv, beq_i, stay_ld, ev_t, ev_c, evs_nil, evs_cons, getV_some, putD_some, getK_set, Nat.reduceEqDiff, ↓reduceIte, l1, b2]
  refine (callP_0 (ef := f52) k.c52 rfl (f52_ret k.toCallsBk hn (n2.grow hc hG1) g2.few g2.ne hc1)).mono ?_
  rintro r h2 ⟨rfl, hG2⟩
  simp (disch := omega) only [true_and, x_nil, x_call, kx, xg_nil, xd_cons, fresh_nil, stK_s, stay_nil, ev_t, ev_c, evs_nil, evs_cons, getV_some, putD_some, getK_set, Nat.reduceEqDiff, ↓reduceIte]
  refine (callP_0 (ef := f97) k.c97 rfl (f97_ret k.c103)).mono ?_
  rintro r h3 ⟨rfl, rfl⟩
  simp (disch := omega) only [f96_rs, w_ret, seqK_n, true_and, retK_r, x_nil, x_as, kx, xg_nil, xd_cons, fresh_nil, stK_n, stK_s, stay_nil, ev_t, getV_some, putD_some, oGet_s, readRs_nil, readRs_t, retV_1, Option.some.injEq, exists_eq_left', getK_set, ↓reduceIte]
  exact ⟨by rfl, hG1.trans (hG2.low hG1.nx)⟩
def f95_I (h : H) (v : V) (idn : K) (us : List V) (Bs : List (List (List (Int × Int)))) (n : Nat) (i : Nat) (fr : Fr) (h1 : H) : Prop := 1 ≤ i ∧ i ≤ Bs.length ∧ Grow h.nx.nat h h1 ∧ ∃ j u, ∃ hj : j < Bs.length, us[j]? = some u ∧ (∀ k (hk : k < Bs.length), k < i → brk n Bs[j] ≤ brk n Bs[k]) ∧ fr.get (K.ofNat 0) = some (v) ∧ fr.get (K.ofNat 1) = some (.fn (K.ofNat 96) [.p idn 0]) ∧ fr.get (K.ofNat 5) = some (u) ∧ fr.get (K.ofNat 6) = some (.i .i64 (i : Int))
theorem f95_ret {n : Nat} {idn : K} (k : CallsFe fs) (hn : n ≤ 16) (hb : h.get idn = .cells 1 [.i .i64 (n : Int)]) (hv : Lst (Fr' bad v h) h v us Bs) (hne : 1 ≤ Bs.length) (hL : Bs.length ≤ 100000) (hg : ∀ B ∈ Bs, Good B) (hc : HC h) : Ret fs f95 [v, .fn (K.ofNat 96) [.p idn 0]] h fun r h' => (∃ j, ∃ hj : j < Bs.length, us[j]? = some r ∧ ∀ k (hk : k < Bs.length), brk n Bs[j] ≤ brk n Bs[k]) ∧ Grow h.nx.nat h h' := by
  have hlen : ∀ h1, lenV v h1 = .ok (.i .i64 (Bs.length : Int)) h1 := fun h1 => by rw [hv.out.len, hv.len]
  have d0 : decide ((Bs.length : Int) < 1) = false := decide_eq_false (by omega)
  have hul := hv.len
  apply ret_of rfl
  show W fs none f95_c _ _ _
  unfold f95_c
  obtain ⟨p, p1, p2⟩ := hv.out.at 0 (by omega)
  have p1 : ∀ (k : IntKind) (h1 : H), iadsV 1 v (.i k 0) h1 = .ok p h1 := p1
  have p2 : loadV h p one? = .ok (us[0]'(by omega)) h := p2
  simp (disch := omega) only [f95_r0, f95_r1, f95_r3, f95_r4, w_skip, w_reg, w_seq, w_cond, w_block, seqK_n, ckB_b, cbB_b, true_and, x_nil, x_mv, x_as, x_ld, x_bin, x_iads, x_len, kx, rvP_ok, okv_some, ev_t, ev_c, getV_some, putD_some, bin_lss, frame_2, of0, of1, getK_set, Nat.reduceEqDiff, ↓reduceIte, Bool.false_eq_true, hlen, d0, p1, p2]
  refine W_loop (f95_I h v idn us Bs n) (fun i => Bs.length - i) ?_ 1 ⟨by omega, hne, Grow.refl _ _, 0, us[0]'(by omega), by omega, by rw [List.getElem?_eq_getElem (by omega)], fun k hk hk1 => by
    obtain rfl : k = 0 := by omega
    exact Int.le_refl _, by simp (disch := omega) only [getK_set, Nat.reduceEqDiff, ↓reduceIte, and_self, Int.natCast_one]⟩
  rintro i fr h1 ⟨hi0, hi, hG, j, u, hj, hju, hmin, g0, g1, g5, g6⟩
  have hc1 := hG.hc hc
  have hv1 := hv.grow hc hG
  unfold f95_l0
  by_cases hlt : i < Bs.length
  · have d1 : decide ((i : Int) < (Bs.length : Int)) = true := decide_eq_true (by omega)
    obtain ⟨p, p1, p2⟩ := hv1.out.at i (by omega)
    have p2 : loadV h1 p one? = .ok (us[i]'(by omega)) h1 := p2
    have hjl : j < us.length := by omega
    have hu : us[j]'hjl = u := by rw [List.getElem?_eq_getElem hjl] at hju; injection hju
    have s1 := hv1.inn i (by omega) hlt
    have s2 := hv1.inn j hjl hj
    rw [hu] at s2
    have hb1 : h1.get idn = .cells 1 [.i .i64 (n : Int)] := (hG.old _ (hc.cells hb)).trans hb
    simp (disch := omega) only [f95_r5, f95_r6, w_skip, w_reg, w_seq, w_cond, w_block, seqK_n, ckB_b, cbB_b, true_and, x_nil, x_mv, x_ld, x_bin, x_iads, x_call, x_len, kx, rvP_ok, okv_some, ev_t, evs_nil, evs_cons, getV_some, putD_some, bin_lss, of0, getK_set, Nat.reduceEqDiff, ↓reduceIte, g0, g1, g5, g6, hlen, d1, p1, p2]
    refine (callP_of (ef := f96) (args := [us[i]'(by omega), u]) (caps := [.p idn 0]) k.c96 rfl (f96_ret k hn hb1 s1 s2 (hg _ (List.getElem_mem hlt)) (hg _ (List.getElem_mem hj)) hc1)).mono ?_
    rintro r h2 ⟨rfl, hG2⟩
    have hG12 := hG.trans (hG2.low hG.nx)
    have hv2 := hv1.grow hc1 hG2
    obtain ⟨p', p1', p2'⟩ := hv2.out.at i (by omega)
    have p2' : loadV h2 p' one? = .ok (us[i]'(by omega)) h2 := p2'
    by_cases hlt2 : brk n Bs[i] < brk n Bs[j]
    · have d2 : decide (cmpI (brk n Bs[i]) (brk n Bs[j]) < 0) = true := decide_eq_true (by unfold cmpI; rw [if_pos hlt2]; omega)
      simp (disch := omega) only [f95_r7, f95_r8, w_reg, w_cond, seqK_n, atK_n, loopK_n, ckB_b, cbB_b, true_and, x_nil, x_mv, x_as, x_ld, x_bin, x_iads, kx, rvP_ok, okv_some, ev_t, ev_c, getV_some, putD_some, bin_add, bin_lss, of1, getK_set, Nat.reduceEqDiff, ↓reduceIte, g0, g6, d2, p1', p2', fw64]
      refine ⟨i + 1, by omega, by omega, by omega, hG12, i, us[i]'(by omega), hlt, by rw [List.getElem?_eq_getElem (by omega)], fun k hk hki => ?_, by simp (disch := omega) only [getK_set, Nat.reduceEqDiff, ↓reduceIte, g0, g1, and_self, Int.natCast_add, Int.natCast_one]⟩
      by_cases e : k = i
      · subst e; exact Int.le_refl _
      · have := hmin k hk (by omega); omega
    · have d2 : decide (cmpI (brk n Bs[i]) (brk n Bs[j]) < 0) = false := decide_eq_false (by unfold cmpI; rw [if_neg hlt2]; split <;> omega)
      simp (disch := omega) only [f95_r8, w_skip, w_reg, w_cond, seqK_n, atK_n, loopK_n, ckB_b, cbB_b, true_and, x_nil, x_mv, x_as, x_bin, kx, rvP_ok, okv_some, ev_t, ev_c, getV_some, putD_some, bin_add, bin_lss, of1, getK_set, Nat.reduceEqDiff, ↓reduceIte, Bool.false_eq_true, g6, d2, fw64]
      refine ⟨i + 1, by omega, by omega, by omega, hG12, j, u, hj, hju, fun k hk hki => ?_, by simp (disch := omega) only [getK_set, Nat.reduceEqDiff, ↓reduceIte, g0, g1, g5, and_self, Int.natCast_add, Int.natCast_one]⟩
      by_cases e : k = i
      · subst e; omega
      · exact hmin k hk (by omega)
  · have d1 : decide ((i : Int) < (Bs.length : Int)) = false := decide_eq_false (by omega)
    simp (disch := omega) only [f95_r5, f95_r9, f95_rs, w_reg, w_seq, w_cond, w_exit, w_ret, seqK_n, seqK_e, atK_e, loopK_e, ckB_b, cbB_b, true_and, retK_r, x_nil, x_mv, x_as, x_bin, x_len, kx, rvP_ok, okv_some, ev_t, getV_some, putD_some, bin_lss, oGet_s, readRs_nil, readRs_t, retV_1, Option.some.injEq, exists_eq_left', getK_set, Nat.reduceEqDiff, ↓reduceIte, Bool.false_eq_true, g0, g5, g6, hlen, d1]
    exact ⟨⟨j, hj, hju, fun k hk => hmin k hk (by omega)⟩, hG⟩
theorem f82_ret {n : Nat} (k : CallsFe fs) (hn : n ≤ 16) (hv : Lst (Fr' bad v h) h v us Bs) (hne : 1 ≤ Bs.length) (hL : Bs.length ≤ 100000) (hg : ∀ B ∈ Bs, Good B) (hc : HC h) : Ret fs f82 [.i .i64 (n : Int), v] h fun r h' => (∃ j, ∃ hj : j < Bs.length, us[j]? = some r ∧ ∀ k (hk : k < Bs.length), brk n Bs[j] ≤ brk n Bs[k]) ∧ Grow h.nx.nat h h' := by
  apply ret_of rfl
  show W fs none f82_c _ _ _
  unfold f82_c
  have g1 := Grow.new (Nat.le_refl h.nx.nat) (.cells 1 [.i .i64 (n : Int)])
  simp (disch := omega) only [f82_r0, f82_r1, w_reg, w_seq, seqK_n, x_nil, x_mv, x_as, x_box, x_mkfn, x_call, kx, rvP_ok, ev_t, ev_c, evs_nil, evs_cons, getV_some, putD_some, oGet_s, frame_2, cells1_i, getK_set, Nat.reduceEqDiff, ↓reduceIte]
  refine (callP_0 (ef := f95) k.c95 rfl (f95_ret (idn := h.nx) k hn get_new_same (hv.grow hc g1) hne hL hg (g1.hc hc))).mono ?_
  rintro r h2 ⟨hr, hG⟩
  simp (disch := omega) only [f82_rs, w_ret, seqK_n, retK_r, x_nil, x_as, kx, ev_t, getV_some, putD_some, oGet_s, readRs_nil, readRs_t, retV_1, Option.some.injEq, exists_eq_left', getK_set, ↓reduceIte]
  exact ⟨hr, g1.trans (hG.low g1.nx)⟩
/-- slices.Clone of rounds. -/
theorem f81_ret {us : List V} (hv : Sr vE h v us) (hl : us.length ≤ 1000) (hc : HC h) : Ret fs f81 [v] h fun r h' => Sl vE h' r us ∧ Own h.nx.nat r ∧ Grow h.nx.nat h h' := by
  apply ret_of rfl
  show W fs none f81_c _ _ _
  unfold f81_c
  have g1 := Grow.new (Nat.le_refl h.nx.nat) (.cells (0 * 1) [])
  have nx1 := nx_new h (.cells (0 * 1) [])
  have hc1 := g1.hc hc
  have hlit : Sl vE (h.new (.cells (0 * 1) [])) (.sl h.nx 0 0 1) [] := .inr ⟨h.nx, 0, 0 * 1, [], rfl, get_new_same, rfl, by simp, fun i hi => absurd hi (by simp)⟩
  rcases hv with ⟨rfl, rfl⟩ | ⟨id, off, m, cs, rfl, hb, hll, hm, hx⟩
  · simp (disch := omega) only [f81_r0, f81_r1, f81_r2, f81_rs, w_reg, w_seq, w_cond, w_ret, seqK_n, seqK_r, ckB_b, cbB_b, true_and, retK_r, x_nil, x_mv, x_as, x_isnil, kx, rvP_ok, ev_t, ev_c, getV_some, putD_some, oGet_s, isnil_sn, readRs_nil, readRs_t, retV_1, frame_1, Option.some.injEq, exists_eq_left', getK_set, Nat.reduceEqDiff, ↓reduceIte, Bool.not_false]
    exact ⟨Sl.nil, Own.sn, Grow.refl _ _⟩
  · have hv : Sr vE h (.sl id off us.length 1) us := .inr ⟨id, off, m, cs, rfl, hb, hll, hm, hx⟩
    obtain ⟨r, h2, a1, a2, a3, a4, _⟩ := Sl.appR (b := h.nx.nat) hlit (fun _ _ _ _ e => by cases e; exact Nat.le_refl _) (by omega) (hv.grow hc g1) hc1 (by simp; omega)
    simp (disch := omega) only [f81_r0, f81_r1, f81_r3, f81_rs, w_skip, w_reg, w_seq, w_cond, w_ret, seqK_n, ckB_b, cbB_b, true_and, retK_r, x_nil, x_mv, x_as, x_bslice, x_app, x_isnil, kx, rvP_ok, ev_t, ev_c, getV_some, putD_some, oGet_s, isnil_sl, readRs_nil, readRs_t, retV_1, frame_1, Option.some.injEq, exists_eq_left', getK_set, Nat.reduceEqDiff, ↓reduceIte, Bool.false_eq_true, fill_0, fill_0, a1]
    exact ⟨a2, a3, g1.trans a4⟩
end
end Go.Ev
namespace Go.Ev
open Go Go.RowKit
/-- The first rounds, each in some version. -/
def AltP (Ls : List (List (Int × Int))) (i : Nat) (Q : List (List (Int × Int))) : Prop := Q.length = i ∧ ∀ j, j < i → ∃ s, s < 2 ^ (Ls.getD j []).length ∧ Q.getD j [] = verL (Ls.getD j []) s
/-- One of the fewest breaks, of those whose last round is this version. -/
def MinV (n : Nat) (Ls : List (List (Int × Int))) (i s : Nat) (B : List (List (Int × Int))) : Prop := AltP Ls (i + 1) B ∧ B.getD i [] = verL (Ls.getD i []) s ∧ ∀ Q, AltP Ls (i + 1) Q → Q.getD i [] = verL (Ls.getD i []) s → brk n B ≤ brk n Q
def BestP (n : Nat) (Ls : List (List (Int × Int))) : Nat → List (List (List (Int × Int))) → Prop
  | 0, Bs => Bs = [[]]
  | i + 1, Bs => Bs.length = 2 ^ (Ls.getD i []).length ∧ ∀ s (hs : s < Bs.length), MinV n Ls i s Bs[s]
def lonL (Bs : List (List (List (Int × Int)))) (r : List (Int × Int)) : List (List (List (Int × Int))) := Bs.map fun B => B ++ [r]
section
variable {n : Nat} {Ls Q : List (List (Int × Int))} {r : List (Int × Int)} {i s : Nat}
theorem getD_app {α : Type} {Q : List α} {r d : α} {j : Nat} (h : j < Q.length) : (Q ++ [r]).getD j d = Q.getD j d := by
  rw [getD_at h, getD_at (by simp; omega), List.getElem_append_left h]
theorem getD_last {α : Type} {Q : List α} {r d : α} {j : Nat} (h : j = Q.length) : (Q ++ [r]).getD j d = r := by
  subst h
  rw [getD_at (by simp)]; simp
theorem altP_app (h : AltP Ls i Q) (hs : s < 2 ^ (Ls.getD i []).length) : AltP Ls (i + 1) (Q ++ [verL (Ls.getD i []) s]) := by
  refine ⟨by simp [h.1], fun j hj => ?_⟩
  by_cases e : j = i
  · subst e; exact ⟨s, hs, getD_last h.1.symm⟩
  · obtain ⟨s', h1, h2⟩ := h.2 j (by omega)
    exact ⟨s', h1, by rw [getD_app (by have := h.1; omega)]; exact h2⟩
theorem altP_take (h : AltP Ls (i + 1) Q) : AltP Ls i (Q.take i) ∧ Q = Q.take i ++ [Q.getD i []] := by
  have hl := h.1
  refine ⟨⟨by simp; omega, fun j hj => ?_⟩, ?_⟩
  · obtain ⟨s', h1, h2⟩ := h.2 j (by omega)
    refine ⟨s', h1, ?_⟩
    rw [← h2, getD_at (by simp; omega), getD_at (by omega)]
    simp
  · rw [getD_at (by omega), ← List.take_succ_eq_append_getElem (by omega), List.take_of_length_le (by omega)]
theorem bkL_app : ∀ m, m + 1 ≤ Q.length → bkL n (Q ++ [r]) m = bkL n Q m := fun m hm => by
  unfold bkL
  refine List.map_congr_left fun j hj => ?_
  have hj : j < m := by simpa using hj
  rw [getD_app (by omega), getD_app (by omega)]
theorem brk_app (h : 1 ≤ Q.length) : brk n (Q ++ [r]) = brk n Q + ((n : Int) - (dfC (Q.getD (Q.length - 1) []) r : Int)) := by
  unfold brk
  have e : (Q ++ [r]).length - 1 = (Q.length - 1) + 1 := by simp; omega
  rw [e, bkL_succ, smI_snoc, bkL_app _ (by omega), getD_app (by omega), getD_last (by omega)]
theorem best_step {Bs : List (List (List (Int × Int)))} {B : List (List (Int × Int))} (hB : BestP n Ls i Bs) (hs : s < 2 ^ (Ls.getD i []).length) {j : Nat} (hj : j < Bs.length) (he : B = Bs[j] ++ [verL (Ls.getD i []) s]) (hmin : ∀ k (hk : k < Bs.length), brk n B ≤ brk n (Bs[k] ++ [verL (Ls.getD i []) s])) : MinV n Ls i s B := by
  cases i with
  | zero =>
    have hB : Bs = [[]] := hB
    subst hB
    obtain rfl : j = 0 := by simpa using hj
    subst he
    refine ⟨altP_app ⟨rfl, fun j hj => by omega⟩ hs, by simp, fun Q hQ hl => ?_⟩
    have h0 := hmin 0 (by simp)
    have h1 := (altP_take hQ).2
    rw [hl, List.take_zero] at h1
    rw [h1]; exact h0
  | succ m =>
    obtain ⟨hl, hB⟩ := hB
    obtain ⟨a1, a2, _⟩ := hB j hj
    subst he
    refine ⟨altP_app a1 hs, getD_last a1.1.symm, fun Q hQ hq => ?_⟩
    obtain ⟨t1, t2⟩ := altP_take hQ
    rw [hq] at t2
    obtain ⟨s', h1, h2⟩ := t1.2 m (by omega)
    have hk : s' < Bs.length := by rw [hl]; exact h1
    obtain ⟨b1, b2, b3⟩ := hB s' hk
    have c1 := hmin s' hk
    have c2 := b3 _ t1 h2
    have l1 : (Q.take (m + 1)).length = m + 1 := t1.1
    have e1 := brk_app (n := n) (Q := Q.take (m + 1)) (r := verL (Ls.getD (m + 1) []) s) (by omega)
    rw [l1, Nat.add_sub_cancel, h2, ← t2] at e1
    rw [brk_app (Q := Bs[s']) (by rw [b1.1]; omega), b1.1, Nat.add_sub_cancel, b2] at c1
    omega
/-- The fewest breaks of all. -/
theorem best_fin {Bs : List (List (List (Int × Int)))} (hB : BestP n Ls (i + 1) Bs) {j : Nat} (hj : j < Bs.length) (hmin : ∀ k (hk : k < Bs.length), brk n Bs[j] ≤ brk n Bs[k]) : AltP Ls (i + 1) Bs[j] ∧ ∀ Q, AltP Ls (i + 1) Q → brk n Bs[j] ≤ brk n Q := by
  obtain ⟨hl, hB⟩ := hB
  refine ⟨(hB j hj).1, fun Q hQ => ?_⟩
  obtain ⟨s', h1, h2⟩ := hQ.2 i (by omega)
  have hk : s' < Bs.length := by rw [hl]; exact h1
  have := (hB s' hk).2.2 Q hQ h2
  have := hmin s' hk
  omega
/-- Rounds that versions may be made of. -/
def Rok (Ls : List (List (Int × Int))) : Prop := Ls.length ≤ 100 ∧ ∀ l ∈ Ls, l.length ≤ 8 ∧ l ≠ [] ∧ ∀ e ∈ l, (0 ≤ e.1 ∧ e.1 ≤ 15) ∧ 0 ≤ e.2 ∧ e.2 ≤ 15
theorem ver_mem {l : List (Int × Int)} {s : Nat} {e : Int × Int} (h : e ∈ verL l s) : e ∈ l ∨ (e.2, e.1) ∈ l := by
  obtain ⟨i, hi, rfl⟩ := List.mem_map.1 h
  have hi : i < l.length := by simpa using hi
  unfold verE
  rw [getD_at hi]
  split
  · exact .inr (List.getElem_mem hi)
  · exact .inl (List.getElem_mem hi)
theorem alt_good (hR : Rok Ls) (hi : i ≤ Ls.length) (h : AltP Ls i Q) (h1 : 1 ≤ i) : Good Q := by
  have hl := hR.1
  refine ⟨⟨by rw [h.1]; omega, fun l hl => ?_⟩, by rw [h.1]; exact h1⟩
  obtain ⟨j, hj, rfl⟩ := List.getElem_of_mem hl
  obtain ⟨s, _, e⟩ := h.2 j (by have := h.1; omega)
  rw [getD_at hj, getD_at (show j < Ls.length by have := h.1; omega)] at e
  obtain ⟨r1, _, r3⟩ := hR.2 _ (List.getElem_mem (show j < Ls.length by have := h.1; omega))
  rw [e]
  refine ⟨by simp [verL]; omega, fun x hx => ?_⟩
  rcases ver_mem hx with hx | hx
  · exact (r3 _ hx).1
  · exact (r3 _ hx).2
end
end Go.Ev
namespace Go.Ev
open Go Go.RowKit
noncomputable def f59_r0 : List EOper := [⟨(some (K.ofNat 3)), none, .box 1 (.t (K.ofNat 1))⟩, ⟨(some (K.ofNat 4)), none, .as (.c .sn)⟩]
noncomputable def f59_r1 : List EOper := [⟨(some (K.ofNat 13)), none, .bslice 1 1 [.sn] [(0, 1, (.c .sn))]⟩, ⟨(some (K.ofNat 5)), none, .alloc 1 [.sn]⟩, ⟨none, none, .st 1 (.t (K.ofNat 5)) (.t (K.ofNat 13))⟩]
noncomputable def f59_r2 : List EOper := [⟨(some (K.ofNat 14)), none, .mv (.t (K.ofNat 0))⟩, ⟨(some (K.ofNat 15)), none, .len (.t (K.ofNat 14))⟩, ⟨(some (K.ofNat 16)), none, .mv (.c (.i .i64 (.ofNat 0)))⟩]
noncomputable def f59_r3 : List EOper := [⟨(some (K.ofNat 17)), none, .bin .lss (.t (K.ofNat 16)) (.t (K.ofNat 15))⟩]
noncomputable def f59_r4 : List EOper := [⟨(some (K.ofNat 18)), none, .iads 1 (.t (K.ofNat 14)) (.t (K.ofNat 16))⟩, ⟨(some (K.ofNat 19)), none, .ld (.t (K.ofNat 18))⟩, ⟨(some (K.ofNat 7)), none, .as (.t (K.ofNat 19))⟩]
noncomputable def f59_r5 : List EOper := [⟨(some (K.ofNat 8)), none, .alloc 1 [.sn]⟩]
noncomputable def f59_r6 : List EOper := [⟨(some (K.ofNat 20)), none, .mv (.t (K.ofNat 7))⟩, ⟨(some (K.ofNat 21)), none, .call (.c (.fn (K.ofNat 80) [])) [(.t (K.ofNat 20))]⟩]
noncomputable def f59_r7 : List EOper := [⟨(some (K.ofNat 9)), none, .as (.t (K.ofNat 22))⟩]
noncomputable def f59_a0 : EC := (.reg f59_r7)
noncomputable def f59_r8 : List EOper := [⟨(some (K.ofNat 10)), none, .as (.c .sn)⟩]
noncomputable def f59_r9 : List EOper := [⟨(some (K.ofNat 23)), none, .ld (.t (K.ofNat 5))⟩, ⟨(some (K.ofNat 24)), none, .len (.t (K.ofNat 23))⟩, ⟨(some (K.ofNat 25)), none, .mv (.c (.i .i64 (.ofNat 0)))⟩]
noncomputable def f59_r10 : List EOper := [⟨(some (K.ofNat 26)), none, .bin .lss (.t (K.ofNat 25)) (.t (K.ofNat 24))⟩]
noncomputable def f59_r11 : List EOper := [⟨(some (K.ofNat 27)), none, .iads 1 (.t (K.ofNat 23)) (.t (K.ofNat 25))⟩, ⟨(some (K.ofNat 28)), none, .ld (.t (K.ofNat 27))⟩, ⟨(some (K.ofNat 12)), none, .as (.t (K.ofNat 28))⟩]
noncomputable def f59_r12 : List EOper := [⟨(some (K.ofNat 29)), none, .mv (.t (K.ofNat 10))⟩, ⟨(some (K.ofNat 30)), none, .mv (.t (K.ofNat 12))⟩, ⟨(some (K.ofNat 31)), none, .call (.c (.fn (K.ofNat 81) [])) [(.t (K.ofNat 30))]⟩, ⟨(some (K.ofNat 32)), none, .mv (.t (K.ofNat 9))⟩, ⟨(some (K.ofNat 33)), none, .bslice 1 1 [.sn] [(0, 1, (.t (K.ofNat 32)))]⟩, ⟨(some (K.ofNat 34)), none, .app 1 (.t (K.ofNat 31)) (.t (K.ofNat 33))⟩, ⟨(some (K.ofNat 35)), none, .bslice 1 1 [.sn] [(0, 1, (.t (K.ofNat 34)))]⟩, ⟨(some (K.ofNat 36)), none, .app 1 (.t (K.ofNat 29)) (.t (K.ofNat 35))⟩, ⟨(some (K.ofNat 10)), none, .as (.t (K.ofNat 36))⟩]
noncomputable def f59_r13 : List EOper := [⟨(some (K.ofNat 37)), none, .bin .add (.t (K.ofNat 25)) (.c (.i .i64 (.ofNat 1)))⟩, ⟨(some (K.ofNat 25)), none, .mv (.t (K.ofNat 37))⟩]
noncomputable def f59_l0 : EC := (.seq (.reg f59_r10) (.seq (.cond (.t (K.ofNat 26)) .skip (.exit 4)) (.seq (.block 5 (.seq (.reg f59_r11) (.reg f59_r12))) (.reg f59_r13))))
noncomputable def f59_r14 : List Stage := [⟨[⟨(some (K.ofNat 38)), none, .ld (.t (K.ofNat 8))⟩, ⟨(some (K.ofNat 39)), none, .ld (.t (K.ofNat 3))⟩, ⟨(some (K.ofNat 40)), none, .mv (.t (K.ofNat 10))⟩], [], (some ⟨(some (K.ofNat 41)), none, .call (.c (.fn (K.ofNat 82) [])) [(.t (K.ofNat 39)), (.t (K.ofNat 40))]⟩), []⟩, ⟨[⟨(some (K.ofNat 42)), none, .bslice 1 1 [.sn] [(0, 1, (.t (K.ofNat 41)))]⟩], [⟨(some (K.ofNat 38)), none, .ld (.t (K.ofNat 8))⟩], (some ⟨(some (K.ofNat 43)), none, .app 1 (.t (K.ofNat 38)) (.t (K.ofNat 42))⟩), [(K.ofNat 42)]⟩, ⟨[], [], (some ⟨none, none, .st 1 (.t (K.ofNat 8)) (.t (K.ofNat 43))⟩), []⟩, ⟨[], [], none, []⟩]
noncomputable def f59_b0 : EC := (.block 3 (.seq (.reg f59_r8) (.seq (.seq (.reg f59_r9) (.block 4 (.loop f59_l0))) (.draw f59_r14))))
noncomputable def f59_r15 : List EOper := [⟨(some (K.ofNat 44)), none, .ld (.t (K.ofNat 8))⟩, ⟨none, none, .st 1 (.t (K.ofNat 5)) (.t (K.ofNat 44))⟩]
noncomputable def f59_r16 : List EOper := [⟨(some (K.ofNat 45)), none, .bin .add (.t (K.ofNat 16)) (.c (.i .i64 (.ofNat 1)))⟩, ⟨(some (K.ofNat 16)), none, .mv (.t (K.ofNat 45))⟩]
noncomputable def f59_l1 : EC := (.seq (.reg f59_r3) (.seq (.cond (.t (K.ofNat 17)) .skip (.exit 0)) (.seq (.block 1 (.seq (.reg f59_r4) (.seq (.reg f59_r5) (.seq (.seq (.reg f59_r6) (.block 2 (.rangeF (.t (K.ofNat 21)) [(K.ofNat 22)] f59_a0 f59_b0))) (.reg f59_r15))))) (.reg f59_r16))))
noncomputable def f59_r17 : List EOper := [⟨(some (K.ofNat 46)), none, .ld (.t (K.ofNat 3))⟩, ⟨(some (K.ofNat 47)), none, .ld (.t (K.ofNat 5))⟩, ⟨(some (K.ofNat 48)), none, .call (.c (.fn (K.ofNat 82) [])) [(.t (K.ofNat 46)), (.t (K.ofNat 47))]⟩, ⟨(some (K.ofNat 4)), none, .as (.t (K.ofNat 48))⟩]
noncomputable def f59_c : EC := (.seq (.reg f59_r0) (.seq (.reg f59_r1) (.seq (.seq (.reg f59_r2) (.block 0 (.loop f59_l1))) (.seq (.reg f59_r17) .ret))))
noncomputable def f59 : EF := ⟨49, [.tmp (K.ofNat 4)], f59_c, none⟩
theorem f59_rs : f59.rs = [.tmp (K.ofNat 4)] := of_eq_true (eq_self _)
def blkOf (v : V) : List K := match v with | .sl id _ _ _ => [id] | _ => []
theorem blk_not {v : V} {id : K} (h : id ∉ blkOf v) : NotIn id v := fun off n sz e => by
  subst e
  exact h (by simp [blkOf])
structure CallsTd (fs : T EF) : Prop extends CallsFe fs, CallsVe fs where
  c59 : fs.get (K.ofNat 59) = some f59
/-- At the head of the outer loop. -/
structure OI (h : H) (n : Nat) (idn id5 : K) (w : V) (us : List V) (Bs : List (List (List (Int × Int)))) (h1 : H) : Prop where
  gr : Grow h.nx.nat h h1
  bn : h1.get idn = .cells 1 [.i .i64 (n : Int)]
  b5 : h1.get id5 = .cells 1 [w]
  ls : Lst (Fr' [id5, idn] w h1) h1 w us Bs
  nw : NotIn id5 w ∧ NotIn idn w
/-- In the loop over the versions. -/
structure MI (hB : H) (id8 idl : K) (bad : List K) (nv : V) (ns : List V) (Ns : List (List (List (Int × Int)))) (h2 : H) : Prop where
  kp : ∀ id : K, id.nat < hB.nx.nat → id ≠ id8 → h2.get id = hB.get id
  nx : hB.nx.nat < h2.nx.nat
  hc : HC h2
  b8 : h2.get id8 = .cells 1 [nv]
  ls : Lst (Fr' bad nv h2) h2 nv ns Ns
  ow : Own (idl.nat + 1) nv
section
variable {fs : T EF} {h : H} {v : V} {vs : List V} {Ls : List (List (Int × Int))}
def f59_I (h : H) (n : Nat) (v : V) (Ls : List (List (Int × Int))) (idn id5 : K) (i : Nat) (fr : Fr) (h1 : H) : Prop := i ≤ Ls.length ∧ ∃ w us Bs, OI h n idn id5 w us Bs h1 ∧ BestP n Ls i Bs ∧ fr.get (K.ofNat 3) = some (.p idn 0) ∧ fr.get (K.ofNat 5) = some (.p id5 0) ∧ fr.get (K.ofNat 14) = some (v) ∧ fr.get (K.ofNat 15) = some (.i .i64 (Ls.length : Int)) ∧ fr.get (K.ofNat 16) = some (.i .i64 (i : Int))
def f59_K (h4 : H) (bl : List K) (Bs : List (List (List (Int × Int)))) (w vv : V) (ver : List (Int × Int)) (idn id5 id8 : K) (q : Nat) (fr : Fr) (hx : H) : Prop := q ≤ Bs.length ∧ Grow h4.nx.nat h4 hx ∧ ∃ lv ls, Lst (Fr' bl lv hx) hx lv ls (lonL (Bs.take q) ver) ∧ Own h4.nx.nat lv ∧ fr.get (K.ofNat 3) = some (.p idn 0) ∧ fr.get (K.ofNat 5) = some (.p id5 0) ∧ fr.get (K.ofNat 8) = some (.p id8 0) ∧ fr.get (K.ofNat 9) = some (vv) ∧ fr.get (K.ofNat 10) = some (lv) ∧ fr.get (K.ofNat 23) = some (w) ∧ fr.get (K.ofNat 24) = some (.i .i64 (Bs.length : Int)) ∧ fr.get (K.ofNat 25) = some (.i .i64 (q : Int))
theorem f59_ret {n : Nat} (k : CallsTd fs) (hn : n ≤ 16) (hv : Nrp h v vs Ls) (hR : Rok Ls) (hne : 1 ≤ Ls.length) (hc : HC h) : Ret fs f59 [v, .i .i64 (n : Int)] h fun r h' => ∃ ws Q, Nrp h' r ws Q ∧ AltP Ls Ls.length Q ∧ (∀ Q', AltP Ls Ls.length Q' → brk n Q ≤ brk n Q') ∧ Grow h.nx.nat h h' := by
  have hL := hR.1
  have hlen : ∀ h1, lenV v h1 = .ok (.i .i64 (Ls.length : Int)) h1 := fun h1 => by rw [hv.out.len, hv.len]
  apply ret_of rfl
  show W fs none f59_c _ _ _
  unfold f59_c
  have g1 := Grow.new (Nat.le_refl h.nx.nat) (.cells 1 [.i .i64 (n : Int)])
  have n1 := nx_new h (.cells 1 [.i .i64 (n : Int)])
  have e1 : (h.new (.cells 1 [.i .i64 (n : Int)])).get h.nx = .cells 1 [.i .i64 (n : Int)] := get_new_same
  simp (disch := omega) only [f59_r0, w_reg, w_seq, seqK_n, x_nil, x_as, x_box, kx, rvP_ok, ev_t, ev_c, getV_some, putD_some, oGet_s, frame_2, cells1_i, getK_set, ↓reduceIte]
  generalize hidn : h.nx = idn at *
  generalize h.new (.cells 1 [.i .i64 (n : Int)]) = ha at *
  have hca := g1.hc hc
  have g2 := Grow.new (Nat.le_refl ha.nx.nat) (.cells (1 * 1) [.sn])
  have n2 := nx_new ha (.cells (1 * 1) [.sn])
  have e2 : (ha.new (.cells (1 * 1) [.sn])).get ha.nx = .cells (1 * 1) [.sn] := get_new_same
  have hcb := g2.hc hca
  have g3 : Grow (ha.new (.cells (1 * 1) [.sn])).nx.nat (ha.new (.cells (1 * 1) [.sn])) (((ha.new (.cells (1 * 1) [.sn])).new (.cells 1 [.sn])).put (ha.new (.cells (1 * 1) [.sn])).nx (.cells 1 [.sl ha.nx 0 1 1])) := (Grow.new (Nat.le_refl _) _).trans (Grow.put (Nat.le_refl _) (by have := nx_new (ha.new (.cells (1 * 1) [.sn])) (.cells 1 [.sn]); omega) _)
  have hst : storeV ((ha.new (.cells (1 * 1) [.sn])).new (.cells 1 [.sn])) 1 (.p (ha.new (.cells (1 * 1) [.sn])).nx 0) (.sl ha.nx 0 1 1) = .ok undefV (((ha.new (.cells (1 * 1) [.sn])).new (.cells 1 [.sn])).put (ha.new (.cells (1 * 1) [.sn])).nx (.cells 1 [.sl ha.nx 0 1 1])) := by
    rw [store_p (cs := [.sn]) (xs := [.sl ha.nx 0 1 1]) get_new_same rfl (Nat.le_refl 1)]; rfl
  have e3 : (((ha.new (.cells (1 * 1) [.sn])).new (.cells 1 [.sn])).put (ha.new (.cells (1 * 1) [.sn])).nx (.cells 1 [.sl ha.nx 0 1 1])).get (ha.new (.cells (1 * 1) [.sn])).nx = .cells 1 [.sl ha.nx 0 1 1] := get_put_same
  have n3 : (((ha.new (.cells (1 * 1) [.sn])).new (.cells 1 [.sn])).put (ha.new (.cells (1 * 1) [.sn])).nx (.cells 1 [.sl ha.nx 0 1 1])).nx.nat = (ha.new (.cells (1 * 1) [.sn])).nx.nat + 1 := nx_new (ha.new (.cells (1 * 1) [.sn])) (.cells 1 [.sn])
  have hsl : cellsN 1 (.sl ha.nx 0 1 1) = some [.sl ha.nx 0 1 1] := rfl
  simp (disch := omega) only [f59_r1, f59_r2, w_reg, w_seq, w_block, seqK_n, x_nil, x_mv, x_alloc, x_bslice, x_st, x_len, kx, rvP_ok, ev_t, ev_c, getV_some, putD_some, putD_none, oGet_s, cells1_sn, fill_1, set_1, of0, getK_set, Nat.reduceEqDiff, ↓reduceIte, fill_1, set_1, hst, hlen]
  generalize hid5 : (ha.new (.cells (1 * 1) [.sn])).nx = id5 at *
  generalize ((ha.new (.cells (1 * 1) [.sn])).new (.cells 1 [.sn])).put id5 (.cells 1 [.sl ha.nx 0 1 1]) = hd at *
  have n3' : hd.nx.nat = id5.nat + 1 := n3
  have o1 : OI h n idn id5 (.sl ha.nx 0 1 1) [.sn] [[]] hd := by
    refine ⟨?_, ?_, e3, ⟨rfl, ?_, fun i h1 h2 => ?_⟩, fun _ _ _ e => ?_, fun _ _ _ e => ?_⟩
    · rw [hidn]
      exact g1.trans ((g2.low (by omega)).trans (g3.low (by omega)))
    · rw [g3.old _ (by omega), g2.old _ (by omega)]; exact e1
    · refine .inr ⟨ha.nx, 0, 1 * 1, [.sn], rfl, by rw [g3.old _ (by omega)]; exact e2, rfl, by simp, fun i hi => ?_⟩
      have : i = 0 := by simpa using hi
      subst this; rfl
    · have : i = 0 := by simpa using h1
      subst this
      exact ⟨[], ⟨rfl, Sr.nil, fun i h1 => absurd h1 (by simp)⟩, In.sn, fun x hx => absurd hx (by simp)⟩
    · cases e; have := n2; omega
    · cases e; have := n1; omega
  refine W_loop (f59_I h n v Ls idn id5) (fun i => Ls.length - i) ?_ 0 ⟨by omega, _, _, _, o1, rfl, by simp (disch := omega) only [getK_set, Nat.reduceEqDiff, ↓reduceIte, and_self, Int.natCast_zero]⟩
  have hi5 : idn.nat < id5.nat := by omega
  have hin : idn.nat = h.nx.nat := by rw [hidn]
  clear o1 n3' n3 e3 hsl hst g3 hcb e2 n2 g2 hca g1 e1 n1
  rintro i fr h1 ⟨hi, w, us, Bs, o, hB, g3, g5, g14, g15, g16⟩
  have hc1 := o.gr.hc hc
  have lt5 : id5.nat < h1.nx.nat := hc1.cells o.b5
  have ltn : idn.nat < h1.nx.nat := hc1.cells o.bn
  unfold f59_l1
  by_cases hlt : i < Ls.length
  · have d0 : decide ((i : Int) < (Ls.length : Int)) = true := decide_eq_true (by omega)
    have hiv : i < vs.length := by rw [hv.len]; exact hlt
    have hv1 : Nrp h1 v vs Ls := hv.grow hc o.gr
    obtain ⟨p, p1, p2⟩ := hv1.out.at i hiv
    have p2 : loadV h1 p one? = .ok vs[i] h1 := p2
    have hu0 := hv.inn i hiv hlt
    have hu1 := hv1.inn i hiv hlt
    have hgd : Ls.getD i [] = Ls[i] := getD_at hlt
    obtain ⟨rl, rne, rin⟩ := hR.2 _ (List.getElem_mem hlt)
    generalize vs[i] = u at *
    have nA := nx_new h1 (.cells 1 [.sn])
    have gA := Grow.new (Nat.le_refl h1.nx.nat) (.cells 1 [.sn])
    have hcA := gA.hc hc1
    have e8 : (h1.new (.cells 1 [.sn])).get h1.nx = .cells 1 [.sn] := get_new_same
    simp (disch := omega) only [f59_r3, f59_r4, f59_r5, f59_r6, w_skip, w_reg, w_seq, w_cond, w_block, seqK_n, ckB_b, cbB_b, true_and, x_nil, x_mv, x_as, x_alloc, x_ld, x_bin, x_iads, x_call, kx, rvP_ok, okv_some, ev_t, ev_c, evs_nil, evs_cons, getV_some, putD_some, bin_lss, getK_set, Nat.reduceEqDiff, ↓reduceIte, g14, g15, g16, d0, p1, p2]
    generalize hid8 : h1.nx = id8 at *
    generalize h1.new (.cells 1 [.sn]) = hA at *
    refine (callP_0 (ef := f80) k.c80 rfl (f80_ret (hu1.grow hc1 (by rw [hid8]; exact gA)) hcA)).mono ?_
    rintro r hB' ⟨rfl, hNV, nB, gB⟩
    have hcB := gB.hc hcA
    generalize hidr : hA.nx = idr at *
    simp (disch := omega) only [w_block, seqK_n, x_nil, kx, putD_some]
    generalize hfr : T.set (K.ofNat 21) _ _ = fr6
    have f21' : fr6.get (K.ofNat 21) = some (.fn (K.ofNat 93) [.p idr 0]) := by rw [← hfr]; simp (disch := omega) only [getK_set, ↓reduceIte]
    have q3 : fr6.get (K.ofNat 3) = some (.p idn 0) := by rw [← hfr]; simp (disch := omega) only [getK_set, Nat.reduceEqDiff, ↓reduceIte, g3]
    have q5 : fr6.get (K.ofNat 5) = some (.p id5 0) := by rw [← hfr]; simp (disch := omega) only [getK_set, Nat.reduceEqDiff, ↓reduceIte, g5]
    have q8 : fr6.get (K.ofNat 8) = some (.p id8 0) := by rw [← hfr]; simp (disch := omega) only [getK_set, Nat.reduceEqDiff, ↓reduceIte]
    have q14 : fr6.get (K.ofNat 14) = some v := by rw [← hfr]; simp (disch := omega) only [getK_set, Nat.reduceEqDiff, ↓reduceIte, g14]
    have q15 : fr6.get (K.ofNat 15) = some (.i .i64 (Ls.length : Int)) := by rw [← hfr]; simp (disch := omega) only [getK_set, Nat.reduceEqDiff, ↓reduceIte, g15]
    have q16 : fr6.get (K.ofNat 16) = some (.i .i64 (i : Int)) := by rw [← hfr]; simp (disch := omega) only [getK_set, Nat.reduceEqDiff, ↓reduceIte, g16]
    clear hfr g3 g5 g14 g15 g16 p1 p2
    -- what stays since the head of the loop
    have e8B : hB'.get id8 = .cells 1 [.sn] := (gB.old _ (by omega)).trans e8
    have kh : ∀ id : K, id.nat < id8.nat → hB'.get id = h1.get id := fun id hid => (gB.old id (by omega)).trans (gA.old id hid)
    have nL := nx_new hB' (rdyB fr6 [(K.ofNat 22)] f59_a0 f59_b0)
    have gL : Grow hB'.nx.nat hB' (hB'.new (rdyB fr6 [(K.ofNat 22)] f59_a0 f59_b0)) := Grow.new (Nat.le_refl _) _
    have hY : (verA Ls[i]).length = 2 ^ Ls[i].length := by simp [verA]
    have hpw : 2 ^ Ls[i].length ≤ 256 := by
      have := Nat.pow_le_pow_right (show 0 < 2 by omega) rl
      have e : 2 ^ 8 = 256 := by decide
      omega
    have hyl := ver_yield (fs := fs) (v := u) (l := Ls[i]) (idr := idr) k.toCallsVe rl rne
    have hBl : Bs.length ≤ 256 := by
      cases i with
      | zero => have hB : Bs = [[]] := hB; rw [hB]; simp
      | succ m =>
        have := hB.1
        have h8 := (hR.2 _ (List.getElem_mem (show m < Ls.length by omega))).1
        rw [getD_at (show m < Ls.length by omega)] at this
        have := Nat.pow_le_pow_right (show 0 < 2 by omega) h8
        have e : 2 ^ 8 = 256 := by decide
        omega
    have hBne : 1 ≤ Bs.length := by
      cases i with
      | zero => have hB : Bs = [[]] := hB; rw [hB]; simp
      | succ m => rw [hB.1]; exact Nat.one_le_two_pow
    have hGood : ∀ s, s < 2 ^ Ls[i].length → ∀ B ∈ lonL Bs (verL Ls[i] s), Good B := fun s hs B hBm => by
      obtain ⟨B', hB', rfl⟩ := List.mem_map.1 hBm
      obtain ⟨j, hj, rfl⟩ := List.getElem_of_mem hB'
      have ha : AltP Ls i Bs[j] := by
        cases i with
        | zero =>
          have hB : Bs = [[]] := hB
          subst hB
          obtain rfl : j = 0 := by simpa using hj
          exact ⟨rfl, fun j hj => by omega⟩
        | succ m => exact (hB.2 j hj).1
      have := altP_app ha (s := s) (by rw [hgd]; exact hs)
      rw [hgd] at this
      exact alt_good hR (by omega) this (by omega)
    refine W_rangeM (Y := verA Ls[i]) (N := NV idr u Ls[i]) (B := fun h v l => Srp h v l) rfl (by simp (disch := omega) only [ev_t, getV_some, f21']) hyl
      (fun t h2 => ∃ nv ns Ns, MI hB' id8 hB'.nx [hB'.nx, id8, id5, idn] nv ns Ns h2 ∧ Ns.length = t ∧ ∀ s (hs : s < Ns.length), MinV n Ls i s Ns[s]) (fun _ _ => False) ?_ ?_ ?_ ?_ (fun _ _ _ hf => hf.elim)
    · rintro t h2 ⟨nv, ns, Ns, m, _⟩
      refine ⟨⟨?_, ?_⟩, m.hc, m.nx⟩
      · rw [m.kp _ (by omega) (fun e => by rw [e] at nA; omega)]; exact hNV.e
      · refine hNV.s.old fun id off n sz e => m.kp _ ?_ (fun e' => ?_)
        · have := hu0.lt hc _ _ _ _ e; omega
        · have := hu0.lt hc _ _ _ _ e; rw [e'] at this; omega
    · refine ⟨.sn, [], [], ⟨fun id hid _ => gL.old id hid, by omega, gL.hc hcB, by rw [gL.old _ (by omega)]; exact e8B, ⟨rfl, Sl.nil, fun i h1 => absurd h1 (by simp)⟩, Own.sn⟩, rfl, fun s hs => absurd hs (by simp)⟩
    · rintro t h2 h3 vv ht ⟨nv, ns, Ns, m, hNl, hNs⟩ hG hb hs ho
      have hs : Srp h3 vv (verA Ls[i])[t] := hs
      rw [verA_at] at hs
      have ht' : t < 2 ^ Ls[i].length := by rw [← hY]; exact ht
      have hvl : (verL Ls[i] t).length ≤ 8 := by simp [verL]; exact rl
      have hGd := hGood t ht'
      rw [← hgd] at hs hGd ht' hvl
      rw [show ∀ Q fr h, W fs (some hB'.nx) f59_a0 Q fr h = X fs f59_r7 (Q .normal) fr h from fun _ _ _ => rfl]
      simp (disch := omega) only [f59_r7, rndA_n, x_nil, x_as, ev_t, getV_some, putD_some, getK_set, ↓reduceIte]
      refine ⟨hb, ?_⟩
      have hidl : hB'.nx.nat < h2.nx.nat := m.nx
      generalize hidl' : hB'.nx = idl at *
      have hc3 := hG.hc m.hc
      have hil3 : idl.nat < h3.nx.nat := Nat.lt_of_lt_of_le hidl hG.nx
      have g4 : Grow idl.nat h3 (h3.put idl (bsyB fr6 [(K.ofNat 22)] f59_a0 f59_b0)) := Grow.put (Nat.le_refl _) hil3 _
      have b4 : (h3.put idl (bsyB fr6 [(K.ofNat 22)] f59_a0 f59_b0)).get idl = bsyB fr6 [(K.ofNat 22)] f59_a0 f59_b0 := get_put_same
      have p4 : ∀ id : K, id ≠ idl → (h3.put idl (bsyB fr6 [(K.ofNat 22)] f59_a0 f59_b0)).get id = h3.get id := fun id e => get_put_other e
      have n4 : (h3.put idl (bsyB fr6 [(K.ofNat 22)] f59_a0 f59_b0)).nx = h3.nx := rfl
      have hc4 := g4.hc hc3
      generalize h3.put idl (bsyB fr6 [(K.ofNat 22)] f59_a0 f59_b0) = h4 at *
      have hn4 : h4.nx.nat = h3.nx.nat := by rw [n4]
      have hG3 := hG.nx
      have hlt8 : id8.nat < idl.nat := by omega
      have k4 : ∀ id : K, id.nat < idl.nat → id ≠ id8 → h4.get id = hB'.get id := fun id h1 h2 => ((g4.old id h1).trans (hG.old id (by omega))).trans (m.kp id (by rw [hidl']; exact h1) h2)
      have k48 : h4.get id8 = .cells 1 [nv] := ((g4.old _ hlt8).trans (hG.old _ (by omega))).trans m.b8
      have kh4 : ∀ id : K, id.nat < id8.nat → h4.get id = h1.get id := fun id hi => (k4 id (by omega) (fun e => by rw [e] at hi; omega)).trans (kh id hi)
      have lw : Lst (Fr' [id5, idn] w h1) h4 w us Bs := o.ls.move (o.ls.out.same fun id off n sz e => kh4 id (by have := o.ls.out.lt hc1 _ _ _ _ e; rw [hid8] at this; exact this)) (fun id hi => kh4 id (by have := hi.1; rw [hid8] at this; exact this)) (fun _ h => h)
      have l4 : Lst (Fr' [idl, id8, id5, idn] nv h4) h4 nv ns Ns := (m.ls.grow m.hc hG).move (((m.ls.grow m.hc hG).out).same fun id off n sz e => p4 id (fun e' => by have := m.ow _ _ _ _ e; rw [e'] at this; omega)) (fun id hi => p4 id (fun e' => hi.2.2 (by rw [e']; simp))) (fun id hi => ⟨by rw [n4]; exact hi.1, hi.2⟩)
      have vlt : ∀ id off n sz, vv = .sl id off n sz → id.nat < h4.nx.nat := fun id off n sz e => by rw [n4]; exact hs.lt hc3 _ _ _ _ e
      have hs4 : Srp h4 vv (verL (Ls.getD i []) t) := hs.old fun id off n sz e => p4 id (fun e' => by have := ho _ _ _ _ e; rw [e'] at this; omega)
      have ld8 : ∀ hx : H, hx.get id8 = .cells 1 [nv] → loadV hx (.p id8 0) one? = .ok nv hx := fun hx e => load_p e rfl
      have l5 : loadV h4 (.p id5 0) one? = .ok w h4 := load_p ((kh4 _ (by omega)).trans o.b5) rfl
      have wlen : ∀ h1, lenV w h1 = .ok (.i .i64 (Bs.length : Int)) h1 := fun h1 => by rw [lw.out.len, lw.len]
      have hBq : ∀ B ∈ Bs, B.length = i := fun B hB' => by
        cases i with
        | zero => have hB : Bs = [[]] := hB; rw [hB] at hB'; rw [List.mem_singleton.1 hB']; rfl
        | succ m' =>
          obtain ⟨j, hj, rfl⟩ := List.getElem_of_mem hB'
          exact (hB.2 j hj).1.1
      have nlb : ∀ id ∈ blkOf nv ++ [idl, id8, id5, idn], id.nat < h2.nx.nat := fun id hi => by
        rcases List.mem_append.1 hi with hi | hi
        · cases nv <;> simp [blkOf] at hi
          subst hi
          exact m.ls.out.lt m.hc _ _ _ _ rfl
        · simp at hi
          rcases hi with rfl | rfl | rfl | rfl <;> omega
      have hsS : ∀ id, Fr' [id5, idn] w h1 id → id ∉ blkOf nv ++ [idl, id8, id5, idn] := fun id hi hm => by
        have hlt := hi.1
        rw [hid8] at hlt
        rcases List.mem_append.1 hm with hm | hm
        · cases nv <;> simp [blkOf] at hm
          subst hm
          have := m.ow _ _ _ _ rfl
          omega
        · simp at hm
          rcases hm with rfl | rfl | rfl | rfl
          · omega
          · omega
          · exact hi.2.2 (by simp)
          · exact hi.2.2 (by simp)
      rw [show ∀ Q fr h, W fs (some idl) f59_b0 Q fr h = W fs (some idl) (.block 3 (.seq (.reg f59_r8) (.seq (.seq (.reg f59_r9) (.block 4 (.loop f59_l0))) (.draw f59_r14)))) Q fr h from fun _ _ _ => rfl]
      simp (disch := omega) only [f59_r8, f59_r9, w_reg, w_seq, w_block, seqK_n, x_nil, x_mv, x_as, x_ld, x_len, kx, rvP_ok, ev_t, ev_c, getV_some, putD_some, of0, getK_set, Nat.reduceEqDiff, ↓reduceIte, q5, l5, wlen]
      refine W_loop (f59_K h4 (blkOf nv ++ [idl, id8, id5, idn]) Bs w vv (verL (Ls.getD i []) t) idn id5 id8) (fun q => Bs.length - q) ?_ 0 ⟨by omega, Grow.refl _ _, .sn, [], ⟨rfl, Sl.nil, fun i h1 => absurd h1 (by simp)⟩, Own.sn, by simp (disch := omega) only [getK_set, Nat.reduceEqDiff, ↓reduceIte, q3, q5, q8, and_self, Int.natCast_zero]⟩
      rintro q fr hx ⟨hq, hGx, lv, ls, hl, hown, p3, p5, p8, p9, p10, p23, p24, p25⟩
      have hcx := hGx.hc hc4
      unfold f59_l0
      by_cases hlt2 : q < Bs.length
      · have d1 : decide ((q : Int) < (Bs.length : Int)) = true := decide_eq_true (by omega)
        have hqu : q < us.length := by rw [lw.len]; exact hlt2
        have lwx : Lst (Fr' [id5, idn] w h1) hx w us Bs := lw.move (lw.out.same fun id off n sz e => hGx.old id (by have := o.ls.out.lt hc1 _ _ _ _ e; rw [hid8] at this; omega)) (fun id hi => hGx.old id (by have := hi.1; rw [hid8] at this; omega)) (fun _ h => h)
        obtain ⟨p, p1, p2⟩ := lwx.out.at q hqu
        have p2 : loadV hx p one? = .ok us[q] hx := p2
        obtain ⟨wsq, hNq, hIq, hIqs⟩ := lwx.inn q hqu hlt2
        have hBl1 := hBq _ (List.getElem_mem hlt2)
        have hwl := hNq.len
        simp (disch := omega) only [f59_r10, f59_r11, f59_r12, w_skip, w_reg, w_seq, w_cond, w_block, seqK_n, ckB_b, cbB_b, true_and, x_nil, x_mv, x_as, x_ld, x_bin, x_iads, x_call, kx, rvP_ok, okv_some, ev_t, ev_c, evs_nil, evs_cons, getV_some, putD_some, bin_lss, getK_set, Nat.reduceEqDiff, ↓reduceIte, p10, p23, p24, p25, d1, p1, p2]
        refine (callP_0 (ef := f81) k.c81 rfl (f81_ret hNq.out (by omega) hcx)).mono ?_
        rintro r hy ⟨r1, ro, gy⟩
        have hcy := gy.hc hcx
        obtain ⟨u2, hz, a1, a2, a3, a4, a5⟩ := Sl.push (e := vE) (x := vv) (c := vv) rfl r1 ro gy.nx hcy (by omega)
        have gyz := gy.trans a4
        have hcz := gyz.hc hcx
        have hlz := hl.grow hcx gyz
        have lvb : ∀ id : K, id.nat < h4.nx.nat → NotIn id lv := fun id hi => hown.notIn hi
        have hxn := hGx.nx
        have hzn := gyz.nx
        have sch : Sch (Fr' (blkOf nv ++ [idl, id8, id5, idn]) lv hz) hz u2 (Bs[q] ++ [verL (Ls.getD i []) t]) := by
          have hnx : ∀ x ∈ wsq, In (Fr' (blkOf nv ++ [idl, id8, id5, idn]) lv hz) x := fun x hx => (hIqs x hx).mono fun id hi => ⟨by have := hi.1; rw [hid8] at this; omega, lvb _ (by have := hi.1; rw [hid8] at this; omega), hsS id hi⟩
          refine ⟨wsq ++ [vv], ⟨by simp [hwl], a2.sr, fun x hx1 hx2 => ?_⟩, fun id off n sz e => ⟨a2.lt hcz _ _ _ _ e, fun off' n' sz' e' => ?_, fun hm => ?_⟩, fun x hx => ?_⟩
          · by_cases e : x < wsq.length
            · have e2 : x < Bs[q].length := by omega
              rw [List.getElem_append_left e, List.getElem_append_left e2]
              exact (hNq.inn x e e2).grow hcx gyz
            · have ex : x = wsq.length := by simp at hx1; omega
              subst ex
              rw [List.getElem_append_right (Nat.le_refl _), List.getElem_append_right (by omega)]
              simp only [Nat.sub_self, List.getElem_cons_zero, hwl]
              exact (hs4.grow hc4 hGx).grow hcx gyz
          · have := a3 _ _ _ _ e
            have := hl.out.lt hcx _ _ _ _ e'
            omega
          · have := a3 _ _ _ _ e
            have := nlb id hm
            have : h3.nx.nat = h4.nx.nat := by rw [n4]
            have := hG.nx
            omega
          · rcases List.mem_append.1 hx with hx | hx
            · exact hnx x hx
            · rw [List.mem_singleton.1 hx]
              exact fun id off n sz e => ⟨by have := vlt _ _ _ _ e; omega, lvb _ (vlt _ _ _ _ e), fun hm => by have := nlb id hm; have := ho _ _ _ _ e; omega⟩
        obtain ⟨v', hw, c1, c2, c3, c4, c5⟩ := hlz.push hown (by omega) hcz (by simp [lonL]; omega) sch
        simp (disch := omega) only [f59_r13, w_reg, seqK_n, atK_n, loopK_n, x_nil, x_mv, x_as, x_bslice, x_bin, x_app, kx, rvP_ok, okv_some, ev_t, ev_c, getV_some, putD_some, bin_add, oGet_s, fill_1, set_1, of1, getK_set, Nat.reduceEqDiff, ↓reduceIte, p9, p25, fill_1, set_1, hs4.cell, a2.one, a1, c1, fw64]
        refine ⟨q + 1, by omega, by omega, hGx.trans ((gyz.low hxn).trans c4), v', ls ++ [u2], ?_, c3, by simp (disch := omega) only [getK_set, Nat.reduceEqDiff, ↓reduceIte, p3, p5, p8, p9, p23, p24, and_self, Int.natCast_add, Int.natCast_one]⟩
        rw [List.take_succ_eq_append_getElem hlt2]
        unfold lonL at c2 ⊢
        rw [List.map_append]
        exact c2
      · have d1 : decide ((q : Int) < (Bs.length : Int)) = false := decide_eq_false (by omega)
        have eq : q = Bs.length := by omega
        subst eq
        rw [List.take_length] at hl
        have e8x : hx.get id8 = .cells 1 [nv] := (hGx.old _ (by omega)).trans k48
        have lnx : loadV hx (.p idn 0) one? = .ok (.i .i64 (n : Int)) hx := load_p ((hGx.old _ (by omega)).trans ((kh4 _ (by omega)).trans o.bn)) rfl
        have bnv : beqV nv nv = true := l4.out.sr.beq
        have hll : (lonL Bs (verL (Ls.getD i []) t)).length = Bs.length := by simp [lonL]
        simp (disch := omega) only [f59_r10, f59_r14, w_reg, w_draw, w_seq, w_cond, w_exit, seqK_n, seqK_e, atK_e, loopK_e, ckB_b, cbB_b, true_and, x_nil, x_bin, x_call, kx, kg, xg_nil, xg_mv, xg_ld, xd_cons, fresh_nil, stK_s, stay_nil, rvP_ok, okv_some, ev_t, ev_c, evs_nil, evs_cons, getV_some, putD_some, bin_lss, getK_set, Nat.reduceEqDiff, ↓reduceIte, Bool.false_eq_true, p3, p8, p10, p24, p25, d1, ld8 hx e8x, lnx]
        refine (callP_0 (ef := f82) k.c82 rfl (f82_ret k.toCallsFe hn hl (by omega) (by omega) hGd hcx)).mono ?_
        rintro r hy ⟨⟨j, hj, hjr, hmin⟩, gy⟩
        have hcy := gy.hc hcx
        have hxn := hGx.nx
        have hyn := gy.nx
        have hjl : j < ls.length := by rw [hl.len]; exact hj
        have hr : ls[j] = r := by rw [List.getElem?_eq_getElem hjl] at hjr; injection hjr
        have l4y := (l4.grow hc4 hGx).grow hcx gy
        have schy : Sch (Fr' [idl, id8, id5, idn] nv hy) hy r (lonL Bs (verL (Ls.getD i []) t))[j] := by
          have := hl.inn j hjl hj
          rw [hr] at this
          exact this.move (fun id hi => gy.old id hi.1) fun id hi => ⟨Nat.lt_of_lt_of_le hi.1 hyn, blk_not fun hm => hi.2.2 (List.mem_append_left _ hm), fun hm => hi.2.2 (List.mem_append_right _ hm)⟩
        have rone : cellsN 1 r = some [r] := by
          obtain ⟨_, hN, _⟩ := schy
          rcases hN.out with ⟨rfl, _⟩ | ⟨_, _, _, _, rfl, _⟩ <;> rfl
        have e8y : hy.get id8 = .cells 1 [nv] := (gy.old _ (by omega)).trans e8x
        obtain ⟨v', hz, c1, c2, c3, c4, c5⟩ := l4y.push m.ow (by omega) hcy (by omega) schy
        have nv8 : NotIn id8 nv := m.ow.notIn (by omega)
        have e8z : hz.get id8 = .cells 1 [nv] := (c5 id8 (by omega) nv8).1.trans e8y
        have hst : storeV hz 1 (.p id8 0) v' = .ok undefV (hz.put id8 (.cells 1 [v'])) := by
          rw [store_p (cs := [nv]) (xs := [v']) e8z c2.out.one (Nat.le_refl 1)]; rfl
        have hzn := c4.nx
        have gN : Grow hy.nx.nat hy (hy.new (.cells (1 * 1) [r])) := Grow.new (Nat.le_refl _) _
        have e8n : (hy.new (.cells (1 * 1) [r])).get id8 = .cells 1 [nv] := (gN.old _ (by omega)).trans e8y
        simp (disch := omega) only [atK_n, true_and, rndK_n, x_nil, x_st, x_app, kx, xg_nil, xg_bslice, xd_cons, fresh_nil, stK_n, stK_s, stay_nil, stay_cons, again_ok, stay_ld, rvP_ok, ev_t, getV_some, putD_some, putD_none, oGet_s, fill_1, set_1, Option.some.injEq, exists_eq_left', getK_set, Nat.reduceEqDiff, ↓reduceIte, p8, fill_1, set_1, rone, hcy.dead, Option.some.injEq, exists_eq_left', ld8 _ e8n, bnv, c1, hst]
        refine ⟨fresh_one (n := 1) (sz := 1) (by simp (disch := omega) only [getK_set, ↓reduceIte]), ?_⟩

        have hcz := c4.hc hcy
        have kz : ∀ id : K, id.nat < idl.nat → id ≠ id8 → hz.get id = hB'.get id := fun id h1 h2 => ((((c5 id (by omega) (m.ow.notIn (by omega))).1.trans (gy.old _ (by omega))).trans (hGx.old _ (by omega)))).trans (k4 id h1 h2)
        have kl : hz.get idl = bsyB fr6 [(K.ofNat 22)] f59_a0 f59_b0 := ((c5 idl (by omega) (m.ow.notIn (by omega))).1.trans (gy.old _ (by omega))).trans ((hGx.old _ (by omega)).trans b4)
        have ne8 : idl ≠ id8 := fun e => by rw [e] at hlt8; omega
        refine ⟨by rw [get_put_other ne8]; exact kl, v', ns ++ [r], Ns ++ [(lonL Bs (verL (Ls.getD i []) t))[j]], ⟨fun id h1 h2 => ?_, ?_, ?_, ?_, c2.move ((c2.out.put (c3.notIn (by omega)) _).put (c3.notIn (by omega)) _) (fun id hi => ?_) (fun id hi => hi), c3⟩, by simp [hNl], fun s hs => ?_⟩
        · rw [hidl'] at h1
          rw [get_put_other (fun e => by rw [e] at h1; omega), get_put_other h2]
          exact kz id h1 h2
        · rw [hidl']
          show idl.nat < hz.nx.nat
          omega
        · have q1 : Grow id8.nat hz (hz.put id8 (.cells 1 [v'])) := Grow.put (Nat.le_refl _) (by omega) _
          have q2 : Grow idl.nat (hz.put id8 (.cells 1 [v'])) ((hz.put id8 (.cells 1 [v'])).put idl (rdyB fr6 [(K.ofNat 22)] f59_a0 f59_b0)) := Grow.put (Nat.le_refl _) (by rw [nx_put]; omega) _
          exact q2.hc (q1.hc hcz)
        · rw [get_put_other (Ne.symm ne8)]; exact get_put_same
        · have h1 := hi.2.2
          simp at h1
          rw [get_put_other h1.1, get_put_other h1.2.1]
        · by_cases e : s < Ns.length
          · rw [List.getElem_append_left e]; exact hNs s e
          · have es : s = t := by simp at hs; omega
            subst es
            have hjB : j < Bs.length := by omega
            have hgl : ∀ k (hk : k < (lonL Bs (verL (Ls.getD i []) s)).length), (lonL Bs (verL (Ls.getD i []) s))[k] = Bs[k]'(by omega) ++ [verL (Ls.getD i []) s] := fun k hk => by simp [lonL]
            rw [List.getElem_append_right (by omega)]
            simp only [hNl, Nat.sub_self, List.getElem_cons_zero]
            refine best_step hB ht' hjB (hgl j hj) fun k hk => ?_
            rw [← hgl k (by omega)]
            exact hmin k (by omega)
    · rintro h2 h3 ⟨nv, ns, Ns, m, hNl, hNs⟩ hG
      generalize hidl' : hB'.nx = idl at *
      have hidl : idl.nat < h2.nx.nat := by rw [← hidl']; exact m.nx
      have hc3 := hG.hc m.hc
      have hil3 : idl.nat < h3.nx.nat := Nat.lt_of_lt_of_le hidl hG.nx
      have g4 : Grow idl.nat h3 (h3.put idl .dead) := Grow.put (Nat.le_refl _) hil3 _
      have p4 : ∀ id : K, id ≠ idl → (h3.put idl .dead).get id = h3.get id := fun id e => get_put_other e
      have n4 : (h3.put idl .dead).nx = h3.nx := rfl
      have hc4 := g4.hc hc3
      generalize h3.put idl .dead = h4 at *
      have hn4 : h4.nx.nat = h3.nx.nat := by rw [n4]
      have hlt8 : id8.nat < idl.nat := by omega
      have k4 : ∀ id : K, id.nat < idl.nat → id ≠ id8 → h4.get id = hB'.get id := fun id h1 h2 => ((g4.old id h1).trans (hG.old id (by omega))).trans (m.kp id (by rw [hidl']; exact h1) h2)
      have k48 : h4.get id8 = .cells 1 [nv] := ((g4.old _ hlt8).trans (hG.old _ (by omega))).trans m.b8
      have kh4 : ∀ id : K, id.nat < id8.nat → h4.get id = h1.get id := fun id hi => (k4 id (by omega) (fun e => by rw [e] at hi; omega)).trans (kh id hi)
      have l4 : Lst (Fr' [idl, id8, id5, idn] nv h4) h4 nv ns Ns := (m.ls.grow m.hc hG).move (((m.ls.grow m.hc hG).out).same fun id off n sz e => p4 id (fun e' => by have := m.ow _ _ _ _ e; rw [e'] at this; omega)) (fun id hi => p4 id (fun e' => hi.2.2 (by rw [e']; simp))) (fun id hi => ⟨by rw [n4]; exact hi.1, hi.2⟩)
      have l8 : loadV h4 (.p id8 0) one? = .ok nv h4 := load_p k48 rfl
      have hst : storeV h4 1 (.p id5 0) nv = .ok undefV (h4.put id5 (.cells 1 [nv])) := by
        rw [store_p (cs := [w]) (xs := [nv]) ((kh4 _ (by omega)).trans o.b5) l4.out.one (Nat.le_refl 1)]; rfl
      simp (disch := omega) only [f59_r15, f59_r16, w_reg, seqK_n, atK_n, loopK_n, x_nil, x_mv, x_ld, x_st, x_bin, kx, rvP_ok, okv_some, ev_t, ev_c, getV_some, putD_some, putD_none, bin_add, of1, getK_set, Nat.reduceEqDiff, ↓reduceIte, q5, q8, q16, l8, hst, fw64]
      have g5 : Grow id5.nat h4 (h4.put id5 (.cells 1 [nv])) := Grow.put (Nat.le_refl _) (by omega) _
      have nid : idn ≠ id5 := fun e => by rw [e] at hi5; omega
      refine ⟨i + 1, by omega, by omega, nv, ns, Ns, ⟨⟨?_, fun id hid => ?_, fun _ => g5.hc hc4⟩, ?_, get_put_same, l4.move (l4.out.put (m.ow.notIn (by omega)) _) (fun id hi => ?_) (fun id hi => ⟨hi.1, hi.2.1, fun hm => hi.2.2 ?_⟩), m.ow.notIn (by omega), m.ow.notIn (by omega)⟩, ⟨by rw [hNl, hY, hgd], hNs⟩, by simp (disch := omega) only [getK_set, Nat.reduceEqDiff, ↓reduceIte, q3, q5, q14, q15, and_self, Int.natCast_add, Int.natCast_one]⟩
      · show h.nx.nat ≤ h4.nx.nat
        omega
      · rw [get_put_other (fun e => by rw [e] at hid; omega)]
        exact (kh4 id (by omega)).trans (o.gr.old id hid)
      · rw [get_put_other nid]
        exact (kh4 _ (by omega)).trans o.bn
      · have h1 := hi.2.2
        simp at h1
        rw [get_put_other h1.2.2.1]
      · simp at hm ⊢
        rcases hm with rfl | rfl <;> simp
  · have d0 : decide ((i : Int) < (Ls.length : Int)) = false := decide_eq_false (by omega)
    have ei : i = Ls.length := by omega
    obtain ⟨m, rfl⟩ : ∃ m, i = m + 1 := ⟨i - 1, by omega⟩
    have l3 : loadV h1 (.p idn 0) one? = .ok (.i .i64 (n : Int)) h1 := load_p o.bn rfl
    have l5 : loadV h1 (.p id5 0) one? = .ok w h1 := load_p o.b5 rfl
    have hgd : Ls.getD m [] = Ls[m]'(by omega) := getD_at (by omega)
    have h8 := (hR.2 _ (List.getElem_mem (show m < Ls.length by omega))).1
    have hBl : Bs.length = 2 ^ (Ls.getD m []).length := hB.1
    have hp1 : 1 ≤ 2 ^ (Ls.getD m []).length := Nat.one_le_two_pow
    have hp2 : 2 ^ (Ls.getD m []).length ≤ 2 ^ 8 := Nat.pow_le_pow_right (by omega) (by rw [hgd]; exact h8)
    have hGd : ∀ B ∈ Bs, Good B := fun B hBm => by
      obtain ⟨j, hj, rfl⟩ := List.getElem_of_mem hBm
      exact alt_good hR (by omega) (hB.2 j hj).1 (by omega)
    simp (disch := omega) only [f59_r3, f59_r17, w_reg, w_seq, w_cond, w_exit, seqK_n, seqK_e, atK_e, loopK_e, ckB_b, cbB_b, true_and, x_nil, x_ld, x_bin, x_call, kx, rvP_ok, okv_some, ev_t, ev_c, evs_nil, evs_cons, getV_some, putD_some, bin_lss, getK_set, Nat.reduceEqDiff, ↓reduceIte, Bool.false_eq_true, g3, g5, g15, g16, d0, l3, l5]
    refine (callP_0 (ef := f82) k.c82 rfl (f82_ret k.toCallsFe hn o.ls (by omega) (by omega) hGd hc1)).mono ?_
    rintro r h2 ⟨⟨j, hj, hjr, hmin⟩, gy⟩
    simp (disch := omega) only [f59_rs, w_ret, seqK_n, retK_r, x_nil, x_as, kx, ev_t, getV_some, putD_some, oGet_s, readRs_nil, readRs_t, retV_1, Option.some.injEq, exists_eq_left', getK_set, ↓reduceIte]
    have hjl : j < us.length := by rw [o.ls.len]; exact hj
    have hr : us[j] = r := by rw [List.getElem?_eq_getElem hjl] at hjr; injection hjr
    obtain ⟨ws, hN, _⟩ := o.ls.inn j hjl hj
    rw [hr] at hN
    obtain ⟨f1, f2⟩ := best_fin hB hj hmin
    rw [← ei]
    refine ⟨ws, Bs[j], hN.grow hc1 gy, f1, f2, ?_⟩
    subst hidn
    exact o.gr.trans (gy.low o.gr.nx)
end
end Go.Ev
namespace Go.Ev
open Go Go.RowKit
section
variable {n : Nat} {Q : List (List (Int × Int))} {l : List (Int × Int)} {t u j : Nat}
theorem sm_nn {f : Nat → Int} : ∀ n, (∀ t, t < n → 0 ≤ f t) → 0 ≤ sm f n
  | 0, _ => Int.le_refl _
  | n + 1, h => by
    have h1 := sm_nn n fun t ht => h t (by omega)
    have h2 := h n (by omega)
    show 0 ≤ sm f n + f n
    omega
/-! ### Breaks, team by team -/
def bT (Q : List (List (Int × Int))) (j t : Nat) : Bool := hoB (Q.getD j []) t
def bkT (Q : List (List (Int × Int))) (t : Nat) : Int := sm (fun j => eqE Q j t) (Q.length - 1)
theorem eqE_01 : eqE Q j t = if bT Q j t = bT Q (j + 1) t then 1 else 0 := rfl
theorem eqE_nn : 0 ≤ eqE Q j t := by rw [eqE_01]; split <;> omega
theorem bkT_nn : 0 ≤ bkT Q t := sm_nn _ fun _ _ => eqE_nn
theorem brk_sm (s : Sched n Q) : brk n Q = sm (fun t => bkT Q t) n := by
  have hb := s.bd
  exact (bk_eq (n := n) (Ls := Q) (by omega) (fun l hl e he => by
    have hr := s.vd.rnd l hl
    unfold rndB aaB at hr
    simp only [Bool.and_eq_true, decide_eq_true_iff] at hr
    exact (hr.2.2.1 _ (pl_mem he).1).2) (N := Q.length - 1)).symm
end
end Go.Ev
namespace Go.Ev
open Go Go.RowKit
section
variable {fs : T EF} {h : H} {v : V} {us : List V} {n : Nat} {Q Ls : List (List (Int × Int))}
theorem rok_of (s : Sched n Q) : Rok Q := by
  have hb := s.bd
  have hl := s.len
  refine ⟨by omega, fun l hlm => ?_⟩
  have hr := s.vd.rnd l hlm
  unfold rndB aaB at hr
  simp only [Bool.and_eq_true, decide_eq_true_iff] at hr
  obtain ⟨h0, _, h2, _⟩ := hr
  refine ⟨by omega, fun e => ?_, fun e he => ?_⟩
  · rw [e] at h0
    have h0 : 0 = n / 2 := h0
    omega
  · have h3 := h2 _ (pl_mem he).1
    have h4 := h2 _ (pl_mem he).2
    omega
theorem ver_fl {l : List (Int × Int)} {s : Nat} : FlL l (verL l s) := by
  refine FlL.of (by simp [verL]) fun j h1 h2 => ?_
  have e : (verL l s)[j] = verE l s j := by simp [verL]
  rw [e]
  unfold verE
  rw [getD_at h1]
  split
  · exact .inr rfl
  · exact .inl rfl
theorem alt_fl (h : AltP Ls Ls.length Q) : FlQ Ls Q := by
  refine FlQ.of h.1 fun j h1 h2 => ?_
  obtain ⟨s, _, e⟩ := h.2 j h1
  rw [getD_at h2, getD_at h1] at e
  rw [e]
  exact ver_fl
theorem alt_sched (s : Sched n Ls) (h : AltP Ls Ls.length Q) : Sched n Q :=
  Sched.of s.ok ((s.vd.fl (alt_fl h)).sh (by rw [h.1]; exact s.len))
/-- Least, of few teams. -/
theorem f23_ok (k : CallsTd fs) (kc : CallsCh fs) (k60 : fs.get (K.ofNat 60) = some f60) (s : Sched n Ls) (hn : n ≤ 6) (hv : Nrp h v us Ls) (hc : HC h) : Ret fs f23 [.i .i64 (n : Int), v] h fun r h' => ∃ u xs Q, r = .tup [.i .i64 (brk n Q), u, .i .i64 0] ∧ Nrp h' u xs Q ∧ AltP Ls Ls.length Q ∧ (∀ Q', AltP Ls Ls.length Q' → brk n Q ≤ brk n Q') ∧ Grow h.nx.nat h h' := by
  have ne0 : decide ((0 : Int) ≠ 0) = false := rfl
  have hb := s.bd
  have hl := s.len
  have d6 : decide ((n : Int) > 6) = false := decide_eq_false (by omega)
  apply ret_of rfl
  show W fs none f23_c _ _ _
  unfold f23_c
  simp (disch := omega) only [f23_r0, f23_r1, w_reg, w_seq, seqK_n, x_nil, x_mv, x_as, x_call, ev_t, ev_c, evs_nil, evs_cons, getV_some, putD_some, frame_2, of0, getK_set, Nat.reduceEqDiff, ↓reduceIte]
  refine (callP_0 (ef := f51) k.c51 rfl (f51_ret kc s.ok hv s.big hc)).mono ?_
  rintro r h1 ⟨c, ws, rfl, hc1, hG1⟩
  rw [if_pos s.sh] at hc1
  have hcc := hG1.hc hc
  simp (disch := omega) only [f23_r2, f23_r4, f23_r6, w_skip, w_reg, w_seq, w_cond, seqK_n, ckB_b, cbB_b, true_and, x_nil, x_mv, x_as, x_bin, x_ext, x_call, kx, rvP_ok, okv_some, ev_t, ev_c, evs_nil, evs_cons, getV_some, putD_some, bin_neq, bin_gtr, onTup_t, nth0, nth1, of0, of6, getK_set, Nat.reduceEqDiff, ↓reduceIte, Bool.false_eq_true, s.sh, ne0, d6]
  refine (callP_0 (ef := f59) k.c59 rfl (f59_ret k (by omega) hc1.1.nrp (rok_of s) (by omega) hcc)).mono ?_
  rintro u h2 ⟨xs, Q, hu, ha, hmin, hG2⟩
  have hc2 := hG2.hc hcc
  have s' := alt_sched s ha
  have hF := s'.vd.few (by omega) (by rw [s'.len]; omega)
  simp (disch := omega) only [f23_r7, w_reg, w_seq, seqK_n, x_nil, x_mv, x_as, x_call, kx, ev_t, ev_c, evs_nil, evs_cons, getV_some, putD_some, of0, getK_set, Nat.reduceEqDiff, ↓reduceIte]
  refine (callP_0 (ef := f52) k.c52 rfl (f52_ret k.toCallsBk (by omega) hu hF (by rw [s'.len]; omega) hc2)).mono ?_
  rintro r h3 ⟨rfl, hG3⟩
  have hc3 := hG3.hc hc2
  simp (disch := omega) only [x_mv, x_call, kx, ev_t, ev_c, evs_nil, evs_cons, getV_some, putD_some, getK_set, Nat.reduceEqDiff, ↓reduceIte]
  refine (callP_0 (ef := f60) k60 rfl (f60_ret (hu.grow hc2 hG3) ⟨by rw [s'.len]; omega, fun l hl => by have := s'.row l hl; omega⟩ hc3)).mono ?_
  rintro u' h4 ⟨xs', hu', hG4⟩
  simp (disch := omega) only [f23_rs, w_ret, seqK_n, retK_r, x_nil, x_as, kx, ev_t, ev_c, getV_some, putD_some, oGet_s, readRs_nil, readRs_t, retV_2, Option.some.injEq, exists_eq_left', getK_set, Nat.reduceEqDiff, ↓reduceIte]
  have hA := hG1.trans (hG2.low hG1.nx)
  have hB := hA.trans (hG3.low hA.nx)
  exact ⟨u', xs', Q, rfl, hu', ha, hmin, hB.trans (hG4.low hB.nx)⟩
theorem sm_b {f : Nat → Int} (hf : ∀ t, 0 ≤ f t ∧ f t ≤ 1) : ∀ m : Nat, 0 ≤ sm f m ∧ sm f m ≤ (m : Int)
  | 0 => ⟨Int.le_refl _, Int.le_refl _⟩
  | m + 1 => by
    have h1 := sm_b hf m
    have h2 := hf m
    show 0 ≤ sm f m + f m ∧ sm f m + f m ≤ ((m + 1 : Nat) : Int)
    omega
end
end Go.Ev
namespace Go.Ev
open Go Go.RowKit
section
variable {n r s p x y i : Nat} {Ls Q : List (List (Int × Int))} {l : List (Int × Int)} {D E : List Int}
/-! ### The mask of a version's homes -/
def mkI (l : List (Int × Int)) (s : Nat) : Nat → Nat
  | 0 => 0
  | i + 1 => mkI l s i ||| 2 ^ (verE l s i).1.toNat
def mk (l : List (Int × Int)) (s : Nat) : Nat := mkI l s l.length
def Tn (n : Nat) (l : List (Int × Int)) : Prop := ∀ e ∈ l, (0 ≤ e.1 ∧ e.1 < (n : Int)) ∧ 0 ≤ e.2 ∧ e.2 < (n : Int)
theorem verE_tn (h : Tn n l) (hi : i < l.length) : 0 ≤ (verE l s i).1 ∧ (verE l s i).1 < (n : Int) := by
  have := h _ (List.getElem_mem hi)
  unfold verE
  rw [getD_at hi]
  split
  · exact this.2
  · exact this.1
theorem mkI_msk (h : Tn n l) (hn : n ≤ 16) : ∀ i, i ≤ l.length → Msk (mkI l s i) (hmL ((verL l s).take i))
  | 0, _ => by rw [List.take_zero]; exact Msk.nil
  | i + 1, hi => by
    have ih := mkI_msk h hn i (by omega)
    have ht := verE_tn (s := s) h (show i < l.length by omega)
    have e : (verL l s).take (i + 1) = (verL l s).take i ++ [verE l s i] := by
      rw [List.take_succ_eq_append_getElem (by simp [verL]; omega)]; simp [verL]
    rw [e]
    unfold hmL at ih ⊢
    rw [List.map_append]
    have := ih.snoc (x := (verE l s i).1.toNat) (by omega)
    rw [show (((verE l s i).1.toNat : Nat) : Int) = (verE l s i).1 by omega] at this
    exact this
theorem mkI_lt (h : Tn n l) : ∀ i, i ≤ l.length → mkI l s i < 2 ^ n
  | 0, _ => Nat.two_pow_pos n
  | i + 1, hi => by
    have ht := verE_tn (s := s) h (show i < l.length by omega)
    exact Nat.or_lt_two_pow (mkI_lt h i (by omega)) (Nat.pow_lt_pow_right (by omega) (by omega))
theorem mk_bit (h : Tn n l) (hn : n ≤ 16) {t : Nat} (ht : t < n) : (mk l s).testBit t = hoB (verL l s) t := by
  have := (mkI_msk (s := s) h hn l.length (Nat.le_refl _)).2 t (by omega)
  rw [List.take_of_length_le (by simp [verL])] at this
  exact this
/-! ### Tables -/
def smB (p x : Nat) (m : Nat) : Int := sm (fun t => if p.testBit t = x.testBit t then 1 else 0) m
def cst (r n p x : Nat) : Int := if 0 < r then smB p x n else 0
def mnP (D : List Int) (c : Nat → Int) (e : Int) : Nat → Int
  | 0 => e
  | p + 1 => min (mnP D c e p) (D.getD p 0 + c p)
theorem mn_le {c : Nat → Int} {e : Int} : ∀ q, mnP D c e q ≤ e ∧ ∀ p, p < q → mnP D c e q ≤ D.getD p 0 + c p
  | 0 => ⟨Int.le_refl _, fun p hp => by omega⟩
  | q + 1 => by
    obtain ⟨h1, h2⟩ := mn_le (c := c) (e := e) q
    show min _ _ ≤ e ∧ ∀ p, p < q + 1 → min _ _ ≤ _
    refine ⟨by omega, fun p hp => ?_⟩
    by_cases e' : p = q
    · subst e'; omega
    · have := h2 p (by omega); omega
theorem mn_at {c : Nat → Int} {e : Int} : ∀ q, mnP D c e q = e ∨ ∃ p, p < q ∧ mnP D c e q = D.getD p 0 + c p
  | 0 => .inl rfl
  | q + 1 => by
    have h := mn_at (c := c) (e := e) q
    have hd : mnP D c e (q + 1) = min (mnP D c e q) (D.getD q 0 + c q) := rfl
    by_cases h1 : mnP D c e q ≤ D.getD q 0 + c q
    · rw [show mnP D c e (q + 1) = mnP D c e q by omega]
      rcases h with h | ⟨p, hp, h⟩
      · exact .inl h
      · exact .inr ⟨p, by omega, h⟩
    · exact .inr ⟨q, by omega, by omega⟩
def lsS (r n : Nat) (D : List Int) (l : List (Int × Int)) : Nat → List Int
  | 0 => List.replicate (2 ^ n) 1000
  | s + 1 => (lsS r n D l s).set (mk l s) (mnP D (fun p => cst r n p (mk l s)) ((lsS r n D l s).getD (mk l s) 0) (2 ^ n))
def lsR (n : Nat) (Ls : List (List (Int × Int))) : Nat → List Int
  | 0 => List.replicate (2 ^ n) 0
  | r + 1 => lsS r n (lsR n Ls r) (Ls.getD r []) (2 ^ (Ls.getD r []).length)
theorem lsS_len : ∀ {s}, (lsS r n D l s).length = 2 ^ n
  | 0 => by simp [lsS]
  | s + 1 => by show (List.set _ _ _).length = _; rw [List.length_set]; exact lsS_len
theorem lsR_len : ∀ {r}, (lsR n Ls r).length = 2 ^ n
  | 0 => by simp [lsR]
  | r + 1 => lsS_len
theorem getD_set {L : List Int} {v : Int} (hy : y < L.length) : (L.set y v).getD x 0 = if x = y then v else L.getD x 0 := by
  rw [List.getD_eq_getElem?_getD, List.getD_eq_getElem?_getD, List.getElem?_set]
  by_cases h : x = y
  · subst h; simp [hy]
  · rw [if_neg (fun e => h e.symm), if_neg h]
theorem cst_nn : 0 ≤ cst r n p x ∧ cst r n p x ≤ (n : Int) := by
  unfold cst
  split
  · exact sm_b (fun t => by split <;> omega) n
  · omega
def Bd (n : Nat) (D : List Int) : Prop := ∀ x, x < 2 ^ n → 0 ≤ D.getD x 0 ∧ D.getD x 0 ≤ 1000
theorem mn_bd {c : Nat → Int} {e : Int} {q : Nat} (hq : q ≤ 2 ^ n) (hD : Bd n D) (hc : ∀ p, 0 ≤ c p) (he : 0 ≤ e ∧ e ≤ 1000) : 0 ≤ mnP D c e q ∧ mnP D c e q ≤ 1000 := by
  have h1 := (mn_le (D := D) (c := c) (e := e) q).1
  rcases mn_at (D := D) (c := c) (e := e) q with h | ⟨p, hp, h⟩
  · omega
  · have := hD p (by omega); have := hc p; omega
theorem rep_get {v : Int} (hx : x < 2 ^ n) : (List.replicate (2 ^ n) v).getD x 0 = v := by
  rw [getD_at (by simpa using hx)]; simp
theorem lsS_bd (ht : Tn n l) (hD : Bd n D) : ∀ s, Bd n (lsS r n D l s)
  | 0 => fun x hx => by show 0 ≤ (List.replicate (2 ^ n) (1000 : Int)).getD x 0 ∧ (List.replicate (2 ^ n) (1000 : Int)).getD x 0 ≤ 1000; rw [rep_get hx]; omega
  | s + 1 => fun x hx => by
    have ih := lsS_bd ht hD s
    have hm : mk l s < 2 ^ n := mkI_lt ht _ (Nat.le_refl _)
    show 0 ≤ (List.set _ _ _).getD x 0 ∧ (List.set _ _ _).getD x 0 ≤ 1000
    rw [getD_set (by rw [lsS_len]; exact hm)]
    split
    · exact mn_bd (Nat.le_refl _) hD (fun p => cst_nn.1) (ih _ hm)
    · exact ih x hx
theorem lsS_le (ht : Tn n l) : ∀ s, ∀ s', s' < s → ∀ p, p < 2 ^ n → (lsS r n D l s).getD (mk l s') 0 ≤ D.getD p 0 + cst r n p (mk l s')
  | 0, s', h, _, _ => by omega
  | s + 1, s', h, p, hp => by
    have hm : mk l s < 2 ^ n := mkI_lt ht _ (Nat.le_refl _)
    show (List.set _ _ _).getD (mk l s') 0 ≤ _
    rw [getD_set (by rw [lsS_len]; exact hm)]
    split
    · rename_i e
      rw [e]
      exact (mn_le (2 ^ n)).2 p hp
    · rename_i e
      exact lsS_le ht s s' (by
        have : s' ≠ s := fun q => e (by rw [q])
        omega) p hp
theorem lsS_at (ht : Tn n l) : ∀ s, ∀ x, x < 2 ^ n → (lsS r n D l s).getD x 0 = 1000 ∨ ∃ s', s' < s ∧ mk l s' = x ∧ ∃ p, p < 2 ^ n ∧ (lsS r n D l s).getD x 0 = D.getD p 0 + cst r n p x
  | 0, x, hx => .inl (rep_get hx)
  | s + 1, x, hx => by
    have hm : mk l s < 2 ^ n := mkI_lt ht _ (Nat.le_refl _)
    have he : (lsS r n D l (s + 1)).getD x 0 = if x = mk l s then mnP D (fun p => cst r n p (mk l s)) ((lsS r n D l s).getD (mk l s) 0) (2 ^ n) else (lsS r n D l s).getD x 0 := getD_set (by rw [lsS_len]; exact hm)
    rw [he]
    have ih := lsS_at ht s x hx
    by_cases e : x = mk l s
    · rw [if_pos e]
      rcases mn_at (D := D) (c := fun p => cst r n p (mk l s)) (e := (lsS r n D l s).getD (mk l s) 0) (2 ^ n) with h | ⟨p, hp, h⟩
      · rw [h, ← e]
        rcases ih with ih | ⟨s', h1, h2, h3⟩
        · exact .inl ih
        · exact .inr ⟨s', by omega, h2, h3⟩
      · exact .inr ⟨s, by omega, e.symm, p, hp, by rw [h, ← e]⟩
    · rw [if_neg e]
      rcases ih with ih | ⟨s', h1, h2, h3⟩
      · exact .inl ih
      · exact .inr ⟨s', by omega, h2, h3⟩
/-! ### What the tables tell -/
theorem cst_df {l l' : List (Int × Int)} {s s' : Nat} (h : Tn n l) (h' : Tn n l') (hn : n ≤ 16) : smB (mk l s) (mk l' s') n = (n : Int) - (dfC (verL l s) (verL l' s') : Int) := by
  have key : ∀ {l : List (Int × Int)} {s : Nat}, Tn n l → ∀ e ∈ verL l s, e.1 < (n : Int) := fun {l} {s} h e he => by
    rcases ver_mem he with he | he
    · exact (h _ he).1.2
    · exact (h _ he).2.2
  rw [← eq_df hn (key h) (key h')]
  unfold smB
  exact sm_cong n fun t ht => by rw [mk_bit h hn ht, mk_bit h' hn ht]
structure DpOk (n : Nat) (Ls : List (List (Int × Int))) (r : Nat) (D : List Int) : Prop where
  bd : Bd n D
  zero : r = 0 → ∀ x, x < 2 ^ n → D.getD x 0 = 0
  lo : ∀ m, r = m + 1 → ∀ s, s < 2 ^ (Ls.getD m []).length → ∀ Q, AltP Ls (m + 1) Q → Q.getD m [] = verL (Ls.getD m []) s → D.getD (mk (Ls.getD m []) s) 0 ≤ brk n Q
  at_ : ∀ m, r = m + 1 → ∀ x, x < 2 ^ n → D.getD x 0 = 1000 ∨ ∃ s Q, s < 2 ^ (Ls.getD m []).length ∧ AltP Ls (m + 1) Q ∧ Q.getD m [] = verL (Ls.getD m []) s ∧ mk (Ls.getD m []) s = x ∧ brk n Q = D.getD x 0
theorem dp_0 : DpOk n Ls 0 (lsR n Ls 0) := by
  have h : ∀ x, x < 2 ^ n → (lsR n Ls 0).getD x 0 = 0 := fun x hx => rep_get hx
  exact ⟨fun x hx => by rw [h x hx]; omega, fun _ => h, fun m e => absurd e (by omega), fun m e => absurd e (by omega)⟩
theorem dp_step (hT : ∀ l ∈ Ls, Tn n l) (hn : n ≤ 16) (hr : r < Ls.length) (hD : DpOk n Ls r D) : DpOk n Ls (r + 1) (lsS r n D (Ls.getD r []) (2 ^ (Ls.getD r []).length)) := by
  have ht : Tn n (Ls.getD r []) := by rw [getD_at hr]; exact hT _ (List.getElem_mem hr)
  refine ⟨lsS_bd ht hD.bd _, fun e => absurd e (by omega), fun m e s hs Q hQ hq => ?_, fun m e x hx => ?_⟩
  · obtain rfl : r = m := by omega
    have h2 := altP_take hQ
    cases r with
    | zero =>
      have h := lsS_le (r := 0) (D := D) ht _ s hs 0 (Nat.two_pow_pos n)
      rw [hD.zero rfl 0 (Nat.two_pow_pos n)] at h
      have hz : cst 0 n 0 (mk (Ls.getD 0 []) s) = 0 := rfl
      rw [hz] at h
      have hb : brk n Q = 0 := by
        rw [h2.2, List.take_zero]; rfl
      omega
    | succ m =>
      obtain ⟨t1, t2⟩ := h2
      obtain ⟨s', h1, h3⟩ := t1.2 m (by omega)
      have htm : Tn n (Ls.getD m []) := by rw [getD_at (show m < Ls.length by omega)]; exact hT _ (List.getElem_mem _)
      have hm : mk (Ls.getD m []) s' < 2 ^ n := mkI_lt htm _ (Nat.le_refl _)
      have h := lsS_le (r := m + 1) (D := D) ht _ s hs _ hm
      have h4 := hD.lo m rfl s' h1 _ t1 h3
      have h5 : cst (m + 1) n (mk (Ls.getD m []) s') (mk (Ls.getD (m + 1) []) s) = _ := (if_pos (by omega)).trans (cst_df htm ht hn)
      rw [h5] at h
      have e1 := brk_app (n := n) (Q := Q.take (m + 1)) (r := verL (Ls.getD (m + 1) []) s) (by rw [t1.1]; omega)
      rw [t1.1, Nat.add_sub_cancel, h3, ← hq, ← t2, hq] at e1
      omega
  · obtain rfl : r = m := by omega
    rcases lsS_at (r := r) (D := D) ht (2 ^ (Ls.getD r []).length) x hx with h | ⟨s, hs, hm, p, hp, h⟩
    · exact .inl h
    · rw [h]
      cases r with
      | zero =>
        rw [hD.zero rfl p hp]
        have hz : cst 0 n p x = 0 := rfl
        rw [hz]
        exact .inr ⟨s, [verL (Ls.getD 0 []) s], hs, altP_app (Q := []) ⟨rfl, fun j hj => by omega⟩ hs, rfl, hm, rfl⟩
      | succ m =>
        have hb := (lsS_bd (r := m + 1) ht hD.bd (2 ^ (Ls.getD (m + 1) []).length) x hx).2
        rw [h] at hb
        have hc := cst_nn (r := m + 1) (n := n) (p := p) (x := x)
        have htm : Tn n (Ls.getD m []) := by rw [getD_at (show m < Ls.length by omega)]; exact hT _ (List.getElem_mem _)
        rcases hD.at_ m rfl p hp with h1 | ⟨s', Q, a1, a2, a3, a4, a5⟩
        · left; omega
        · right
          refine ⟨s, Q ++ [verL (Ls.getD (m + 1) []) s], hs, altP_app a2 hs, getD_last a2.1.symm, hm, ?_⟩
          have e1 := brk_app (n := n) (Q := Q) (r := verL (Ls.getD (m + 1) []) s) (by rw [a2.1]; omega)
          rw [a2.1, Nat.add_sub_cancel, a3] at e1
          have h5 : cst (m + 1) n (mk (Ls.getD m []) s') (mk (Ls.getD (m + 1) []) s) = _ := (if_pos (by omega)).trans (cst_df htm ht hn)
          rw [e1, a5, ← h5, a4, hm]
theorem dp_all (hT : ∀ l ∈ Ls, Tn n l) (hn : n ≤ 16) : ∀ r, r ≤ Ls.length → DpOk n Ls r (lsR n Ls r)
  | 0, _ => dp_0
  | r + 1, hr => dp_step hT hn (by omega) (dp_all hT hn r (by omega))
theorem brk_le (s : Sched n Q) : 0 ≤ brk n Q ∧ brk n Q ≤ 100 := by
  obtain ⟨hb10, hb2⟩ := s.bd
  have hql := s.len
  rw [brk_sm s]
  have := (sm_bd (f := fun t => bkT Q t) (b := 10) (fun t => ⟨bkT_nn, by
    have := (sm_bd (f := fun j => eqE Q j t) (b := 1) (fun j => by rw [eqE_01]; split <;> omega) (Q.length - 1)).2
    unfold bkT
    omega⟩) n)
  have : n * 10 ≤ 100 := Nat.mul_le_mul_right 10 hb10
  omega
/-- The fewest breaks. -/
def leI (n : Nat) (Ls : List (List (Int × Int))) : Int := mnP (lsR n Ls Ls.length) (fun _ => 0) 1000 (2 ^ n)
theorem le_min (s : Sched n Ls) (hQ : AltP Ls Ls.length Q) (hmin : ∀ Q', AltP Ls Ls.length Q' → brk n Q ≤ brk n Q') : leI n Ls = brk n Q := by
  obtain ⟨hb10, hb2⟩ := s.bd
  have hql := s.len
  have hT : ∀ l ∈ Ls, Tn n l := fun l hl e he => by
    have := s.inn (M := List.replicate n 0) (by simp) l hl e he
    rw [List.length_replicate] at this
    omega
  have hd := dp_all hT (by omega) Ls.length (Nat.le_refl _)
  obtain ⟨m, hm⟩ : ∃ m, Ls.length = m + 1 := ⟨Ls.length - 1, by omega⟩
  have hml : m < Ls.length := by omega
  have hTm : Tn n (Ls.getD m []) := by rw [getD_at hml]; exact hT _ (List.getElem_mem _)
  have hble := brk_le (alt_sched s hQ)
  obtain ⟨t, ht, hqt⟩ := hQ.2 m hml
  have h1 := hd.lo m hm t ht Q (hm ▸ hQ) hqt
  have h2 := (mn_le (D := lsR n Ls Ls.length) (c := fun _ => 0) (e := 1000) (2 ^ n)).2 _ (mkI_lt (s := t) hTm (Ls.getD m []).length (Nat.le_refl _))
  have h2 : leI n Ls ≤ (lsR n Ls Ls.length).getD (mk (Ls.getD m []) t) 0 + 0 := h2
  rcases mn_at (D := lsR n Ls Ls.length) (c := fun _ => 0) (e := 1000) (2 ^ n) with h | ⟨p, hp, h⟩
  · have h : leI n Ls = 1000 := h
    omega
  · have h : leI n Ls = (lsR n Ls Ls.length).getD p 0 + 0 := h
    rcases hd.at_ m hm p hp with h3 | ⟨s', Q', a1, a2, a3, a4, a5⟩
    · omega
    · have := hmin Q' (hm.symm ▸ a2)
      omega
end
end Go.Ev
namespace Go.Ev
open Go Go.RowKit
theorem loop_mono {fs : T EF} {ro : Option K} {c : EC} {Q Q' : Ex → Fr → H → Prop} {fr : Fr} {h : H} (hq : ∀ e fr h, Q e fr h → Q' e fr h) (hw : W fs ro (.loop c) Q fr h) : W fs ro (.loop c) Q' fr h := by
  obtain ⟨e, fr', h', r, q⟩ := hw
  exact ⟨e, fr', h', r, hq _ _ _ q⟩
section
variable {fs : T EF}
end
end Go.Ev
