/-
  Rounds: the laws RoundsChecks and RoundsRings.
  Loops over a function that yields new slices.
  Rounds: the versions of a round.
  Rounds: all rounds of some teams, one after another (pairings).
  Rounds: a loop over all rounds of some teams.
  Rounds: the search for the rounds that are left (plain); the first game that is missing.
  Rounds: whether a beginning can be completed, of the reference (R.Can).
  Rounds: the rounds that are left, searched (completed$1).
-/
import Derived.Test.YthememdeglgnpaaPf
import Derived.Test.YthememdeglgnpaaPe
namespace Go.Ev
open Go Go.RowKit
noncomputable def f3_r0 : List EOper := [⟨(some (K.ofNat 4)), none, .as (.c (.b false))⟩]
noncomputable def f3_r1 : List EOper := [⟨(some (K.ofNat 24)), none, .mv (.t (K.ofNat 1))⟩, ⟨(some (K.ofNat 25)), none, .call (.c (.fn (K.ofNat 13) [])) [(.t (K.ofNat 24)), (.c (.i .i64 (.ofNat 10))), (.c (.i .i64 (.ofNat 6)))]⟩, ⟨(some (K.ofNat 5)), none, .as (.t (K.ofNat 25))⟩]
noncomputable def f3_r2 : List EOper := [⟨(some (K.ofNat 26)), none, .mv (.t (K.ofNat 0))⟩, ⟨(some (K.ofNat 27)), none, .mv (.t (K.ofNat 5))⟩, ⟨(some (K.ofNat 28)), none, .call (.c (.fn (K.ofNat 14) [])) [(.t (K.ofNat 26)), (.t (K.ofNat 27))]⟩, ⟨(some (K.ofNat 6)), none, .as (.t (K.ofNat 28))⟩]
noncomputable def f3_r3 : List EOper := [⟨(some (K.ofNat 29)), none, .mv (.t (K.ofNat 0))⟩, ⟨(some (K.ofNat 30)), none, .mv (.t (K.ofNat 5))⟩, ⟨(some (K.ofNat 31)), none, .call (.c (.fn (K.ofNat 15) [])) [(.t (K.ofNat 29)), (.t (K.ofNat 30))]⟩, ⟨(some (K.ofNat 32)), none, .mv (.t (K.ofNat 6))⟩, ⟨(some (K.ofNat 33)), none, .bin .neq (.t (K.ofNat 31)) (.t (K.ofNat 32))⟩]
noncomputable def f3_r4 : List EOper := [⟨(some (K.ofNat 4)), none, .as (.c (.b false))⟩]
noncomputable def f3_r5 : List EOper := [⟨(some (K.ofNat 35)), none, .mv (.t (K.ofNat 0))⟩, ⟨(some (K.ofNat 36)), none, .mv (.t (K.ofNat 5))⟩, ⟨(some (K.ofNat 37)), none, .call (.c (.fn (K.ofNat 16) [])) [(.t (K.ofNat 35)), (.t (K.ofNat 36))]⟩, ⟨(some (K.ofNat 34)), none, .mv (.t (K.ofNat 37))⟩, ⟨(some (K.ofNat 38)), none, .ext (.t (K.ofNat 34)) 0⟩, ⟨(some (K.ofNat 39)), none, .ext (.t (K.ofNat 34)) 1⟩, ⟨(some (K.ofNat 7)), none, .as (.t (K.ofNat 38))⟩, ⟨(some (K.ofNat 8)), none, .as (.t (K.ofNat 39))⟩]
noncomputable def f3_r6 : List EOper := [⟨(some (K.ofNat 41)), none, .mv (.t (K.ofNat 0))⟩, ⟨(some (K.ofNat 42)), none, .mv (.t (K.ofNat 5))⟩, ⟨(some (K.ofNat 43)), none, .call (.c (.fn (K.ofNat 17) [])) [(.t (K.ofNat 41)), (.t (K.ofNat 42))]⟩, ⟨(some (K.ofNat 40)), none, .mv (.t (K.ofNat 43))⟩, ⟨(some (K.ofNat 44)), none, .ext (.t (K.ofNat 40)) 0⟩, ⟨(some (K.ofNat 45)), none, .ext (.t (K.ofNat 40)) 1⟩, ⟨(some (K.ofNat 9)), none, .as (.t (K.ofNat 44))⟩, ⟨(some (K.ofNat 10)), none, .as (.t (K.ofNat 45))⟩]
noncomputable def f3_r7 : List EOper := [⟨(some (K.ofNat 47)), none, .mv (.t (K.ofNat 0))⟩, ⟨(some (K.ofNat 48)), none, .mv (.t (K.ofNat 5))⟩, ⟨(some (K.ofNat 49)), none, .call (.c (.fn (K.ofNat 18) [])) [(.t (K.ofNat 47)), (.t (K.ofNat 48))]⟩, ⟨(some (K.ofNat 46)), none, .mv (.t (K.ofNat 49))⟩, ⟨(some (K.ofNat 50)), none, .ext (.t (K.ofNat 46)) 0⟩, ⟨(some (K.ofNat 51)), none, .ext (.t (K.ofNat 46)) 1⟩, ⟨(some (K.ofNat 11)), none, .as (.t (K.ofNat 50))⟩, ⟨(some (K.ofNat 12)), none, .as (.t (K.ofNat 51))⟩]
noncomputable def f3_r8 : List EOper := [⟨(some (K.ofNat 53)), none, .mv (.t (K.ofNat 0))⟩, ⟨(some (K.ofNat 54)), none, .mv (.t (K.ofNat 5))⟩, ⟨(some (K.ofNat 55)), none, .call (.c (.fn (K.ofNat 19) [])) [(.t (K.ofNat 53)), (.t (K.ofNat 54))]⟩, ⟨(some (K.ofNat 52)), none, .mv (.t (K.ofNat 55))⟩, ⟨(some (K.ofNat 56)), none, .ext (.t (K.ofNat 52)) 0⟩, ⟨(some (K.ofNat 57)), none, .ext (.t (K.ofNat 52)) 1⟩, ⟨(some (K.ofNat 13)), none, .as (.t (K.ofNat 56))⟩, ⟨(some (K.ofNat 14)), none, .as (.t (K.ofNat 57))⟩]
noncomputable def f3_r9 : List EOper := [⟨(some (K.ofNat 59)), none, .mv (.t (K.ofNat 0))⟩, ⟨(some (K.ofNat 60)), none, .mv (.t (K.ofNat 5))⟩, ⟨(some (K.ofNat 61)), none, .call (.c (.fn (K.ofNat 20) [])) [(.t (K.ofNat 59)), (.t (K.ofNat 60))]⟩, ⟨(some (K.ofNat 58)), none, .mv (.t (K.ofNat 61))⟩, ⟨(some (K.ofNat 62)), none, .ext (.t (K.ofNat 58)) 0⟩, ⟨(some (K.ofNat 63)), none, .ext (.t (K.ofNat 58)) 1⟩, ⟨(some (K.ofNat 15)), none, .as (.t (K.ofNat 62))⟩, ⟨(some (K.ofNat 16)), none, .as (.t (K.ofNat 63))⟩]
noncomputable def f3_r10 : List EOper := [⟨(some (K.ofNat 65)), none, .mv (.t (K.ofNat 0))⟩, ⟨(some (K.ofNat 66)), none, .mv (.t (K.ofNat 5))⟩, ⟨(some (K.ofNat 67)), none, .call (.c (.fn (K.ofNat 21) [])) [(.t (K.ofNat 65)), (.t (K.ofNat 66)), (.c (.i .i64 (.ofNat 0)))]⟩, ⟨(some (K.ofNat 64)), none, .mv (.t (K.ofNat 67))⟩, ⟨(some (K.ofNat 68)), none, .ext (.t (K.ofNat 64)) 0⟩, ⟨(some (K.ofNat 69)), none, .ext (.t (K.ofNat 64)) 1⟩, ⟨(some (K.ofNat 17)), none, .as (.t (K.ofNat 68))⟩, ⟨(some (K.ofNat 18)), none, .as (.t (K.ofNat 69))⟩]
noncomputable def f3_r11 : List EOper := [⟨(some (K.ofNat 70)), none, .mv (.t (K.ofNat 6))⟩, ⟨(some (K.ofNat 71)), none, .bin .eql (.t (K.ofNat 70)) (.c (.i .i64 (.ofNat 0)))⟩]
noncomputable def f3_r12 : List EOper := [⟨(some (K.ofNat 72)), none, .mv (.t (K.ofNat 8))⟩, ⟨(some (K.ofNat 73)), none, .bin .eql (.t (K.ofNat 72)) (.c (.i .i64 (.ofNat 0)))⟩, ⟨(some (K.ofNat 74)), none, .mv (.t (K.ofNat 73))⟩, ⟨(some (K.ofNat 75)), (some ((K.ofNat 74), true)), .mv (.t (K.ofNat 10))⟩, ⟨(some (K.ofNat 76)), (some ((K.ofNat 74), true)), .bin .eql (.t (K.ofNat 75)) (.c (.i .i64 (.ofNat 0)))⟩, ⟨(some (K.ofNat 77)), none, .pick (.t (K.ofNat 74)) (.t (K.ofNat 76)) (.c (.b false))⟩, ⟨(some (K.ofNat 78)), none, .mv (.t (K.ofNat 77))⟩, ⟨(some (K.ofNat 79)), (some ((K.ofNat 78), true)), .mv (.t (K.ofNat 12))⟩, ⟨(some (K.ofNat 80)), (some ((K.ofNat 78), true)), .bin .eql (.t (K.ofNat 79)) (.c (.i .i64 (.ofNat 0)))⟩, ⟨(some (K.ofNat 81)), none, .pick (.t (K.ofNat 78)) (.t (K.ofNat 80)) (.c (.b false))⟩, ⟨(some (K.ofNat 82)), none, .mv (.t (K.ofNat 81))⟩, ⟨(some (K.ofNat 83)), (some ((K.ofNat 82), true)), .mv (.t (K.ofNat 14))⟩, ⟨(some (K.ofNat 84)), (some ((K.ofNat 82), true)), .bin .eql (.t (K.ofNat 83)) (.c (.i .i64 (.ofNat 0)))⟩, ⟨(some (K.ofNat 85)), none, .pick (.t (K.ofNat 82)) (.t (K.ofNat 84)) (.c (.b false))⟩, ⟨(some (K.ofNat 86)), none, .mv (.t (K.ofNat 85))⟩, ⟨(some (K.ofNat 87)), (some ((K.ofNat 86), true)), .mv (.t (K.ofNat 16))⟩, ⟨(some (K.ofNat 88)), (some ((K.ofNat 86), true)), .bin .eql (.t (K.ofNat 87)) (.c (.i .i64 (.ofNat 0)))⟩, ⟨(some (K.ofNat 89)), none, .pick (.t (K.ofNat 86)) (.t (K.ofNat 88)) (.c (.b false))⟩, ⟨(some (K.ofNat 90)), none, .mv (.t (K.ofNat 89))⟩, ⟨(some (K.ofNat 91)), (some ((K.ofNat 90), true)), .mv (.t (K.ofNat 18))⟩, ⟨(some (K.ofNat 92)), (some ((K.ofNat 90), true)), .bin .eql (.t (K.ofNat 91)) (.c (.i .i64 (.ofNat 0)))⟩, ⟨(some (K.ofNat 93)), none, .pick (.t (K.ofNat 90)) (.t (K.ofNat 92)) (.c (.b false))⟩, ⟨(some (K.ofNat 94)), none, .mv (.t (K.ofNat 93))⟩, ⟨(some (K.ofNat 95)), (some ((K.ofNat 94), true)), .call (.c (.fn (K.ofNat 22) [])) []⟩, ⟨(some (K.ofNat 96)), none, .pick (.t (K.ofNat 94)) (.t (K.ofNat 95)) (.c (.b false))⟩, ⟨(some (K.ofNat 4)), none, .as (.t (K.ofNat 96))⟩]
noncomputable def f3_r13 : List EOper := [⟨(some (K.ofNat 98)), none, .mv (.t (K.ofNat 0))⟩, ⟨(some (K.ofNat 99)), none, .mv (.t (K.ofNat 5))⟩, ⟨(some (K.ofNat 100)), none, .call (.c (.fn (K.ofNat 23) [])) [(.t (K.ofNat 98)), (.t (K.ofNat 99))]⟩, ⟨(some (K.ofNat 97)), none, .mv (.t (K.ofNat 100))⟩, ⟨(some (K.ofNat 101)), none, .ext (.t (K.ofNat 97)) 0⟩, ⟨(some (K.ofNat 102)), none, .ext (.t (K.ofNat 97)) 1⟩, ⟨(some (K.ofNat 103)), none, .ext (.t (K.ofNat 97)) 2⟩, ⟨(some (K.ofNat 19)), none, .as (.t (K.ofNat 101))⟩, ⟨(some (K.ofNat 20)), none, .as (.t (K.ofNat 102))⟩, ⟨(some (K.ofNat 21)), none, .as (.t (K.ofNat 103))⟩]
noncomputable def f3_r14 : List EOper := [⟨(some (K.ofNat 105)), none, .mv (.t (K.ofNat 0))⟩, ⟨(some (K.ofNat 106)), none, .mv (.t (K.ofNat 5))⟩, ⟨(some (K.ofNat 107)), none, .call (.c (.fn (K.ofNat 24) [])) [(.t (K.ofNat 105)), (.t (K.ofNat 106)), (.c .sn)]⟩, ⟨(some (K.ofNat 104)), none, .mv (.t (K.ofNat 107))⟩, ⟨(some (K.ofNat 108)), none, .ext (.t (K.ofNat 104)) 0⟩, ⟨(some (K.ofNat 109)), none, .ext (.t (K.ofNat 104)) 1⟩, ⟨(some (K.ofNat 22)), none, .as (.t (K.ofNat 108))⟩, ⟨(some (K.ofNat 23)), none, .as (.t (K.ofNat 109))⟩]
noncomputable def f3_r15 : List EOper := [⟨(some (K.ofNat 110)), none, .mv (.t (K.ofNat 8))⟩, ⟨(some (K.ofNat 111)), none, .mv (.t (K.ofNat 6))⟩, ⟨(some (K.ofNat 112)), none, .bin .eql (.t (K.ofNat 110)) (.t (K.ofNat 111))⟩, ⟨(some (K.ofNat 113)), none, .mv (.t (K.ofNat 112))⟩, ⟨(some (K.ofNat 114)), (some ((K.ofNat 113), true)), .mv (.t (K.ofNat 10))⟩, ⟨(some (K.ofNat 115)), (some ((K.ofNat 113), true)), .mv (.t (K.ofNat 6))⟩, ⟨(some (K.ofNat 116)), (some ((K.ofNat 113), true)), .bin .eql (.t (K.ofNat 114)) (.t (K.ofNat 115))⟩, ⟨(some (K.ofNat 117)), none, .pick (.t (K.ofNat 113)) (.t (K.ofNat 116)) (.c (.b false))⟩, ⟨(some (K.ofNat 118)), none, .mv (.t (K.ofNat 117))⟩, ⟨(some (K.ofNat 119)), (some ((K.ofNat 118), true)), .mv (.t (K.ofNat 21))⟩, ⟨(some (K.ofNat 120)), (some ((K.ofNat 118), true)), .mv (.t (K.ofNat 6))⟩, ⟨(some (K.ofNat 121)), (some ((K.ofNat 118), true)), .bin .eql (.t (K.ofNat 119)) (.t (K.ofNat 120))⟩, ⟨(some (K.ofNat 122)), none, .pick (.t (K.ofNat 118)) (.t (K.ofNat 121)) (.c (.b false))⟩, ⟨(some (K.ofNat 123)), none, .mv (.t (K.ofNat 122))⟩, ⟨(some (K.ofNat 124)), (some ((K.ofNat 123), true)), .mv (.t (K.ofNat 23))⟩, ⟨(some (K.ofNat 125)), (some ((K.ofNat 123), true)), .mv (.t (K.ofNat 6))⟩, ⟨(some (K.ofNat 126)), (some ((K.ofNat 123), true)), .bin .eql (.t (K.ofNat 124)) (.t (K.ofNat 125))⟩, ⟨(some (K.ofNat 127)), none, .pick (.t (K.ofNat 123)) (.t (K.ofNat 126)) (.c (.b false))⟩, ⟨(some (K.ofNat 128)), none, .mv (.t (K.ofNat 127))⟩, ⟨(some (K.ofNat 129)), (some ((K.ofNat 128), true)), .mv (.t (K.ofNat 12))⟩, ⟨(some (K.ofNat 130)), (some ((K.ofNat 128), true)), .mv (.t (K.ofNat 6))⟩, ⟨(some (K.ofNat 131)), (some ((K.ofNat 128), true)), .bin .eql (.t (K.ofNat 129)) (.t (K.ofNat 130))⟩, ⟨(some (K.ofNat 132)), none, .pick (.t (K.ofNat 128)) (.t (K.ofNat 131)) (.c (.b false))⟩, ⟨(some (K.ofNat 133)), none, .mv (.t (K.ofNat 132))⟩, ⟨(some (K.ofNat 134)), (some ((K.ofNat 133), true)), .mv (.t (K.ofNat 14))⟩, ⟨(some (K.ofNat 135)), (some ((K.ofNat 133), true)), .mv (.t (K.ofNat 6))⟩, ⟨(some (K.ofNat 136)), (some ((K.ofNat 133), true)), .bin .eql (.t (K.ofNat 134)) (.t (K.ofNat 135))⟩, ⟨(some (K.ofNat 137)), none, .pick (.t (K.ofNat 133)) (.t (K.ofNat 136)) (.c (.b false))⟩, ⟨(some (K.ofNat 138)), none, .mv (.t (K.ofNat 137))⟩, ⟨(some (K.ofNat 139)), (some ((K.ofNat 138), true)), .mv (.t (K.ofNat 16))⟩, ⟨(some (K.ofNat 140)), (some ((K.ofNat 138), true)), .mv (.t (K.ofNat 6))⟩, ⟨(some (K.ofNat 141)), (some ((K.ofNat 138), true)), .bin .eql (.t (K.ofNat 139)) (.t (K.ofNat 140))⟩, ⟨(some (K.ofNat 142)), none, .pick (.t (K.ofNat 138)) (.t (K.ofNat 141)) (.c (.b false))⟩, ⟨(some (K.ofNat 143)), none, .mv (.t (K.ofNat 142))⟩, ⟨(some (K.ofNat 144)), (some ((K.ofNat 143), true)), .mv (.t (K.ofNat 18))⟩, ⟨(some (K.ofNat 145)), (some ((K.ofNat 143), true)), .mv (.t (K.ofNat 6))⟩, ⟨(some (K.ofNat 146)), (some ((K.ofNat 143), true)), .bin .eql (.t (K.ofNat 144)) (.t (K.ofNat 145))⟩, ⟨(some (K.ofNat 147)), none, .pick (.t (K.ofNat 143)) (.t (K.ofNat 146)) (.c (.b false))⟩, ⟨(some (K.ofNat 148)), none, .mv (.t (K.ofNat 147))⟩, ⟨(some (K.ofNat 149)), (some ((K.ofNat 148), true)), .mv (.t (K.ofNat 13))⟩, ⟨(some (K.ofNat 150)), (some ((K.ofNat 148), true)), .not (.t (K.ofNat 149))⟩, ⟨(some (K.ofNat 151)), none, .pick (.t (K.ofNat 148)) (.t (K.ofNat 150)) (.c (.b false))⟩, ⟨(some (K.ofNat 152)), none, .mv (.t (K.ofNat 151))⟩, ⟨(some (K.ofNat 153)), (some ((K.ofNat 152), true)), .mv (.t (K.ofNat 15))⟩, ⟨(some (K.ofNat 154)), (some ((K.ofNat 152), true)), .not (.t (K.ofNat 153))⟩, ⟨(some (K.ofNat 155)), none, .pick (.t (K.ofNat 152)) (.t (K.ofNat 154)) (.c (.b false))⟩, ⟨(some (K.ofNat 156)), none, .mv (.t (K.ofNat 155))⟩, ⟨(some (K.ofNat 157)), (some ((K.ofNat 156), true)), .mv (.t (K.ofNat 7))⟩, ⟨(some (K.ofNat 158)), (some ((K.ofNat 156), true)), .mv (.t (K.ofNat 9))⟩, ⟨(some (K.ofNat 159)), (some ((K.ofNat 156), true)), .len (.t (K.ofNat 158))⟩, ⟨(some (K.ofNat 160)), (some ((K.ofNat 156), true)), .bin .add (.t (K.ofNat 157)) (.t (K.ofNat 159))⟩, ⟨(some (K.ofNat 161)), (some ((K.ofNat 156), true)), .mv (.t (K.ofNat 19))⟩, ⟨(some (K.ofNat 162)), (some ((K.ofNat 156), true)), .bin .add (.t (K.ofNat 160)) (.t (K.ofNat 161))⟩, ⟨(some (K.ofNat 163)), (some ((K.ofNat 156), true)), .mv (.t (K.ofNat 20))⟩, ⟨(some (K.ofNat 164)), (some ((K.ofNat 156), true)), .len (.t (K.ofNat 163))⟩, ⟨(some (K.ofNat 165)), (some ((K.ofNat 156), true)), .bin .add (.t (K.ofNat 162)) (.t (K.ofNat 164))⟩, ⟨(some (K.ofNat 166)), (some ((K.ofNat 156), true)), .mv (.t (K.ofNat 11))⟩, ⟨(some (K.ofNat 167)), (some ((K.ofNat 156), true)), .len (.t (K.ofNat 166))⟩, ⟨(some (K.ofNat 168)), (some ((K.ofNat 156), true)), .bin .add (.t (K.ofNat 165)) (.t (K.ofNat 167))⟩, ⟨(some (K.ofNat 169)), (some ((K.ofNat 156), true)), .mv (.t (K.ofNat 17))⟩, ⟨(some (K.ofNat 170)), (some ((K.ofNat 156), true)), .len (.t (K.ofNat 169))⟩, ⟨(some (K.ofNat 171)), (some ((K.ofNat 156), true)), .bin .add (.t (K.ofNat 168)) (.t (K.ofNat 170))⟩, ⟨(some (K.ofNat 172)), (some ((K.ofNat 156), true)), .mv (.t (K.ofNat 22))⟩, ⟨(some (K.ofNat 173)), (some ((K.ofNat 156), true)), .len (.t (K.ofNat 172))⟩, ⟨(some (K.ofNat 174)), (some ((K.ofNat 156), true)), .bin .add (.t (K.ofNat 171)) (.t (K.ofNat 173))⟩, ⟨(some (K.ofNat 175)), (some ((K.ofNat 156), true)), .bin .eql (.t (K.ofNat 174)) (.c (.i .i64 (.ofNat 0)))⟩, ⟨(some (K.ofNat 176)), none, .pick (.t (K.ofNat 156)) (.t (K.ofNat 175)) (.c (.b false))⟩, ⟨(some (K.ofNat 177)), none, .mv (.t (K.ofNat 176))⟩, ⟨(some (K.ofNat 178)), (some ((K.ofNat 177), true)), .call (.c (.fn (K.ofNat 22) [])) []⟩, ⟨(some (K.ofNat 179)), none, .pick (.t (K.ofNat 177)) (.t (K.ofNat 178)) (.c (.b false))⟩, ⟨(some (K.ofNat 4)), none, .as (.t (K.ofNat 179))⟩]
noncomputable def f3_c : EC := (.seq (.reg f3_r0) (.seq (.reg f3_r1) (.seq (.reg f3_r2) (.seq (.seq (.reg f3_r3) (.cond (.t (K.ofNat 33)) (.seq (.reg f3_r4) .ret) .skip)) (.seq (.reg f3_r5) (.seq (.reg f3_r6) (.seq (.reg f3_r7) (.seq (.reg f3_r8) (.seq (.reg f3_r9) (.seq (.reg f3_r10) (.seq (.seq (.reg f3_r11) (.cond (.t (K.ofNat 71)) (.seq (.reg f3_r12) .ret) .skip)) (.seq (.reg f3_r13) (.seq (.reg f3_r14) (.seq (.reg f3_r15) .ret))))))))))))))
noncomputable def f3 : EF := ⟨180, [.tmp (K.ofNat 4)], f3_c, none⟩
noncomputable def f8_r0 : List EOper := [⟨(some (K.ofNat 6)), none, .as (.c (.b false))⟩]
noncomputable def f8_r1 : List EOper := [⟨(some (K.ofNat 18)), none, .mv (.t (K.ofNat 1))⟩, ⟨(some (K.ofNat 19)), none, .call (.c (.fn (K.ofNat 13) [])) [(.t (K.ofNat 18)), (.c (.i .i64 (.ofNat 2))), (.c (.i .i64 (.ofNat 6)))]⟩, ⟨(some (K.ofNat 7)), none, .as (.t (K.ofNat 19))⟩]
noncomputable def f8_r2 : List EOper := [⟨(some (K.ofNat 20)), none, .mv (.t (K.ofNat 7))⟩, ⟨(some (K.ofNat 21)), none, .len (.t (K.ofNat 20))⟩, ⟨(some (K.ofNat 22)), none, .bin .lss (.t (K.ofNat 21)) (.c (.i .i64 (.ofNat 2)))⟩]
noncomputable def f8_r3 : List EOper := [⟨(some (K.ofNat 23)), none, .mv (.t (K.ofNat 7))⟩, ⟨(some (K.ofNat 24)), none, .bslice 1 1 [.sn] [(0, 1, (.c .sn))]⟩, ⟨(some (K.ofNat 25)), none, .app 1 (.t (K.ofNat 23)) (.t (K.ofNat 24))⟩, ⟨(some (K.ofNat 7)), none, .as (.t (K.ofNat 25))⟩]
noncomputable def f8_l0 : EC := (.seq (.seq (.reg f8_r2) (.cond (.t (K.ofNat 22)) .skip (.exit 0))) (.block 1 (.reg f8_r3)))
noncomputable def f8_r4 : List Stage := [⟨[⟨(some (K.ofNat 26)), none, .mv (.t (K.ofNat 7))⟩, ⟨(some (K.ofNat 27)), none, .iads 1 (.t (K.ofNat 26)) (.c (.i .i64 (.ofNat 0)))⟩, ⟨(some (K.ofNat 28)), none, .ld (.t (K.ofNat 27))⟩, ⟨(some (K.ofNat 29)), none, .mv (.t (K.ofNat 7))⟩, ⟨(some (K.ofNat 30)), none, .iads 1 (.t (K.ofNat 29)) (.c (.i .i64 (.ofNat 1)))⟩, ⟨(some (K.ofNat 31)), none, .ld (.t (K.ofNat 30))⟩], [], (some ⟨(some (K.ofNat 8)), none, .as (.t (K.ofNat 28))⟩), []⟩, ⟨[], [⟨(some (K.ofNat 29)), none, .mv (.t (K.ofNat 7))⟩, ⟨(some (K.ofNat 30)), none, .iads 1 (.t (K.ofNat 29)) (.c (.i .i64 (.ofNat 1)))⟩, ⟨(some (K.ofNat 31)), none, .ld (.t (K.ofNat 30))⟩], (some ⟨(some (K.ofNat 9)), none, .as (.t (K.ofNat 31))⟩), []⟩, ⟨[], [], none, []⟩]
noncomputable def f8_r5 : List EOper := [⟨(some (K.ofNat 10)), none, .as (.c (.i .i64 (.ofNat 0)))⟩]
noncomputable def f8_r6 : List EOper := [⟨(some (K.ofNat 32)), none, .mv (.t (K.ofNat 10))⟩, ⟨(some (K.ofNat 33)), none, .bin .lss (.t (K.ofNat 32)) (.c (.i .i64 (.ofNat 2)))⟩]
noncomputable def f8_r7 : List EOper := [⟨(some (K.ofNat 37)), none, .mv (.t (K.ofNat 0))⟩, ⟨(some (K.ofNat 38)), none, .mv (.t (K.ofNat 8))⟩, ⟨(some (K.ofNat 39)), none, .mv (.t (K.ofNat 9))⟩, ⟨(some (K.ofNat 40)), none, .call (.c (.fn (K.ofNat 44) [])) [(.t (K.ofNat 37)), (.t (K.ofNat 38)), (.t (K.ofNat 39))]⟩, ⟨(some (K.ofNat 36)), none, .mv (.t (K.ofNat 40))⟩, ⟨(some (K.ofNat 41)), none, .ext (.t (K.ofNat 36)) 0⟩, ⟨(some (K.ofNat 42)), none, .ext (.t (K.ofNat 36)) 1⟩, ⟨(some (K.ofNat 11)), none, .as (.t (K.ofNat 41))⟩, ⟨(some (K.ofNat 12)), none, .as (.t (K.ofNat 42))⟩]
noncomputable def f8_r8 : List EOper := [⟨(some (K.ofNat 55)), none, .mv (.t (K.ofNat 0))⟩, ⟨(some (K.ofNat 56)), none, .call (.c (.fn (K.ofNat 37) [])) [(.t (K.ofNat 55))]⟩, ⟨(some (K.ofNat 57)), none, .not (.t (K.ofNat 56))⟩, ⟨(some (K.ofNat 54)), none, .as (.t (K.ofNat 57))⟩]
noncomputable def f8_r9 : List EOper := [⟨(some (K.ofNat 58)), none, .mv (.t (K.ofNat 12))⟩, ⟨(some (K.ofNat 59)), none, .bin .neq (.t (K.ofNat 58)) (.c (.i .i64 (.ofNat 1)))⟩, ⟨(some (K.ofNat 60)), none, .mv (.t (K.ofNat 59))⟩, ⟨(some (K.ofNat 61)), (some ((K.ofNat 60), false)), .mv (.t (K.ofNat 11))⟩, ⟨(some (K.ofNat 62)), (some ((K.ofNat 60), false)), .len (.t (K.ofNat 61))⟩, ⟨(some (K.ofNat 63)), (some ((K.ofNat 60), false)), .bin .neq (.t (K.ofNat 62)) (.c (.i .i64 (.ofNat 0)))⟩, ⟨(some (K.ofNat 64)), none, .pick (.t (K.ofNat 60)) (.c (.b true)) (.t (K.ofNat 63))⟩]
noncomputable def f8_r10 : List EOper := [⟨(some (K.ofNat 6)), none, .as (.c (.b false))⟩]
noncomputable def f8_r11 : List EOper := [⟨(some (K.ofNat 66)), none, .mv (.t (K.ofNat 0))⟩, ⟨(some (K.ofNat 67)), none, .mv (.t (K.ofNat 8))⟩, ⟨(some (K.ofNat 68)), none, .call (.c (.fn (K.ofNat 45) [])) [(.t (K.ofNat 66)), (.t (K.ofNat 67))]⟩, ⟨(some (K.ofNat 69)), none, .not (.t (K.ofNat 68))⟩, ⟨(some (K.ofNat 70)), none, .mv (.t (K.ofNat 69))⟩, ⟨(some (K.ofNat 71)), (some ((K.ofNat 70), false)), .mv (.t (K.ofNat 0))⟩, ⟨(some (K.ofNat 72)), (some ((K.ofNat 70), false)), .mv (.t (K.ofNat 9))⟩, ⟨(some (K.ofNat 73)), (some ((K.ofNat 70), false)), .call (.c (.fn (K.ofNat 45) [])) [(.t (K.ofNat 71)), (.t (K.ofNat 72))]⟩, ⟨(some (K.ofNat 74)), (some ((K.ofNat 70), false)), .not (.t (K.ofNat 73))⟩, ⟨(some (K.ofNat 75)), none, .pick (.t (K.ofNat 70)) (.c (.b true)) (.t (K.ofNat 74))⟩, ⟨(some (K.ofNat 65)), none, .as (.t (K.ofNat 75))⟩]
noncomputable def f8_r12 : List EOper := [⟨(some (K.ofNat 76)), none, .mv (.t (K.ofNat 12))⟩, ⟨(some (K.ofNat 77)), none, .bin .neq (.t (K.ofNat 76)) (.c (.i .i64 (.ofNat 40)))⟩, ⟨(some (K.ofNat 78)), none, .mv (.t (K.ofNat 77))⟩, ⟨(some (K.ofNat 79)), (some ((K.ofNat 78), false)), .mv (.t (K.ofNat 11))⟩, ⟨(some (K.ofNat 80)), (some ((K.ofNat 78), false)), .len (.t (K.ofNat 79))⟩, ⟨(some (K.ofNat 81)), (some ((K.ofNat 78), false)), .bin .neq (.t (K.ofNat 80)) (.c (.i .i64 (.ofNat 0)))⟩, ⟨(some (K.ofNat 82)), none, .pick (.t (K.ofNat 78)) (.c (.b true)) (.t (K.ofNat 81))⟩]
noncomputable def f8_r13 : List EOper := [⟨(some (K.ofNat 6)), none, .as (.c (.b false))⟩]
noncomputable def f8_r14 : List EOper := [⟨(some (K.ofNat 43)), none, .mv (.t (K.ofNat 12))⟩, ⟨(some (K.ofNat 44)), none, .bin .neq (.t (K.ofNat 43)) (.c (.i .i64 (.ofNat 0)))⟩, ⟨(some (K.ofNat 45)), none, .mv (.t (K.ofNat 44))⟩, ⟨(some (K.ofNat 46)), (some ((K.ofNat 45), false)), .mv (.t (K.ofNat 11))⟩, ⟨(some (K.ofNat 47)), (some ((K.ofNat 45), false)), .mv (.t (K.ofNat 0))⟩, ⟨(some (K.ofNat 48)), (some ((K.ofNat 45), false)), .mv (.t (K.ofNat 8))⟩, ⟨(some (K.ofNat 49)), (some ((K.ofNat 45), false)), .mv (.t (K.ofNat 9))⟩, ⟨(some (K.ofNat 50)), (some ((K.ofNat 45), false)), .call (.c (.fn (K.ofNat 46) [])) [(.t (K.ofNat 47)), (.t (K.ofNat 48)), (.t (K.ofNat 49))]⟩, ⟨(some (K.ofNat 51)), (some ((K.ofNat 45), false)), .call (.c (.fn (K.ofNat 28) [])) [(.t (K.ofNat 46)), (.t (K.ofNat 50))]⟩, ⟨(some (K.ofNat 52)), (some ((K.ofNat 45), false)), .not (.t (K.ofNat 51))⟩, ⟨(some (K.ofNat 53)), none, .pick (.t (K.ofNat 45)) (.c (.b true)) (.t (K.ofNat 52))⟩]
noncomputable def f8_r15 : List EOper := [⟨(some (K.ofNat 6)), none, .as (.c (.b false))⟩]
noncomputable def f8_r16 : List EOper := [⟨(some (K.ofNat 84)), none, .mv (.t (K.ofNat 0))⟩, ⟨(some (K.ofNat 85)), none, .mv (.t (K.ofNat 2))⟩, ⟨(some (K.ofNat 86)), none, .call (.c (.fn (K.ofNat 25) [])) [(.t (K.ofNat 84)), (.t (K.ofNat 85))]⟩, ⟨(some (K.ofNat 83)), none, .mv (.t (K.ofNat 86))⟩, ⟨(some (K.ofNat 87)), none, .ext (.t (K.ofNat 83)) 0⟩, ⟨(some (K.ofNat 88)), none, .ext (.t (K.ofNat 83)) 1⟩, ⟨(some (K.ofNat 13)), none, .as (.t (K.ofNat 87))⟩, ⟨(some (K.ofNat 14)), none, .as (.t (K.ofNat 88))⟩]
noncomputable def f8_r17 : List Stage := [⟨[⟨(some (K.ofNat 89)), none, .mv (.t (K.ofNat 13))⟩, ⟨(some (K.ofNat 90)), none, .mv (.t (K.ofNat 14))⟩, ⟨(some (K.ofNat 91)), none, .iads 1 (.t (K.ofNat 90)) (.c (.i .i64 (.ofNat 0)))⟩, ⟨(some (K.ofNat 92)), none, .ld (.t (K.ofNat 91))⟩], [], (some ⟨(some (K.ofNat 0)), none, .as (.t (K.ofNat 89))⟩), []⟩, ⟨[], [⟨(some (K.ofNat 90)), none, .mv (.t (K.ofNat 14))⟩, ⟨(some (K.ofNat 91)), none, .iads 1 (.t (K.ofNat 90)) (.c (.i .i64 (.ofNat 0)))⟩, ⟨(some (K.ofNat 92)), none, .ld (.t (K.ofNat 91))⟩], (some ⟨(some (K.ofNat 8)), none, .as (.t (K.ofNat 92))⟩), []⟩, ⟨[], [], none, []⟩]
noncomputable def f8_r18 : List EOper := [⟨(some (K.ofNat 15)), none, .as (.c .sn)⟩]
noncomputable def f8_r19 : List EOper := [⟨(some (K.ofNat 93)), none, .mv (.t (K.ofNat 13))⟩, ⟨(some (K.ofNat 94)), none, .mv (.t (K.ofNat 2))⟩, ⟨(some (K.ofNat 95)), none, .call (.c (.fn (K.ofNat 33) [])) [(.t (K.ofNat 93)), (.t (K.ofNat 94))]⟩, ⟨(some (K.ofNat 16)), none, .as (.t (K.ofNat 95))⟩]
noncomputable def f8_r20 : List EOper := [⟨(some (K.ofNat 17)), none, .as (.c (.i .i64 (.ofNat 0)))⟩]
noncomputable def f8_r21 : List EOper := [⟨(some (K.ofNat 96)), none, .mv (.t (K.ofNat 17))⟩, ⟨(some (K.ofNat 97)), none, .bin .add (.t (K.ofNat 96)) (.c (.i .i64 (.ofNat 1)))⟩, ⟨(some (K.ofNat 98)), none, .mv (.t (K.ofNat 13))⟩, ⟨(some (K.ofNat 99)), none, .bin .lss (.t (K.ofNat 97)) (.t (K.ofNat 98))⟩]
noncomputable def f8_r22 : List Stage := [⟨[⟨(some (K.ofNat 102)), none, .mv (.t (K.ofNat 15))⟩, ⟨(some (K.ofNat 103)), none, .mv (.t (K.ofNat 16))⟩, ⟨(some (K.ofNat 104)), none, .mv (.t (K.ofNat 17))⟩, ⟨(some (K.ofNat 105)), none, .iads 1 (.t (K.ofNat 103)) (.t (K.ofNat 104))⟩, ⟨(some (K.ofNat 106)), none, .ld (.t (K.ofNat 105))⟩, ⟨(some (K.ofNat 107)), none, .mv (.t (K.ofNat 16))⟩, ⟨(some (K.ofNat 108)), none, .mv (.t (K.ofNat 17))⟩, ⟨(some (K.ofNat 109)), none, .bin .add (.t (K.ofNat 108)) (.c (.i .i64 (.ofNat 1)))⟩, ⟨(some (K.ofNat 110)), none, .iads 1 (.t (K.ofNat 107)) (.t (K.ofNat 109))⟩, ⟨(some (K.ofNat 111)), none, .ld (.t (K.ofNat 110))⟩, ⟨(some (K.ofNat 112)), none, .build [(.i .i64 (.ofNat 0)), (.i .i64 (.ofNat 0))] [(0, 1, (.t (K.ofNat 106))), (1, 1, (.t (K.ofNat 111)))]⟩, ⟨(some (K.ofNat 113)), none, .bslice 1 2 [(.i .i64 (.ofNat 0)), (.i .i64 (.ofNat 0))] [(0, 2, (.t (K.ofNat 112)))]⟩], [], (some ⟨(some (K.ofNat 114)), none, .app 2 (.t (K.ofNat 102)) (.t (K.ofNat 113))⟩), [(K.ofNat 113)]⟩, ⟨[], [], (some ⟨(some (K.ofNat 15)), none, .as (.t (K.ofNat 114))⟩), []⟩, ⟨[], [], none, []⟩]
noncomputable def f8_r23 : List EOper := [⟨(some (K.ofNat 100)), none, .mv (.t (K.ofNat 17))⟩, ⟨(some (K.ofNat 101)), none, .bin .add (.t (K.ofNat 100)) (.c (.i .i64 (.ofNat 2)))⟩, ⟨(some (K.ofNat 17)), none, .as (.t (K.ofNat 101))⟩]
noncomputable def f8_l1 : EC := (.seq (.seq (.reg f8_r21) (.cond (.t (K.ofNat 99)) .skip (.exit 5))) (.seq (.block 6 (.draw f8_r22)) (.reg f8_r23)))
noncomputable def f8_r24 : List EOper := [⟨(some (K.ofNat 115)), none, .mv (.t (K.ofNat 15))⟩, ⟨(some (K.ofNat 9)), none, .as (.t (K.ofNat 115))⟩]
noncomputable def f8_r25 : List EOper := [⟨(some (K.ofNat 34)), none, .mv (.t (K.ofNat 10))⟩, ⟨(some (K.ofNat 35)), none, .bin .add (.t (K.ofNat 34)) (.c (.i .i64 (.ofNat 1)))⟩, ⟨(some (K.ofNat 10)), none, .as (.t (K.ofNat 35))⟩]
noncomputable def f8_l2 : EC := (.seq (.seq (.reg f8_r6) (.cond (.t (K.ofNat 33)) .skip (.exit 2))) (.seq (.block 3 (.seq (.reg f8_r7) (.seq (.block 4 (.seq (.reg f8_r8) (.cond (.t (K.ofNat 54)) (.seq (.reg f8_r9) (.cond (.t (K.ofNat 64)) (.seq (.reg f8_r10) .ret) .skip)) (.seq (.reg f8_r11) (.cond (.t (K.ofNat 65)) (.seq (.reg f8_r12) (.cond (.t (K.ofNat 82)) (.seq (.reg f8_r13) .ret) .skip)) (.seq (.reg f8_r14) (.cond (.t (K.ofNat 53)) (.seq (.reg f8_r15) .ret) .skip))))))) (.seq (.reg f8_r16) (.seq (.draw f8_r17) (.seq (.reg f8_r18) (.seq (.reg f8_r19) (.seq (.seq (.reg f8_r20) (.block 5 (.loop f8_l1))) (.reg f8_r24))))))))) (.reg f8_r25)))
noncomputable def f8_r26 : List EOper := [⟨(some (K.ofNat 116)), none, .call (.c (.fn (K.ofNat 22) [])) []⟩, ⟨(some (K.ofNat 6)), none, .as (.t (K.ofNat 116))⟩]
noncomputable def f8_c : EC := (.seq (.reg f8_r0) (.seq (.reg f8_r1) (.seq (.block 0 (.loop f8_l0)) (.seq (.draw f8_r4) (.seq (.seq (.reg f8_r5) (.block 2 (.loop f8_l2))) (.seq (.reg f8_r26) .ret))))))
noncomputable def f8 : EF := ⟨117, [.tmp (K.ofNat 6)], f8_c, none⟩
section
variable {fs : T EF} {h : H} {v : V} {us : List V} {Ls : List (List (Int × Int))}
end
section
variable {fs : T EF} {h : H} {v v2 : V} {us : List V} {Ls : List (List (Int × Int))}
end
end Go.Ev
namespace Go.Ev
open Go Go.RowKit
section
variable {fs : T EF} {α : Type}
end
end Go.Ev
namespace Go.Ev
open Go Go.RowKit
noncomputable def f94_r0 : List EOper := [⟨(some (K.ofNat 2)), none, .as (.c .sn)⟩]
noncomputable def f94_r1 : List EOper := [⟨(some (K.ofNat 3)), none, .mv (.t (K.ofNat 0))⟩, ⟨(some (K.ofNat 4)), none, .isnil false (.t (K.ofNat 3))⟩]
noncomputable def f94_r2 : List EOper := [⟨(some (K.ofNat 2)), none, .as (.c .sn)⟩]
noncomputable def f94_r3 : List EOper := [⟨(some (K.ofNat 5)), none, .bslice 0 2 [] []⟩, ⟨(some (K.ofNat 6)), none, .mv (.t (K.ofNat 0))⟩, ⟨(some (K.ofNat 7)), none, .app 2 (.t (K.ofNat 5)) (.t (K.ofNat 6))⟩, ⟨(some (K.ofNat 2)), none, .as (.t (K.ofNat 7))⟩]
noncomputable def f94_c : EC := (.seq (.reg f94_r0) (.seq (.seq (.reg f94_r1) (.cond (.t (K.ofNat 4)) (.seq (.reg f94_r2) .ret) .skip)) (.seq (.reg f94_r3) .ret)))
noncomputable def f94 : EF := ⟨8, [.tmp (K.ofNat 2)], f94_c, none⟩
theorem f94_rs : f94.rs = [.tmp (K.ofNat 2)] := of_eq_true (eq_self _)
noncomputable def f93_r0 : List EOper := [⟨(some (K.ofNat 7)), none, .ld (.t (K.ofNat 1))⟩, ⟨(some (K.ofNat 8)), none, .len (.t (K.ofNat 7))⟩, ⟨(some (K.ofNat 9)), none, .bin .shl (.c (.i .i64 (.ofNat 1))) (.t (K.ofNat 8))⟩, ⟨(some (K.ofNat 10)), none, .mv (.c (.i .i64 (.ofNat 0)))⟩]
noncomputable def f93_r1 : List EOper := [⟨(some (K.ofNat 11)), none, .bin .lss (.t (K.ofNat 10)) (.t (K.ofNat 9))⟩]
noncomputable def f93_r2 : List EOper := [⟨(some (K.ofNat 12)), none, .mv (.t (K.ofNat 10))⟩, ⟨(some (K.ofNat 3)), none, .as (.t (K.ofNat 12))⟩]
noncomputable def f93_r3 : List EOper := [⟨(some (K.ofNat 13)), none, .ld (.t (K.ofNat 1))⟩, ⟨(some (K.ofNat 14)), none, .call (.c (.fn (K.ofNat 94) [])) [(.t (K.ofNat 13))]⟩, ⟨(some (K.ofNat 4)), none, .as (.t (K.ofNat 14))⟩]
noncomputable def f93_r4 : List EOper := [⟨(some (K.ofNat 15)), none, .ld (.t (K.ofNat 1))⟩, ⟨(some (K.ofNat 16)), none, .len (.t (K.ofNat 15))⟩, ⟨(some (K.ofNat 17)), none, .mv (.c (.i .i64 (.ofNat 0)))⟩]
noncomputable def f93_r5 : List EOper := [⟨(some (K.ofNat 18)), none, .bin .lss (.t (K.ofNat 17)) (.t (K.ofNat 16))⟩]
noncomputable def f93_r6 : List EOper := [⟨(some (K.ofNat 19)), none, .mv (.t (K.ofNat 17))⟩, ⟨(some (K.ofNat 20)), none, .iads 2 (.t (K.ofNat 15)) (.t (K.ofNat 17))⟩, ⟨(some (K.ofNat 21)), none, .ldn 2 (.t (K.ofNat 20))⟩, ⟨(some (K.ofNat 6)), none, .alloc 2 [(.i .i64 (.ofNat 0)), (.i .i64 (.ofNat 0))]⟩, ⟨(some (K.ofNat 5)), none, .as (.t (K.ofNat 19))⟩, ⟨none, none, .st 2 (.t (K.ofNat 6)) (.t (K.ofNat 21))⟩]
noncomputable def f93_r7 : List EOper := [⟨(some (K.ofNat 22)), none, .mv (.t (K.ofNat 3))⟩, ⟨(some (K.ofNat 23)), none, .mv (.t (K.ofNat 5))⟩, ⟨(some (K.ofNat 24)), none, .bin .shr (.t (K.ofNat 22)) (.t (K.ofNat 23))⟩, ⟨(some (K.ofNat 25)), none, .bin .and (.t (K.ofNat 24)) (.c (.i .i64 (.ofNat 1)))⟩, ⟨(some (K.ofNat 26)), none, .bin .eql (.t (K.ofNat 25)) (.c (.i .i64 (.ofNat 1)))⟩]
noncomputable def f93_r8 : List EOper := [⟨(some (K.ofNat 27)), none, .mv (.t (K.ofNat 4))⟩, ⟨(some (K.ofNat 28)), none, .mv (.t (K.ofNat 5))⟩, ⟨(some (K.ofNat 29)), none, .ldn 2 (.t (K.ofNat 6))⟩, ⟨(some (K.ofNat 30)), none, .call (.c (.fn (K.ofNat 84) [])) [(.t (K.ofNat 29))]⟩, ⟨(some (K.ofNat 31)), none, .iads 2 (.t (K.ofNat 27)) (.t (K.ofNat 28))⟩, ⟨none, none, .st 2 (.t (K.ofNat 31)) (.t (K.ofNat 30))⟩]
noncomputable def f93_r9 : List EOper := [⟨(some (K.ofNat 32)), none, .bin .add (.t (K.ofNat 17)) (.c (.i .i64 (.ofNat 1)))⟩, ⟨(some (K.ofNat 17)), none, .mv (.t (K.ofNat 32))⟩]
noncomputable def f93_l0 : EC := (.seq (.reg f93_r5) (.seq (.cond (.t (K.ofNat 18)) .skip (.exit 2)) (.seq (.block 3 (.seq (.reg f93_r6) (.seq (.reg f93_r7) (.cond (.t (K.ofNat 26)) (.reg f93_r8) .skip)))) (.reg f93_r9))))
noncomputable def f93_r10 : List EOper := [⟨(some (K.ofNat 33)), none, .mv (.t (K.ofNat 0))⟩, ⟨(some (K.ofNat 34)), none, .mv (.t (K.ofNat 4))⟩, ⟨(some (K.ofNat 35)), none, .call (.t (K.ofNat 33)) [(.t (K.ofNat 34))]⟩, ⟨(some (K.ofNat 36)), none, .not (.t (K.ofNat 35))⟩]
noncomputable def f93_r11 : List EOper := [⟨(some (K.ofNat 37)), none, .bin .add (.t (K.ofNat 10)) (.c (.i .i64 (.ofNat 1)))⟩, ⟨(some (K.ofNat 10)), none, .mv (.t (K.ofNat 37))⟩]
noncomputable def f93_l1 : EC := (.seq (.reg f93_r1) (.seq (.cond (.t (K.ofNat 11)) .skip (.exit 0)) (.seq (.block 1 (.seq (.reg f93_r2) (.seq (.reg f93_r3) (.seq (.seq (.reg f93_r4) (.block 2 (.loop f93_l0))) (.seq (.reg f93_r10) (.cond (.t (K.ofNat 36)) .ret .skip)))))) (.reg f93_r11))))
noncomputable def f93_c : EC := (.seq (.reg f93_r0) (.block 0 (.loop f93_l1)))
noncomputable def f93 : EF := ⟨38, [], f93_c, none⟩
noncomputable def f80_r0 : List EOper := [⟨(some (K.ofNat 1)), none, .box 1 (.t (K.ofNat 0))⟩, ⟨(some (K.ofNat 2)), none, .as (.c .fnil)⟩]
noncomputable def f80_r1 : List EOper := [⟨(some (K.ofNat 3)), none, .mkfn (K.ofNat 93) [(.t (K.ofNat 1))]⟩, ⟨(some (K.ofNat 2)), none, .as (.t (K.ofNat 3))⟩]
noncomputable def f80_c : EC := (.seq (.reg f80_r0) (.seq (.reg f80_r1) .ret))
noncomputable def f80 : EF := ⟨4, [.tmp (K.ofNat 2)], f80_c, none⟩
section
variable {fs : T EF} {h : H} {v : V} {l : List (Int × Int)}
/-- append to an empty literal. -/
theorem Srp.appE {id : K} {u : V} {M : List (Int × Int)} (hs : Srp h u M) (hc : HC h) (hb : h.get id = .cells (0 * 2) []) (hne : M ≠ []) (hn : M.length ≤ 16777216) : ∃ h', appV 2 h (.sl id 0 0 2) u = .ok (.sl h.nx 0 M.length 2) h' ∧ Sk 2 qE h' (.sl h.nx 0 M.length 2) M ∧ (∀ b, b ≤ id.nat → b ≤ h.nx.nat → Grow b h h') := by
  have hadd : Go.Ev.addOf 2 h u = some (M.length, M.flatMap qE) := by
    rcases hs with ⟨rfl, h0, h1⟩ | ⟨id, off, m, cs, rfl, hb, hll, hm, hx⟩
    · rw [h1, h0]; rfl
    · show (h.get id).onC none (fun len cs => bif Nat.beq 2 2 && Nat.ble (off + M.length * 2) len then some (M.length, takeN (M.length * 2) (dropN off cs)) else none) = _
      have e0 : (h.get id).onC none (fun len cs => bif Nat.beq 2 2 && Nat.ble (off + M.length * 2) len then some (M.length, takeN (M.length * 2) (dropN off cs)) else none) = (bif Nat.beq 2 2 && Nat.ble (off + M.length * 2) m then some (M.length, takeN (M.length * 2) (dropN off cs)) else none) := by
        rcases hb with hb | hb <;> rw [hb] <;> rfl
      rw [e0, Nat.ble_eq_true_of_le hm, takeN_eq, dropN_eq, hx]; rfl
  have hl : 1 ≤ M.length := List.length_pos_iff.2 hne
  have hid : id.nat < h.nx.nat := hc.cells hb
  have ha : appV 2 h (.sl id 0 0 2) u = .ok (.sl h.nx 0 (0 + M.length) 2) ((h.put id .dead).new (.cells ((0 + M.length) * 2) (cat (takeN (0 * 2) (dropN 0 [])) (M.flatMap qE)))) := by
    unfold appV
    rw [hadd]
    show (h.get id).onW RV.no (fun len cs => bif Nat.beq 2 2 && Nat.ble (0 + 0 * 2) len && Nat.ble (0 + M.length) 16777216 then app1 2 h id 0 0 cs M.length (M.flatMap qE) else .no) = _
    rw [hb]
    show (bif Nat.beq 2 2 && Nat.ble (0 + 0 * 2) (0 * 2) && Nat.ble (0 + M.length) 16777216 then app1 2 h id 0 0 [] M.length (M.flatMap qE) else RV.no) = _
    rw [show Nat.ble (0 + M.length) 16777216 = true from Nat.ble_eq_true_of_le (by omega)]
    show app1 2 h id 0 0 [] M.length (M.flatMap qE) = _
    unfold app1
    rw [show Nat.beq M.length 0 = false by rw [← Bool.not_eq_true]; intro h; have := Nat.eq_of_beq_eq_true h; omega]
    rfl
  rw [Nat.zero_add] at ha
  refine ⟨_, ha, .inr ⟨h.nx, 0, _, _, rfl, get_new_same, ?_, by omega, ?_⟩, fun b h1 h2 => (Grow.put h1 hid _).trans (Grow.new (by exact h2) _)⟩
  · rw [cat_eq, takeN_eq, dropN_eq]
    simp only [List.drop_nil, List.take_nil, List.nil_append]
    rw [List.length_flatMap]
    have : ∀ L : List (Int × Int), (L.map fun a => (qE a).length).sum = L.length * 2 := by
      intro L
      induction L with
      | nil => rfl
      | cons a L ih => simp only [List.map_cons, List.sum_cons, ih, List.length_cons]; show 2 + _ = _; omega
    exact this M
  · rw [cat_eq, takeN_eq, dropN_eq]
    simp only [List.drop_nil, List.take_nil, List.nil_append, List.drop_zero]
    refine List.take_of_length_le ?_
    rw [List.length_flatMap]
    have : ∀ L : List (Int × Int), (L.map fun a => (qE a).length).sum = L.length * 2 := by
      intro L
      induction L with
      | nil => rfl
      | cons a L ih => simp only [List.map_cons, List.sum_cons, ih, List.length_cons]; show 2 + _ = _; omega
    exact Nat.le_of_eq (this M)
theorem f94_ret (hv : Srp h v l) (hl : l.length ≤ 1000) (hne : l ≠ []) (hc : HC h) : Ret fs f94 [v] h fun r h' => Sk 2 qE h' r l ∧ Own h.nx.nat r ∧ Grow h.nx.nat h h' := by
  apply ret_of rfl
  show W fs none f94_c _ _ _
  unfold f94_c
  have hl1 : 1 ≤ l.length := List.length_pos_iff.2 hne
  have g1 := Grow.new (Nat.le_refl h.nx.nat) (.cells (0 * 2) [])
  have hc1 := g1.hc hc
  have nx1 := nx_new h (.cells (0 * 2) [])
  have hv1 := hv.grow hc g1
  obtain ⟨h2, a1, a2, a3⟩ := hv1.appE hc1 (id := h.nx) get_new_same hne (by omega)
  have hnil : ∀ h1, isnilV false v h1 = .ok (.b false) h1 := fun h1 => by
    rcases hv with ⟨rfl, h0, _⟩ | ⟨id, off, m, cs, rfl, _⟩
    · omega
    · rfl
  simp (disch := omega) only [f94_r0, f94_r1, f94_r3, f94_rs, w_skip, w_reg, w_seq, w_cond, w_ret, seqK_n, ckB_b, cbB_b, true_and, retK_r, x_nil, x_mv, x_as, x_bslice, x_app, x_isnil, kx, rvP_ok, ev_t, ev_c, getV_some, putD_some, oGet_s, readRs_nil, readRs_t, retV_1, frame_1, Option.some.injEq, exists_eq_left', getK_set, Nat.reduceEqDiff, ↓reduceIte, Bool.false_eq_true, fill_0, hnil, fill_0, a1]
  exact ⟨a2, fun _ _ _ _ e => by cases e; rw [nx1]; omega, g1.trans (a3 _ (Nat.le_refl _) (by omega))⟩
structure CallsVe (fs : T EF) : Prop where
  c80 : fs.get (K.ofNat 80) = some f80
  c84 : fs.get (K.ofNat 84) = some f84
  c93 : fs.get (K.ofNat 93) = some f93
  c94 : fs.get (K.ofNat 94) = some f94
end
end Go.Ev
namespace Go.Ev
open Go Go.RowKit
noncomputable def f102_r0 : List EOper := [⟨(some (K.ofNat 6)), none, .as (.c (.b false))⟩]
noncomputable def f102_r1 : List Stage := [⟨[⟨(some (K.ofNat 9)), none, .mv (.t (K.ofNat 0))⟩, ⟨(some (K.ofNat 11)), none, .ld (.t (K.ofNat 1))⟩], [], (some ⟨(some (K.ofNat 10)), none, .call (.c (.fn (K.ofNat 74) [])) [(.t (K.ofNat 9))]⟩), []⟩, ⟨[⟨(some (K.ofNat 12)), none, .bin .eql (.t (K.ofNat 10)) (.t (K.ofNat 11))⟩], [⟨(some (K.ofNat 11)), none, .ld (.t (K.ofNat 1))⟩], none, []⟩]
noncomputable def f102_r2 : List Stage := [⟨[⟨(some (K.ofNat 13)), none, .ld (.t (K.ofNat 2))⟩, ⟨(some (K.ofNat 14)), none, .ld (.t (K.ofNat 3))⟩], [], (some ⟨(some (K.ofNat 15)), none, .call (.c (.fn (K.ofNat 94) [])) [(.t (K.ofNat 14))]⟩), []⟩, ⟨[], [⟨(some (K.ofNat 13)), none, .ld (.t (K.ofNat 2))⟩], (some ⟨(some (K.ofNat 16)), none, .call (.t (K.ofNat 13)) [(.t (K.ofNat 15))]⟩), []⟩, ⟨[], [], (some ⟨(some (K.ofNat 6)), none, .as (.t (K.ofNat 16))⟩), []⟩, ⟨[], [], none, []⟩]
noncomputable def f102_r3 : List EOper := [⟨(some (K.ofNat 7)), none, .as (.c (.i .i64 (.ofNat 0)))⟩]
noncomputable def f102_r4 : List EOper := [⟨(some (K.ofNat 17)), none, .mv (.t (K.ofNat 0))⟩, ⟨(some (K.ofNat 18)), none, .mv (.t (K.ofNat 7))⟩, ⟨(some (K.ofNat 19)), none, .call (.c (.fn (K.ofNat 76) [])) [(.t (K.ofNat 17)), (.t (K.ofNat 18))]⟩]
noncomputable def f102_r5 : List EOper := [⟨(some (K.ofNat 20)), none, .mv (.t (K.ofNat 7))⟩, ⟨(some (K.ofNat 21)), none, .bin .add (.t (K.ofNat 20)) (.c (.i .i64 (.ofNat 1)))⟩, ⟨(some (K.ofNat 7)), none, .as (.t (K.ofNat 21))⟩]
noncomputable def f102_l0 : EC := (.seq (.seq (.reg f102_r4) (.cond (.t (K.ofNat 19)) .skip (.exit 0))) (.block 1 (.reg f102_r5)))
noncomputable def f102_r6 : List EOper := [⟨(some (K.ofNat 22)), none, .mv (.t (K.ofNat 7))⟩, ⟨(some (K.ofNat 23)), none, .bin .add (.t (K.ofNat 22)) (.c (.i .i64 (.ofNat 1)))⟩, ⟨(some (K.ofNat 8)), none, .as (.t (K.ofNat 23))⟩]
noncomputable def f102_r7 : List EOper := [⟨(some (K.ofNat 24)), none, .mv (.t (K.ofNat 8))⟩, ⟨(some (K.ofNat 25)), none, .ld (.t (K.ofNat 1))⟩, ⟨(some (K.ofNat 26)), none, .bin .lss (.t (K.ofNat 24)) (.t (K.ofNat 25))⟩]
noncomputable def f102_r8 : List EOper := [⟨(some (K.ofNat 29)), none, .mv (.t (K.ofNat 0))⟩, ⟨(some (K.ofNat 30)), none, .mv (.t (K.ofNat 8))⟩, ⟨(some (K.ofNat 31)), none, .call (.c (.fn (K.ofNat 76) [])) [(.t (K.ofNat 29)), (.t (K.ofNat 30))]⟩]
noncomputable def f102_r9 : List EOper := [⟨(some (K.ofNat 32)), none, .ld (.t (K.ofNat 3))⟩, ⟨(some (K.ofNat 33)), none, .mv (.t (K.ofNat 7))⟩, ⟨(some (K.ofNat 34)), none, .mv (.t (K.ofNat 8))⟩, ⟨(some (K.ofNat 35)), none, .build [(.i .i64 (.ofNat 0)), (.i .i64 (.ofNat 0))] [(0, 1, (.t (K.ofNat 33))), (1, 1, (.t (K.ofNat 34)))]⟩, ⟨(some (K.ofNat 36)), none, .bslice 1 2 [(.i .i64 (.ofNat 0)), (.i .i64 (.ofNat 0))] [(0, 2, (.t (K.ofNat 35)))]⟩, ⟨(some (K.ofNat 37)), none, .app 2 (.t (K.ofNat 32)) (.t (K.ofNat 36))⟩, ⟨none, none, .st 1 (.t (K.ofNat 3)) (.t (K.ofNat 37))⟩]
noncomputable def f102_r10 : List Stage := [⟨[⟨(some (K.ofNat 38)), none, .ld (.t (K.ofNat 4))⟩, ⟨(some (K.ofNat 39)), none, .mv (.t (K.ofNat 0))⟩, ⟨(some (K.ofNat 40)), none, .mv (.t (K.ofNat 7))⟩, ⟨(some (K.ofNat 42)), none, .mv (.t (K.ofNat 8))⟩], [], (some ⟨(some (K.ofNat 41)), none, .call (.c (.fn (K.ofNat 83) [])) [(.t (K.ofNat 39)), (.t (K.ofNat 40))]⟩), []⟩, ⟨[], [⟨(some (K.ofNat 38)), none, .ld (.t (K.ofNat 4))⟩, ⟨(some (K.ofNat 42)), none, .mv (.t (K.ofNat 8))⟩], (some ⟨(some (K.ofNat 43)), none, .call (.c (.fn (K.ofNat 83) [])) [(.t (K.ofNat 41)), (.t (K.ofNat 42))]⟩), []⟩, ⟨[], [⟨(some (K.ofNat 38)), none, .ld (.t (K.ofNat 4))⟩], (some ⟨(some (K.ofNat 44)), none, .call (.t (K.ofNat 38)) [(.t (K.ofNat 43))]⟩), []⟩, ⟨[⟨(some (K.ofNat 45)), none, .not (.t (K.ofNat 44))⟩], [], none, []⟩]
noncomputable def f102_r11 : List EOper := [⟨(some (K.ofNat 6)), none, .as (.c (.b false))⟩]
noncomputable def f102_r12 : List EOper := [⟨(some (K.ofNat 46)), none, .ld (.t (K.ofNat 3))⟩, ⟨(some (K.ofNat 47)), none, .ld (.t (K.ofNat 3))⟩, ⟨(some (K.ofNat 48)), none, .len (.t (K.ofNat 47))⟩, ⟨(some (K.ofNat 49)), none, .bin .sub (.t (K.ofNat 48)) (.c (.i .i64 (.ofNat 1)))⟩, ⟨(some (K.ofNat 50)), none, .slice 2 (.t (K.ofNat 46)) none (some (.t (K.ofNat 49))) none⟩, ⟨none, none, .st 1 (.t (K.ofNat 3)) (.t (K.ofNat 50))⟩]
noncomputable def f102_r13 : List EOper := [⟨(some (K.ofNat 27)), none, .mv (.t (K.ofNat 8))⟩, ⟨(some (K.ofNat 28)), none, .bin .add (.t (K.ofNat 27)) (.c (.i .i64 (.ofNat 1)))⟩, ⟨(some (K.ofNat 8)), none, .as (.t (K.ofNat 28))⟩]
noncomputable def f102_l1 : EC := (.seq (.seq (.reg f102_r7) (.cond (.t (K.ofNat 26)) .skip (.exit 2))) (.seq (.block 3 (.seq (.seq (.reg f102_r8) (.cond (.t (K.ofNat 31)) (.exit 3) .skip)) (.seq (.reg f102_r9) (.seq (.seq (.draw f102_r10) (.cond (.t (K.ofNat 45)) (.seq (.reg f102_r11) .ret) .skip)) (.reg f102_r12))))) (.reg f102_r13)))
noncomputable def f102_r14 : List EOper := [⟨(some (K.ofNat 6)), none, .as (.c (.b true))⟩]
noncomputable def f102_c : EC := (.seq (.reg f102_r0) (.seq (.seq (.draw f102_r1) (.cond (.t (K.ofNat 12)) (.seq (.draw f102_r2) .ret) .skip)) (.seq (.reg f102_r3) (.seq (.block 0 (.loop f102_l0)) (.seq (.seq (.reg f102_r6) (.block 2 (.loop f102_l1))) (.seq (.reg f102_r14) .ret))))))
noncomputable def f102 : EF := ⟨51, [.tmp (K.ofNat 6)], f102_c, none⟩
theorem f102_rs : f102.rs = [.tmp (K.ofNat 6)] := of_eq_true (eq_self _)
noncomputable def f101_r0 : List EOper := [⟨(some (K.ofNat 2)), none, .box 1 (.t (K.ofNat 0))⟩]
noncomputable def f101_r1 : List EOper := [⟨(some (K.ofNat 3)), none, .alloc 1 [.sn]⟩]
noncomputable def f101_r2 : List EOper := [⟨(some (K.ofNat 4)), none, .alloc 1 [.fnil]⟩]
noncomputable def f101_r3 : List EOper := [⟨(some (K.ofNat 5)), none, .mkfn (K.ofNat 102) [(.t (K.ofNat 1)), (.t (K.ofNat 2)), (.t (K.ofNat 3)), (.t (K.ofNat 4))]⟩, ⟨none, none, .st 1 (.t (K.ofNat 4)) (.t (K.ofNat 5))⟩]
noncomputable def f101_r4 : List EOper := [⟨(some (K.ofNat 6)), none, .ld (.t (K.ofNat 4))⟩, ⟨(some (K.ofNat 7)), none, .call (.t (K.ofNat 6)) [(.c (.i .u16 (.ofNat 0)))]⟩]
noncomputable def f101_c : EC := (.seq (.reg f101_r0) (.seq (.reg f101_r1) (.seq (.reg f101_r2) (.seq (.reg f101_r3) (.reg f101_r4)))))
noncomputable def f101 : EF := ⟨8, [], f101_c, none⟩
theorem f101_rs : f101.rs = [] := of_eq_true (eq_self _)
noncomputable def f91_r0 : List EOper := [⟨(some (K.ofNat 1)), none, .box 1 (.t (K.ofNat 0))⟩, ⟨(some (K.ofNat 2)), none, .as (.c .fnil)⟩]
noncomputable def f91_r1 : List EOper := [⟨(some (K.ofNat 3)), none, .mkfn (K.ofNat 101) [(.t (K.ofNat 1))]⟩, ⟨(some (K.ofNat 2)), none, .as (.t (K.ofNat 3))⟩]
noncomputable def f91_c : EC := (.seq (.reg f91_r0) (.seq (.reg f91_r1) .ret))
noncomputable def f91 : EF := ⟨4, [.tmp (K.ofNat 2)], f91_c, none⟩
theorem f91_rs : f91.rs = [.tmp (K.ofNat 2)] := of_eq_true (eq_self _)
/-! ### The rounds, in order -/
def hmF (m : Nat) : Nat → Nat → Nat
  | 0, t => t
  | k + 1, t => if m.testBit t then hmF m k (t + 1) else t
/-- The first team that is not playing. -/
def hm (n m : Nat) : Nat := hmF m n 0
theorem hm_eq {m : Nat} : ∀ {k s t : Nat}, s ≤ t → t ≤ s + k → (∀ x, s ≤ x → x < t → m.testBit x = true) → m.testBit t = false → hmF m k s = t
  | 0, s, t, h1, h2, _, _ => by show s = t; omega
  | k + 1, s, t, h1, h2, h3, h4 => by
    show (if m.testBit s then hmF m k (s + 1) else s) = t
    by_cases e : s = t
    · subst e; rw [if_neg (by rw [h4]; simp)]
    · rw [if_pos (h3 s (Nat.le_refl _) (by omega))]
      exact hm_eq (by omega) (by omega) (fun x hx => h3 x (by omega)) h4
def prG (n : Nat) (rec_ : List (Int × Int) → Nat → List (List (Int × Int))) (L : List (Int × Int)) (m a : Nat) : List (List (Int × Int)) := if m.testBit a = true ∨ a = hm n m then [] else rec_ (L ++ [((hm n m : Int), (a : Int))]) (m ||| 2 ^ hm n m ||| 2 ^ a)
def prE (n : Nat) : Nat → List (Int × Int) → Nat → List (List (Int × Int))
  | 0, L, _ => [L]
  | f + 1, L, m => (List.range n).flatMap (prG n (prE n f) L m)
def prU (n f : Nat) (L : List (Int × Int)) (m x : Nat) : List (List (Int × Int)) := (List.range x).flatMap (prG n (prE n f) L m)
theorem prU_succ {n f m x : Nat} {L : List (Int × Int)} : prU n f L m (x + 1) = prU n f L m x ++ prG n (prE n f) L m x := by
  unfold prU; rw [List.range_succ, List.flatMap_append]; simp
theorem prU_split {n f m x : Nat} {L : List (Int × Int)} : ∀ k : Nat, x < k → ∃ R, prU n f L m k = prU n f L m x ++ (prG n (prE n f) L m x ++ R)
  | 0, h => by omega
  | k + 1, h => by
    rw [prU_succ]
    by_cases e : x = k
    · subst e; exact ⟨[], by simp⟩
    · obtain ⟨R, hR⟩ := prU_split (n := n) (f := f) (L := L) (m := m) (x := x) k (by omega)
      exact ⟨R ++ prG n (prE n f) L m k, by rw [hR]; simp⟩
/-- The games so far, and the teams that are playing. -/
structure St (n : Nat) (L : List (Int × Int)) (m f : Nat) : Prop where
  msk : Msk m (plL L)
  nd : (plL L).Nodup
  rg : ∀ x ∈ plL L, 0 ≤ x ∧ x < (n : Int)
  sum : 2 * (L.length + f) = n
  n10 : n ≤ 10
theorem pl_len : ∀ {L : List (Int × Int)}, (plL L).length = 2 * L.length
  | [] => rfl
  | e :: L => by show (e.1 :: e.2 :: plL L).length = _; simp only [List.length_cons, pl_len]; omega
theorem pl_snoc {L : List (Int × Int)} {a b : Int} : plL (L ++ [(a, b)]) = plL L ++ [a] ++ [b] := by unfold plL; simp
section
variable {n m f : Nat} {L : List (Int × Int)}
theorem St.cnt (s : St n L m f) : pcN m = 2 * L.length := by
  have := s.n10
  rw [msk_len s.msk s.nd fun z hz => by have := s.rg z hz; omega, pl_len]
theorem St.free (s : St n L m (f + 1)) : ∃ t, t < n ∧ m.testBit t = false := by
  apply Classical.byContradiction
  intro hno
  have hn := s.n10
  have h1 := nodup_le (l := (List.range n).map fun (k : Nat) => (k : Int)) (m := plL L) (by
    rw [List.nodup_iff_pairwise_ne, List.pairwise_map]
    exact (List.nodup_iff_pairwise_ne.1 List.nodup_range).imp fun h => by omega) fun z hz => by
    obtain ⟨k, hk, rfl⟩ := List.mem_map.1 hz
    have hk : k < n := by simpa using hk
    have hb : m.testBit k = true := by
      cases hb : m.testBit k with
      | true => rfl
      | false => exact absurd ⟨k, hk, hb⟩ hno
    rw [s.msk.2 k (by omega)] at hb
    exact of_decide_eq_true hb
  have h2 := s.sum
  rw [pl_len] at h1
  simp at h1
  omega
theorem St.off (s : St n L m f) {t : Nat} (ht : t < n) (h : m.testBit t = false) : (t : Int) ∉ plL L := by
  have := s.n10
  rw [s.msk.2 t (by omega)] at h
  exact of_decide_eq_false h
theorem St.on (s : St n L m (f + 1)) {x y : Nat} (hx : x < n) (hy : y < n) (h1 : m.testBit x = false) (h2 : m.testBit y = false) (hne : x ≠ y) : St n (L ++ [((x : Int), (y : Int))]) (m ||| 2 ^ x ||| 2 ^ y) f := by
  have hn := s.n10
  have o1 := s.off hx h1
  have o2 := s.off hy h2
  have o3 : (y : Int) ∉ plL L ++ [(x : Int)] := fun h => by
    rcases List.mem_append.1 h with h | h
    · exact o2 h
    · have : (y : Int) = (x : Int) := by simpa using h
      omega
  refine ⟨?_, ?_, fun z hz => ?_, by have := s.sum; simp; omega, hn⟩
  · rw [pl_snoc]; exact (s.msk.snoc (by omega)).snoc (by omega)
  · rw [pl_snoc, List.nodup_append]
    refine ⟨?_, by simp, fun a ha b hb e => ?_⟩
    · rw [List.nodup_append]
      refine ⟨s.nd, by simp, fun a ha b hb e => ?_⟩
      have : b = (x : Int) := by simpa using hb
      exact o1 (by rw [← this, ← e]; exact ha)
    · have : b = (y : Int) := by simpa using hb
      exact o3 (by rw [← this, ← e]; exact ha)
  · rw [pl_snoc] at hz
    rcases List.mem_append.1 hz with hz | hz
    · rcases List.mem_append.1 hz with hz | hz
      · exact s.rg z hz
      · have : z = (x : Int) := by simpa using hz
        omega
    · have : z = (y : Int) := by simpa using hz
      omega
end
/-! ### The recursion's memory -/
def Pr (idn idY idL idG : K) (u : V) : K → Prop := fun x => x = idn ∨ x = idY ∨ x = idL ∨ x = idG ∨ ¬ NotIn x u
structure PS (idn idY idL idG id : K) (n : Nat) (fv : V) (h : H) (u : V) (L : List (Int × Int)) : Prop where
  hc : HC h
  eN : h.get idn = .cells 1 [.i .i64 (n : Int)]
  eY : h.get idY = .cells 1 [.yl id]
  eG : h.get idG = .cells 1 [fv]
  eL : h.get idL = .cells 1 [u]
  sk : Sk 2 qE h u L
  nN : NotIn idn u
  nY : NotIn idY u
  nL : NotIn idL u
  nG : NotIn idG u
  lN : idL ≠ idn
  lY : idL ≠ idY
  lG : idL ≠ idG
section
variable {idn idY idL idG id : K} {n : Nat} {fv : V} {h h' : H} {u u' : V} {L M : List (Int × Int)}
theorem PS.lt (g : PS idn idY idL idG id n fv h u L) {x : K} (hx : Pr idn idY idL idG u x) : x.nat < h.nx.nat := by
  rcases hx with rfl | rfl | rfl | rfl | hx
  · exact g.hc.cells g.eN
  · exact g.hc.cells g.eY
  · exact g.hc.cells g.eL
  · exact g.hc.cells g.eG
  · apply Classical.byContradiction
    intro hno
    exact hx fun off n sz e => hno (g.sk.lt g.hc _ _ _ _ e)
theorem PS.keep (g : PS idn idY idL idG id n fv h u L) (hc : HC h') (hk : ∀ x, Pr idn idY idL idG u x → h'.get x = h.get x) : PS idn idY idL idG id n fv h' u L :=
  ⟨hc, (hk _ (.inl rfl)).trans g.eN, (hk _ (.inr (.inl rfl))).trans g.eY, (hk _ (.inr (.inr (.inr (.inl rfl))))).trans g.eG, (hk _ (.inr (.inr (.inl rfl)))).trans g.eL, g.sk.same fun y off n sz e => hk y (.inr (.inr (.inr (.inr fun hn => hn _ _ _ e)))), g.nN, g.nY, g.nL, g.nG, g.lN, g.lY, g.lG⟩
theorem PS.grow (g : PS idn idY idL idG id n fv h u L) (hg : Grow h.nx.nat h h') : PS idn idY idL idG id n fv h' u L := g.keep (hg.hc g.hc) fun x hx => hg.old x (g.lt hx)
theorem PS.write (g : PS idn idY idL idG id n fv h u L) (hs : Sk 2 qE h u' M) (n0 : NotIn idn u') (n1 : NotIn idY u') (n2 : NotIn idL u') (n3 : NotIn idG u') : PS idn idY idL idG id n fv (h.put idL (.cells 1 [u'])) u' M := by
  have hl := g.hc.cells g.eL
  refine ⟨(Grow.put (b := 0) (Nat.zero_le _) hl _).hc g.hc, ?_, ?_, ?_, get_put_same, hs.put n2 _, n0, n1, n2, n3, g.lN, g.lY, g.lG⟩
  · rw [get_put_other g.lN.symm]; exact g.eN
  · rw [get_put_other g.lY.symm]; exact g.eY
  · rw [get_put_other g.lG.symm]; exact g.eG
end
/-- What the loop's body looks at stays when the iterator goes on. -/
def Stab (I : Nat → (K → Prop) → H → Prop) : Prop := ∀ i (S S' : K → Prop) h h', I i S h → h.nx.nat ≤ h'.nx.nat → HC h' → (∀ x : K, x.nat < h.nx.nat → ¬ S x → h'.get x = h.get x) → (∀ x : K, S' x → S x ∨ h.nx.nat ≤ x.nat) → I i S' h'
/-- The body, with the next round of teams. -/
def RoundP (fs : T EF) (id : K) (I : Nat → (K → Prop) → H → Prop) (D : H → Prop) (Y : List (List (Int × Int))) : Prop :=
  ∀ i (S : K → Prop) h0 h v (hi : i < Y.length), I i S h0 → HC h0 → Grow h0.nx.nat h0 h → (∀ x, S x → x.nat < h0.nx.nat) → Sk 2 qE h v Y[i] → Own h0.nx.nat v → ∃ r h', Round fs id v h r h' ∧ h.nx.nat ≤ h'.nx.nat ∧ HC h' ∧ (∀ x, S x → h'.get x = h.get x) ∧ (r = true → I (i + 1) S h') ∧ (r = false → D h')
structure CallsPg (fs : T EF) : Prop extends CallsVe fs where
  p74 : fs.get (K.ofNat 74) = some f74
  p76 : fs.get (K.ofNat 76) = some f76
  p83 : fs.get (K.ofNat 83) = some f83
  p92 : fs.get (K.ofNat 92) = some f92
  p102 : fs.get (K.ofNat 102) = some f102
def prgV (idn idY idL idG : K) : V := .fn (K.ofNat 102) [.p idn 0, .p idY 0, .p idL 0, .p idG 0]
section
variable {fs : T EF}
def f102_A (h : H) (n m : Nat) (idn idY idL idG : K) (t : Nat) (fr : Fr) (h1 : H) : Prop := t < n ∧ h1 = h ∧ (∀ x, x < t → m.testBit x = true) ∧ fr.get (K.ofNat 0) = some (.i .u16 (m : Int)) ∧ fr.get (K.ofNat 1) = some (.p idn 0) ∧ fr.get (K.ofNat 2) = some (.p idY 0) ∧ fr.get (K.ofNat 3) = some (.p idL 0) ∧ fr.get (K.ofNat 4) = some (.p idG 0) ∧ fr.get (K.ofNat 7) = some (.i .i64 (t : Int))
def f102_O (h : H) (n m f : Nat) (I : Nat → (K → Prop) → H → Prop) (idn idY idL idG id : K) (L : List (Int × Int)) (p0 : Nat) (x : Nat) (fr : Fr) (h1 : H) : Prop :=
  hm n m < x ∧ x ≤ n ∧ h.nx.nat ≤ h1.nx.nat ∧ ∃ u1, PS idn idY idL idG id n (prgV idn idY idL idG) h1 u1 L ∧ I (p0 + (prU n f L m x).length) (Pr idn idY idL idG u1) h1 ∧
    fr.get (K.ofNat 0) = some (.i .u16 (m : Int)) ∧ fr.get (K.ofNat 1) = some (.p idn 0) ∧ fr.get (K.ofNat 2) = some (.p idY 0) ∧ fr.get (K.ofNat 3) = some (.p idL 0) ∧ fr.get (K.ofNat 4) = some (.p idG 0) ∧ fr.get (K.ofNat 7) = some (.i .i64 (hm n m : Int)) ∧ fr.get (K.ofNat 8) = some (.i .i64 (x : Int))
theorem pair_call {n : Nat} {idn idY idL idG id : K} {I : Nat → (K → Prop) → H → Prop} {D : H → Prop} {Y : List (List (Int × Int))} (kk : CallsPg fs) (hn2 : 2 ≤ n) (hI : Stab I) (round : RoundP fs id I D Y) :
    ∀ (f : Nat) (L : List (Int × Int)) (m : Nat) (pre post : List (List (Int × Int))) (h : H) (u : V), St n L m f → Y = pre ++ (prE n f L m ++ post) → PS idn idY idL idG id n (prgV idn idY idL idG) h u L → I pre.length (Pr idn idY idL idG u) h →
      CallP fs (prgV idn idY idL idG) [.i .u16 (m : Int)] h fun r h' => ∃ t, r = .b t ∧ (t = true → ∃ u', PS idn idY idL idG id n (prgV idn idY idL idG) h' u' L ∧ I (pre.length + (prE n f L m).length) (Pr idn idY idL idG u') h' ∧ h.nx.nat ≤ h'.nx.nat) ∧ (t = false → D h') := by
  intro f
  induction f with
  | zero =>
    intro L m pre post h u s hY g hi0
    refine callP_of (ef := f102) kk.p102 rfl ?_
    show Ret fs f102 [.i .u16 (m : Int), .p idn 0, .p idY 0, .p idL 0, .p idG 0] h _
    apply ret_of rfl
    show W fs none f102_c _ _ _
    unfold f102_c
    have hmx := s.msk.1
    have hsum := s.sum
    have hn10 := s.n10
    have ln : loadV h (.p idn 0) one? = .ok (.i .i64 (n : Int)) h := load_p g.eN rfl
    have d1 : decide ((pcN m : Int) = (n : Int)) = true := decide_eq_true (by rw [s.cnt]; omega)
    simp (disch := omega) only [f102_r0, f102_r1, w_reg, w_draw, w_seq, seqK_n, true_and, x_nil, x_as, x_call, kg, xg_nil, xg_mv, xg_ld, xd_cons, fresh_nil, stK_s, stay_nil, rvP_ok, ev_t, ev_c, evs_nil, evs_cons, getV_some, putD_some, getK_set, Nat.reduceEqDiff, ↓reduceIte, frame_5, ln]
    refine (callP_0 (ef := f74) kk.p74 rfl (f74_ret kk.p92 hmx)).mono ?_
    rintro r h1 ⟨rfl, e1⟩
    rw [e1]
    clear e1 h1
    have lY : loadV h (.p idY 0) one? = .ok (.yl id) h := load_p g.eY rfl
    have lL : loadV h (.p idL 0) one? = .ok u h := load_p g.eL rfl
    simp (disch := omega) only [f102_r2, w_draw, w_seq, w_cond, seqK_n, ckB_b, cbB_b, true_and, x_nil, x_call, kx, kg, xg_nil, xg_ld, xg_bin, xd_cons, fresh_nil, stK_n, stK_s, stay_nil, stay_cons, again_ok, beq_i, stay_ld, rvP_ok, okv_some, ev_t, ev_c, evs_nil, evs_cons, getV_some, putD_some, bin_eql, getK_set, Nat.reduceEqDiff, ↓reduceIte, ln, d1, lY, lL]
    have hne : L ≠ [] := fun e => by rw [e] at hsum; simp at hsum; omega
    refine (callP_0 (ef := f94) kk.c94 rfl (f94_ret g.sk.srp (by omega) hne g.hc)).mono ?_
    rintro v h2 ⟨sv, ov, gB⟩
    have hi : pre.length < Y.length := by rw [hY]; simp [prE]
    have hYi : Y[pre.length] = L := by simp [hY, prE]
    have lY2 : loadV h2 (.p idY 0) one? = .ok (.yl id) h2 := load_p ((gB.old _ (g.hc.cells g.eY)).trans g.eY) rfl
    obtain ⟨r, h3, hr, nx3, hc3, k3, h4, h5⟩ := round pre.length _ h h2 v hi hi0 g.hc gB (fun x hx => g.lt hx) (by rw [hYi]; exact sv) ov
    have byl : beqV (.yl id) (.yl id) = true := beq_yl
    simp (disch := omega) only [true_and, x_nil, x_call, kx, xg_nil, xd_cons, fresh_nil, stK_s, stay_nil, stay_cons, again_ok, stay_ld, ev_t, evs_nil, evs_cons, getV_some, putD_some, getK_set, Nat.reduceEqDiff, ↓reduceIte, lY2, byl]
    obtain ⟨q, hq⟩ := hr
    refine ⟨q, _, _, hq, ?_⟩
    simp (disch := omega) only [f102_rs, w_ret, seqK_n, seqK_r, true_and, retK_r, x_nil, x_as, kx, xg_nil, xd_cons, fresh_nil, stK_n, stK_s, stay_nil, ev_t, getV_some, putD_some, oGet_s, readRs_nil, readRs_t, retV_1, Option.some.injEq, exists_eq_left', getK_set, ↓reduceIte]
    refine ⟨r, rfl, fun ht => ⟨u, (g.grow gB).keep hc3 fun x hx => k3 x hx, ?_, Nat.le_trans gB.nx nx3⟩, h5⟩
    exact h4 ht
  | succ f ih =>
    intro L m pre post h u s hY g hi0
    refine callP_of (ef := f102) kk.p102 rfl ?_
    show Ret fs f102 [.i .u16 (m : Int), .p idn 0, .p idY 0, .p idL 0, .p idG 0] h _
    apply ret_of rfl
    show W fs none f102_c _ _ _
    unfold f102_c
    have hmx := s.msk.1
    have hsum := s.sum
    have hn10 := s.n10
    obtain ⟨t0, ht0, hf0⟩ := s.free
    have ln : loadV h (.p idn 0) one? = .ok (.i .i64 (n : Int)) h := load_p g.eN rfl
    have d1 : decide ((pcN m : Int) = (n : Int)) = false := decide_eq_false (by rw [s.cnt]; omega)
    simp (disch := omega) only [f102_r0, f102_r1, w_reg, w_draw, w_seq, seqK_n, true_and, x_nil, x_as, x_call, kg, xg_nil, xg_mv, xg_ld, xd_cons, fresh_nil, stK_s, stay_nil, rvP_ok, ev_t, ev_c, evs_nil, evs_cons, getV_some, putD_some, getK_set, Nat.reduceEqDiff, ↓reduceIte, frame_5, ln]
    refine (callP_0 (ef := f74) kk.p74 rfl (f74_ret kk.p92 hmx)).mono ?_
    rintro r h1 ⟨rfl, e1⟩
    rw [e1]
    clear e1 h1
    simp (disch := omega) only [f102_r3, w_skip, w_reg, w_seq, w_cond, w_block, seqK_n, ckB_b, cbB_b, true_and, x_nil, x_as, kx, kg, xg_nil, xg_bin, xd_cons, fresh_nil, stK_n, stay_nil, stay_cons, again_ok, beq_i, stay_ld, rvP_ok, okv_some, ev_t, ev_c, getV_some, putD_some, bin_eql, of0, getK_set, Nat.reduceEqDiff, ↓reduceIte, Bool.false_eq_true, ln, d1]
    refine W_loop (f102_A h n m idn idY idL idG) (fun t => n - t) ?_ 0 ⟨by omega, rfl, fun x hx => by omega, by simp (disch := omega) only [getK_set, Nat.reduceEqDiff, ↓reduceIte, and_self, Int.natCast_zero]⟩
    rintro t fr h1 ⟨ht, rfl, hall, g0, g1, g2, g3, g4, g7⟩
    unfold f102_l0
    simp (disch := omega) only [f102_r4, w_reg, w_seq, x_mv, x_call, ev_t, ev_c, evs_nil, evs_cons, getV_some, putD_some, getK_set, Nat.reduceEqDiff, ↓reduceIte, g0, g7]
    refine (callP_0 (ef := f76) kk.p76 rfl (f76_ret hmx (show t ≤ 15 by omega))).mono ?_
    rintro r h2 ⟨rfl, e2⟩
    rw [e2]
    clear e2 h2
    cases hb : m.testBit t with
    | true =>
      have ht2 : t + 1 < n := by
        apply Classical.byContradiction
        intro hno
        have : t0 ≤ t := by omega
        by_cases e : t0 = t
        · rw [e, hb] at hf0; cases hf0
        · rw [hall t0 (by omega)] at hf0; cases hf0
      simp (disch := omega) only [f102_r5, w_skip, w_reg, w_cond, w_block, seqK_n, atK_n, loopK_n, ckB_b, cbB_b, true_and, x_nil, x_mv, x_as, x_bin, kx, rvP_ok, okv_some, ev_t, ev_c, getV_some, putD_some, bin_add, of1, getK_set, Nat.reduceEqDiff, ↓reduceIte, g7, fw64]
      exact ⟨t + 1, by omega, ht2, rfl, fun x hx => by
        by_cases e : x = t
        · rw [e]; exact hb
        · exact hall x (by omega), by simp (disch := omega) only [getK_set, Nat.reduceEqDiff, ↓reduceIte, g0, g1, g2, g3, g4, and_self, Int.natCast_add, Int.natCast_one]⟩
    | false =>
      have hhm : hm n m = t := hm_eq (Nat.zero_le _) (by omega) (fun x _ hx => hall x hx) hb
      simp (disch := omega) only [f102_r6, w_reg, w_seq, w_cond, w_block, w_exit, seqK_n, seqK_e, atK_e, loopK_e, ckB_b, cbB_b, true_and, x_nil, x_mv, x_as, x_bin, kx, rvP_ok, okv_some, ev_t, ev_c, getV_some, putD_some, bin_add, of1, getK_set, Nat.reduceEqDiff, ↓reduceIte, Bool.false_eq_true, g7, fw64]
      have hU0 : prU n f L m (t + 1) = [] := by
        unfold prU
        rw [List.flatMap_eq_nil_iff]
        intro a ha
        have ha : a < t + 1 := by simpa using ha
        unfold prG
        rw [if_pos]
        by_cases e : a = t
        · exact .inr (by rw [hhm]; exact e)
        · exact .inl (hall a (by omega))
      refine W_loop (f102_O h1 n m f I idn idY idL idG id L pre.length) (fun x => n - x) ?_ (t + 1) ⟨by omega, by omega, Nat.le_refl _, u, g, by rw [hU0]; exact hi0, by rw [hhm]; simp (disch := omega) only [getK_set, Nat.reduceEqDiff, ↓reduceIte, g0, g1, g2, g3, g4, g7, and_self, Int.natCast_add, Int.natCast_one]⟩
      clear g0 g1 g2 g3 g4 g7 fr
      rintro x fr h2 ⟨hx1, hx2, nx2, u1, G, hI2, g0, g1, g2, g3, g4, g7, g8⟩
      rw [hhm] at g7 hx1
      have ln2 : loadV h2 (.p idn 0) one? = .ok (.i .i64 (n : Int)) h2 := load_p G.eN rfl
      unfold f102_l1
      by_cases hlt : x < n
      · have d0 : decide ((x : Int) < (n : Int)) = true := decide_eq_true (by omega)
        have hsplit := prU_succ (n := n) (f := f) (L := L) (m := m) (x := x)
        simp (disch := omega) only [f102_r7, f102_r8, w_skip, w_reg, w_seq, w_cond, w_block, seqK_n, ckB_b, cbB_b, true_and, x_nil, x_mv, x_ld, x_bin, x_call, kx, rvP_ok, okv_some, ev_t, ev_c, evs_nil, evs_cons, getV_some, putD_some, bin_lss, getK_set, Nat.reduceEqDiff, ↓reduceIte, g0, g1, g8, ln2, d0]
        refine (callP_0 (ef := f76) kk.p76 rfl (f76_ret hmx (show x ≤ 15 by omega))).mono ?_
        rintro r h3 ⟨rfl, e3⟩
        rw [e3]
        clear e3 h3
        cases hbx : m.testBit x with
        | true =>
          have hsub : prG n (prE n f) L m x = [] := by unfold prG; rw [if_pos (.inl hbx)]
          simp (disch := omega) only [f102_r13, w_reg, w_cond, w_exit, seqK_n, seqK_e, atK_e, loopK_n, ckB_b, cbB_b, true_and, x_nil, x_mv, x_as, x_bin, kx, rvP_ok, okv_some, ev_t, ev_c, getV_some, putD_some, bin_add, of1, getK_set, Nat.reduceEqDiff, ↓reduceIte, g8, fw64]
          exact ⟨x + 1, by omega, by omega, by omega, nx2, u1, G, by rw [hsplit, hsub, List.append_nil]; exact hI2, by rw [hhm]; simp (disch := omega) only [getK_set, Nat.reduceEqDiff, ↓reduceIte, g0, g1, g2, g3, g4, g7, and_self, Int.natCast_add, Int.natCast_one]⟩
        | false =>
          have hson : prG n (prE n f) L m x = prE n f (L ++ [((t : Int), (x : Int))]) (m ||| 2 ^ t ||| 2 ^ x) := by
            unfold prG
            rw [if_neg (by rw [hbx, hhm]; intro h; rcases h with h | h; cases h; omega), hhm]
          have s2 := s.on ht hlt hb hbx (by omega)
          have lL : loadV h2 (.p idL 0) one? = .ok u1 h2 := load_p G.eL rfl
          obtain ⟨u3, h3, a1, a2, _, a4, a5⟩ := Sk.push (b := 0) qE_len (by omega) (x := ((t : Int), (x : Int))) G.sk (fun _ _ _ _ _ => Nat.zero_le _) (Nat.zero_le _) G.hc (by omega)
          have a1' : appV 2 (h2.new (.cells (1 * 2) [.i .i64 (t : Int), .i .i64 (x : Int)])) u1 (.sl h2.nx 0 1 2) = .ok u3 h3 := a1
          have lt := fun x hx => G.lt (x := x) hx
          obtain ⟨qN, nN3⟩ := a5 idn (lt _ (.inl rfl)) G.nN
          obtain ⟨qY, nY3⟩ := a5 idY (lt _ (.inr (.inl rfl))) G.nY
          obtain ⟨qL, nL3⟩ := a5 idL (lt _ (.inr (.inr (.inl rfl)))) G.nL
          obtain ⟨qG, nG3⟩ := a5 idG (lt _ (.inr (.inr (.inr (.inl rfl))))) G.nG
          have hc3 := a4.hc G.hc
          have s3 := st1 (h := h3) (id := idL) (a := u1) (c := u3) (qL.trans G.eL) a2.one
          have lL3 : idL.nat < h3.nx.nat := Nat.lt_of_lt_of_le (lt _ (.inr (.inr (.inl rfl)))) a4.nx
          have G4 : PS idn idY idL idG id n (prgV idn idY idL idG) (h3.put idL (.cells 1 [u3])) u3 (L ++ [((t : Int), (x : Int))]) :=
            ⟨(Grow.put (b := 0) (Nat.zero_le _) lL3 _).hc hc3, by rw [get_put_other G.lN.symm, qN]; exact G.eN, by rw [get_put_other G.lY.symm, qY]; exact G.eY, by rw [get_put_other G.lG.symm, qG]; exact G.eG, get_put_same, a2.put nL3 _, nN3, nY3, nL3, nG3, G.lN, G.lY, G.lG⟩
          have hI4 : I (pre.length + (prU n f L m x).length) (Pr idn idY idL idG u3) (h3.put idL (.cells 1 [u3])) := hI _ _ _ _ _ hI2 a4.nx G4.hc (fun y hy hS => by
            rw [get_put_other (fun e => hS (.inr (.inr (.inl e))))]
            exact (a5 y hy (by
              apply Classical.byContradiction
              intro hno
              exact hS (.inr (.inr (.inr (.inr hno)))))).1) (fun y hy => by
            rcases hy with hy | hy | hy | hy | hy
            · exact .inl (.inl hy)
            · exact .inl (.inr (.inl hy))
            · exact .inl (.inr (.inr (.inl hy)))
            · exact .inl (.inr (.inr (.inr (.inl hy))))
            · by_cases hlty : y.nat < h2.nx.nat
              · left
                refine .inr (.inr (.inr (.inr fun hn => hy (a5 y hlty hn).2)))
              · exact .inr (by omega))
          have nx4 : h2.nx.nat ≤ (h3.put idL (.cells 1 [u3])).nx.nat := a4.nx
          simp (disch := omega) only [f102_r9, w_skip, w_reg, w_draw, w_seq, w_cond, seqK_n, ckB_b, cbB_b, true_and, x_nil, x_mv, x_build, x_bslice, x_ld, x_st, x_app, kx, rvP_ok, ev_t, getV_some, putD_some, putD_none, oGet_s, cells1_i, of0, getK_set, Nat.reduceEqDiff, ↓reduceIte, Bool.false_eq_true, fill_2, set_2, cells2, g3, g7, g8, lL, fill_2, set_2, cells2, fill_p2, set_p2, a1', s3]
          generalize h3.put idL (.cells 1 [u3]) = h4 at *
          have lG4 : loadV h4 (.p idG 0) one? = .ok (prgV idn idY idL idG) h4 := load_p G4.eG rfl
          simp (disch := omega) only [f102_r10, true_and, x_call, kg, xg_nil, xg_mv, xg_ld, xd_cons, fresh_nil, stK_s, stay_nil, rvP_ok, ev_t, ev_c, evs_nil, evs_cons, getV_some, putD_some, getK_set, Nat.reduceEqDiff, ↓reduceIte, g0, g4, g7, g8, lG4]
          refine (callP_0 (ef := f83) kk.p83 rfl (f83_ret hmx (show t ≤ 15 by omega))).mono ?_
          rintro r h5 ⟨rfl, e5⟩
          rw [e5]
          clear e5 h5
          have hm1 : m ||| 2 ^ t ≤ 65535 := (s.msk.snoc (show t ≤ 15 by omega)).1
          have bpp : ∀ q : K, beq1 (.p q 0) (.p q 0) = true := fun q => by
            show (q.beq q && Nat.beq 0 0) = true
            rw [K.beq_refl]; rfl
          have bfv : beqV (prgV idn idY idL idG) (prgV idn idY idL idG) = true := by
            show (K.beq (K.ofNat 102) (K.ofNat 102) && (beq1 (.p idn 0) (.p idn 0) && (beq1 (.p idY 0) (.p idY 0) && (beq1 (.p idL 0) (.p idL 0) && (beq1 (.p idG 0) (.p idG 0) && true))))) = true
            rw [K.beq_refl, bpp, bpp, bpp, bpp]; rfl
          simp (disch := omega) only [true_and, x_nil, x_call, kx, xg_nil, xd_cons, fresh_nil, stK_s, stay_nil, stay_cons, again_ok, stay_mv, beq_i, stay_ld, ev_t, ev_c, evs_nil, evs_cons, getV_some, putD_some, getK_set, Nat.reduceEqDiff, ↓reduceIte, g4, g8, lG4, bfv]
          refine (callP_0 (ef := f83) kk.p83 rfl (f83_ret hm1 (show x ≤ 15 by omega))).mono ?_
          rintro r h5 ⟨rfl, e5⟩
          rw [e5]
          clear e5 h5
          simp (disch := omega) only [true_and, x_nil, x_call, kx, xg_nil, xd_cons, fresh_nil, stK_s, stay_nil, stay_cons, again_ok, stay_ld, ev_t, evs_nil, evs_cons, getV_some, putD_some, getK_set, Nat.reduceEqDiff, ↓reduceIte, g4, lG4, bfv]
          obtain ⟨R, hR⟩ := prU_split (n := n) (f := f) (L := L) (m := m) (x := x) n hlt
          have hen : prE n (f + 1) L m = prU n f L m n := rfl
          refine (ih (L ++ [((t : Int), (x : Int))]) (m ||| 2 ^ t ||| 2 ^ x) (pre ++ prU n f L m x) (R ++ post) h4 u3 s2 (by rw [hY, hen, hR, hson]; simp) G4 (by rw [List.length_append]; exact hI4)).mono ?_
          rintro r h7 ⟨q, rfl, hqt, hqf⟩
          cases q with
          | false =>
            simp (disch := omega) only [f102_r11, f102_rs, w_reg, w_seq, w_cond, w_ret, seqK_n, seqK_r, atK_r, loopK_r, ckB_b, cbB_b, true_and, retK_r, x_nil, x_as, kx, kg, xg_nil, xg_not, xd_cons, fresh_nil, stK_n, stay_nil, rvP_ok, ev_t, ev_c, getV_some, putD_some, onB_b, oGet_s, readRs_nil, readRs_t, retV_1, Option.some.injEq, exists_eq_left', getK_set, ↓reduceIte, Bool.not_false]
            exact ⟨false, rfl, fun h => (by cases h), fun _ => hqf rfl⟩
          | true =>
            obtain ⟨u7, G7, I7, nx7⟩ := hqt rfl
            have lL7 : loadV h7 (.p idL 0) one? = .ok u7 h7 := load_p G7.eL rfl
            have hl7 : ∀ h1, lenV u7 h1 = .ok (.i .i64 ((L.length + 1 : Nat) : Int)) h1 := fun h1 => by rw [G7.sk.len]; simp
            have hsb : ((L.length + 1 : Nat) : Int) - 1 = (L.length : Int) := by omega
            obtain ⟨v8, c1, c2, c3, c4⟩ := Sk.cut (kk := .i64) qE_len (u := L.length) G7.sk (by simp)
            rw [List.take_left] at c2
            have s7 := st1 (h := h7) (id := idL) (a := u7) (c := v8) G7.eL c2.one
            have G8 := G7.write c2 (c4 _ G7.nN) (c4 _ G7.nY) (c4 _ G7.nL) (c4 _ G7.nG)
            have I8 : I ((pre ++ prU n f L m x).length + (prE n f (L ++ [((t : Int), (x : Int))]) (m ||| 2 ^ t ||| 2 ^ x)).length) (Pr idn idY idL idG v8) (h7.put idL (.cells 1 [v8])) := hI _ _ _ _ _ I7 (Nat.le_refl _) G8.hc (fun y hy hS => get_put_other (fun e => hS (.inr (.inr (.inl e))))) (fun y hy => by
              rcases hy with hy | hy | hy | hy | hy
              · exact .inl (.inl hy)
              · exact .inl (.inr (.inl hy))
              · exact .inl (.inr (.inr (.inl hy)))
              · exact .inl (.inr (.inr (.inr (.inl hy))))
              · exact .inl (.inr (.inr (.inr (.inr fun hn => hy (c4 y hn))))))
            simp (disch := omega) only [f102_r12, f102_r13, w_skip, w_reg, w_cond, seqK_n, atK_n, loopK_n, ckB_b, cbB_b, true_and, x_nil, x_mv, x_as, x_ld, x_st, x_bin, x_slice, sliceV_eq, Option.map_none, Option.map_some, x_len, kx, kg, xg_nil, xg_not, xd_cons, fresh_nil, stK_n, stay_nil, rvP_ok, okv_some, ev_t, ev_c, getV_some, putD_some, putD_none, bin_add, bin_sub, onB_b, of1, getK_set, Nat.reduceEqDiff, ↓reduceIte, Bool.false_eq_true, Bool.not_true, g3, g8, lL7, hl7, hsb, c1, s7, fw64]
            refine ⟨x + 1, by omega, by omega, by omega, ?_, v8, G8, ?_, by rw [hhm]; simp (disch := omega) only [getK_set, Nat.reduceEqDiff, ↓reduceIte, g0, g1, g2, g3, g4, g7, and_self, Int.natCast_add, Int.natCast_one]⟩
            · show h1.nx.nat ≤ h7.nx.nat
              omega
            · have : pre.length + (prU n f L m (x + 1)).length = (pre ++ prU n f L m x).length + (prE n f (L ++ [((t : Int), (x : Int))]) (m ||| 2 ^ t ||| 2 ^ x)).length := by rw [hsplit, hson]; simp; omega
              rw [this]; exact I8
      · have d0 : decide ((x : Int) < (n : Int)) = false := decide_eq_false (by omega)
        obtain rfl : x = n := by omega
        simp (disch := omega) only [f102_r7, f102_r14, f102_rs, w_reg, w_seq, w_cond, w_exit, w_ret, seqK_n, seqK_e, atK_e, loopK_e, ckB_b, cbB_b, true_and, retK_r, x_nil, x_mv, x_as, x_ld, x_bin, kx, rvP_ok, okv_some, ev_t, ev_c, getV_some, putD_some, bin_lss, oGet_s, readRs_nil, readRs_t, retV_1, Option.some.injEq, exists_eq_left', getK_set, Nat.reduceEqDiff, ↓reduceIte, Bool.false_eq_true, g1, g8, ln2, d0]
        exact ⟨true, rfl, fun _ => ⟨u1, G, hI2, nx2⟩, fun h => by cases h⟩
end
end Go.Ev
namespace Go.Ev
open Go Go.RowKit
section
variable {fs : T EF}
structure CallsPn (fs : T EF) : Prop extends CallsPg fs where
  p91 : fs.get (K.ofNat 91) = some f91
  p101 : fs.get (K.ofNat 101) = some f101
/-- The function, called with a body, goes through these rounds: each is a new slice. -/
def YieldsP (fs : T EF) (k : K) (caps : List V) (idn : K) (n : Nat) (Y : List (List (Int × Int))) : Prop :=
  ∀ (id : K) (I : Nat → (K → Prop) → H → Prop) (D : H → Prop) (h : H), Stab I → HC h → h.get idn = .cells 1 [.i .i64 (n : Int)] → I 0 (fun x => x = idn) h → RoundP fs id I D Y →
    CallP fs (.fn k caps) [.yl id] h fun r h' => r = .tup [] ∧ ((∃ S, I Y.length S h' ∧ HC h' ∧ h.nx.nat ≤ h'.nx.nat) ∨ D h')
theorem st_0 {n : Nat} (hn : n ≤ 10) (he : n % 2 = 0) : St n [] 0 (n / 2) := ⟨Msk.nil, List.nodup_nil, fun x hx => absurd hx (by simp [plL]), by simp; omega, hn⟩
theorem pair_yields {idn : K} {n : Nat} (kk : CallsPn fs) (hn2 : 2 ≤ n) (hn : n ≤ 10) (he : n % 2 = 0) : YieldsP fs (K.ofNat 101) [.p idn 0] idn n (prE n (n / 2) [] 0) := by
  intro id I D h hI hc hn0 hi round
  refine callP_of (ef := f101) kk.p101 rfl ?_
  show Ret fs f101 [.yl id, .p idn 0] h _
  apply ret_of rfl
  show W fs none f101_c _ _ _
  unfold f101_c
  have c1 : cellsN 1 (.yl id) = some [.yl id] := rfl
  have n1 := nx_new h (.cells 1 [.yl id])
  have g1 : Grow h.nx.nat h (h.new (.cells 1 [.yl id])) := Grow.new (Nat.le_refl _) _
  have eY : (h.new (.cells 1 [.yl id])).get h.nx = .cells 1 [.yl id] := get_new_same
  generalize hh1 : h.new (.cells 1 [.yl id]) = h1 at *
  have n2 := nx_new h1 (.cells 1 [.sn])
  have g2 : Grow h1.nx.nat h1 (h1.new (.cells 1 [.sn])) := Grow.new (Nat.le_refl _) _
  have eL : (h1.new (.cells 1 [.sn])).get h1.nx = .cells 1 [.sn] := get_new_same
  simp (disch := omega) only [f101_r0, f101_r1, w_reg, w_seq, seqK_n, x_nil, x_alloc, x_box, kx, rvP_ok, ev_t, getV_some, putD_some, oGet_s, frame_2, getK_set, Nat.reduceEqDiff, ↓reduceIte, c1, hh1]
  generalize h1.new (.cells 1 [.sn]) = h2 at *
  have n3 := nx_new h2 (.cells 1 [.fnil])
  have s3 := st1 (h := h2.new (.cells 1 [.fnil])) (id := h2.nx) (a := .fnil) (c := prgV idn h.nx h1.nx h2.nx) get_new_same rfl
  have g3 : Grow h2.nx.nat h2 ((h2.new (.cells 1 [.fnil])).put h2.nx (.cells 1 [prgV idn h.nx h1.nx h2.nx])) := (Grow.new (Nat.le_refl _) _).trans (Grow.put (Nat.le_refl _) (by omega) _)
  have eG : ((h2.new (.cells 1 [.fnil])).put h2.nx (.cells 1 [prgV idn h.nx h1.nx h2.nx])).get h2.nx = .cells 1 [prgV idn h.nx h1.nx h2.nx] := get_put_same
  have n3' : ((h2.new (.cells 1 [.fnil])).put h2.nx (.cells 1 [prgV idn h.nx h1.nx h2.nx])).nx.nat = h2.nx.nat + 1 := n3
  have hfv : V.fn (K.ofNat 102) [.p idn 0, .p h.nx 0, .p h1.nx 0, .p h2.nx 0] = prgV idn h.nx h1.nx h2.nx := rfl
  simp (disch := omega) only [f101_r2, f101_r3, w_reg, w_seq, seqK_n, x_nil, x_alloc, x_st, x_mkfn, kx, rvP_ok, ev_t, evs_nil, evs_cons, getV_some, putD_some, putD_none, getK_set, Nat.reduceEqDiff, ↓reduceIte, hfv, s3]
  generalize (h2.new (.cells 1 [.fnil])).put h2.nx (.cells 1 [prgV idn h.nx h1.nx h2.nx]) = h3 at *
  have lG : loadV h3 (.p h2.nx 0) one? = .ok (prgV idn h.nx h1.nx h2.nx) h3 := load_p eG rfl
  have gA : Grow h.nx.nat h h3 := g1.trans ((g2.low (by omega)).trans (g3.low (by omega)))
  have lnn := hc.cells hn0
  have G : PS idn h.nx h1.nx h2.nx id n (prgV idn h.nx h1.nx h2.nx) h3 .sn [] :=
    ⟨gA.hc hc, (gA.old _ lnn).trans hn0, by rw [g3.old _ (by omega), g2.old _ (by omega)]; exact eY, eG, by rw [g3.old _ (by omega)]; exact eL, Sk.nil, NotIn.sn, NotIn.sn, NotIn.sn, NotIn.sn, (kNe (by omega)).symm, (kNe (by omega)).symm, kNe (by omega)⟩
  have hI3 : I 0 (Pr idn h.nx h1.nx h2.nx .sn) h3 := hI _ _ _ _ _ hi gA.nx G.hc (fun x hx _ => gA.old x hx) (fun x hx => by
    rcases hx with rfl | rfl | rfl | rfl | hx
    · exact .inl rfl
    · exact .inr (Nat.le_refl _)
    · exact .inr (by omega)
    · exact .inr (by omega)
    · exact absurd NotIn.sn hx)
  have z0 : V.i .u16 0 = V.i .u16 ((0 : Nat) : Int) := rfl
  simp (disch := omega) only [f101_r4, x_ld, x_call, kx, rvP_ok, ev_t, ev_c, evs_nil, evs_cons, getV_some, putD_some, of0, getK_set, Nat.reduceEqDiff, ↓reduceIte, lG, z0]
  refine (pair_call (D := D) (Y := prE n (n / 2) [] 0) kk.toCallsPg hn2 hI round (n / 2) [] 0 [] [] h3 .sn (st_0 hn he) (by simp) G hI3).mono ?_
  rintro r h5 ⟨t, rfl, ht, hf⟩
  simp (disch := omega) only [f101_rs, true_and, retK_n, x_nil, kx, putD_some, readRs_nil, retV_0, Option.some.injEq, exists_eq_left', true_and]
  cases t with
  | true => obtain ⟨u', w1, w2, w3⟩ := ht rfl; exact .inl ⟨_, by simpa using w2, w1.hc, Nat.le_trans gA.nx w3⟩
  | false => exact .inr (hf rfl)
/-- What a body leaves. -/
structure Lv (S : K → Prop) (h h' : H) : Prop where
  nx : h.nx.nat ≤ h'.nx.nat
  hc : HC h'
  old : ∀ x, S x → h'.get x = h.get x
/-- A loop over all rounds. -/
theorem W_rangeP {ro : Option K} {f : EO} {k : K} {caps : List V} {p : K} {a c : EC} {fr : Fr} {h : H} {Q : Ex → Fr → H → Prop} {n : Nat} {idn : K} {Y : List (List (Int × Int))} (hro : roOk ro h = true) (hf : ev fr f = .fn k caps) (hy : YieldsP fs k caps idn n Y) (hch : HC h) (hn0 : h.get idn = .cells 1 [.i .i64 (n : Int)])
    (I : Nat → (K → Prop) → H → Prop) (D : Ex → H → Prop) (hI : Stab I) (hI0 : I 0 (fun x => x = idn) (h.new (rdyB fr [p] a c)))
    (step : ∀ i S h1 h2 v (hi : i < Y.length), I i S h1 → HC h1 → Grow h1.nx.nat h1 h2 → h.nx.nat < h1.nx.nat → h2.get h.nx = rdyB fr [p] a c → (∀ x, S x → x.nat < h1.nx.nat) → ¬ S h.nx → Sk 2 qE h2 v Y[i] → Own h1.nx.nat v →
      W fs (some h.nx) a (rndA fs h.nx fr [p] a c (fun h3 => I (i + 1) S h3 ∧ Lv S h2 h3) (fun e h3 => D e h3 ∧ Lv S h2 h3)) (fr.set p v) h2)
    (fin : ∀ S h1, I Y.length S h1 → HC h1 → h.nx.nat < h1.nx.nat → ¬ S h.nx → Q .normal fr (h1.put h.nx .dead)) (brk : ∀ e h1, e ≠ .normal → D e h1 → Q e fr h1) : W fs ro (.rangeF f [p] a c) Q fr h := by
  have n1 := nx_new h (rdyB fr [p] a c)
  have g1 : Grow h.nx.nat h (h.new (rdyB fr [p] a c)) := Grow.new (Nat.le_refl _) _
  have lnn := hch.cells hn0
  have key := hy h.nx (fun i S h1 => I i S h1 ∧ h1.get h.nx = rdyB fr [p] a c ∧ ¬ S h.nx ∧ h.nx.nat < h1.nx.nat) (fun h1 => ∃ e, e ≠ .normal ∧ D e (h1.put h.nx .dead) ∧ h1.get h.nx = .loop .done (some e) fr [p] a c) (h.new (rdyB fr [p] a c))
    (fun i S S' h1 h2 ⟨q1, q2, q3, q4⟩ w1 w2 w3 w4 => ⟨hI _ _ _ _ _ q1 w1 w2 w3 w4, (w3 _ q4 q3).trans q2, fun hs => by rcases w4 _ hs with w | w; exact q3 w; omega, by omega⟩)
    (g1.hc hch) ((g1.old _ lnn).trans hn0) ⟨hI0, get_new_same, fun e => by have e : h.nx = idn := e; rw [e] at lnn; omega, by omega⟩ ?_
  · obtain ⟨m, r, h1, hc, rfl, hq⟩ := key
    rcases hq with ⟨S, ⟨hI, hb, hS, hlt⟩, hc1, hn1⟩ | ⟨e, hne, hD, hb⟩
    · exact ⟨.normal, fr, _, Runs.range hro hf ⟨m, hc⟩ hb (.inl ⟨rfl, rfl, rfl⟩), fin S h1 hI hc1 hlt hS⟩
    · exact ⟨e, fr, _, Runs.range hro hf ⟨m, hc⟩ hb (.inr ⟨rfl, rfl⟩), brk e _ hne hD⟩
  · rintro i S h0 h1 v hi ⟨hI, hb, hS, hlt⟩ hc0 hG hSl sv ov
    have hb1 : h1.get h.nx = rdyB fr [p] a c := (hG.old _ hlt).trans hb
    obtain ⟨e1, fr1, h2, r1, rfl, hb2, hw⟩ := W_ok _ _ _ _ (step i S h0 h1 v hi hI hc0 hG hlt hb1 hSl hS sv ov)
    obtain ⟨e2, fr2, h3, r2, hb3, hq⟩ := W_ok _ _ _ _ hw
    have l3 : ∀ x, Lv S h1 (h3.put h.nx x) → Lv S h1 (h3.put h.nx (afterR e2 fr [p] a c)) := fun x hm => by
      have hlt3 : h.nx.nat < h3.nx.nat := by have : h1.nx.nat ≤ (h3.put h.nx x).nx.nat := hm.nx; have e : (h3.put h.nx x).nx = h3.nx := rfl; rw [e] at this; have := hG.nx; omega
      refine ⟨hm.nx, fun id hid => ?_, fun y hy => ?_⟩
      · have := hm.hc id hid
        have hne : id ≠ h.nx := fun e => by rw [e] at hid; have e3 : (h3.put h.nx (afterR e2 fr [p] a c)).nx = h3.nx := rfl; rw [e3] at hid; omega
        rw [get_put_other hne] at this ⊢; exact this
      · have := hm.old y hy
        have hne : y ≠ h.nx := fun e => hS (by rw [← e]; exact hy)
        rw [get_put_other hne] at this ⊢; exact this
    have hlv : Lv S h1 (h3.put h.nx (afterR e2 fr [p] a c)) := by cases e2 <;> exact l3 _ hq.2
    refine ⟨isNo e2, h3.put h.nx (afterR e2 fr [p] a c), round_of hb1 rfl r1 hb2 r2 hb3, hlv.nx, hlv.hc, hlv.old, fun he => ?_, fun he => ?_⟩
    · cases e2 <;> first | exact ⟨hq.1, get_put_same, hS, by have := hlv.nx; have := hG.nx; omega⟩ | cases he
    · cases e2 with
      | normal => cases he
      | exit j => exact ⟨.exit j, by simp, by rw [H.put_put]; exact hq.1, get_put_same⟩
      | ret => exact ⟨.ret, by simp, by rw [H.put_put]; exact hq.1, get_put_same⟩
/-- pairings gives the function that goes through them. -/
theorem f91_ret {h : H} {n : Nat} (hc : HC h) : Ret fs f91 [.i .i64 (n : Int)] h fun r h' => r = .fn (K.ofNat 101) [.p h.nx 0] ∧ h'.get h.nx = .cells 1 [.i .i64 (n : Int)] ∧ h'.nx.nat = h.nx.nat + 1 ∧ Grow h.nx.nat h h' := by
  have _ := hc
  apply ret_of rfl
  show W fs none f91_c _ _ _
  unfold f91_c
  have n1 := nx_new h (.cells 1 [.i .i64 (n : Int)])
  have g1 : Grow h.nx.nat h (h.new (.cells 1 [.i .i64 (n : Int)])) := Grow.new (Nat.le_refl _) _
  simp (disch := omega) only [f91_r0, f91_r1, f91_rs, w_reg, w_seq, w_ret, seqK_n, true_and, retK_r, x_nil, x_as, x_box, x_mkfn, kx, rvP_ok, ev_t, ev_c, evs_nil, evs_cons, getV_some, putD_some, oGet_s, readRs_nil, readRs_t, retV_1, frame_1, cells1_i, Option.some.injEq, exists_eq_left', getK_set, Nat.reduceEqDiff, ↓reduceIte]
  exact ⟨get_new_same, n1, g1⟩
end
end Go.Ev
namespace Go.Ev
open Go Go.RowKit
noncomputable def f90_r0 : List EOper := [⟨(some (K.ofNat 2)), none, .box 10 (.t (K.ofNat 0))⟩, ⟨(some (K.ofNat 4)), none, .alloc 2 [(.i .i64 (.ofNat 0)), (.i .i64 (.ofNat 0))]⟩, ⟨(some (K.ofNat 5)), none, .as (.c (.b false))⟩]
noncomputable def f90_r1 : List EOper := [⟨(some (K.ofNat 6)), none, .as (.c (.i .i64 (.ofNat 1)))⟩]
noncomputable def f90_r2 : List EOper := [⟨(some (K.ofNat 7)), none, .mv (.t (K.ofNat 6))⟩, ⟨(some (K.ofNat 8)), none, .mv (.t (K.ofNat 1))⟩, ⟨(some (K.ofNat 9)), none, .bin .lss (.t (K.ofNat 7)) (.t (K.ofNat 8))⟩]
noncomputable def f90_r3 : List EOper := [⟨(some (K.ofNat 12)), none, .iadr 10 1 (.t (K.ofNat 2)) (.c (.i .i64 (.ofNat 0)))⟩, ⟨(some (K.ofNat 13)), none, .ld (.t (K.ofNat 12))⟩, ⟨(some (K.ofNat 14)), none, .mv (.t (K.ofNat 6))⟩, ⟨(some (K.ofNat 15)), none, .call (.c (.fn (K.ofNat 76) [])) [(.t (K.ofNat 13)), (.t (K.ofNat 14))]⟩, ⟨(some (K.ofNat 16)), none, .not (.t (K.ofNat 15))⟩]
noncomputable def f90_r4 : List EOper := [⟨(some (K.ofNat 17)), none, .mv (.t (K.ofNat 6))⟩, ⟨(some (K.ofNat 18)), none, .build [(.i .i64 (.ofNat 0)), (.i .i64 (.ofNat 0))] [(0, 1, (.c (.i .i64 (.ofNat 0)))), (1, 1, (.t (K.ofNat 17)))]⟩, ⟨none, none, .st 2 (.t (K.ofNat 4)) (.t (K.ofNat 18))⟩, ⟨(some (K.ofNat 5)), none, .as (.c (.b true))⟩]
noncomputable def f90_r5 : List EOper := [⟨(some (K.ofNat 10)), none, .mv (.t (K.ofNat 6))⟩, ⟨(some (K.ofNat 11)), none, .bin .add (.t (K.ofNat 10)) (.c (.i .i64 (.ofNat 1)))⟩, ⟨(some (K.ofNat 6)), none, .as (.t (K.ofNat 11))⟩]
noncomputable def f90_l0 : EC := (.seq (.seq (.reg f90_r2) (.cond (.t (K.ofNat 9)) .skip (.exit 0))) (.seq (.block 1 (.seq (.reg f90_r3) (.cond (.t (K.ofNat 16)) (.seq (.reg f90_r4) .ret) .skip))) (.reg f90_r5)))
noncomputable def f90_r6 : List EOper := [⟨(some (K.ofNat 19)), none, .build [(.i .i64 (.ofNat 0)), (.i .i64 (.ofNat 0))] []⟩, ⟨none, none, .st 2 (.t (K.ofNat 4)) (.t (K.ofNat 19))⟩, ⟨(some (K.ofNat 5)), none, .as (.c (.b false))⟩]
noncomputable def f90_c : EC := (.seq (.reg f90_r0) (.seq (.seq (.reg f90_r1) (.block 0 (.loop f90_l0))) (.seq (.reg f90_r6) .ret)))
noncomputable def f90 : EF := ⟨20, [.celln (K.ofNat 4) 2, .tmp (K.ofNat 5)], f90_c, none⟩
theorem f90_rs : f90.rs = [.celln (K.ofNat 4) 2, .tmp (K.ofNat 5)] := of_eq_true (eq_self _)
/-! ### The search -/
def msF (t : Nat) : Nat → Nat → Option Nat
  | 0, _ => none
  | k + 1, a => if t.testBit a then msF t k (a + 1) else some a
/-- The first team that team 0 has not met. -/
def mss (n t : Nat) : Option Nat := msF t (n - 1) 1
/-- Who has met with a round's games, if they are all new. -/
def addR : List Nat → List (Int × Int) → Option (List Nat)
  | T, [] => some T
  | T, e :: r => if (T.getD e.1.toNat 0).testBit e.2.toNat = true then none else addR (metT T e.1.toNat e.2.toNat) r
def tryC (a : Nat) (rec_ : List Nat → Option (List (List (Int × Int)))) (T : List Nat) (r : List (Int × Int)) : Option (List (List (Int × Int))) :=
  if r.getD 0 (0, 0) = (0, (a : Int)) then (match addR T r with | none => none | some T' => (rec_ T').map fun R => r :: R) else none
def cmp (n : Nat) (Y : List (List (Int × Int))) : Nat → List Nat → Option (List (List (Int × Int)))
  | 0, T => match mss n (T.getD 0 0) with | none => some [] | some _ => none
  | f + 1, T => match mss n (T.getD 0 0) with | none => some [] | some a => Y.findSome? (tryC a (cmp n Y f) T)
def unm (n t : Nat) : Nat := ((List.range n).filter fun a => decide (1 ≤ a) && !t.testBit a).length
/-- Games of n teams. -/
def Gm (n : Nat) (r : List (Int × Int)) : Prop := ∀ e ∈ r, (0 ≤ e.1 ∧ e.1 < (n : Int)) ∧ (0 ≤ e.2 ∧ e.2 < (n : Int)) ∧ e.1 ≠ e.2
structure MT (T : List Nat) : Prop where
  len : T.length = 10
  le : ∀ t ∈ T, t ≤ 65535
section
variable {n f m a b k t : Nat} {T T' : List Nat} {r L : List (Int × Int)}
theorem msF_some : ∀ {k a : Nat}, msF t k a = some b → a ≤ b ∧ b < a + k ∧ t.testBit b = false ∧ ∀ x, a ≤ x → x < b → t.testBit x = true
  | 0, _, h => by cases h
  | k + 1, a, h => by
    have h : (if t.testBit a then msF t k (a + 1) else some a) = some b := h
    cases hb : t.testBit a with
    | true =>
      rw [if_pos hb] at h
      obtain ⟨h1, h2, h3, h4⟩ := msF_some h
      refine ⟨by omega, by omega, h3, fun x hx hx2 => ?_⟩
      by_cases e : x = a
      · rw [e]; exact hb
      · exact h4 x (by omega) hx2
    | false =>
      rw [if_neg (by rw [hb]; simp)] at h
      obtain rfl : a = b := by injection h
      exact ⟨Nat.le_refl _, by omega, hb, fun x h1 h2 => by omega⟩
theorem msF_none : ∀ {k a : Nat}, msF t k a = none → ∀ x, a ≤ x → x < a + k → t.testBit x = true
  | 0, _, _, x, h1, h2 => by omega
  | k + 1, a, h, x, h1, h2 => by
    have h : (if t.testBit a then msF t k (a + 1) else some a) = none := h
    cases hb : t.testBit a with
    | true =>
      rw [if_pos hb] at h
      by_cases e : x = a
      · rw [e]; exact hb
      · exact msF_none h x (by omega) (by omega)
    | false => rw [if_neg (by rw [hb]; simp)] at h; cases h
theorem mss_some (h : mss n t = some b) : 1 ≤ b ∧ b < n ∧ t.testBit b = false ∧ ∀ x, 1 ≤ x → x < b → t.testBit x = true := by
  obtain ⟨h1, h2, h3, h4⟩ := msF_some h
  exact ⟨h1, by omega, h3, h4⟩
theorem mss_none (h : mss n t = none) : ∀ x, 1 ≤ x → x < n → t.testBit x = true := fun x h1 h2 => msF_none h x h1 (by omega)
theorem unm_pos (h : mss n t = some b) : 0 < unm n t := by
  obtain ⟨h1, h2, h3, _⟩ := mss_some h
  exact List.length_pos_of_mem (a := b) (List.mem_filter.2 ⟨by simpa using h2, by rw [h3, decide_eq_true h1]; rfl⟩)
theorem unm_lt {t' : Nat} (hm : ∀ x, t.testBit x = true → t'.testBit x = true) (h1 : 1 ≤ b) (h2 : b < n) (h3 : t.testBit b = false) (h4 : t'.testBit b = true) : unm n t' < unm n t := by
  unfold unm
  have hd : ((List.range n).filter fun a => decide (1 ≤ a) && !t'.testBit a).Nodup := List.nodup_range.filter _
  have := nodup_le (l := b :: (List.range n).filter fun a => decide (1 ≤ a) && !t'.testBit a) (m := (List.range n).filter fun a => decide (1 ≤ a) && !t.testBit a) (List.nodup_cons.2 ⟨fun hmem => by
    have := (List.mem_filter.1 hmem).2
    rw [h4] at this; simp at this, hd⟩) fun x hx => by
    rcases List.mem_cons.1 hx with rfl | hx
    · exact List.mem_filter.2 ⟨by simpa using h2, by rw [h3, decide_eq_true h1]; rfl⟩
    · obtain ⟨x1, x2⟩ := List.mem_filter.1 hx
      refine List.mem_filter.2 ⟨x1, ?_⟩
      simp only [Bool.and_eq_true, Bool.not_eq_true', decide_eq_true_eq] at x2 ⊢
      refine ⟨x2.1, ?_⟩
      cases hb : t.testBit x with
      | false => rfl
      | true => rw [hm x hb] at x2; cases x2.2
  rw [List.length_cons] at this
  omega
theorem MT.get (h : MT T) {i : Nat} : T.getD i 0 ≤ 65535 := by
  by_cases hi : i < T.length
  · rw [getD_at hi]; exact h.le _ (List.getElem_mem hi)
  · rw [List.getD_eq_getElem?_getD, List.getElem?_eq_none (by omega)]; simp
theorem MT.add (h : MT T) (ha : a < 10) (hb : b < 10) : MT (metT T a b) := by
  refine ⟨by rw [metT_len]; exact h.len, fun t ht => ?_⟩
  unfold metT at ht
  rcases List.mem_or_eq_of_mem_set ht with ht | ht
  · rcases List.mem_or_eq_of_mem_set ht with ht | ht
    · exact h.le t ht
    · rw [ht]; exact or_le h.get (by omega)
  · rw [ht]; exact or_le h.get (by omega)
theorem met_mono (h : MT T) (ha : a < 10) (hb : b < 10) {i x : Nat} (hx : (T.getD i 0).testBit x = true) : ((metT T a b).getD i 0).testBit x = true := by
  rw [metT_get h.len ha hb]
  split
  · rename_i e; rw [Nat.testBit_or, e, hx]; rfl
  · split
    · rename_i e; rw [Nat.testBit_or, e, hx]; rfl
    · exact hx
theorem addR_mt (hn : n ≤ 10) : ∀ {r : List (Int × Int)} {T T' : List Nat}, MT T → Gm n r → addR T r = some T' → MT T' ∧ ∀ i x, (T.getD i 0).testBit x = true → (T'.getD i 0).testBit x = true
  | [], T, T', h, _, e => by
    obtain rfl : T = T' := by injection e
    exact ⟨h, fun _ _ h => h⟩
  | g :: r, T, T', h, hg, e => by
    have e : (if (T.getD g.1.toNat 0).testBit g.2.toNat = true then none else addR (metT T g.1.toNat g.2.toNat) r) = some T' := e
    have hgg := hg g (by simp)
    split at e
    · cases e
    · obtain ⟨h1, h2⟩ := addR_mt hn (h.add (a := g.1.toNat) (b := g.2.toNat) (by omega) (by omega)) (fun x hx => hg x (by simp [hx])) e
      exact ⟨h1, fun i x hx => h2 i x (met_mono h (by omega) (by omega) hx)⟩
/-- A round with the missing game, whose games are all new: fewer are missing. -/
theorem unm_step (hn : n ≤ 10) (h : MT T) (hg : Gm n r) (hm : mss n (T.getD 0 0) = some a) (h0 : r.getD 0 (0, 0) = (0, (a : Int))) (hne : r ≠ []) (e : addR T r = some T') : unm n (T'.getD 0 0) < unm n (T.getD 0 0) := by
  obtain ⟨m1, m2, m3, m4⟩ := mss_some hm
  obtain ⟨h1, h2⟩ := addR_mt hn h hg e
  refine unm_lt (h2 0) m1 m2 m3 ?_
  cases r with
  | nil => exact absurd rfl hne
  | cons g r =>
    have h0 : g = (0, (a : Int)) := h0
    subst h0
    have e : (if (T.getD 0 0).testBit a = true then none else addR (metT T 0 a) r) = some T' := e
    rw [if_neg (by rw [m3]; simp)] at e
    obtain ⟨_, h3⟩ := addR_mt hn (h.add (a := 0) (b := a) (by omega) (by omega)) (fun x hx => hg x (by simp [hx])) e
    refine h3 0 a ?_
    rw [metT_get h.len (by omega) (by omega), if_neg (by omega), if_pos rfl, Nat.testBit_or, Nat.testBit_two_pow]
    simp
/-- What pairings go through. -/
theorem prE_mem : ∀ {f : Nat} {L : List (Int × Int)} {m : Nat}, St n L m f → ∀ r ∈ prE n f L m, ∃ m', St n r m' 0
  | 0, L, m, s, r, hr => by
    have hr : r ∈ [L] := hr
    rw [List.mem_singleton.1 hr]; exact ⟨m, s⟩
  | f + 1, L, m, s, r, hr => by
    obtain ⟨x, hx, hr⟩ := List.mem_flatMap.1 hr
    have hx : x < n := by simpa using hx
    obtain ⟨t0, ht0, hf0⟩ := s.free
    obtain ⟨t, ht, hbt, hall⟩ : ∃ t, t < n ∧ m.testBit t = false ∧ ∀ x, x < t → m.testBit x = true := by
      clear hr
      induction t0 using Nat.strongRecOn with
      | _ t0 ih =>
        by_cases h : ∃ x, x < t0 ∧ m.testBit x = false
        · obtain ⟨x, h1, h2⟩ := h
          exact ih x h1 (by omega) h2
        · exact ⟨t0, ht0, hf0, fun x hx => by
            cases hb : m.testBit x with
            | true => rfl
            | false => exact absurd ⟨x, hx, hb⟩ h⟩
    have hhm : hm n m = t := hm_eq (Nat.zero_le _) (by omega) (fun x _ hx => hall x hx) hbt
    unfold prG at hr
    split at hr
    · cases hr
    · rename_i hno
      rw [hhm] at hr hno
      have hbx : m.testBit x = false := by
        cases hb : m.testBit x with
        | false => rfl
        | true => exact absurd (.inl hb) hno
      exact prE_mem (s.on ht hx hbt hbx (fun e => hno (.inr e.symm))) r hr
theorem St.gm (s : St n r m 0) : Gm n r := fun e he => by
  have h1 := s.rg _ (pl_mem he).1
  have h2 := s.rg _ (pl_mem he).2
  refine ⟨h1, h2, fun q => ?_⟩
  have := s.nd
  have key : ∀ l : List (Int × Int), (plL l).Nodup → e ∈ l → False := fun l => by
    induction l with
    | nil => intro _ h; cases h
    | cons g l ih =>
      intro hn h
      have hn : (g.1 :: g.2 :: plL l).Nodup := hn
      obtain ⟨n1, n2⟩ := List.nodup_cons.1 hn
      obtain ⟨n3, n4⟩ := List.nodup_cons.1 n2
      rcases List.mem_cons.1 h with h | h
      · subst h; exact n1 (by rw [q]; simp)
      · exact ih n4 h
  exact key r this he
end
/-! ### The first game that is missing -/
section
variable {fs : T EF} {h : H} {n : Nat} {T : List Nat}
theorem cells10 {T : List Nat} (h : T.length = 10) : cellsN 10 (.agg (T.map uE)) = some (T.map uE) := by
  show (bif Nat.beq (lenL (T.map uE)) 10 then some (T.map uE) else none) = _
  rw [lenL_eq, List.length_map, h]; rfl
def msG (o : Option Nat) : V := match o with | none => .agg [.i .i64 0, .i .i64 0] | some a => .agg [.i .i64 0, .i .i64 (a : Int)]
def f90_I (h : H) (id4 : K) (n t : Nat) (id2 : K) (a : Nat) (fr : Fr) (h1 : H) : Prop := 1 ≤ a ∧ a ≤ n ∧ h1 = h ∧ (∀ x, 1 ≤ x → x < a → t.testBit x = true) ∧ msF t (n - a) a = mss n t ∧ fr.get (K.ofNat 1) = some (.i .i64 (n : Int)) ∧ fr.get (K.ofNat 2) = some (.p id2 0) ∧ fr.get (K.ofNat 4) = some (.p id4 0) ∧ fr.get (K.ofNat 6) = some (.i .i64 (a : Int))
theorem f90_ret (k76 : fs.get (K.ofNat 76) = some f76) (hT : MT T) (hn1 : 1 ≤ n) (hn : n ≤ 10) : Ret fs f90 [.agg (T.map uE), .i .i64 (n : Int)] h fun r h' => r = .tup [msG (mss n (T.getD 0 0)), .b (mss n (T.getD 0 0)).isSome] ∧ Grow h.nx.nat h h' := by
  apply ret_of rfl
  show W fs none f90_c _ _ _
  unfold f90_c
  have hcs := cells10 hT.len
  have g1 : Grow h.nx.nat h (h.new (.cells 10 (T.map uE))) := Grow.new (Nat.le_refl _) _
  have n1 := nx_new h (.cells 10 (T.map uE))
  have e1 : (h.new (.cells 10 (T.map uE))).get h.nx = .cells 10 (T.map uE) := get_new_same
  generalize hh1 : h.new (.cells 10 (T.map uE)) = h1 at *
  have n2 := nx_new h1 (.cells 2 [.i .i64 0, .i .i64 0])
  have g2 : Grow h1.nx.nat h1 (h1.new (.cells 2 [.i .i64 0, .i .i64 0])) := Grow.new (Nat.le_refl _) _
  have e2 : (h1.new (.cells 2 [.i .i64 0, .i .i64 0])).get h1.nx = .cells 2 [.i .i64 0, .i .i64 0] := get_new_same
  simp (disch := omega) only [f90_r0, f90_r1, w_reg, w_seq, w_block, seqK_n, x_nil, x_as, x_alloc, x_box, kx, rvP_ok, ev_t, ev_c, getV_some, putD_some, oGet_s, frame_2, of0, of1, getK_set, Nat.reduceEqDiff, ↓reduceIte, hcs, hh1]
  generalize h1.new (.cells 2 [.i .i64 0, .i .i64 0]) = h2 at *
  have e1' : h2.get h.nx = .cells 10 (T.map uE) := (g2.old _ (by omega)).trans e1
  have lt2 : h1.nx.nat < h2.nx.nat := by omega
  have ld : loadV h2 (.p h.nx (0 + 0 * 1)) one? = .ok (.i .u16 (T.getD 0 0 : Int)) h2 := by
    have hl := hT.len
    rw [getD_at (show 0 < T.length by omega)]
    exact Ar.ld (e := uE) (L := T) (by unfold Ar; rw [hl]; exact e1') (i := 0) (by omega)
  have hmx : T.getD 0 0 ≤ 65535 := hT.get
  have gA : Grow h.nx.nat h h2 := g1.trans (g2.low (by omega))
  generalize T.getD 0 0 = t at *
  have e2' := e2
  generalize hid4 : h1.nx = id4 at *
  have hle : h.nx.nat ≤ id4.nat := by omega
  generalize h.nx = id2 at *
  refine W_loop (f90_I h2 id4 n t id2) (fun a => n - a) ?_ 1 ⟨Nat.le_refl _, hn1, rfl, fun x h1 h2 => by omega, rfl, by simp (disch := omega) only [getK_set, Nat.reduceEqDiff, ↓reduceIte, and_self, Int.natCast_one]⟩
  rintro a fr h3 ⟨ha1, ha, rfl, hall, hms, g1', g2', g4, g6⟩
  unfold f90_l0
  by_cases hlt : a < n
  · have d0 : decide ((a : Int) < (n : Int)) = true := decide_eq_true (by omega)
    have ix : ∀ f : Nat → RV, idxV (.i .i64 0) 10 f = f 0 := fun f => rfl
    obtain ⟨k, hk⟩ : ∃ k, n - a = k + 1 := ⟨n - a - 1, by omega⟩
    rw [hk] at hms
    have hms : (if t.testBit a then msF t k (a + 1) else some a) = mss n t := hms
    simp (disch := omega) only [f90_r2, f90_r3, w_skip, w_reg, w_seq, w_cond, w_block, seqK_n, ckB_b, cbB_b, true_and, x_nil, x_mv, x_ld, x_bin, x_iadr, x_call, kx, rvP_ok, okv_some, ev_t, ev_c, evs_nil, evs_cons, getV_some, putD_some, bin_lss, onP_p, of0, getK_set, Nat.reduceEqDiff, ↓reduceIte, g6, g1', g2', d0, ix, ld]
    refine (callP_0 (ef := f76) k76 rfl (f76_ret hmx (show a ≤ 15 by omega))).mono ?_
    rintro r h4 ⟨rfl, e4⟩
    rw [e4]
    clear e4 h4
    cases hb : t.testBit a with
    | true =>
      rw [if_pos hb] at hms
      simp (disch := omega) only [f90_r5, w_skip, w_reg, w_cond, seqK_n, atK_n, loopK_n, ckB_b, cbB_b, true_and, x_nil, x_mv, x_as, x_bin, x_not, kx, rvP_ok, okv_some, ev_t, ev_c, getV_some, putD_some, bin_add, onB_b, of1, getK_set, Nat.reduceEqDiff, ↓reduceIte, Bool.false_eq_true, Bool.not_true, g6, fw64]
      refine ⟨a + 1, by omega, by omega, by omega, rfl, fun x h1 h2 => ?_, by rw [show n - (a + 1) = k by omega]; exact hms, by simp (disch := omega) only [getK_set, Nat.reduceEqDiff, ↓reduceIte, g1', g2', g4, and_self, Int.natCast_add, Int.natCast_one]⟩
      by_cases e : x = a
      · rw [e]; exact hb
      · exact hall x h1 (by omega)
    | false =>
      rw [if_neg (by rw [hb]; simp)] at hms
      have st : storeV h3 2 (.p id4 0) (.agg [.i .i64 0, .i .i64 (a : Int)]) = .ok undefV (h3.put id4 (.cells 2 [.i .i64 0, .i .i64 (a : Int)])) := by
        rw [store_p (cs := [.i .i64 0, .i .i64 0]) (xs := [.i .i64 0, .i .i64 (a : Int)]) e2' rfl (Nat.le_refl 2)]; rfl
      have lr : readP (h3.put id4 (.cells 2 [.i .i64 0, .i .i64 (a : Int)])) (.p id4 0) (many? 2) = some (.agg [.i .i64 0, .i .i64 (a : Int)]) := ldn2_r get_put_same
      simp (disch := omega) only [f90_r4, f90_rs, w_reg, w_seq, w_cond, w_ret, seqK_n, seqK_r, atK_r, loopK_r, ckB_b, cbB_b, true_and, retK_r, x_nil, x_mv, x_as, x_build, x_st, x_not, kx, rvP_ok, ev_t, ev_c, getV_some, putD_some, putD_none, onB_b, oGet_s, readRs_nil, readRs_t, readRs_n, retV_2, cells1_i, of0, Option.some.injEq, exists_eq_left', getK_set, Nat.reduceEqDiff, ↓reduceIte, Bool.not_false, fill_2, set_2, g6, g4, fill_2, set_2, st, lr]
      rw [← hms]
      exact ⟨rfl, gA.trans (Grow.put hle lt2 _)⟩
  · have d0 : decide ((a : Int) < (n : Int)) = false := decide_eq_false (by omega)
    have ea : n - a = 0 := by omega
    rw [ea] at hms
    have hms : none = mss n t := hms
    have st : storeV h3 2 (.p id4 0) (.agg [.i .i64 0, .i .i64 0]) = .ok undefV (h3.put id4 (.cells 2 [.i .i64 0, .i .i64 0])) := by
      rw [store_p (cs := [.i .i64 0, .i .i64 0]) (xs := [.i .i64 0, .i .i64 0]) e2' rfl (Nat.le_refl 2)]; rfl
    have lr : readP (h3.put id4 (.cells 2 [.i .i64 0, .i .i64 0])) (.p id4 0) (many? 2) = some (.agg [.i .i64 0, .i .i64 0]) := ldn2_r get_put_same
    have fil : ∀ fr : Fr, fillE fr [.i .i64 0, .i .i64 0] [] = some [.i .i64 0, .i .i64 0] := fun _ => rfl
    simp (disch := omega) only [f90_r2, f90_r6, f90_rs, w_reg, w_seq, w_cond, w_exit, w_ret, seqK_n, seqK_e, atK_e, loopK_e, ckB_b, cbB_b, true_and, retK_r, x_nil, x_mv, x_as, x_build, x_st, x_bin, kx, rvP_ok, okv_some, ev_t, ev_c, getV_some, putD_some, putD_none, bin_lss, oGet_s, readRs_nil, readRs_t, readRs_n, retV_2, of0, Option.some.injEq, exists_eq_left', getK_set, Nat.reduceEqDiff, ↓reduceIte, Bool.false_eq_true, g6, g1', g4, d0, fil, st, lr]
    rw [← hms]
    exact ⟨rfl, gA.trans (Grow.put hle lt2 _)⟩
end
end Go.Ev
namespace Go.Ev
open Go Go.RowKit
/-- The first team that is free; n if none is. -/
def ft (n m : Nat) : Nat := hmF m n 0
def frn (n m : Nat) : Nat := ((List.range n).filter fun a => !m.testBit a).length
theorem hmF_prop {m : Nat} : ∀ {k s : Nat}, s ≤ hmF m k s ∧ hmF m k s ≤ s + k ∧ (∀ x, s ≤ x → x < hmF m k s → m.testBit x = true) ∧ (hmF m k s < s + k → m.testBit (hmF m k s) = false)
  | 0, s => ⟨Nat.le_refl s, Nat.le_refl s, fun x h1 h2 => by have h2 : x < s := h2; omega, fun h => by have h : s < s + 0 := h; omega⟩
  | k + 1, s => by
    have hd : hmF m (k + 1) s = if m.testBit s then hmF m k (s + 1) else s := rfl
    cases hb : m.testBit s with
    | true =>
      rw [if_pos hb] at hd
      obtain ⟨h1, h2, h3, h4⟩ := hmF_prop (m := m) (k := k) (s := s + 1)
      rw [hd]
      refine ⟨by omega, by omega, fun x hx hx2 => ?_, fun h => h4 (by omega)⟩
      by_cases e : x = s
      · rw [e]; exact hb
      · exact h3 x (by omega) hx2
    | false =>
      rw [if_neg (by rw [hb]; simp)] at hd
      rw [hd]
      exact ⟨Nat.le_refl _, by omega, fun x h1 h2 => by omega, fun _ => hb⟩
theorem ft_prop {n m : Nat} : ft n m ≤ n ∧ (∀ x, x < ft n m → m.testBit x = true) ∧ (ft n m < n → m.testBit (ft n m) = false) := by
  obtain ⟨_, h2, h3, h4⟩ := hmF_prop (m := m) (k := n) (s := 0)
  exact ⟨by unfold ft; omega, fun x hx => h3 x (Nat.zero_le _) hx, fun h => h4 (by unfold ft at h; omega)⟩
section
variable {fs : T EF}
end
end Go.Ev
namespace Go.Ev
open Go Go.RowKit
noncomputable def f89_r0 : List EOper := [⟨(some (K.ofNat 4)), none, .box 10 (.t (K.ofNat 0))⟩, ⟨(some (K.ofNat 5)), none, .alloc 1 [(.b false)]⟩]
noncomputable def f89_r1 : List EOper := [⟨(some (K.ofNat 13)), none, .ldn 10 (.t (K.ofNat 4))⟩, ⟨(some (K.ofNat 14)), none, .ld (.t (K.ofNat 1))⟩, ⟨(some (K.ofNat 15)), none, .call (.c (.fn (K.ofNat 90) [])) [(.t (K.ofNat 13)), (.t (K.ofNat 14))]⟩, ⟨(some (K.ofNat 12)), none, .mv (.t (K.ofNat 15))⟩, ⟨(some (K.ofNat 16)), none, .ext (.t (K.ofNat 12)) 0⟩, ⟨(some (K.ofNat 17)), none, .ext (.t (K.ofNat 12)) 1⟩, ⟨(some (K.ofNat 6)), none, .alloc 2 [(.i .i64 (.ofNat 0)), (.i .i64 (.ofNat 0))]⟩, ⟨none, none, .st 2 (.t (K.ofNat 6)) (.t (K.ofNat 16))⟩, ⟨(some (K.ofNat 7)), none, .as (.t (K.ofNat 17))⟩]
noncomputable def f89_r2 : List EOper := [⟨(some (K.ofNat 18)), none, .mv (.t (K.ofNat 7))⟩, ⟨(some (K.ofNat 19)), none, .not (.t (K.ofNat 18))⟩]
noncomputable def f89_r3 : List EOper := [⟨none, none, .st 1 (.t (K.ofNat 5)) (.c (.b true))⟩]
noncomputable def f89_r4 : List EOper := [⟨(some (K.ofNat 20)), none, .ld (.t (K.ofNat 1))⟩, ⟨(some (K.ofNat 21)), none, .call (.c (.fn (K.ofNat 91) [])) [(.t (K.ofNat 20))]⟩]
noncomputable def f89_r5 : List EOper := [⟨(some (K.ofNat 8)), none, .as (.t (K.ofNat 22))⟩]
noncomputable def f89_a0 : EC := (.reg f89_r5)
noncomputable def f89_r6 : List Stage := [⟨[⟨(some (K.ofNat 23)), none, .mv (.t (K.ofNat 8))⟩, ⟨(some (K.ofNat 24)), none, .iads 2 (.t (K.ofNat 23)) (.c (.i .i64 (.ofNat 0)))⟩, ⟨(some (K.ofNat 25)), none, .ldn 2 (.t (K.ofNat 24))⟩, ⟨(some (K.ofNat 26)), none, .ldn 2 (.t (K.ofNat 6))⟩, ⟨(some (K.ofNat 27)), none, .eqk (.many [(some .i64), (some .i64)]) true (.t (K.ofNat 25)) (.t (K.ofNat 26))⟩], [], none, []⟩]
noncomputable def f89_r7 : List EOper := [⟨(some (K.ofNat 28)), none, .ldn 10 (.t (K.ofNat 4))⟩, ⟨(some (K.ofNat 9)), none, .alloc 10 (List.replicate 10 (.i .u16 (.ofNat 0)))⟩, ⟨none, none, .st 10 (.t (K.ofNat 9)) (.t (K.ofNat 28))⟩]
noncomputable def f89_r8 : List EOper := [⟨(some (K.ofNat 29)), none, .mv (.t (K.ofNat 8))⟩, ⟨(some (K.ofNat 30)), none, .len (.t (K.ofNat 29))⟩, ⟨(some (K.ofNat 31)), none, .mv (.c (.i .i64 (.ofNat 0)))⟩]
noncomputable def f89_r9 : List EOper := [⟨(some (K.ofNat 32)), none, .bin .lss (.t (K.ofNat 31)) (.t (K.ofNat 30))⟩]
noncomputable def f89_r10 : List EOper := [⟨(some (K.ofNat 33)), none, .iads 2 (.t (K.ofNat 29)) (.t (K.ofNat 31))⟩, ⟨(some (K.ofNat 34)), none, .ldn 2 (.t (K.ofNat 33))⟩, ⟨(some (K.ofNat 11)), none, .alloc 2 [(.i .i64 (.ofNat 0)), (.i .i64 (.ofNat 0))]⟩, ⟨none, none, .st 2 (.t (K.ofNat 11)) (.t (K.ofNat 34))⟩]
noncomputable def f89_r11 : List EOper := [⟨(some (K.ofNat 35)), none, .ldn 2 (.t (K.ofNat 11))⟩, ⟨(some (K.ofNat 36)), none, .call (.c (.fn (K.ofNat 87) [])) [(.t (K.ofNat 9)), (.t (K.ofNat 35))]⟩, ⟨(some (K.ofNat 37)), none, .not (.t (K.ofNat 36))⟩]
noncomputable def f89_r12 : List EOper := [⟨(some (K.ofNat 38)), none, .bin .add (.t (K.ofNat 31)) (.c (.i .i64 (.ofNat 1)))⟩, ⟨(some (K.ofNat 31)), none, .mv (.t (K.ofNat 38))⟩]
noncomputable def f89_l0 : EC := (.seq (.reg f89_r9) (.seq (.cond (.t (K.ofNat 32)) .skip (.exit 2)) (.seq (.block 3 (.seq (.reg f89_r10) (.seq (.reg f89_r11) (.cond (.t (K.ofNat 37)) (.exit 1) .skip)))) (.reg f89_r12))))
noncomputable def f89_r13 : List EOper := [⟨(some (K.ofNat 39)), none, .ld (.t (K.ofNat 2))⟩, ⟨(some (K.ofNat 40)), none, .mv (.t (K.ofNat 8))⟩, ⟨(some (K.ofNat 41)), none, .bslice 1 1 [.sn] [(0, 1, (.t (K.ofNat 40)))]⟩, ⟨(some (K.ofNat 42)), none, .app 1 (.t (K.ofNat 39)) (.t (K.ofNat 41))⟩, ⟨none, none, .st 1 (.t (K.ofNat 2)) (.t (K.ofNat 42))⟩]
noncomputable def f89_r14 : List EOper := [⟨(some (K.ofNat 43)), none, .ld (.t (K.ofNat 3))⟩, ⟨(some (K.ofNat 44)), none, .ldn 10 (.t (K.ofNat 9))⟩, ⟨(some (K.ofNat 45)), none, .call (.t (K.ofNat 43)) [(.t (K.ofNat 44))]⟩]
noncomputable def f89_r15 : List EOper := [⟨none, none, .st 1 (.t (K.ofNat 5)) (.c (.b true))⟩]
noncomputable def f89_r16 : List EOper := [⟨(some (K.ofNat 46)), none, .ld (.t (K.ofNat 2))⟩, ⟨(some (K.ofNat 47)), none, .ld (.t (K.ofNat 2))⟩, ⟨(some (K.ofNat 48)), none, .len (.t (K.ofNat 47))⟩, ⟨(some (K.ofNat 49)), none, .bin .sub (.t (K.ofNat 48)) (.c (.i .i64 (.ofNat 1)))⟩, ⟨(some (K.ofNat 50)), none, .slice 1 (.t (K.ofNat 46)) none (some (.t (K.ofNat 49))) none⟩, ⟨none, none, .st 1 (.t (K.ofNat 2)) (.t (K.ofNat 50))⟩]
noncomputable def f89_b0 : EC := (.block 1 (.seq (.seq (.draw f89_r6) (.cond (.t (K.ofNat 27)) (.exit 1) .skip)) (.seq (.reg f89_r7) (.seq (.seq (.reg f89_r8) (.block 2 (.loop f89_l0))) (.seq (.reg f89_r13) (.seq (.seq (.reg f89_r14) (.cond (.t (K.ofNat 45)) (.seq (.reg f89_r15) .ret) .skip)) (.reg f89_r16)))))))
noncomputable def f89_r17 : List EOper := [⟨none, none, .st 1 (.t (K.ofNat 5)) (.c (.b false))⟩]
noncomputable def f89_c : EC := (.seq (.reg f89_r0) (.scope (.seq (.reg f89_r1) (.seq (.seq (.reg f89_r2) (.cond (.t (K.ofNat 19)) (.seq (.reg f89_r3) .ret) .skip)) (.seq .skip (.seq (.seq (.reg f89_r4) (.block 0 (.rangeF (.t (K.ofNat 21)) [(K.ofNat 22)] f89_a0 f89_b0))) (.seq (.reg f89_r17) .ret)))))))
noncomputable def f89 : EF := ⟨51, [.cell (K.ofNat 5)], f89_c, none⟩
theorem f89_rs : f89.rs = [.cell (K.ofNat 5)] := of_eq_true (eq_self _)
theorem kq {a b c d : Nat} (ha : a ≤ 1000) (hb : b ≤ 1000) (hc : c ≤ 1000) (hd : d ≤ 1000) : keyEq (.many [some .i64, some .i64]) (.agg [.i .i64 (a : Int), .i .i64 (b : Int)]) (.agg [.i .i64 (c : Int), .i .i64 (d : Int)]) = some (decide (a = c) && decide (b = d)) := by
  have hin : ∀ x : Nat, x ≤ 1000 → inR .i64 (x : Int) = true := fun x hx => by
    show Nat.ble x 9223372036854775807 = true
    exact Nat.ble_eq_true_of_le (by omega)
  have ck : ∀ x y : Nat, x ≤ 1000 → y ≤ 1000 → ckEq (some .i64) (.i .i64 (x : Int)) (.i .i64 (y : Int)) = some (decide (x = y)) := fun x y hx hy => by
    show (bif (IntKind.i64 == IntKind.i64 && IntKind.i64 == IntKind.i64) && (inR .i64 (x : Int) && inR .i64 (y : Int)) then some (ieq x y) else none) = _
    rw [hin x hx, hin y hy, ieq_eq]
    show some ((x : Int) == (y : Int)) = _
    congr 1
    by_cases e : x = y
    · rw [e]; simp
    · rw [decide_eq_false e]
      have : (x : Int) ≠ (y : Int) := by omega
      simpa using this
  show oGet (ckEq (some .i64) (.i .i64 (a : Int)) (.i .i64 (c : Int))) none (fun r => oGet (oGet (ckEq (some .i64) (.i .i64 (b : Int)) (.i .i64 (d : Int))) none fun r => oGet (some true) none fun s => some (r && s)) none fun s => some (r && s)) = _
  rw [ck a c ha hc, ck b d hb hd]
  show some (decide (a = c) && (decide (b = d) && true)) = _
  rw [Bool.and_true]
/-! ### The memory of the search -/
def Bo (idn idW idC : K) (wv : V) (us : List V) : K → Prop := fun x => x = idn ∨ x = idW ∨ x = idC ∨ ¬ NotIn x wv ∨ ∃ u ∈ us, ¬ NotIn x u
def cmpV (idn idW idC : K) : V := .fn (K.ofNat 89) [.p idn 0, .p idW 0, .p idC 0]
structure CS (idn idW idC : K) (n : Nat) (h : H) (wv : V) (us : List V) (Q : List (List (Int × Int))) : Prop where
  hc : HC h
  eN : h.get idn = .cells 1 [.i .i64 (n : Int)]
  eC : h.get idC = .cells 1 [cmpV idn idW idC]
  eW : h.get idW = .cells 1 [wv]
  len : us.length = Q.length
  out : Sl vE h wv us
  inn : ∀ i (h1 : i < us.length) (h2 : i < Q.length), Srp h us[i] Q[i]
  ins : ∀ x ∈ us, ∀ id off n sz, x = .sl id off n sz → NotIn id wv ∧ id ≠ idW
  nN : NotIn idn wv
  nC : NotIn idC wv
  nW : NotIn idW wv
  lN : idn ≠ idW
  lC : idC ≠ idW
structure KC (idW : K) (h : H) (wv : V) (h' : H) (wv' : V) : Prop where
  nx : h.nx.nat ≤ h'.nx.nat
  old : ∀ x : K, x.nat < h.nx.nat → x ≠ idW → NotIn x wv → h'.get x = h.get x ∧ NotIn x wv'
theorem KC.same {idW : K} {h h' : H} {wv : V} (hn : h.nx.nat ≤ h'.nx.nat) (hg : ∀ x : K, x.nat < h.nx.nat → h'.get x = h.get x) : KC idW h wv h' wv := ⟨hn, fun x h1 _ h3 => ⟨hg x h1, h3⟩⟩
section
variable {idn idW idC : K} {n : Nat} {h h' : H} {wv v : V} {us : List V} {Q : List (List (Int × Int))} {r : List (Int × Int)}
theorem CS.lt (c : CS idn idW idC n h wv us Q) {x : K} (hx : Bo idn idW idC wv us x) : x.nat < h.nx.nat := by
  rcases hx with rfl | rfl | rfl | hx | ⟨u, hu, hx⟩
  · exact c.hc.cells c.eN
  · exact c.hc.cells c.eW
  · exact c.hc.cells c.eC
  · apply Classical.byContradiction
    intro hno
    exact hx fun off n sz e => hno (c.out.lt c.hc _ _ _ _ e)
  · apply Classical.byContradiction
    intro hno
    obtain ⟨i, hi, rfl⟩ := List.getElem_of_mem hu
    exact hx fun off n sz e => hno ((c.inn i hi (by rw [← c.len]; exact hi)).lt c.hc _ _ _ _ e)
theorem CS.keep (c : CS idn idW idC n h wv us Q) (hc : HC h') (hk : ∀ x, Bo idn idW idC wv us x → h'.get x = h.get x) : CS idn idW idC n h' wv us Q :=
  ⟨hc, (hk _ (.inl rfl)).trans c.eN, (hk _ (.inr (.inr (.inl rfl)))).trans c.eC, (hk _ (.inr (.inl rfl))).trans c.eW, c.len, c.out.same fun id off m sz e => hk id (.inr (.inr (.inr (.inl fun hn => hn _ _ _ e)))), fun i h1 h2 => (c.inn i h1 h2).old fun id off m sz e => hk id (.inr (.inr (.inr (.inr ⟨_, List.getElem_mem h1, fun hn => hn _ _ _ e⟩)))), c.ins, c.nN, c.nC, c.nW, c.lN, c.lC⟩
theorem CS.grow (c : CS idn idW idC n h wv us Q) (hg : Grow h.nx.nat h h') : CS idn idW idC n h' wv us Q := c.keep (hg.hc c.hc) fun _ hx => hg.old _ (c.lt hx)
/-- One round more. -/
theorem CS.push (c : CS idn idW idC n h wv us Q) (hQ : Q.length < 1000) (hv : Srp h v r) (hvB : ∀ id off n sz, v = .sl id off n sz → NotIn id wv ∧ id ≠ idW) :
    ∃ wv' h2, appV 1 (h.new (.cells (1 * 1) [v])) wv (.sl h.nx 0 1 1) = .ok wv' h2 ∧ storeV h2 1 (.p idW 0) wv' = .ok undefV (h2.put idW (.cells 1 [wv'])) ∧ CS idn idW idC n (h2.put idW (.cells 1 [wv'])) wv' (us ++ [v]) (Q ++ [r]) ∧ KC idW h wv (h2.put idW (.cells 1 [wv'])) wv' ∧ (∀ x, Bo idn idW idC wv' (us ++ [v]) x → Bo idn idW idC wv us x ∨ ¬ NotIn x v ∨ h.nx.nat ≤ x.nat) := by
  obtain ⟨wv', h2, a1, a2, _, a4, a5⟩ := Sl.push (b := 0) (e := vE) (x := v) (c := v) rfl c.out (fun _ _ _ _ _ => Nat.zero_le _) (Nat.zero_le _) c.hc (by rw [c.len]; omega)
  have lW := c.lt (.inr (.inl rfl))
  obtain ⟨qW, nW'⟩ := a5 idW lW c.nW
  obtain ⟨qN, nN'⟩ := a5 idn (c.lt (.inl rfl)) c.nN
  obtain ⟨qC, nC'⟩ := a5 idC (c.lt (.inr (.inr (.inl rfl)))) c.nC
  have hc2 := a4.hc c.hc
  have lW2 : idW.nat < h2.nx.nat := Nat.lt_of_lt_of_le lW a4.nx
  have s1 := st1 (h := h2) (id := idW) (a := wv) (c := wv') (qW.trans c.eW) a2.one
  have hins : ∀ x ∈ us ++ [v], ∀ id off n sz, x = .sl id off n sz → id.nat < h.nx.nat ∧ NotIn id wv ∧ id ≠ idW := fun x hx id off n sz e => by
    rcases List.mem_append.1 hx with hx | hx
    · obtain ⟨p1, p2⟩ := c.ins x hx _ _ _ _ e
      exact ⟨c.lt (.inr (.inr (.inr (.inr ⟨x, hx, fun hn => hn _ _ _ e⟩)))), p1, p2⟩
    · rw [List.mem_singleton.1 hx] at e
      obtain ⟨p1, p2⟩ := hvB _ _ _ _ e
      exact ⟨hv.lt c.hc _ _ _ _ e, p1, p2⟩
  have kin : ∀ x ∈ us ++ [v], ∀ id off n sz, x = .sl id off n sz → (h2.put idW (.cells 1 [wv'])).get id = h.get id ∧ NotIn id wv' := fun x hx id off n sz e => by
    obtain ⟨p0, p1, p2⟩ := hins x hx _ _ _ _ e
    obtain ⟨q1, q2⟩ := a5 id p0 p1
    exact ⟨by rw [get_put_other p2]; exact q1, q2⟩
  refine ⟨wv', h2, a1, s1, ⟨(Grow.put (b := 0) (Nat.zero_le _) lW2 _).hc hc2, by rw [get_put_other c.lN, qN]; exact c.eN, by rw [get_put_other c.lC, qC]; exact c.eC, get_put_same, by rw [List.length_append, List.length_append, c.len]; rfl, a2.put nW' _, fun i h1 h3 => ?_, fun x hx id off m sz e => ⟨(kin x hx _ _ _ _ e).2, (hins x hx _ _ _ _ e).2.2⟩, nN', nC', nW', c.lN, c.lC⟩, ⟨a4.nx, fun x h1 h3 h4 => ?_⟩, fun x hx => ?_⟩
  · have hm := List.getElem_mem h1
    by_cases e : i < us.length
    · have e2 : i < Q.length := by rw [← c.len]; exact e
      rw [List.getElem_append_left e2]
      have := c.inn i e e2
      rw [List.getElem_append_left e] at hm ⊢
      exact this.old fun id off m sz ee => (kin _ hm _ _ _ _ ee).1
    · have ei : i = us.length := by rw [List.length_append] at h1; simp at h1; omega
      subst ei
      have e1 : (us ++ [v])[us.length] = v := by simp
      have e2 : (Q ++ [r])[us.length] = r := by
        rw [List.getElem_append_right (as := Q) (by rw [c.len]; exact Nat.le_refl _)]
        simp
      rw [e1] at hm ⊢
      rw [e2]
      exact hv.old fun id off m sz ee => (kin _ hm _ _ _ _ ee).1
  · obtain ⟨q1, q2⟩ := a5 x h1 h4
    exact ⟨by rw [get_put_other h3]; exact q1, q2⟩
  · rcases hx with hx | hx | hx | hx | ⟨u, hu, hx⟩
    · exact .inl (.inl hx)
    · exact .inl (.inr (.inl hx))
    · exact .inl (.inr (.inr (.inl hx)))
    · by_cases hl : x.nat < h.nx.nat
      · exact .inl (.inr (.inr (.inr (.inl fun hn => hx (a5 x hl hn).2))))
      · exact .inr (.inr (by omega))
    · rcases List.mem_append.1 hu with hu | hu
      · exact .inl (.inr (.inr (.inr (.inr ⟨u, hu, hx⟩))))
      · rw [List.mem_singleton.1 hu] at hx; exact .inr (.inl hx)
/-- The last round is dropped. -/
theorem CS.cut (c : CS idn idW idC n h wv us (Q ++ [r])) :
    ∃ wv', (∀ h1, sliceB 1 wv none (some (.i .i64 (Q.length : Int))) none h1 = .ok wv' h1) ∧ storeV h 1 (.p idW 0) wv' = .ok undefV (h.put idW (.cells 1 [wv'])) ∧ CS idn idW idC n (h.put idW (.cells 1 [wv'])) wv' (us.take Q.length) Q ∧ KC idW h wv (h.put idW (.cells 1 [wv'])) wv' ∧ (∀ x, Bo idn idW idC wv' (us.take Q.length) x → Bo idn idW idC wv us x) := by
  have hl := c.len
  rw [List.length_append] at hl
  simp at hl
  obtain ⟨wv', c1, c2, c3, c4⟩ := Sl.cut (lo := none) (hi := some (.i .i64 (Q.length : Int))) (l := 0) (u := Q.length) c.out bnd_none bnd_i (Nat.zero_le _) (by omega)
  have c2 : Sl vE h wv' (us.take Q.length) := by simpa using c2
  have lW := c.lt (.inr (.inl rfl))
  have s1 := st1 (h := h) (id := idW) (a := wv) (c := wv') c.eW c2.one
  have hmem : ∀ x ∈ us.take Q.length, x ∈ us := fun x hx => List.mem_of_mem_take hx
  refine ⟨wv', c1, s1, ⟨(Grow.put (b := 0) (Nat.zero_le _) lW _).hc c.hc, by rw [get_put_other c.lN]; exact c.eN, by rw [get_put_other c.lC]; exact c.eC, get_put_same, by simp; omega, c2.put (c4 _ c.nW) _, fun i h1 h2 => ?_, fun x hx id off m sz e => ?_, c4 _ c.nN, c4 _ c.nC, c4 _ c.nW, c.lN, c.lC⟩, ⟨Nat.le_refl _, fun x h1 h2 h3 => ⟨get_put_other h2, c4 _ h3⟩⟩, fun x hx => ?_⟩
  · have h1' : i < us.length := by simp at h1; omega
    have := c.inn i h1' (by simp; omega)
    rw [List.getElem_append_left h2] at this
    rw [List.getElem_take]
    exact this.old fun id off m sz e => get_put_other ((c.ins _ (List.getElem_mem h1') _ _ _ _ e).2)
  · obtain ⟨p1, p2⟩ := c.ins x (hmem x hx) _ _ _ _ e
    exact ⟨c4 _ p1, p2⟩
  · rcases hx with hx | hx | hx | hx | ⟨u, hu, hx⟩
    · exact .inl hx
    · exact .inr (.inl hx)
    · exact .inr (.inr (.inl hx))
    · exact .inr (.inr (.inr (.inl fun hn => hx (c4 x hn))))
    · exact .inr (.inr (.inr (.inr ⟨u, hmem u hu, hx⟩)))
end
end Go.Ev
