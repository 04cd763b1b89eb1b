/-
  Rounds: the law RoundsCompletes.
-/
import Derived.Test.YthememdeglgnpaaPh
namespace Go.Ev
open Go Go.RowKit
noncomputable def f9_r0 : List EOper := [⟨(some (K.ofNat 6)), none, .as (.c (.b false))⟩]
noncomputable def f9_r1 : List EOper := [⟨(some (K.ofNat 17)), none, .mv (.t (K.ofNat 1))⟩, ⟨(some (K.ofNat 18)), none, .call (.c (.fn (K.ofNat 13) [])) [(.t (K.ofNat 17)), (.c (.i .i64 (.ofNat 9))), (.c (.i .i64 (.ofNat 6)))]⟩, ⟨(some (K.ofNat 7)), none, .as (.t (K.ofNat 18))⟩]
noncomputable def f9_r2 : List EOper := [⟨(some (K.ofNat 8)), none, .as (.c (.i .i64 (.ofNat 0)))⟩]
noncomputable def f9_r3 : List EOper := [⟨(some (K.ofNat 19)), none, .mv (.t (K.ofNat 8))⟩, ⟨(some (K.ofNat 20)), none, .bin .lss (.t (K.ofNat 19)) (.c (.i .i64 (.ofNat 2)))⟩]
noncomputable def f9_r4 : List EOper := [⟨(some (K.ofNat 24)), none, .mv (.t (K.ofNat 0))⟩, ⟨(some (K.ofNat 25)), none, .mv (.t (K.ofNat 7))⟩, ⟨(some (K.ofNat 26)), none, .call (.c (.fn (K.ofNat 47) [])) [(.t (K.ofNat 24)), (.t (K.ofNat 25))]⟩, ⟨(some (K.ofNat 23)), none, .mv (.t (K.ofNat 26))⟩, ⟨(some (K.ofNat 27)), none, .ext (.t (K.ofNat 23)) 0⟩, ⟨(some (K.ofNat 28)), none, .ext (.t (K.ofNat 23)) 1⟩, ⟨(some (K.ofNat 29)), none, .ext (.t (K.ofNat 23)) 2⟩, ⟨(some (K.ofNat 9)), none, .as (.t (K.ofNat 27))⟩, ⟨(some (K.ofNat 10)), none, .as (.t (K.ofNat 28))⟩, ⟨(some (K.ofNat 11)), none, .as (.t (K.ofNat 29))⟩]
noncomputable def f9_r5 : List EOper := [⟨(some (K.ofNat 67)), none, .mv (.t (K.ofNat 0))⟩, ⟨(some (K.ofNat 68)), none, .call (.c (.fn (K.ofNat 37) [])) [(.t (K.ofNat 67))]⟩, ⟨(some (K.ofNat 69)), none, .not (.t (K.ofNat 68))⟩, ⟨(some (K.ofNat 70)), none, .mv (.t (K.ofNat 69))⟩, ⟨(some (K.ofNat 71)), (some ((K.ofNat 70), false)), .mv (.t (K.ofNat 0))⟩, ⟨(some (K.ofNat 72)), (some ((K.ofNat 70), false)), .bin .gtr (.t (K.ofNat 71)) (.c (.i .i64 (.ofNat 8)))⟩, ⟨(some (K.ofNat 73)), none, .pick (.t (K.ofNat 70)) (.c (.b true)) (.t (K.ofNat 72))⟩, ⟨(some (K.ofNat 66)), none, .as (.t (K.ofNat 73))⟩]
noncomputable def f9_r6 : List EOper := [⟨(some (K.ofNat 74)), none, .mv (.t (K.ofNat 11))⟩, ⟨(some (K.ofNat 75)), none, .bin .neq (.t (K.ofNat 74)) (.c (.i .i64 (.ofNat 1)))⟩, ⟨(some (K.ofNat 76)), none, .mv (.t (K.ofNat 75))⟩, ⟨(some (K.ofNat 77)), (some ((K.ofNat 76), false)), .mv (.t (K.ofNat 10))⟩, ⟨(some (K.ofNat 78)), none, .pick (.t (K.ofNat 76)) (.c (.b true)) (.t (K.ofNat 77))⟩, ⟨(some (K.ofNat 79)), none, .mv (.t (K.ofNat 78))⟩, ⟨(some (K.ofNat 80)), (some ((K.ofNat 79), false)), .mv (.t (K.ofNat 9))⟩, ⟨(some (K.ofNat 81)), (some ((K.ofNat 79), false)), .len (.t (K.ofNat 80))⟩, ⟨(some (K.ofNat 82)), (some ((K.ofNat 79), false)), .bin .neq (.t (K.ofNat 81)) (.c (.i .i64 (.ofNat 0)))⟩, ⟨(some (K.ofNat 83)), none, .pick (.t (K.ofNat 79)) (.c (.b true)) (.t (K.ofNat 82))⟩]
noncomputable def f9_r7 : List EOper := [⟨(some (K.ofNat 6)), none, .as (.c (.b false))⟩]
noncomputable def f9_r8 : List EOper := [⟨(some (K.ofNat 85)), none, .mv (.t (K.ofNat 0))⟩, ⟨(some (K.ofNat 86)), none, .mv (.t (K.ofNat 7))⟩, ⟨(some (K.ofNat 87)), none, .call (.c (.fn (K.ofNat 48) [])) [(.t (K.ofNat 85)), (.t (K.ofNat 86))]⟩, ⟨(some (K.ofNat 88)), none, .not (.t (K.ofNat 87))⟩, ⟨(some (K.ofNat 84)), none, .as (.t (K.ofNat 88))⟩]
noncomputable def f9_r9 : List EOper := [⟨(some (K.ofNat 89)), none, .mv (.t (K.ofNat 11))⟩, ⟨(some (K.ofNat 90)), none, .bin .neq (.t (K.ofNat 89)) (.c (.i .i64 (.ofNat 40)))⟩, ⟨(some (K.ofNat 91)), none, .mv (.t (K.ofNat 90))⟩, ⟨(some (K.ofNat 92)), (some ((K.ofNat 91), false)), .mv (.t (K.ofNat 10))⟩, ⟨(some (K.ofNat 93)), none, .pick (.t (K.ofNat 91)) (.c (.b true)) (.t (K.ofNat 92))⟩, ⟨(some (K.ofNat 94)), none, .mv (.t (K.ofNat 93))⟩, ⟨(some (K.ofNat 95)), (some ((K.ofNat 94), false)), .mv (.t (K.ofNat 9))⟩, ⟨(some (K.ofNat 96)), (some ((K.ofNat 94), false)), .len (.t (K.ofNat 95))⟩, ⟨(some (K.ofNat 97)), (some ((K.ofNat 94), false)), .bin .neq (.t (K.ofNat 96)) (.c (.i .i64 (.ofNat 0)))⟩, ⟨(some (K.ofNat 98)), none, .pick (.t (K.ofNat 94)) (.c (.b true)) (.t (K.ofNat 97))⟩]
noncomputable def f9_r10 : List EOper := [⟨(some (K.ofNat 6)), none, .as (.c (.b false))⟩]
noncomputable def f9_r11 : List EOper := [⟨(some (K.ofNat 30)), none, .mv (.t (K.ofNat 11))⟩, ⟨(some (K.ofNat 31)), none, .bin .neq (.t (K.ofNat 30)) (.c (.i .i64 (.ofNat 0)))⟩, ⟨(some (K.ofNat 32)), none, .mv (.t (K.ofNat 31))⟩, ⟨(some (K.ofNat 33)), (some ((K.ofNat 32), false)), .mv (.t (K.ofNat 10))⟩, ⟨(some (K.ofNat 34)), (some ((K.ofNat 32), false)), .mv (.t (K.ofNat 0))⟩, ⟨(some (K.ofNat 35)), (some ((K.ofNat 32), false)), .mv (.t (K.ofNat 7))⟩, ⟨(some (K.ofNat 36)), (some ((K.ofNat 32), false)), .call (.c (.fn (K.ofNat 49) [])) [(.t (K.ofNat 34)), (.t (K.ofNat 35))]⟩, ⟨(some (K.ofNat 37)), (some ((K.ofNat 32), false)), .eqk (.one none) true (.t (K.ofNat 33)) (.t (K.ofNat 36))⟩, ⟨(some (K.ofNat 38)), none, .pick (.t (K.ofNat 32)) (.c (.b true)) (.t (K.ofNat 37))⟩, ⟨(some (K.ofNat 39)), none, .mv (.t (K.ofNat 38))⟩, ⟨(some (K.ofNat 40)), (some ((K.ofNat 39), false)), .mv (.t (K.ofNat 10))⟩, ⟨(some (K.ofNat 41)), (some ((K.ofNat 39), false)), .not (.t (K.ofNat 40))⟩, ⟨(some (K.ofNat 42)), (some ((K.ofNat 39), false)), .mv (.t (K.ofNat 41))⟩, ⟨(some (K.ofNat 43)), (some ((K.ofNat 42), true)), .mv (.t (K.ofNat 9))⟩, ⟨(some (K.ofNat 44)), (some ((K.ofNat 42), true)), .len (.t (K.ofNat 43))⟩, ⟨(some (K.ofNat 45)), (some ((K.ofNat 42), true)), .bin .neq (.t (K.ofNat 44)) (.c (.i .i64 (.ofNat 0)))⟩, ⟨(some (K.ofNat 46)), (some ((K.ofNat 39), false)), .pick (.t (K.ofNat 42)) (.t (K.ofNat 45)) (.c (.b false))⟩, ⟨(some (K.ofNat 47)), none, .pick (.t (K.ofNat 39)) (.c (.b true)) (.t (K.ofNat 46))⟩, ⟨(some (K.ofNat 48)), none, .mv (.t (K.ofNat 47))⟩, ⟨(some (K.ofNat 49)), (some ((K.ofNat 48), false)), .mv (.t (K.ofNat 10))⟩, ⟨(some (K.ofNat 50)), (some ((K.ofNat 48), false)), .mv (.t (K.ofNat 49))⟩, ⟨(some (K.ofNat 51)), (some ((K.ofNat 50), true)), .mv (.t (K.ofNat 0))⟩, ⟨(some (K.ofNat 52)), (some ((K.ofNat 50), true)), .mv (.t (K.ofNat 9))⟩, ⟨(some (K.ofNat 53)), (some ((K.ofNat 50), true)), .call (.c (.fn (K.ofNat 14) [])) [(.t (K.ofNat 51)), (.t (K.ofNat 52))]⟩, ⟨(some (K.ofNat 54)), (some ((K.ofNat 50), true)), .bin .neq (.t (K.ofNat 53)) (.c (.i .i64 (.ofNat 0)))⟩, ⟨(some (K.ofNat 55)), (some ((K.ofNat 50), true)), .mv (.t (K.ofNat 54))⟩, ⟨(some (K.ofNat 56)), (some ((K.ofNat 55), false)), .mv (.t (K.ofNat 9))⟩, ⟨(some (K.ofNat 57)), (some ((K.ofNat 55), false)), .mv (.t (K.ofNat 7))⟩, ⟨(some (K.ofNat 58)), (some ((K.ofNat 55), false)), .len (.t (K.ofNat 57))⟩, ⟨(some (K.ofNat 59)), (some ((K.ofNat 55), false)), .slice 1 (.t (K.ofNat 56)) none (some (.t (K.ofNat 58))) none⟩, ⟨(some (K.ofNat 60)), (some ((K.ofNat 55), false)), .mv (.t (K.ofNat 7))⟩, ⟨(some (K.ofNat 61)), (some ((K.ofNat 55), false)), .call (.c (.fn (K.ofNat 31) [])) [(.t (K.ofNat 59)), (.t (K.ofNat 60))]⟩, ⟨(some (K.ofNat 62)), (some ((K.ofNat 55), false)), .not (.t (K.ofNat 61))⟩, ⟨(some (K.ofNat 63)), (some ((K.ofNat 50), true)), .pick (.t (K.ofNat 55)) (.c (.b true)) (.t (K.ofNat 62))⟩, ⟨(some (K.ofNat 64)), (some ((K.ofNat 48), false)), .pick (.t (K.ofNat 50)) (.t (K.ofNat 63)) (.c (.b false))⟩, ⟨(some (K.ofNat 65)), none, .pick (.t (K.ofNat 48)) (.c (.b true)) (.t (K.ofNat 64))⟩]
noncomputable def f9_r12 : List EOper := [⟨(some (K.ofNat 6)), none, .as (.c (.b false))⟩]
noncomputable def f9_r13 : List EOper := [⟨(some (K.ofNat 99)), none, .mv (.t (K.ofNat 0))⟩, ⟨(some (K.ofNat 100)), none, .call (.c (.fn (K.ofNat 41) [])) [(.t (K.ofNat 99)), (.c (.i .i64 (.ofNat 8)))]⟩, ⟨(some (K.ofNat 0)), none, .as (.t (K.ofNat 100))⟩]
noncomputable def f9_r14 : List EOper := [⟨(some (K.ofNat 7)), none, .as (.c .sn)⟩]
noncomputable def f9_r15 : List EOper := [⟨(some (K.ofNat 12)), none, .as (.c (.i .i64 (.ofNat 0)))⟩]
noncomputable def f9_r16 : List EOper := [⟨(some (K.ofNat 101)), none, .mv (.t (K.ofNat 12))⟩, ⟨(some (K.ofNat 102)), none, .mv (.t (K.ofNat 2))⟩, ⟨(some (K.ofNat 103)), none, .len (.t (K.ofNat 102))⟩, ⟨(some (K.ofNat 104)), none, .mv (.t (K.ofNat 0))⟩, ⟨(some (K.ofNat 105)), none, .bin .sub (.t (K.ofNat 104)) (.c (.i .i64 (.ofNat 1)))⟩, ⟨(some (K.ofNat 106)), none, .bin .rem (.t (K.ofNat 103)) (.t (K.ofNat 105))⟩, ⟨(some (K.ofNat 107)), none, .bin .lss (.t (K.ofNat 101)) (.t (K.ofNat 106))⟩]
noncomputable def f9_r17 : List EOper := [⟨(some (K.ofNat 13)), none, .as (.c .sn)⟩]
noncomputable def f9_r18 : List EOper := [⟨(some (K.ofNat 110)), none, .mv (.t (K.ofNat 0))⟩, ⟨(some (K.ofNat 111)), none, .mv (.t (K.ofNat 2))⟩, ⟨(some (K.ofNat 112)), none, .mv (.t (K.ofNat 12))⟩, ⟨(some (K.ofNat 113)), none, .slice 1 (.t (K.ofNat 111)) (some (.t (K.ofNat 112))) none none⟩, ⟨(some (K.ofNat 114)), none, .call (.c (.fn (K.ofNat 33) [])) [(.t (K.ofNat 110)), (.t (K.ofNat 113))]⟩, ⟨(some (K.ofNat 14)), none, .as (.t (K.ofNat 114))⟩]
noncomputable def f9_r19 : List EOper := [⟨(some (K.ofNat 15)), none, .as (.c (.i .i64 (.ofNat 0)))⟩]
noncomputable def f9_r20 : List EOper := [⟨(some (K.ofNat 115)), none, .mv (.t (K.ofNat 15))⟩, ⟨(some (K.ofNat 116)), none, .bin .add (.t (K.ofNat 115)) (.c (.i .i64 (.ofNat 1)))⟩, ⟨(some (K.ofNat 117)), none, .mv (.t (K.ofNat 0))⟩, ⟨(some (K.ofNat 118)), none, .bin .lss (.t (K.ofNat 116)) (.t (K.ofNat 117))⟩]
noncomputable def f9_r21 : List Stage := [⟨[⟨(some (K.ofNat 121)), none, .mv (.t (K.ofNat 13))⟩, ⟨(some (K.ofNat 122)), none, .mv (.t (K.ofNat 14))⟩, ⟨(some (K.ofNat 123)), none, .mv (.t (K.ofNat 15))⟩, ⟨(some (K.ofNat 124)), none, .iads 1 (.t (K.ofNat 122)) (.t (K.ofNat 123))⟩, ⟨(some (K.ofNat 125)), none, .ld (.t (K.ofNat 124))⟩, ⟨(some (K.ofNat 126)), none, .mv (.t (K.ofNat 14))⟩, ⟨(some (K.ofNat 127)), none, .mv (.t (K.ofNat 15))⟩, ⟨(some (K.ofNat 128)), none, .bin .add (.t (K.ofNat 127)) (.c (.i .i64 (.ofNat 1)))⟩, ⟨(some (K.ofNat 129)), none, .iads 1 (.t (K.ofNat 126)) (.t (K.ofNat 128))⟩, ⟨(some (K.ofNat 130)), none, .ld (.t (K.ofNat 129))⟩, ⟨(some (K.ofNat 131)), none, .build [(.i .i64 (.ofNat 0)), (.i .i64 (.ofNat 0))] [(0, 1, (.t (K.ofNat 125))), (1, 1, (.t (K.ofNat 130)))]⟩, ⟨(some (K.ofNat 132)), none, .bslice 1 2 [(.i .i64 (.ofNat 0)), (.i .i64 (.ofNat 0))] [(0, 2, (.t (K.ofNat 131)))]⟩], [], (some ⟨(some (K.ofNat 133)), none, .app 2 (.t (K.ofNat 121)) (.t (K.ofNat 132))⟩), [(K.ofNat 132)]⟩, ⟨[], [], (some ⟨(some (K.ofNat 13)), none, .as (.t (K.ofNat 133))⟩), []⟩, ⟨[], [], none, []⟩]
noncomputable def f9_r22 : List EOper := [⟨(some (K.ofNat 119)), none, .mv (.t (K.ofNat 15))⟩, ⟨(some (K.ofNat 120)), none, .bin .add (.t (K.ofNat 119)) (.c (.i .i64 (.ofNat 2)))⟩, ⟨(some (K.ofNat 15)), none, .as (.t (K.ofNat 120))⟩]
noncomputable def f9_l0 : EC := (.seq (.seq (.reg f9_r20) (.cond (.t (K.ofNat 118)) .skip (.exit 5))) (.seq (.block 6 (.draw f9_r21)) (.reg f9_r22)))
noncomputable def f9_r23 : List EOper := [⟨(some (K.ofNat 16)), none, .as (.c .sn)⟩]
noncomputable def f9_r24 : List EOper := [⟨(some (K.ofNat 134)), none, .mv (.t (K.ofNat 16))⟩, ⟨(some (K.ofNat 135)), none, .mv (.t (K.ofNat 7))⟩, ⟨(some (K.ofNat 136)), none, .app 1 (.t (K.ofNat 134)) (.t (K.ofNat 135))⟩, ⟨(some (K.ofNat 16)), none, .as (.t (K.ofNat 136))⟩]
noncomputable def f9_r25 : List EOper := [⟨(some (K.ofNat 137)), none, .mv (.t (K.ofNat 16))⟩, ⟨(some (K.ofNat 138)), none, .mv (.t (K.ofNat 13))⟩, ⟨(some (K.ofNat 139)), none, .bslice 1 1 [.sn] [(0, 1, (.t (K.ofNat 138)))]⟩, ⟨(some (K.ofNat 140)), none, .app 1 (.t (K.ofNat 137)) (.t (K.ofNat 139))⟩, ⟨(some (K.ofNat 16)), none, .as (.t (K.ofNat 140))⟩]
noncomputable def f9_r26 : List EOper := [⟨(some (K.ofNat 141)), none, .mv (.t (K.ofNat 0))⟩, ⟨(some (K.ofNat 142)), none, .mv (.t (K.ofNat 16))⟩, ⟨(some (K.ofNat 143)), none, .call (.c (.fn (K.ofNat 48) [])) [(.t (K.ofNat 141)), (.t (K.ofNat 142))]⟩]
noncomputable def f9_r27 : List EOper := [⟨(some (K.ofNat 144)), none, .mv (.t (K.ofNat 16))⟩, ⟨(some (K.ofNat 7)), none, .as (.t (K.ofNat 144))⟩]
noncomputable def f9_r28 : List EOper := [⟨(some (K.ofNat 108)), none, .mv (.t (K.ofNat 12))⟩, ⟨(some (K.ofNat 109)), none, .bin .add (.t (K.ofNat 108)) (.c (.i .i64 (.ofNat 1)))⟩, ⟨(some (K.ofNat 12)), none, .as (.t (K.ofNat 109))⟩]
noncomputable def f9_l1 : EC := (.seq (.seq (.reg f9_r16) (.cond (.t (K.ofNat 107)) .skip (.exit 3))) (.seq (.block 4 (.seq (.reg f9_r17) (.seq (.reg f9_r18) (.seq (.seq (.reg f9_r19) (.block 5 (.loop f9_l0))) (.seq (.reg f9_r23) (.seq (.reg f9_r24) (.seq (.reg f9_r25) (.seq (.reg f9_r26) (.cond (.t (K.ofNat 143)) (.reg f9_r27) .skip))))))))) (.reg f9_r28)))
noncomputable def f9_r29 : List EOper := [⟨(some (K.ofNat 21)), none, .mv (.t (K.ofNat 8))⟩, ⟨(some (K.ofNat 22)), none, .bin .add (.t (K.ofNat 21)) (.c (.i .i64 (.ofNat 1)))⟩, ⟨(some (K.ofNat 8)), none, .as (.t (K.ofNat 22))⟩]
noncomputable def f9_l2 : EC := (.seq (.seq (.reg f9_r3) (.cond (.t (K.ofNat 20)) .skip (.exit 0))) (.seq (.block 1 (.seq (.reg f9_r4) (.seq (.block 2 (.seq (.reg f9_r5) (.cond (.t (K.ofNat 66)) (.seq (.reg f9_r6) (.cond (.t (K.ofNat 83)) (.seq (.reg f9_r7) .ret) .skip)) (.seq (.reg f9_r8) (.cond (.t (K.ofNat 84)) (.seq (.reg f9_r9) (.cond (.t (K.ofNat 98)) (.seq (.reg f9_r10) .ret) .skip)) (.seq (.reg f9_r11) (.cond (.t (K.ofNat 65)) (.seq (.reg f9_r12) .ret) .skip))))))) (.seq (.reg f9_r13) (.seq (.reg f9_r14) (.seq (.reg f9_r15) (.block 3 (.loop f9_l1)))))))) (.reg f9_r29)))
noncomputable def f9_r30 : List EOper := [⟨(some (K.ofNat 145)), none, .call (.c (.fn (K.ofNat 22) [])) []⟩, ⟨(some (K.ofNat 6)), none, .as (.t (K.ofNat 145))⟩]
noncomputable def f9_c : EC := (.seq (.reg f9_r0) (.seq (.reg f9_r1) (.seq (.seq (.reg f9_r2) (.block 0 (.loop f9_l2))) (.seq (.reg f9_r30) .ret))))
noncomputable def f9 : EF := ⟨146, [.tmp (K.ofNat 6)], f9_c, none⟩
theorem f9_rs : f9.rs = [.tmp (K.ofNat 6)] := of_eq_true (eq_self _)
structure CallsCo (fs : T EF) : Prop extends CallsC4 fs, CallsRc fs where
  v13 : fs.get (K.ofNat 13) = some f13
  v31 : fs.get (K.ofNat 31) = some f31
  v33 : fs.get (K.ofNat 33) = some f33
  v41 : fs.get (K.ofNat 41) = some f41
  v47 : fs.get (K.ofNat 47) = some f47
  v48 : fs.get (K.ofNat 48) = some f48
  v49 : fs.get (K.ofNat 49) = some f49
  v72 : fs.get (K.ofNat 72) = some f72
  aw : ∀ h P, CallP fs (.fn (K.ofNat 22) []) [] h P = P (.b true) h
noncomputable def teams8 (n : Int) : Int := 2 + 2 * ((IntKind.u64.wrap n).tmod 4)
theorem t4_b (n : Int) : 0 ≤ (IntKind.u64.wrap n).tmod 4 ∧ (IntKind.u64.wrap n).tmod 4 < 4 := by
  have hw : 0 ≤ IntKind.u64.wrap n := Int.emod_nonneg _ (by decide)
  obtain ⟨m, hm⟩ := Int.eq_ofNat_of_zero_le hw
  rw [hm]
  have : ((m : Int).tmod 4) = ((m % 4 : Nat) : Int) := rfl
  omega
theorem teams_8 (n : Int) : ∃ m : Nat, teams8 n = (m : Int) ∧ ok5 (m : Int) ∧ m ≤ 8 := by
  have := t4_b n
  refine ⟨(teams8 n).toNat, ?_, ?_, ?_⟩ <;> unfold teams8
  · omega
  · unfold ok5; omega
  · omega
section
variable {fs : T EF} {h : H} {v v2 : V} {us : List V} {B : List Int} {Ls : List (List (Int × Int))}
theorem f41_8 {n : Int} : Ret fs f41 [.i .i64 n, .i .i64 8] h fun r h' => r = .i .i64 (teams8 n) ∧ h' = h := by
  apply ret_of rfl
  show W fs none f41_c _ _ _
  unfold f41_c
  have e1 : fw .u64 (fw .i64 (Int.tdiv 8 2)) = 4 := rfl
  have hr := t4_b n
  have e2 : fw .i64 ((IntKind.u64.wrap n).tmod 4) = (IntKind.u64.wrap n).tmod 4 := by rw [fw_eq]; exact wrap_in .i64 _ (by simp only [kmin]; omega) (by simp only [kmax]; omega)
  have e3 : fw .i64 (2 * ((IntKind.u64.wrap n).tmod 4)) = 2 * ((IntKind.u64.wrap n).tmod 4) := by rw [fw_eq]; exact wrap_in .i64 _ (by simp only [kmin]; omega) (by simp only [kmax]; omega)
  have e4 : fw .i64 (2 + 2 * ((IntKind.u64.wrap n).tmod 4)) = 2 + 2 * ((IntKind.u64.wrap n).tmod 4) := by rw [fw_eq]; exact wrap_in .i64 _ (by simp only [kmin]; omega) (by simp only [kmax]; omega)
  have e5 : fw .u64 n = IntKind.u64.wrap n := fw_eq _ _
  simp (disch := omega) only [f41_r0, f41_r1, f41_rs, w_reg, w_seq, w_ret, seqK_n, retK_r, x_nil, x_mv, x_as, x_bin, x_conv, kx, rvP_ok, okv_some, ev_t, ev_c, getV_some, putD_some, bin_add, bin_mul, bin_rem, bin_quo, onI_i, oGet_s, readRs_nil, readRs_t, retV_1, frame_2, of0, of2, Option.some.injEq, exists_eq_left', getK_set, Nat.reduceEqDiff, ↓reduceIte, e1, e2, e3, e4, e5, teams8, and_self]
def f9_T (h : H) (m : Nat) (v2 : V) (i b : Nat) (k : Nat) (fr : Fr) (h1 : H) : Prop := k ≤ b ∧ Grow h.nx.nat h h1 ∧ ∃ x us Q, Nrp h1 x us Q ∧ Q.length ≤ k ∧ (∀ l ∈ Q, l.length ≤ 6) ∧ fr.get (K.ofNat 0) = some (.i .i64 (m : Int)) ∧ fr.get (K.ofNat 2) = some (v2) ∧ fr.get (K.ofNat 7) = some (x) ∧ fr.get (K.ofNat 8) = some (.i .i64 (i : Int)) ∧ fr.get (K.ofNat 12) = some (.i .i64 (k : Int))
def f9_R (h2 : H) (m : Nat) (v2 x u : V) (M : List Int) (i k : Nat) (j : Nat) (fr : Fr) (h1 : H) : Prop := 2 * j ≤ m ∧ Grow h2.nx.nat h2 h1 ∧ ∃ w, Sk 2 qE h1 w (ownL M j) ∧ Own h2.nx.nat w ∧ fr.get (K.ofNat 0) = some (.i .i64 (m : Int)) ∧ fr.get (K.ofNat 2) = some (v2) ∧ fr.get (K.ofNat 7) = some (x) ∧ fr.get (K.ofNat 8) = some (.i .i64 (i : Int)) ∧ fr.get (K.ofNat 12) = some (.i .i64 (k : Int)) ∧ fr.get (K.ofNat 13) = some (w) ∧ fr.get (K.ofNat 14) = some (u) ∧ fr.get (K.ofNat 15) = some (.i .i64 ((2 * j : Nat) : Int))
theorem f9_tail {m i : Nat} {Qk : Ex → Fr → H → Prop} {fr : Fr} (kk : CallsCo fs) (ho : ok5 (m : Int)) (hm8 : m ≤ 8) (hv2 : Sr iE h v2 B) (hB : B.length ≤ 9223372036854775807) (hc : HC h) (hfr : fr.get (K.ofNat 0) = some (.i .i64 (m : Int)) ∧ fr.get (K.ofNat 2) = some (v2) ∧ fr.get (K.ofNat 7) = some (.sn) ∧ fr.get (K.ofNat 8) = some (.i .i64 (i : Int)) ∧ fr.get (K.ofNat 12) = some (.i .i64 0))
    (hq : ∀ fr h', Grow h.nx.nat h h' → (∃ x us Q, Nrp h' x us Q ∧ Q.length ≤ 9 ∧ (∀ l ∈ Q, l.length ≤ 6) ∧ fr.get (K.ofNat 0) = some (.i .i64 (m : Int)) ∧ fr.get (K.ofNat 2) = some (v2) ∧ fr.get (K.ofNat 7) = some (x) ∧ fr.get (K.ofNat 8) = some (.i .i64 (i : Int))) → Qk (.exit 3) fr h') : W fs none (.loop f9_l1) Qk fr h := by
  have ho' := ho
  unfold ok5 at ho'
  have hmod : B.length % (m - 1) < m - 1 := Nat.mod_lt _ (by omega)
  have hmle : B.length % (m - 1) ≤ B.length := Nat.mod_le _ _
  have hlv : ∀ h1, lenV v2 h1 = .ok (.i .i64 (B.length : Int)) h1 := hv2.len
  have e1 : (m : Int) - 1 = ((m - 1 : Nat) : Int) := by omega
  have z1 : ((B.length : Int)).tmod ((m - 1 : Nat) : Int) = ((B.length % (m - 1) : Nat) : Int) := rfl
  obtain ⟨g0, g2, g7, g8, g12⟩ := hfr
  refine W_loop (f9_T h m v2 i (B.length % (m - 1))) (fun k => B.length % (m - 1) - k) ?_ 0 ⟨Nat.zero_le _, Grow.refl _ _, .sn, [], [], ⟨rfl, Sr.nil, fun i h1 => absurd h1 (by simp)⟩, Nat.le_refl _, fun l hl => absurd hl (by simp), by simp (disch := omega) only [g0, g2, g7, g8, g12, and_self, Int.natCast_zero]⟩
  clear g0 g2 g7 g8 g12 fr
  rintro k fr h1 ⟨hk, hG, x, xs, Q, hN, hQl, hrow, g0, g2, g7, g8, g12⟩
  have hc1 := hG.hc hc
  unfold f9_l1
  by_cases hlt : k < B.length % (m - 1)
  · have d0 : decide ((k : Int) < ((B.length % (m - 1) : Nat) : Int)) = true := decide_eq_true (by omega)
    obtain ⟨v3, c1, c2, _, _⟩ := (hv2.grow hc hG).cut (lo := some (.i .i64 (k : Int))) (hi := none) (l := k) (u := B.length) bnd_i bnd_none (by omega) (Nat.le_refl _)
    simp (disch := omega) only [f9_r16, f9_r17, f9_r18, w_skip, w_reg, w_seq, w_cond, w_block, seqK_n, ckB_b, cbB_b, true_and, x_nil, x_mv, x_as, x_bin, x_slice, sliceV_eq, Option.map_none, Option.map_some, x_call, x_len, kx, rvP_ok, okv_some, ev_t, ev_c, evs_nil, evs_cons, getV_some, putD_some, bin_sub, bin_lss, bin_rem, of1, getK_set, Nat.reduceEqDiff, ↓reduceIte, g0, g2, g12, hlv, e1, z1, d0, c1, fw64]
    refine (callP_0 (ef := f33) kk.v33 rfl (f33_ret (n := m) (by omega) c2 (by simp; omega) hc1)).mono ?_
    rintro u h2 ⟨hu, _, hG2⟩
    have hc2 := hG2.hc hc1
    have hGa := hG.trans (hG2.low hG.nx)
    have hN2 := hN.grow hc1 hG2
    have hnl := nmL_len (B := (B.take B.length).drop k) (t := m)
    generalize nmL ((B.take B.length).drop k) m = M at *
    simp (disch := omega) only [f9_r19, w_reg, w_seq, w_block, seqK_n, x_nil, x_as, kx, ev_t, ev_c, getV_some, putD_some, of0, getK_set, ↓reduceIte]
    refine W_loop (f9_R h2 m v2 x u M i k) (fun j => m - 2 * j) ?_ 0 ⟨by omega, Grow.refl _ _, .sn, Sk.nil, Own.sn, by simp (disch := omega) only [getK_set, Nat.reduceEqDiff, ↓reduceIte, g0, g2, g7, g8, g12, and_self, Nat.mul_zero, Int.natCast_zero]⟩
    clear g0 g2 g7 g8 g12 fr
    rintro j fr h5 ⟨hj, hG5, w, hw, how, g0, g2, g7, g8, g12, g13, g14, g15⟩
    have hc5 := hG5.hc hc2
    unfold f9_l0
    by_cases hlt2 : 2 * j + 1 < m
    · have e1 : ((2 * j : Nat) : Int) + 1 = ((2 * j + 1 : Nat) : Int) := by omega
      have e2 : ((2 * j : Nat) : Int) + 2 = ((2 * (j + 1) : Nat) : Int) := by omega
      have d1 : decide (((2 * j + 1 : Nat) : Int) < (m : Int)) = true := decide_eq_true (by omega)
      obtain ⟨pa, pa1, pa2⟩ := (hu.grow hc2 hG5).at (2 * j) (by omega)
      obtain ⟨pb, pb1, pb2⟩ := (hu.grow hc2 hG5).at (2 * j + 1) (by omega)
      rw [← getD_at (d := 0) (show 2 * j < M.length by omega)] at pa2
      rw [← getD_at (d := 0) (show 2 * j + 1 < M.length by omega)] at pb2
      have hsu := ownL_succ (M := M) (k := j)
      generalize M.getD (2 * j) 0 = xa at *
      generalize M.getD (2 * j + 1) 0 = xb at *
      obtain ⟨w', h6, b1, b2, b3, b4, _⟩ := Sk.push qE_len (by omega) (x := (xa, xb)) hw how hG5.nx hc5 (by simp [ownL]; omega)
      have b1 : appV 2 (h5.new (.cells (1 * 2) [.i .i64 xa, .i .i64 xb])) w (.sl h5.nx 0 1 2) = .ok w' h6 := b1
      rw [← hsu] at b2
      simp (disch := omega) only [f9_r20, f9_r21, w_skip, w_reg, w_draw, w_seq, w_cond, w_block, seqK_n, ckB_b, cbB_b, true_and, x_nil, x_mv, x_bin, x_app, kx, kg, xg_nil, xg_mv, xg_build, xg_ld, xg_bin, xg_iads, xg_bslice, xd_cons, stK_s, stay_nil, rvP_ok, okv_some, ev_t, ev_c, getV_some, putD_some, bin_add, bin_lss, oGet_s, cells1_i, of0, of1, Option.some.injEq, exists_eq_left', getK_set, Nat.reduceEqDiff, ↓reduceIte, fill_2, set_2, cells2, g0, g13, g14, g15, e1, d1, pa1, pa2, pb1, pb2, iE, fill_2, set_2, fill_p2, set_p2, cells2, hc5.dead, fw64]
      refine ⟨fresh_one (n := 1) (sz := 2) (by simp (disch := omega) only [getK_set, ↓reduceIte]), ?_⟩
      simp (disch := omega) only [f9_r22, w_reg, seqK_n, atK_n, loopK_n, true_and, x_nil, x_mv, x_as, x_bin, kx, xg_nil, xd_cons, fresh_nil, stK_n, stK_s, stay_nil, rvP_ok, okv_some, ev_t, ev_c, getV_some, putD_some, bin_add, of2, getK_set, Nat.reduceEqDiff, ↓reduceIte, g15, b1, e2, fw64]
      exact ⟨j + 1, by omega, by omega, hG5.trans b4, w', b2, b3, by simp (disch := omega) only [getK_set, Nat.reduceEqDiff, ↓reduceIte, g0, g2, g7, g8, g12, g14, and_self]⟩
    · have e1 : ((2 * j : Nat) : Int) + 1 = ((2 * j + 1 : Nat) : Int) := by omega
      have d1 : decide (((2 * j + 1 : Nat) : Int) < (m : Int)) = false := decide_eq_false (by omega)
      have hN5 := hN2.grow hc2 hG5
      have hrl : (ownL M j).length ≤ 6 := by simp [ownL]; omega
      have hul := hN.len
      obtain ⟨y1, h6, b1, b2, b3, b4, _⟩ := Sl.appR (b := 0) (e := vE) (L := []) Sl.nil Own.sn (Nat.zero_le _) hN5.out hc5 (by simp; omega)
      rw [List.nil_append] at b2
      obtain ⟨y1', h6', b1', b2', b3', b4', _⟩ := Sl.appR (b := h5.nx.nat) (e := vE) (L := []) Sl.nil Own.sn (Nat.le_refl _) hN5.out hc5 (by simp; omega)
      obtain ⟨rfl, rfl⟩ : y1 = y1' ∧ h6 = h6' := by
        have := b1.symm.trans b1'
        injection this with q1 q2
        exact ⟨q1, q2⟩
      have hc6 := b4'.hc hc5
      obtain ⟨y2, h7, a1, a2, a3, a4, _⟩ := Sl.push (b := h5.nx.nat) (e := vE) (x := w) (c := w) rfl b2 b3' b4'.nx hc6 (by omega)
      have hc7 := a4.hc hc6
      have hGx := b4'.trans a4
      have hN7 : Nrp h7 y2 (xs ++ [w]) (Q ++ [ownL M j]) := by
        have hNx := hN5.grow hc5 hGx
        have hwx := (hw.srp).grow hc5 hGx
        refine ⟨by simp [hul], a2.sr, fun q h1 h2 => ?_⟩
        by_cases hq1 : q < xs.length
        · have hq2 : q < Q.length := by omega
          rw [List.getElem_append_left hq1, List.getElem_append_left hq2]
          exact hNx.inn q hq1 hq2
        · have eq : q = xs.length := by simp at h1; omega
          subst eq
          have e1 : (xs ++ [w])[xs.length] = w := by simp
          have e2 : (Q ++ [ownL M j])[xs.length] = ownL M j := by
            rw [List.getElem_append_right (as := Q) (by rw [hul]; exact Nat.le_refl _)]
            simp
          rw [e1, e2]
          exact hwx
      have hrow7 : ∀ l ∈ Q ++ [ownL M j], l.length ≤ 6 := fun l hl => by
        rcases List.mem_append.1 hl with hl | hl
        · exact hrow l hl
        · rw [List.mem_singleton.1 hl]; exact hrl
      have hGb := hGa.trans ((hG5.trans (hGx.low hG5.nx)).low hGa.nx)
      have hN7x := hN5.grow hc5 hGx
      simp (disch := omega) only [f9_r20, f9_r23, f9_r24, f9_r25, w_reg, w_seq, w_cond, w_exit, seqK_n, seqK_e, atK_e, loopK_e, ckB_b, cbB_b, true_and, x_nil, x_mv, x_as, x_bslice, x_bin, x_app, kx, rvP_ok, okv_some, ev_t, ev_c, getV_some, putD_some, bin_add, bin_lss, oGet_s, fill_1, set_1, of1, getK_set, Nat.reduceEqDiff, ↓reduceIte, Bool.false_eq_true, g0, g7, g13, g15, e1, d1, b1, fill_1, set_1, hw.one, a1, fw64]
      simp (disch := omega) only [f9_r26, x_mv, x_call, ev_t, ev_c, evs_nil, evs_cons, getV_some, putD_some, getK_set, Nat.reduceEqDiff, ↓reduceIte, g0]
      refine (callP_0 (ef := f48) kk.v48 rfl (f48_ret (n := m) kk.c45 (by omega) (by omega) (by omega) hN7 (by simp; omega) (fun l hl => by have := hrow7 l hl; omega) hc7)).mono ?_
      rintro r h8 ⟨rfl, hG8⟩
      have hGc := hGb.trans (hG8.low hGb.nx)
      cases hbg : bgB m (Q ++ [ownL M j]) with
      | true =>
        simp (disch := omega) only [f9_r27, f9_r28, w_reg, w_cond, seqK_n, atK_n, loopK_n, ckB_b, cbB_b, true_and, x_nil, x_mv, x_as, x_bin, kx, rvP_ok, okv_some, ev_t, ev_c, getV_some, putD_some, bin_add, of1, getK_set, Nat.reduceEqDiff, ↓reduceIte, g12, fw64]
        exact ⟨k + 1, by omega, by omega, hGc, y2, _, _, hN7.grow hc7 hG8, by simp; omega, hrow7, by simp (disch := omega) only [getK_set, Nat.reduceEqDiff, ↓reduceIte, g0, g2, g8, and_self, Int.natCast_add, Int.natCast_one]⟩
      | false =>
        simp (disch := omega) only [f9_r28, w_skip, w_reg, w_cond, seqK_n, atK_n, loopK_n, ckB_b, cbB_b, true_and, x_nil, x_mv, x_as, x_bin, kx, rvP_ok, okv_some, ev_t, ev_c, getV_some, putD_some, bin_add, of1, getK_set, Nat.reduceEqDiff, ↓reduceIte, Bool.false_eq_true, g12, fw64]
        exact ⟨k + 1, by omega, by omega, hGc, x, _, _, hN7x.grow hc7 hG8, by omega, hrow, by simp (disch := omega) only [getK_set, Nat.reduceEqDiff, ↓reduceIte, g0, g2, g7, g8, and_self, Int.natCast_add, Int.natCast_one]⟩
  · have d0 : decide ((k : Int) < ((B.length % (m - 1) : Nat) : Int)) = false := decide_eq_false (by omega)
    simp (disch := omega) only [f9_r16, w_reg, w_seq, w_cond, w_exit, seqK_n, seqK_e, loopK_e, ckB_b, cbB_b, true_and, x_nil, x_mv, x_bin, x_len, kx, rvP_ok, okv_some, ev_t, ev_c, getV_some, putD_some, bin_sub, bin_lss, bin_rem, of1, getK_set, Nat.reduceEqDiff, ↓reduceIte, Bool.false_eq_true, g0, g2, g12, hlv, e1, z1, d0, fw64]
    exact hq _ _ hG ⟨x, xs, Q, hN, by omega, hrow, by simp (disch := omega) only [getK_set, Nat.reduceEqDiff, ↓reduceIte, g0, g2, g7, g8, and_self]⟩
theorem f9_c11 {m i : Nat} {x u : V} {xs ys : List V} {Q : List (List (Int × Int))} {A : List Nat} {Qk : Fr → H → Prop} {fr : Fr} (k : CallsCo fs) (ho : ok5 (m : Int)) (hm8 : m ≤ 8) (hb : bgB m Q = true) (hN : Nrp h x xs Q) (hrow : ∀ l ∈ Q, l.length ≤ 6) (hM : Met A Q.flatten) (hy : Nrp h u ys (match cmp m (prE m (m / 2) [] 0) m A with | none => [] | some R => Q ++ R)) (hc : HC h)
    (hfr : fr.get (K.ofNat 0) = some (.i .i64 (m : Int)) ∧ fr.get (K.ofNat 2) = some (v2) ∧ fr.get (K.ofNat 7) = some (x) ∧ fr.get (K.ofNat 8) = some (.i .i64 (i : Int)) ∧ fr.get (K.ofNat 9) = some (u) ∧ fr.get (K.ofNat 10) = some (.b (cmp m (prE m (m / 2) [] 0) m A).isSome) ∧ fr.get (K.ofNat 11) = some (.i .i64 0))
    (hq : ∀ fr h', Grow h.nx.nat h h' → fr.get (K.ofNat 0) = some (.i .i64 (m : Int)) ∧ fr.get (K.ofNat 2) = some (v2) ∧ fr.get (K.ofNat 7) = some (x) ∧ fr.get (K.ofNat 8) = some (.i .i64 (i : Int)) ∧ fr.get (K.ofNat 65) = some (.b false) → Qk fr h') : Go.Ev.X fs f9_r11 Qk fr h := by
  have ne0 : decide ((0 : Int) ≠ 0) = false := rfl
  have kb : ∀ a b, keyEq (.one none) (.b a) (.b b) = some (a == b) := fun _ _ => rfl
  have bb : ∀ a : Bool, (a == a) = true := fun a => by cases a <;> rfl
  have ho' := ho
  unfold ok5 at ho'
  have hb' := hb
  unfold bgB at hb'
  simp only [Bool.and_eq_true, decide_eq_true_iff, List.all_eq_true] at hb'
  obtain ⟨g0, g2, g7, g8, g9, g10, g11⟩ := hfr
  simp (disch := omega) only [f9_r11, okG_b, asG_f, true_and, x_g, x_mv, x_bin, x_call, kx, rvP_ok, okv_some, ev_t, ev_c, evs_nil, evs_cons, getV_some, putD_some, bin_neq, of0, getK_set, Nat.reduceEqDiff, ↓reduceIte, Bool.not_false, g0, g7, g10, g11, ne0]
  refine (callP_0 (ef := f49) k.v49 rfl (f49_ret (n := m) k.v72 (by omega) (by omega) hN hb hc)).mono ?_
  rintro r h4 ⟨M, hMM, rfl, hG4⟩
  have hc4 := hG4.hc hc
  have hN4 := hN.grow hc hG4
  have hy4 := hy.grow hc hG4
  have hcc := can_cmp (n := m) (by omega) (by omega) (by omega) m A Q M 200 hM hMM hb'.2.1 hb'.2.2 (by omega) (by
    rcases Nat.eq_zero_or_pos (m - 1 - Q.length) with e | e
    · exact .inl e
    · right
      have h5 := frn_le (n := m) (m := 0)
      have h6 : (m - 1 - Q.length - 1) * (m + 1) ≤ 8 * 11 := Nat.mul_le_mul (by omega) (by omega)
      omega)
  rw [hcc]
  cases hcm : cmp m (prE m (m / 2) [] 0) m A with
  | none =>
    rw [hcm] at hy4 g10
    have g10 : fr.get (K.ofNat 10) = some (.b false) := g10
    have hlu : ∀ h1, lenV u h1 = .ok (.i .i64 0) h1 := fun h1 => by rw [hy4.out.len, hy4.len]; rfl
    have z : (none : Option (List (List (Int × Int)))).isSome = false := rfl
    rw [z]
    simp (disch := omega) only [okG_b, okG_u, asG_t, asG_f, asG_u, true_and, x_nil, x_g, x_mv, x_pick, x_bin, x_eqk, x_not, x_len, kx, rvP_ok, okv_some, ev_t, ev_c, getV_some, putD_some, bin_neq, pick_b, onB_b, oGet_s, getK_set, Nat.reduceEqDiff, ↓reduceIte, Bool.false_eq_true, Bool.not_true, Bool.not_false, g9, g10, kb, bb, cond_true, hlu, ne0, Bool.not_true, Bool.not_false]
    exact hq _ _ hG4 (by simp (disch := omega) only [getK_set, Nat.reduceEqDiff, ↓reduceIte, g0, g2, g7, g8, and_self])
  | some R =>
    rw [hcm] at hy4 g10
    have g10 : fr.get (K.ofNat 10) = some (.b true) := g10
    have hy4 : Nrp h4 u ys (Q ++ R) := hy4
    have hsh := cmp_sh (by omega) (by omega) (by omega) hM hb hcm
    have s : Sched m (Q ++ R) := Sched.of ho hsh
    have hsl := s.len
    have hck : ckI m (Q ++ R) = 0 := by unfold ckI; rw [if_pos hsh]
    have z : (some R : Option (List (List (Int × Int)))).isSome = true := rfl
    rw [z]
    simp (disch := omega) only [okG_b, asG_t, asG_f, true_and, x_g, x_mv, x_pick, x_eqk, x_not, x_call, kx, rvP_ok, okv_some, ev_t, ev_c, evs_nil, evs_cons, getV_some, putD_some, pick_b, onB_b, oGet_s, getK_set, Nat.reduceEqDiff, ↓reduceIte, Bool.false_eq_true, Bool.not_true, Bool.not_false, g0, g9, g10, kb, bb, cond_true, Bool.not_true, Bool.not_false]
    refine (callP_0 (ef := f14) k.c14 rfl (f14_ret k.toCallsRc ho hy4 (by omega) s.big hc4)).mono ?_
    rintro r h5 ⟨rfl, hG5⟩
    rw [hck]
    have hc5 := hG5.hc hc4
    have hGd := hG4.trans (hG5.low hG4.nx)
    have hN5 := hN4.grow hc4 hG5
    have hy5 := hy4.grow hc4 hG5
    have hyl := hy5.len
    have hql : ∀ h1, lenV x h1 = .ok (.i .i64 (Q.length : Int)) h1 := fun h1 => by rw [hN5.out.len, hN5.len]
    obtain ⟨w3, c1, c2, _, _⟩ := hy5.out.cut (lo := none) (hi := some (.i .i64 (Q.length : Int))) (l := 0) (u := Q.length) bnd_none bnd_i (Nat.zero_le _) (by rw [hyl, List.length_append]; omega)
    rw [List.drop_zero] at c2
    have hcut : Nrp h5 w3 (ys.take Q.length) Q := by
      refine ⟨by rw [List.length_take, hyl, List.length_append]; omega, c2, fun q h1 h2 => ?_⟩
      have h3 : q < ys.length := by rw [List.length_take] at h1; omega
      have := hy5.inn q h3 (by rw [List.length_append]; omega)
      rw [List.getElem_append_left h2] at this
      rw [List.getElem_take]
      exact this
    have hI : ∀ l ∈ Q, ∀ e ∈ l, inR .i64 e.1 = true ∧ inR .i64 e.2 = true := fun l hl e he => by
      obtain ⟨q1, q2, _⟩ := rnd_e (hb'.2.1 l hl) e he
      obtain ⟨a, ha⟩ := Int.eq_ofNat_of_zero_le q1.1
      obtain ⟨b, hb2⟩ := Int.eq_ofNat_of_zero_le q2.1
      rw [ha, hb2]
      refine ⟨?_, ?_⟩
      · show Nat.ble a 9223372036854775807 = true
        exact Nat.ble_eq_true_of_le (by omega)
      · show Nat.ble b 9223372036854775807 = true
        exact Nat.ble_eq_true_of_le (by omega)
    simp (disch := omega) only [okG_b, asG_t, asG_f, true_and, x_g, x_mv, x_bin, x_slice, sliceV_eq, Option.map_none, Option.map_some, x_call, x_len, kx, rvP_ok, okv_some, ev_t, ev_c, evs_nil, evs_cons, getV_some, putD_some, bin_neq, getK_set, Nat.reduceEqDiff, ↓reduceIte, Bool.not_false, g7, g9, hql, c1, ne0, Bool.not_false]
    refine (callP_0 (ef := f31) k.v31 rfl (f31_same hcut hN5 ⟨by omega, fun l hl => by have := hrow l hl; omega⟩ hI)).mono ?_
    rintro r h6 ⟨rfl, e6⟩
    rw [e6]
    simp (disch := omega) only [okG_b, asG_t, asG_f, true_and, x_nil, x_g, x_pick, x_not, kx, rvP_ok, ev_t, ev_c, getV_some, putD_some, pick_b, onB_b, getK_set, Nat.reduceEqDiff, ↓reduceIte, Bool.false_eq_true, Bool.not_true, Bool.not_false, Bool.not_true, Bool.not_false]
    exact hq _ _ hGd (by simp (disch := omega) only [getK_set, Nat.reduceEqDiff, ↓reduceIte, g0, g2, g7, g8, and_self])
def f9_I (h : H) (v2 : V) (i : Nat) (fr : Fr) (h1 : H) : Prop := i ≤ 2 ∧ Grow h.nx.nat h h1 ∧ ∃ (n : Int) (x : V) (us : List V) (Q : List (List (Int × Int))), Nrp h1 x us Q ∧ Q.length ≤ 9 ∧ (∀ l ∈ Q, l.length ≤ 6) ∧ fr.get (K.ofNat 0) = some (.i .i64 n) ∧ fr.get (K.ofNat 2) = some (v2) ∧ fr.get (K.ofNat 7) = some (x) ∧ fr.get (K.ofNat 8) = some (.i .i64 (i : Int))
theorem f9_ret {n : Int} (k : CallsCo fs) (hv : Nrp h v us Ls) (hv2 : Sr iE h v2 B) (hB : B.length ≤ 9223372036854775807) (hc : HC h) : Ret fs f9 [.i .i64 n, v, v2] h fun r h' => r = .b true ∧ Grow h.nx.nat h h' := by
  have aw := k.aw
  have ne0 : decide ((0 : Int) ≠ 0) = false := rfl
  have ne1 : decide ((1 : Int) ≠ 1) = false := rfl
  have ne40 : decide ((40 : Int) ≠ 40) = false := rfl
  have kb : ∀ a b, keyEq (.one none) (.b a) (.b b) = some (a == b) := fun _ _ => rfl
  have bb : ∀ a : Bool, (a == a) = true := fun a => by cases a <;> rfl
  apply ret_of rfl
  show W fs none f9_c _ _ _
  unfold f9_c
  simp (disch := omega) only [f9_r0, f9_r1, w_reg, w_seq, seqK_n, x_nil, x_mv, x_as, x_call, ev_t, ev_c, evs_nil, evs_cons, getV_some, putD_some, frame_3, of6, getK_set, Nat.reduceEqDiff, ↓reduceIte, of9]
  refine (callP_0 (ef := f13) k.v13 rfl (f13_ret (m := 9) (g := 6) hv (by omega) (by omega) hc)).mono ?_
  rintro c h1 ⟨xs, hR⟩
  have hl2 := fewL_len (Ls := Ls) (g := 6) (m := 9)
  have hrow := fewL_row (Ls := Ls) (g := 6) (m := 9)
  simp (disch := omega) only [f9_r2, w_reg, w_seq, w_block, seqK_n, x_nil, x_as, kx, ev_t, ev_c, getV_some, putD_some, of0, getK_set, ↓reduceIte]
  refine W_loop (f9_I h v2) (fun i => 2 - i) ?_ 0 ⟨by omega, hR.gr, n, c, xs, _, hR.sd.nrp, hl2, hrow, by simp (disch := omega) only [getK_set, Nat.reduceEqDiff, ↓reduceIte, and_self, Int.natCast_zero]⟩
  clear hR hl2 hrow xs c h1
  rintro i fr h1 ⟨hi, hG, n, x, xs, Q, hN, hl2, hrow, g0, g2, g7, g8⟩
  have hc1 := hG.hc hc
  have hrow' : ∀ l ∈ Q, l.length ≤ 9223372036854775807 := fun l hl => by have := hrow l hl; omega
  unfold f9_l2
  by_cases hlt : i < 2
  · have d0 : decide ((i : Int) < 2) = true := decide_eq_true (by omega)
    obtain ⟨m2, hm2, ho2, hm28⟩ := teams_8 n
    have fin : ∀ fr h', Grow h.nx.nat h h' → (∃ x us Q, Nrp h' x us Q ∧ Q.length ≤ 9 ∧ (∀ l ∈ Q, l.length ≤ 6) ∧ fr.get (K.ofNat 0) = some (.i .i64 (m2 : Int)) ∧ fr.get (K.ofNat 2) = some (v2) ∧ fr.get (K.ofNat 7) = some (x) ∧ fr.get (K.ofNat 8) = some (.i .i64 (i : Int))) → atK 3 (atK 1 (seqK (W fs none (.reg f9_r29)) (loopK (f9_I h v2) (fun i => 2 - i) i (atK 0 (seqK (W fs none (.seq (.reg f9_r30) .ret)) (retK f9 fun r h' => r = .b true ∧ Grow h.nx.nat h h')))))) (.exit 3) fr h' := by
      rintro fr h' hG' ⟨x, us, Q, hN, hl, hr, g0, g2, g7, g8⟩
      simp (disch := omega) only [f9_r29, w_reg, seqK_n, atK_n, atK_e, loopK_n, x_nil, x_mv, x_as, x_bin, kx, rvP_ok, okv_some, ev_t, ev_c, getV_some, putD_some, bin_add, of1, getK_set, ↓reduceIte, g8, fw64]
      exact ⟨i + 1, by omega, by omega, hG', (m2 : Int), x, us, Q, hN, hl, hr, by simp (disch := omega) only [getK_set, Nat.reduceEqDiff, ↓reduceIte, g0, g2, g7, and_self, Int.natCast_add, Int.natCast_one]⟩
    by_cases ho : ok5 n ∧ n ≤ 8
    · obtain ⟨m, rfl⟩ := ok5_nat ho.1
      have hm8 : m ≤ 8 := by have := ho.2; omega
      have ho' := ho.1
      unfold ok5 at ho'
      have dg : decide ((m : Int) > 8) = false := decide_eq_false (by omega)
      simp (disch := omega) only [f9_r3, f9_r4, w_skip, w_reg, w_seq, w_cond, w_block, seqK_n, ckB_b, cbB_b, true_and, x_nil, x_mv, x_bin, x_call, kx, rvP_ok, okv_some, ev_t, ev_c, evs_nil, evs_cons, getV_some, putD_some, bin_lss, of2, getK_set, Nat.reduceEqDiff, ↓reduceIte, g0, g7, g8, d0]
      refine (callP_0 (ef := f47) k.v47 rfl (f47_ret k.toCallsC4 ho.1 hm8 hN hrow' hc1)).mono ?_
      rintro r h2 ⟨hr0, hr1, hG2⟩
      have hc2 := hG2.hc hc1
      have hGa := hG.trans (hG2.low hG.nx)
      have hN2 := hN.grow hc1 hG2
      cases hb : bgB m Q with
      | false =>
        obtain rfl := hr0 hb
        simp (disch := omega) only [f9_r5, w_reg, w_seq, w_block, seqK_n, x_nil, x_mv, x_as, x_ext, x_call, kx, rvP_ok, okv_some, ev_t, ev_c, evs_nil, evs_cons, getV_some, putD_some, onTup_t, nth0, nth1, nth2, of8, getK_set, Nat.reduceEqDiff, ↓reduceIte, g0]
        refine (callP_0 (ef := f37) k.c37 rfl (f37_ok ho.1)).mono ?_
        rintro r h3 ⟨rfl, e3⟩
        rw [e3]
        clear e3 h3
        simp (disch := omega) only [f9_r8, w_reg, w_seq, w_cond, seqK_n, ckB_b, cbB_b, okG_b, asG_f, true_and, x_nil, x_g, x_mv, x_as, x_pick, x_bin, x_not, x_call, kx, rvP_ok, okv_some, ev_t, ev_c, evs_nil, evs_cons, getV_some, putD_some, bin_gtr, pick_b, onB_b, getK_set, Nat.reduceEqDiff, ↓reduceIte, Bool.false_eq_true, Bool.not_true, Bool.not_false, g0, g7, Bool.not_true, dg]
        refine (callP_0 (ef := f48) k.v48 rfl (f48_ret (n := m) k.c45 (by omega) (by omega) (by omega) hN2 (by omega) hrow' hc2)).mono ?_
        rintro r h3 ⟨rfl, hG3⟩
        have hc3 := hG3.hc hc2
        have hGb := hGa.trans (hG3.low hGa.nx)
        simp (disch := omega) only [f9_r9, f9_r13, w_skip, w_reg, w_seq, w_cond, seqK_n, atK_n, ckB_b, cbB_b, okG_b, asG_f, true_and, x_nil, x_g, x_mv, x_as, x_pick, x_bin, x_not, x_call, x_len, kx, rvP_ok, okv_some, ev_t, ev_c, evs_nil, evs_cons, getV_some, putD_some, bin_neq, pick_b, onB_b, len_sn, of0, of8, getK_set, Nat.reduceEqDiff, ↓reduceIte, Bool.false_eq_true, Bool.not_false, of40, g0, hb, Bool.not_false, ne40, len_sn, ne0]
        refine (callP_0 (ef := f41) k.v41 rfl f41_8).mono ?_
        rintro r h4 ⟨rfl, e4⟩
        rw [e4, hm2]
        clear e4 h4
        simp (disch := omega) only [f9_r14, f9_r15, w_reg, w_seq, w_block, seqK_n, x_nil, x_as, kx, ev_t, ev_c, getV_some, putD_some, of0, getK_set, ↓reduceIte]
        exact f9_tail k ho2 hm28 (hv2.grow hc hGb) hB hc3 (by simp (disch := omega) only [getK_set, Nat.reduceEqDiff, ↓reduceIte, g2, g8, and_self]) fun fr h' hG' hx => fin fr h' (hGb.trans (hG'.low hGb.nx)) hx
      | true =>
        obtain ⟨A, u, ys, hM, rfl, hy⟩ := hr1 hb
        simp (disch := omega) only [f9_r5, w_reg, w_seq, w_block, seqK_n, x_nil, x_mv, x_as, x_ext, x_call, kx, rvP_ok, okv_some, ev_t, ev_c, evs_nil, evs_cons, getV_some, putD_some, onTup_t, nth0, nth1, nth2, of8, getK_set, Nat.reduceEqDiff, ↓reduceIte, g0]
        refine (callP_0 (ef := f37) k.c37 rfl (f37_ok ho.1)).mono ?_
        rintro r h3 ⟨rfl, e3⟩
        rw [e3]
        clear e3 h3
        simp (disch := omega) only [f9_r8, w_reg, w_seq, w_cond, seqK_n, ckB_b, cbB_b, okG_b, asG_f, true_and, x_nil, x_g, x_mv, x_as, x_pick, x_bin, x_not, x_call, kx, rvP_ok, okv_some, ev_t, ev_c, evs_nil, evs_cons, getV_some, putD_some, bin_gtr, pick_b, onB_b, getK_set, Nat.reduceEqDiff, ↓reduceIte, Bool.false_eq_true, Bool.not_true, Bool.not_false, g0, g7, Bool.not_true, dg]
        refine (callP_0 (ef := f48) k.v48 rfl (f48_ret (n := m) k.c45 (by omega) (by omega) (by omega) hN2 (by omega) hrow' hc2)).mono ?_
        rintro r h3 ⟨rfl, hG3⟩
        have hc3 := hG3.hc hc2
        have hGb := hGa.trans (hG3.low hGa.nx)
        have hN3 := hN2.grow hc2 hG3
        have hy3 := hy.grow hc2 hG3
        simp (disch := omega) only [w_reg, w_seq, w_cond, seqK_n, ckB_b, cbB_b, true_and, x_nil, x_as, x_not, kx, rvP_ok, ev_t, getV_some, putD_some, onB_b, getK_set, ↓reduceIte, Bool.false_eq_true, Bool.not_true, hb, Bool.not_true]
        refine f9_c11 (i := i) (v2 := v2) k ho.1 hm8 hb hN3 hrow hM hy3 hc3 (by simp (disch := omega) only [getK_set, Nat.reduceEqDiff, ↓reduceIte, g0, g2, g7, g8, and_self]) fun fr h4 hG4 ⟨g0, g2, g7, g8, g65⟩ => ?_
        have hc4 := hG4.hc hc3
        have hGc := hGb.trans (hG4.low hGb.nx)
        simp (disch := omega) only [f9_r13, w_skip, w_reg, w_seq, w_cond, seqK_n, atK_n, ckB_b, cbB_b, true_and, x_mv, x_call, ev_t, ev_c, evs_nil, evs_cons, getV_some, putD_some, of8, getK_set, ↓reduceIte, Bool.false_eq_true, g0, g65]
        refine (callP_0 (ef := f41) k.v41 rfl f41_8).mono ?_
        rintro r h5 ⟨rfl, e5⟩
        rw [e5, hm2]
        clear e5 h5
        simp (disch := omega) only [f9_r14, f9_r15, w_reg, w_seq, w_block, seqK_n, x_nil, x_as, kx, ev_t, ev_c, getV_some, putD_some, of0, getK_set, ↓reduceIte]
        exact f9_tail k ho2 hm28 (hv2.grow hc hGc) hB hc4 (by simp (disch := omega) only [getK_set, Nat.reduceEqDiff, ↓reduceIte, g2, g8, and_self]) fun fr h' hG' hx => fin fr h' (hGc.trans (hG'.low hGc.nx)) hx
    · simp (disch := omega) only [f9_r3, f9_r4, w_skip, w_reg, w_seq, w_cond, w_block, seqK_n, ckB_b, cbB_b, true_and, x_nil, x_mv, x_bin, x_call, kx, rvP_ok, okv_some, ev_t, ev_c, evs_nil, evs_cons, getV_some, putD_some, bin_lss, of2, getK_set, Nat.reduceEqDiff, ↓reduceIte, g0, g7, g8, d0]
      refine (callP_0 (ef := f47) k.v47 rfl (f47_no k.toCallsC4 ho)).mono ?_
      rintro r h2 ⟨rfl, e2⟩
      rw [e2]
      clear e2 h2
      by_cases h5 : ok5 n
      · have dg : decide (n > 8) = true := decide_eq_true (by
          have : ¬ n ≤ 8 := fun h => ho ⟨h5, h⟩
          omega)
        simp (disch := omega) only [f9_r5, w_reg, w_seq, w_block, seqK_n, x_nil, x_mv, x_as, x_ext, x_call, kx, rvP_ok, okv_some, ev_t, ev_c, evs_nil, evs_cons, getV_some, putD_some, onTup_t, nth0, nth1, nth2, of8, getK_set, Nat.reduceEqDiff, ↓reduceIte, g0]
        refine (callP_0 (ef := f37) k.c37 rfl (f37_ok h5)).mono ?_
        rintro r h3 ⟨rfl, e3⟩
        rw [e3]
        clear e3 h3
        simp (disch := omega) only [f9_r6, f9_r13, w_skip, w_reg, w_seq, w_cond, seqK_n, atK_n, ckB_b, cbB_b, okG_b, asG_f, true_and, x_nil, x_g, x_mv, x_as, x_pick, x_bin, x_not, x_call, x_len, kx, rvP_ok, okv_some, ev_t, ev_c, evs_nil, evs_cons, getV_some, putD_some, bin_neq, bin_gtr, pick_b, onB_b, len_sn, of0, of1, of8, getK_set, Nat.reduceEqDiff, ↓reduceIte, Bool.false_eq_true, Bool.not_true, Bool.not_false, g0, Bool.not_true, dg, ne1, len_sn, ne0]
        refine (callP_0 (ef := f41) k.v41 rfl f41_8).mono ?_
        rintro r h4 ⟨rfl, e4⟩
        rw [e4, hm2]
        clear e4 h4
        simp (disch := omega) only [f9_r14, f9_r15, w_reg, w_seq, w_block, seqK_n, x_nil, x_as, kx, ev_t, ev_c, getV_some, putD_some, of0, getK_set, ↓reduceIte]
        exact f9_tail k ho2 hm28 (hv2.grow hc hG) hB hc1 (by simp (disch := omega) only [getK_set, Nat.reduceEqDiff, ↓reduceIte, g2, g8, and_self]) fun fr h' hG' hx => fin fr h' (hG.trans (hG'.low hG.nx)) hx
      · simp (disch := omega) only [f9_r5, w_reg, w_seq, w_block, seqK_n, x_nil, x_mv, x_as, x_ext, x_call, kx, rvP_ok, okv_some, ev_t, ev_c, evs_nil, evs_cons, getV_some, putD_some, onTup_t, nth0, nth1, nth2, of8, getK_set, Nat.reduceEqDiff, ↓reduceIte, g0]
        refine (callP_0 (ef := f37) k.c37 rfl (f37_no h5)).mono ?_
        rintro r h3 ⟨rfl, e3⟩
        rw [e3]
        clear e3 h3
        simp (disch := omega) only [f9_r6, f9_r13, w_skip, w_reg, w_seq, w_cond, seqK_n, atK_n, ckB_b, cbB_b, okG_b, asG_f, true_and, x_nil, x_g, x_mv, x_as, x_pick, x_bin, x_not, x_call, x_len, kx, rvP_ok, okv_some, ev_t, ev_c, evs_nil, evs_cons, getV_some, putD_some, bin_neq, pick_b, onB_b, len_sn, of0, of1, of8, getK_set, Nat.reduceEqDiff, ↓reduceIte, Bool.false_eq_true, Bool.not_true, Bool.not_false, g0, Bool.not_false, ne1, len_sn, ne0]
        refine (callP_0 (ef := f41) k.v41 rfl f41_8).mono ?_
        rintro r h4 ⟨rfl, e4⟩
        rw [e4, hm2]
        clear e4 h4
        simp (disch := omega) only [f9_r14, f9_r15, w_reg, w_seq, w_block, seqK_n, x_nil, x_as, kx, ev_t, ev_c, getV_some, putD_some, of0, getK_set, ↓reduceIte]
        exact f9_tail k ho2 hm28 (hv2.grow hc hG) hB hc1 (by simp (disch := omega) only [getK_set, Nat.reduceEqDiff, ↓reduceIte, g2, g8, and_self]) fun fr h' hG' hx => fin fr h' (hG.trans (hG'.low hG.nx)) hx
  · have d0 : decide ((i : Int) < 2) = false := decide_eq_false (by omega)
    simp (disch := omega) only [f9_r3, f9_r30, f9_rs, w_reg, w_seq, w_cond, w_exit, w_ret, seqK_n, seqK_e, atK_e, loopK_e, ckB_b, cbB_b, true_and, retK_r, x_nil, x_mv, x_as, x_bin, x_call, kx, rvP_ok, okv_some, ev_t, ev_c, evs_nil, getV_some, putD_some, bin_lss, oGet_s, readRs_nil, readRs_t, retV_1, of2, Option.some.injEq, exists_eq_left', getK_set, ↓reduceIte, Bool.false_eq_true, g8, d0, aw]
    exact hG
end
end Go.Ev
