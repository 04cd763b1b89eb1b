/-
  Labels: is a graph a caterpillar?
  Labels: is a graph a caterpillar?
  Labels: the law LabelsChecks.
  Labels: a caterpillar has graceful labels that part.
  Labels: the labels of a caterpillar, given in turn from below and from above.
  Labels: the labels of a caterpillar, given in turn from below and from above: all are given.
  Labels: a caterpillar has graceful labels that part, and the search finds some.
  Labels: is a graph a caterpillar, for the reference.
-/
import Derived.Test.YtmnojcnimncbpaaPf
namespace Go.Ev
open Go Go.RowKit
noncomputable def f148_r0 : List EOper := [⟨(some (K.ofNat 4)), none, .as (.c (.i .i64 (.ofNat 0)))⟩]
noncomputable def f148_r1 : List EOper := [⟨(some (K.ofNat 6)), none, .mv (.t (K.ofNat 0))⟩, ⟨(some (K.ofNat 7)), none, .len (.t (K.ofNat 6))⟩, ⟨(some (K.ofNat 8)), none, .mv (.c (.i .i64 (.ofNat 0)))⟩]
noncomputable def f148_r2 : List EOper := [⟨(some (K.ofNat 9)), none, .bin .lss (.t (K.ofNat 8)) (.t (K.ofNat 7))⟩]
noncomputable def f148_r3 : List EOper := [⟨(some (K.ofNat 10)), none, .mv (.t (K.ofNat 8))⟩, ⟨(some (K.ofNat 5)), none, .as (.t (K.ofNat 10))⟩]
noncomputable def f148_r4 : List EOper := [⟨(some (K.ofNat 11)), none, .mv (.t (K.ofNat 1))⟩, ⟨(some (K.ofNat 12)), none, .mv (.t (K.ofNat 0))⟩, ⟨(some (K.ofNat 13)), none, .mv (.t (K.ofNat 5))⟩, ⟨(some (K.ofNat 14)), none, .iads 1 (.t (K.ofNat 12)) (.t (K.ofNat 13))⟩, ⟨(some (K.ofNat 15)), none, .ld (.t (K.ofNat 14))⟩, ⟨(some (K.ofNat 16)), none, .eqk (.one none) false (.t (K.ofNat 11)) (.t (K.ofNat 15))⟩]
noncomputable def f148_r5 : List EOper := [⟨(some (K.ofNat 17)), none, .mv (.t (K.ofNat 5))⟩, ⟨(some (K.ofNat 4)), none, .as (.t (K.ofNat 17))⟩]
noncomputable def f148_r6 : List EOper := [⟨(some (K.ofNat 18)), none, .bin .add (.t (K.ofNat 8)) (.c (.i .i64 (.ofNat 1)))⟩, ⟨(some (K.ofNat 8)), none, .mv (.t (K.ofNat 18))⟩]
noncomputable def f148_l0 : EC := (.seq (.reg f148_r2) (.seq (.cond (.t (K.ofNat 9)) .skip (.exit 0)) (.seq (.block 1 (.seq (.reg f148_r3) (.seq (.reg f148_r4) (.cond (.t (K.ofNat 16)) (.seq (.reg f148_r5) .ret) .skip)))) (.reg f148_r6))))
noncomputable def f148_r7 : List EOper := [⟨(some (K.ofNat 4)), none, .as (.c (.i .i64 (.negSucc 0)))⟩]
noncomputable def f148_c : EC := (.seq (.reg f148_r0) (.seq (.seq (.reg f148_r1) (.block 0 (.loop f148_l0))) (.seq (.reg f148_r7) .ret)))
noncomputable def f148 : EF := ⟨19, [.tmp (K.ofNat 4)], f148_c, none⟩
theorem f148_rs : f148.rs = [.tmp (K.ofNat 4)] := of_eq_true (eq_self _)
noncomputable def f131_r0 : List EOper := [⟨(some (K.ofNat 4)), none, .as (.c (.b false))⟩]
noncomputable def f131_r1 : List EOper := [⟨(some (K.ofNat 5)), none, .mv (.t (K.ofNat 0))⟩, ⟨(some (K.ofNat 6)), none, .mv (.t (K.ofNat 1))⟩, ⟨(some (K.ofNat 7)), none, .call (.c (.fn (K.ofNat 148) [])) [(.t (K.ofNat 5)), (.t (K.ofNat 6))]⟩, ⟨(some (K.ofNat 8)), none, .bin .geq (.t (K.ofNat 7)) (.c (.i .i64 (.ofNat 0)))⟩, ⟨(some (K.ofNat 4)), none, .as (.t (K.ofNat 8))⟩]
noncomputable def f131_c : EC := (.seq (.reg f131_r0) (.seq (.reg f131_r1) .ret))
noncomputable def f131 : EF := ⟨9, [.tmp (K.ofNat 4)], f131_c, none⟩
theorem f131_rs : f131.rs = [.tmp (K.ofNat 4)] := of_eq_true (eq_self _)
noncomputable def f106_r0 : List EOper := [⟨(some (K.ofNat 2)), none, .alloc 7 [(.i .i64 (.ofNat 0)), (.i .i64 (.ofNat 0)), (.i .i64 (.ofNat 0)), (.i .i64 (.ofNat 0)), (.i .i64 (.ofNat 0)), (.i .i64 (.ofNat 0)), (.i .i64 (.ofNat 0))]⟩]
noncomputable def f106_r1 : List EOper := [⟨(some (K.ofNat 3)), none, .alloc 7 [(.i .i64 (.ofNat 0)), (.i .i64 (.ofNat 0)), (.i .i64 (.ofNat 0)), (.i .i64 (.ofNat 0)), (.i .i64 (.ofNat 0)), (.i .i64 (.ofNat 0)), (.i .i64 (.ofNat 0))]⟩]
noncomputable def f106_r2 : List EOper := [⟨(some (K.ofNat 6)), none, .mv (.t (K.ofNat 0))⟩, ⟨(some (K.ofNat 7)), none, .len (.t (K.ofNat 6))⟩, ⟨(some (K.ofNat 8)), none, .mv (.c (.i .i64 (.ofNat 0)))⟩]
noncomputable def f106_r3 : List EOper := [⟨(some (K.ofNat 9)), none, .bin .lss (.t (K.ofNat 8)) (.t (K.ofNat 7))⟩]
noncomputable def f106_r4 : List EOper := [⟨(some (K.ofNat 10)), none, .iads 2 (.t (K.ofNat 6)) (.t (K.ofNat 8))⟩, ⟨(some (K.ofNat 11)), none, .ldn 2 (.t (K.ofNat 10))⟩, ⟨(some (K.ofNat 5)), none, .alloc 2 [(.i .i64 (.ofNat 0)), (.i .i64 (.ofNat 0))]⟩, ⟨none, none, .st 2 (.t (K.ofNat 5)) (.t (K.ofNat 11))⟩]
noncomputable def f106_r5 : List EOper := [⟨(some (K.ofNat 12)), none, .iadr 2 1 (.t (K.ofNat 5)) (.c (.i .i64 (.ofNat 0)))⟩, ⟨(some (K.ofNat 13)), none, .ld (.t (K.ofNat 12))⟩, ⟨(some (K.ofNat 14)), none, .iadr 7 1 (.t (K.ofNat 3)) (.t (K.ofNat 13))⟩, ⟨(some (K.ofNat 15)), none, .ld (.t (K.ofNat 14))⟩, ⟨(some (K.ofNat 16)), none, .bin .add (.t (K.ofNat 15)) (.c (.i .i64 (.ofNat 1)))⟩, ⟨(some (K.ofNat 17)), none, .iadr 7 1 (.t (K.ofNat 3)) (.t (K.ofNat 13))⟩, ⟨none, none, .st 1 (.t (K.ofNat 17)) (.t (K.ofNat 16))⟩]
noncomputable def f106_r6 : List EOper := [⟨(some (K.ofNat 18)), none, .iadr 2 1 (.t (K.ofNat 5)) (.c (.i .i64 (.ofNat 1)))⟩, ⟨(some (K.ofNat 19)), none, .ld (.t (K.ofNat 18))⟩, ⟨(some (K.ofNat 20)), none, .iadr 7 1 (.t (K.ofNat 3)) (.t (K.ofNat 19))⟩, ⟨(some (K.ofNat 21)), none, .ld (.t (K.ofNat 20))⟩, ⟨(some (K.ofNat 22)), none, .bin .add (.t (K.ofNat 21)) (.c (.i .i64 (.ofNat 1)))⟩, ⟨(some (K.ofNat 23)), none, .iadr 7 1 (.t (K.ofNat 3)) (.t (K.ofNat 19))⟩, ⟨none, none, .st 1 (.t (K.ofNat 23)) (.t (K.ofNat 22))⟩]
noncomputable def f106_r7 : List EOper := [⟨(some (K.ofNat 24)), none, .bin .add (.t (K.ofNat 8)) (.c (.i .i64 (.ofNat 1)))⟩, ⟨(some (K.ofNat 8)), none, .mv (.t (K.ofNat 24))⟩]
noncomputable def f106_l0 : EC := (.seq (.reg f106_r3) (.seq (.cond (.t (K.ofNat 9)) .skip (.exit 0)) (.seq (.block 1 (.seq (.reg f106_r4) (.seq (.reg f106_r5) (.reg f106_r6)))) (.reg f106_r7))))
noncomputable def f106_r8 : List EOper := [⟨(some (K.ofNat 25)), none, .ldn 7 (.t (K.ofNat 3))⟩, ⟨none, none, .st 7 (.t (K.ofNat 2)) (.t (K.ofNat 25))⟩]
noncomputable def f106_c : EC := (.seq (.reg f106_r0) (.seq (.reg f106_r1) (.seq (.seq (.reg f106_r2) (.block 0 (.loop f106_l0))) (.seq (.reg f106_r8) .ret))))
noncomputable def f106 : EF := ⟨26, [.celln (K.ofNat 2) 7], f106_c, none⟩
theorem f106_rs : f106.rs = [.celln (K.ofNat 2) 7] := of_eq_true (eq_self _)
noncomputable def f105_r0 : List EOper := [⟨(some (K.ofNat 4)), none, .as (.c (.b false))⟩]
noncomputable def f105_r1 : List EOper := [⟨(some (K.ofNat 8)), none, .build [(.b false), (.b false), (.b false), (.b false), (.b false), (.b false), (.b false)] [(0, 1, (.c (.b true)))]⟩, ⟨(some (K.ofNat 5)), none, .alloc 7 [(.b false), (.b false), (.b false), (.b false), (.b false), (.b false), (.b false)]⟩, ⟨none, none, .st 7 (.t (K.ofNat 5)) (.t (K.ofNat 8))⟩]
noncomputable def f105_r2 : List EOper := [⟨(some (K.ofNat 9)), none, .mv (.t (K.ofNat 0))⟩, ⟨(some (K.ofNat 10)), none, .mv (.c (.i .i64 (.ofNat 0)))⟩]
noncomputable def f105_r3 : List EOper := [⟨(some (K.ofNat 11)), none, .bin .lss (.t (K.ofNat 10)) (.t (K.ofNat 9))⟩]
noncomputable def f105_r4 : List EOper := [⟨(some (K.ofNat 12)), none, .mv (.t (K.ofNat 1))⟩, ⟨(some (K.ofNat 13)), none, .len (.t (K.ofNat 12))⟩, ⟨(some (K.ofNat 14)), none, .mv (.c (.i .i64 (.ofNat 0)))⟩]
noncomputable def f105_r5 : List EOper := [⟨(some (K.ofNat 15)), none, .bin .lss (.t (K.ofNat 14)) (.t (K.ofNat 13))⟩]
noncomputable def f105_r6 : List EOper := [⟨(some (K.ofNat 16)), none, .iads 2 (.t (K.ofNat 12)) (.t (K.ofNat 14))⟩, ⟨(some (K.ofNat 17)), none, .ldn 2 (.t (K.ofNat 16))⟩, ⟨(some (K.ofNat 7)), none, .alloc 2 [(.i .i64 (.ofNat 0)), (.i .i64 (.ofNat 0))]⟩, ⟨none, none, .st 2 (.t (K.ofNat 7)) (.t (K.ofNat 17))⟩]
noncomputable def f105_r7 : List EOper := [⟨(some (K.ofNat 18)), none, .iadr 2 1 (.t (K.ofNat 7)) (.c (.i .i64 (.ofNat 0)))⟩, ⟨(some (K.ofNat 19)), none, .ld (.t (K.ofNat 18))⟩, ⟨(some (K.ofNat 20)), none, .iadr 7 1 (.t (K.ofNat 5)) (.t (K.ofNat 19))⟩, ⟨(some (K.ofNat 21)), none, .ld (.t (K.ofNat 20))⟩, ⟨(some (K.ofNat 22)), none, .mv (.t (K.ofNat 21))⟩, ⟨(some (K.ofNat 23)), (some ((K.ofNat 22), false)), .iadr 2 1 (.t (K.ofNat 7)) (.c (.i .i64 (.ofNat 1)))⟩, ⟨(some (K.ofNat 24)), (some ((K.ofNat 22), false)), .ld (.t (K.ofNat 23))⟩, ⟨(some (K.ofNat 25)), (some ((K.ofNat 22), false)), .iadr 7 1 (.t (K.ofNat 5)) (.t (K.ofNat 24))⟩, ⟨(some (K.ofNat 26)), (some ((K.ofNat 22), false)), .ld (.t (K.ofNat 25))⟩, ⟨(some (K.ofNat 27)), none, .pick (.t (K.ofNat 22)) (.c (.b true)) (.t (K.ofNat 26))⟩]
noncomputable def f105_r8 : List Stage := [⟨[⟨(some (K.ofNat 28)), none, .iadr 2 1 (.t (K.ofNat 7)) (.c (.i .i64 (.ofNat 0)))⟩, ⟨(some (K.ofNat 29)), none, .ld (.t (K.ofNat 28))⟩, ⟨(some (K.ofNat 30)), none, .iadr 2 1 (.t (K.ofNat 7)) (.c (.i .i64 (.ofNat 1)))⟩, ⟨(some (K.ofNat 31)), none, .ld (.t (K.ofNat 30))⟩, ⟨(some (K.ofNat 32)), none, .iadr 7 1 (.t (K.ofNat 5)) (.t (K.ofNat 29))⟩], [], (some ⟨none, none, .st 1 (.t (K.ofNat 32)) (.c (.b true))⟩), []⟩, ⟨[⟨(some (K.ofNat 33)), none, .iadr 7 1 (.t (K.ofNat 5)) (.t (K.ofNat 31))⟩], [⟨(some (K.ofNat 30)), none, .iadr 2 1 (.t (K.ofNat 7)) (.c (.i .i64 (.ofNat 1)))⟩, ⟨(some (K.ofNat 31)), none, .ld (.t (K.ofNat 30))⟩], (some ⟨none, none, .st 1 (.t (K.ofNat 33)) (.c (.b true))⟩), []⟩, ⟨[], [], none, []⟩]
noncomputable def f105_r9 : List EOper := [⟨(some (K.ofNat 34)), none, .bin .add (.t (K.ofNat 14)) (.c (.i .i64 (.ofNat 1)))⟩, ⟨(some (K.ofNat 14)), none, .mv (.t (K.ofNat 34))⟩]
noncomputable def f105_l0 : EC := (.seq (.reg f105_r5) (.seq (.cond (.t (K.ofNat 15)) .skip (.exit 2)) (.seq (.block 3 (.seq (.reg f105_r6) (.seq (.reg f105_r7) (.cond (.t (K.ofNat 27)) (.draw f105_r8) .skip)))) (.reg f105_r9))))
noncomputable def f105_r10 : List EOper := [⟨(some (K.ofNat 35)), none, .bin .add (.t (K.ofNat 10)) (.c (.i .i64 (.ofNat 1)))⟩, ⟨(some (K.ofNat 10)), none, .mv (.t (K.ofNat 35))⟩]
noncomputable def f105_l1 : EC := (.seq (.reg f105_r3) (.seq (.cond (.t (K.ofNat 11)) .skip (.exit 0)) (.seq (.block 1 (.seq (.reg f105_r4) (.block 2 (.loop f105_l0)))) (.reg f105_r10))))
noncomputable def f105_r11 : List EOper := [⟨(some (K.ofNat 36)), none, .mv (.t (K.ofNat 0))⟩, ⟨(some (K.ofNat 37)), none, .slcA 7 1 (.t (K.ofNat 5)) none (some (.t (K.ofNat 36)))⟩, ⟨(some (K.ofNat 38)), none, .call (.c (.fn (K.ofNat 131) [])) [(.t (K.ofNat 37)), (.c (.b false))]⟩, ⟨(some (K.ofNat 39)), none, .not (.t (K.ofNat 38))⟩, ⟨(some (K.ofNat 4)), none, .as (.t (K.ofNat 39))⟩]
noncomputable def f105_c : EC := (.seq (.reg f105_r0) (.seq (.reg f105_r1) (.seq (.seq (.reg f105_r2) (.block 0 (.loop f105_l1))) (.seq (.reg f105_r11) .ret))))
noncomputable def f105 : EF := ⟨40, [.tmp (K.ofNat 4)], f105_c, none⟩
theorem f105_rs : f105.rs = [.tmp (K.ofNat 4)] := of_eq_true (eq_self _)
noncomputable def f67_r0 : List EOper := [⟨(some (K.ofNat 4)), none, .as (.c (.b false))⟩]
noncomputable def f67_r1 : List EOper := [⟨(some (K.ofNat 12)), none, .mv (.t (K.ofNat 1))⟩, ⟨(some (K.ofNat 13)), none, .len (.t (K.ofNat 12))⟩, ⟨(some (K.ofNat 14)), none, .mv (.t (K.ofNat 0))⟩, ⟨(some (K.ofNat 15)), none, .bin .sub (.t (K.ofNat 14)) (.c (.i .i64 (.ofNat 1)))⟩, ⟨(some (K.ofNat 16)), none, .bin .neq (.t (K.ofNat 13)) (.t (K.ofNat 15))⟩, ⟨(some (K.ofNat 17)), none, .mv (.t (K.ofNat 16))⟩, ⟨(some (K.ofNat 18)), (some ((K.ofNat 17), false)), .mv (.t (K.ofNat 0))⟩, ⟨(some (K.ofNat 19)), (some ((K.ofNat 17), false)), .mv (.t (K.ofNat 1))⟩, ⟨(some (K.ofNat 20)), (some ((K.ofNat 17), false)), .call (.c (.fn (K.ofNat 105) [])) [(.t (K.ofNat 18)), (.t (K.ofNat 19))]⟩, ⟨(some (K.ofNat 21)), (some ((K.ofNat 17), false)), .not (.t (K.ofNat 20))⟩, ⟨(some (K.ofNat 22)), none, .pick (.t (K.ofNat 17)) (.c (.b true)) (.t (K.ofNat 21))⟩]
noncomputable def f67_r2 : List EOper := [⟨(some (K.ofNat 4)), none, .as (.c (.b false))⟩]
noncomputable def f67_r3 : List EOper := [⟨(some (K.ofNat 23)), none, .mv (.t (K.ofNat 1))⟩, ⟨(some (K.ofNat 24)), none, .call (.c (.fn (K.ofNat 106) [])) [(.t (K.ofNat 23))]⟩, ⟨(some (K.ofNat 5)), none, .alloc 7 [(.i .i64 (.ofNat 0)), (.i .i64 (.ofNat 0)), (.i .i64 (.ofNat 0)), (.i .i64 (.ofNat 0)), (.i .i64 (.ofNat 0)), (.i .i64 (.ofNat 0)), (.i .i64 (.ofNat 0))]⟩, ⟨none, none, .st 7 (.t (K.ofNat 5)) (.t (K.ofNat 24))⟩]
noncomputable def f67_r4 : List EOper := [⟨(some (K.ofNat 6)), none, .as (.c .sn)⟩]
noncomputable def f67_r5 : List EOper := [⟨(some (K.ofNat 25)), none, .mv (.t (K.ofNat 1))⟩, ⟨(some (K.ofNat 26)), none, .len (.t (K.ofNat 25))⟩, ⟨(some (K.ofNat 27)), none, .mv (.c (.i .i64 (.ofNat 0)))⟩]
noncomputable def f67_r6 : List EOper := [⟨(some (K.ofNat 28)), none, .bin .lss (.t (K.ofNat 27)) (.t (K.ofNat 26))⟩]
noncomputable def f67_r7 : List EOper := [⟨(some (K.ofNat 29)), none, .iads 2 (.t (K.ofNat 25)) (.t (K.ofNat 27))⟩, ⟨(some (K.ofNat 30)), none, .ldn 2 (.t (K.ofNat 29))⟩, ⟨(some (K.ofNat 8)), none, .alloc 2 [(.i .i64 (.ofNat 0)), (.i .i64 (.ofNat 0))]⟩, ⟨none, none, .st 2 (.t (K.ofNat 8)) (.t (K.ofNat 30))⟩]
noncomputable def f67_r8 : List EOper := [⟨(some (K.ofNat 31)), none, .iadr 2 1 (.t (K.ofNat 8)) (.c (.i .i64 (.ofNat 0)))⟩, ⟨(some (K.ofNat 32)), none, .ld (.t (K.ofNat 31))⟩, ⟨(some (K.ofNat 33)), none, .iadr 7 1 (.t (K.ofNat 5)) (.t (K.ofNat 32))⟩, ⟨(some (K.ofNat 34)), none, .ld (.t (K.ofNat 33))⟩, ⟨(some (K.ofNat 35)), none, .bin .gtr (.t (K.ofNat 34)) (.c (.i .i64 (.ofNat 1)))⟩, ⟨(some (K.ofNat 36)), none, .mv (.t (K.ofNat 35))⟩, ⟨(some (K.ofNat 37)), (some ((K.ofNat 36), true)), .iadr 2 1 (.t (K.ofNat 8)) (.c (.i .i64 (.ofNat 1)))⟩, ⟨(some (K.ofNat 38)), (some ((K.ofNat 36), true)), .ld (.t (K.ofNat 37))⟩, ⟨(some (K.ofNat 39)), (some ((K.ofNat 36), true)), .iadr 7 1 (.t (K.ofNat 5)) (.t (K.ofNat 38))⟩, ⟨(some (K.ofNat 40)), (some ((K.ofNat 36), true)), .ld (.t (K.ofNat 39))⟩, ⟨(some (K.ofNat 41)), (some ((K.ofNat 36), true)), .bin .gtr (.t (K.ofNat 40)) (.c (.i .i64 (.ofNat 1)))⟩, ⟨(some (K.ofNat 42)), none, .pick (.t (K.ofNat 36)) (.t (K.ofNat 41)) (.c (.b false))⟩]
noncomputable def f67_r9 : List EOper := [⟨(some (K.ofNat 43)), none, .mv (.t (K.ofNat 6))⟩, ⟨(some (K.ofNat 44)), none, .ldn 2 (.t (K.ofNat 8))⟩, ⟨(some (K.ofNat 45)), none, .bslice 1 2 [(.i .i64 (.ofNat 0)), (.i .i64 (.ofNat 0))] [(0, 2, (.t (K.ofNat 44)))]⟩, ⟨(some (K.ofNat 46)), none, .app 2 (.t (K.ofNat 43)) (.t (K.ofNat 45))⟩, ⟨(some (K.ofNat 6)), none, .as (.t (K.ofNat 46))⟩]
noncomputable def f67_r10 : List EOper := [⟨(some (K.ofNat 47)), none, .bin .add (.t (K.ofNat 27)) (.c (.i .i64 (.ofNat 1)))⟩, ⟨(some (K.ofNat 27)), none, .mv (.t (K.ofNat 47))⟩]
noncomputable def f67_l0 : EC := (.seq (.reg f67_r6) (.seq (.cond (.t (K.ofNat 28)) .skip (.exit 0)) (.seq (.block 1 (.seq (.reg f67_r7) (.seq (.reg f67_r8) (.cond (.t (K.ofNat 42)) (.reg f67_r9) .skip)))) (.reg f67_r10))))
noncomputable def f67_r11 : List EOper := [⟨(some (K.ofNat 48)), none, .mv (.t (K.ofNat 6))⟩, ⟨(some (K.ofNat 49)), none, .call (.c (.fn (K.ofNat 106) [])) [(.t (K.ofNat 48))]⟩, ⟨(some (K.ofNat 9)), none, .alloc 7 [(.i .i64 (.ofNat 0)), (.i .i64 (.ofNat 0)), (.i .i64 (.ofNat 0)), (.i .i64 (.ofNat 0)), (.i .i64 (.ofNat 0)), (.i .i64 (.ofNat 0)), (.i .i64 (.ofNat 0))]⟩, ⟨none, none, .st 7 (.t (K.ofNat 9)) (.t (K.ofNat 49))⟩]
noncomputable def f67_r12 : List EOper := [⟨(some (K.ofNat 51)), none, .slcA 7 1 (.t (K.ofNat 9)) none none⟩, ⟨(some (K.ofNat 52)), none, .call (.c (.fn (K.ofNat 102) [])) [(.c (.i .i64 (.ofNat 0))), (.t (K.ofNat 51))]⟩, ⟨(some (K.ofNat 50)), none, .mv (.t (K.ofNat 52))⟩, ⟨(some (K.ofNat 53)), none, .ext (.t (K.ofNat 50)) 0⟩, ⟨(some (K.ofNat 54)), none, .ext (.t (K.ofNat 50)) 1⟩, ⟨(some (K.ofNat 10)), none, .as (.t (K.ofNat 53))⟩, ⟨(some (K.ofNat 11)), none, .as (.t (K.ofNat 54))⟩]
noncomputable def f67_r13 : List EOper := [⟨(some (K.ofNat 55)), none, .mv (.t (K.ofNat 11))⟩, ⟨(some (K.ofNat 56)), none, .bin .leq (.t (K.ofNat 55)) (.c (.i .i64 (.ofNat 2)))⟩, ⟨(some (K.ofNat 4)), none, .as (.t (K.ofNat 56))⟩]
noncomputable def f67_c : EC := (.seq (.reg f67_r0) (.seq (.seq (.reg f67_r1) (.cond (.t (K.ofNat 22)) (.seq (.reg f67_r2) .ret) .skip)) (.seq (.reg f67_r3) (.seq (.reg f67_r4) (.seq (.seq (.reg f67_r5) (.block 0 (.loop f67_l0))) (.seq (.reg f67_r11) (.seq (.reg f67_r12) (.seq (.reg f67_r13) .ret))))))))
noncomputable def f67 : EF := ⟨57, [.tmp (K.ofNat 4)], f67_c, none⟩
theorem f67_rs : f67.rs = [.tmp (K.ofNat 4)] := of_eq_true (eq_self _)
section
variable {fs : T EF} {h : H}
def f148_I (h : H) (v : V) (L : List Bool) (x : Bool) (i : Nat) (fr : Fr) (h1 : H) : Prop := h1 = h ∧ i ≤ L.length ∧ (∀ j (hj : j < L.length), j < i → L[j] ≠ x) ∧ fr.get (K.ofNat 0) = some (v) ∧ fr.get (K.ofNat 1) = some (.b x) ∧ fr.get (K.ofNat 6) = some (v) ∧ fr.get (K.ofNat 7) = some (.i .i64 (L.length : Int)) ∧ fr.get (K.ofNat 8) = some (.i .i64 (i : Int))
theorem f148_ret {v : V} {L : List Bool} {x : Bool} (hv : Sr V.b h v L) (hL : L.length ≤ 1000000) : Ret fs f148 [v, .b x] h fun r h' => h' = h ∧ ∃ k : Int, r = .i .i64 k ∧ (0 ≤ k ↔ x ∈ L) := by
  have kb : ∀ a b, keyEq (.one none) (.b a) (.b b) = some (a == b) := fun _ _ => rfl
  apply ret_of rfl
  show W fs none f148_c _ _ _
  unfold f148_c
  simp (disch := omega) only [f148_r0, f148_r1, w_reg, w_seq, w_block, seqK_n, x_nil, x_mv, x_as, x_len, kx, rvP_ok, ev_t, ev_c, getV_some, putD_some, frame_2, of0, getK_set, Nat.reduceEqDiff, ↓reduceIte, hv.len]
  refine W_loop (f148_I h v L x) (fun i => L.length - i) ?_ 0 ⟨rfl, by omega, fun j _ h => by omega, by simp (disch := omega) only [getK_set, Nat.reduceEqDiff, ↓reduceIte, and_self, Int.natCast_zero]⟩
  rintro i fr h1 ⟨rfl, hi, hh, g0, g1, g6, g7, g8⟩
  unfold f148_l0
  by_cases hlt : i < L.length
  · have d0 : decide ((i : Int) < (L.length : Int)) = true := by simpa using hlt
    obtain ⟨p, hp1, hp2⟩ := hv.at i hlt
    by_cases e1 : x = L[i]
    · have d1 : (x == L[i]) = true := by simpa using e1
      simp (disch := omega) only [f148_r2, f148_r3, f148_r4, f148_r5, f148_rs, w_skip, w_reg, w_seq, w_cond, w_block, w_ret, seqK_n, seqK_r, atK_r, loopK_r, ckB_b, cbB_b, true_and, retK_r, x_nil, x_mv, x_as, x_ld, x_bin, x_eqk, x_iads, kx, rvP_ok, okv_some, ev_t, getV_some, putD_some, bin_lss, oGet_s, readRs_nil, readRs_t, retV_1, Option.some.injEq, exists_eq_left', getK_set, Nat.reduceEqDiff, ↓reduceIte, g0, g1, g7, g8, d0, hp1, hp2, kb, d1, cond_false, true_and]
      exact ⟨_, rfl, by rw [e1]; simp⟩
    · have d1 : (x == L[i]) = false := by simpa using e1
      simp (disch := omega) only [f148_r2, f148_r3, f148_r4, f148_r6, w_skip, w_reg, w_seq, w_cond, w_block, seqK_n, atK_n, loopK_n, ckB_b, cbB_b, true_and, x_nil, x_mv, x_as, x_ld, x_bin, x_eqk, x_iads, kx, rvP_ok, okv_some, ev_t, ev_c, getV_some, putD_some, bin_add, bin_lss, oGet_s, of1, getK_set, Nat.reduceEqDiff, ↓reduceIte, Bool.false_eq_true, g0, g1, g7, g8, d0, hp1, hp2, kb, d1, cond_false, fw64]
      refine ⟨i + 1, by omega, rfl, by omega, fun j hj hji => ?_, by simp (disch := omega) only [getK_set, Nat.reduceEqDiff, ↓reduceIte, g0, g1, g6, g7, and_self, Int.natCast_add, Int.natCast_one]⟩
      by_cases e : j = i
      · subst e; exact fun e => e1 e.symm
      · exact hh j hj (by omega)
  · have d0 : decide ((i : Int) < (L.length : Int)) = false := by simpa using hlt
    simp (disch := omega) only [f148_r2, f148_r7, f148_rs, w_reg, w_seq, w_cond, w_exit, w_ret, seqK_n, seqK_e, atK_e, loopK_e, ckB_b, cbB_b, true_and, retK_r, x_nil, x_as, x_bin, kx, rvP_ok, okv_some, ev_t, ev_c, getV_some, putD_some, bin_lss, oGet_s, readRs_nil, readRs_t, retV_1, Option.some.injEq, exists_eq_left', getK_set, ↓reduceIte, Bool.false_eq_true, g7, g8, d0, true_and]
    refine ⟨_, rfl, ?_⟩
    constructor
    · intro h; exact absurd h (by decide)
    · intro h
      obtain ⟨j, hj, e⟩ := List.getElem_of_mem h
      exact absurd e (hh j hj (by omega))
theorem f131_ret {v : V} {L : List Bool} {x : Bool} (h148 : fs.get (K.ofNat 148) = some f148) (hv : Sr V.b h v L) (hL : L.length ≤ 1000000) : Ret fs f131 [v, .b x] h fun r h' => r = .b (decide (x ∈ L)) ∧ h' = h := by
  apply ret_of rfl
  show W fs none f131_c _ _ _
  unfold f131_c
  simp (disch := omega) only [f131_r0, f131_r1, w_reg, w_seq, seqK_n, x_nil, x_mv, x_as, x_call, ev_t, ev_c, evs_nil, evs_cons, getV_some, putD_some, frame_2, of0, getK_set, Nat.reduceEqDiff, ↓reduceIte]
  refine (callP_0 (ef := f148) h148 rfl (f148_ret (x := x) hv hL)).mono ?_
  rintro r h1 ⟨rfl, k, rfl, hk⟩
  have d : decide (k ≥ 0) = decide (x ∈ L) := by rw [decide_eq_decide]; exact hk
  simp (disch := omega) only [f131_rs, w_ret, seqK_n, retK_r, x_nil, x_as, x_bin, kx, rvP_ok, okv_some, ev_t, ev_c, getV_some, putD_some, bin_geq, oGet_s, readRs_nil, readRs_t, retV_1, Option.some.injEq, exists_eq_left', getK_set, ↓reduceIte, d, and_self]
/-! ### Seven cells -/
theorem st7 {id : K} {cs0 cs : List V} (hb : h.get id = .cells 7 cs0) (h0 : cs0.length = 7) (h1 : cs.length = 7) : storeV h 7 (.p id 0) (.agg cs) = .ok undefV (h.put id (.cells 7 cs)) := by
  have hc : cellsN 7 (.agg cs) = some cs := by
    show (bif Nat.beq (lenL cs) 7 then some cs else none) = _
    rw [lenL_eq, h1]; rfl
  rw [store_p hb hc (by omega), setMany_eq _ _ _ (by omega)]
  congr 3
  simp [h0, h1]
theorem readP7 {id : K} {cs : List V} (hb : h.get id = .cells 7 cs) (h1 : cs.length = 7) : readP h (.p id 0) (many? 7) = some (.agg cs) := by
  show (h.get id).onC none _ = _
  rw [hb]
  show some (V.agg (takeN 7 (dropN 0 cs))) = _
  rw [takeN_eq, dropN_eq, List.drop_zero, List.take_of_length_le (by omega)]
theorem slcA_7 {fr : Fr} {id : K} {cs : List V} (hb : h.get id = .cells 7 cs) : slcAV fr 7 1 (.p id 0) none none h = .ok (.sl id 0 7 1) h := by
  show (h.get id).onC RV.no _ = _
  rw [hb]; rfl
theorem Ar.sr {α : Type} {e : α → V} {id : K} {L : List α} (ha : Ar e h id L) {n : Nat} (hn : n ≤ L.length) : Sr e h (.sl id 0 n 1) (L.take n) :=
  .inr ⟨id, 0, L.length, L.map e, by simp; omega, .inl ha, by simp, by simp; omega, fun i hi => by
    have hi' : i < L.length := by simp at hi; omega
    rw [Nat.zero_add, List.getElem?_map, List.getElem?_eq_getElem hi', List.getElem_take]; rfl⟩
def In7 (F : List (Int × Int)) : Prop := F.length ≤ 100 ∧ ∀ e ∈ F, 0 ≤ e.1 ∧ e.1 < e.2 ∧ e.2 < 7
/-! ### Degrees -/
def f106_I (h : H) (v : V) (F : List (Int × Int)) (id3 : K) (j : Nat) (fr : Fr) (h1 : H) : Prop := j ≤ F.length ∧ Grow h.nx.nat h h1 ∧ h1.get h.nx = .cells 7 ((List.replicate 7 (0 : Int)).map iE) ∧ Ar iE h1 id3 (dgL 7 (F.take j)) ∧ fr.get (K.ofNat 2) = some (.p h.nx 0) ∧ fr.get (K.ofNat 3) = some (.p id3 0) ∧ fr.get (K.ofNat 6) = some (v) ∧ fr.get (K.ofNat 7) = some (.i .i64 (F.length : Int)) ∧ fr.get (K.ofNat 8) = some (.i .i64 (j : Int))
theorem f106_ret {v : V} {F : List (Int × Int)} (hv : Srp h v F) (hc : HC h) (hF : In7 F) : Ret fs f106 [v] h fun r h' => r = .agg ((dgL 7 F).map iE) ∧ Grow h.nx.nat h h' := by
  apply ret_of rfl
  show W fs none f106_c _ _ _
  unfold f106_c
  have h0 : ([.i .i64 0, .i .i64 0, .i .i64 0, .i .i64 0, .i .i64 0, .i .i64 0, .i .i64 0] : List V) = (List.replicate 7 (0 : Int)).map iE := rfl
  have n1 := nx_new h (.cells 7 ((List.replicate 7 (0 : Int)).map iE))
  have n2 := nx_new (h.new (.cells 7 ((List.replicate 7 (0 : Int)).map iE))) (.cells 7 ((List.replicate 7 (0 : Int)).map iE))
  have e1 : ((h.new (.cells 7 ((List.replicate 7 (0 : Int)).map iE))).new (.cells 7 ((List.replicate 7 (0 : Int)).map iE))).get h.nx = .cells 7 ((List.replicate 7 (0 : Int)).map iE) := by rw [get_new_old (by omega), get_new_same]
  have e2 : Ar iE ((h.new (.cells 7 ((List.replicate 7 (0 : Int)).map iE))).new (.cells 7 ((List.replicate 7 (0 : Int)).map iE))) (h.new (.cells 7 ((List.replicate 7 (0 : Int)).map iE))).nx (dgL 7 (F.take 0)) := get_new_same
  have gA : Grow h.nx.nat h ((h.new (.cells 7 ((List.replicate 7 (0 : Int)).map iE))).new (.cells 7 ((List.replicate 7 (0 : Int)).map iE))) := (Grow.new (Nat.le_refl _) _).trans (Grow.new (by omega) _)
  simp (disch := omega) only [f106_r0, f106_r1, f106_r2, w_reg, w_seq, w_block, seqK_n, x_nil, x_mv, x_alloc, x_len, kx, rvP_ok, ev_t, ev_c, getV_some, putD_some, frame_1, of0, getK_set, Nat.reduceEqDiff, ↓reduceIte, h0, hv.len]
  have hid3 : h.nx.nat < (h.new (.cells 7 ((List.replicate 7 (0 : Int)).map iE))).nx.nat := by omega
  generalize (h.new (.cells 7 ((List.replicate 7 (0 : Int)).map iE))).nx = id3 at *
  generalize (h.new _).new _ = h2 at *
  refine W_loop (f106_I h v F id3) (fun j => F.length - j) ?_ 0 ⟨by omega, gA, e1, e2, by simp (disch := omega) only [getK_set, Nat.reduceEqDiff, ↓reduceIte, and_self, Int.natCast_zero]⟩
  clear e1 e2 gA n1 n2 h2
  rintro j fr h1 ⟨hj, hG, hr, hA, g2, g3, g6, g7, g8⟩
  have hc1 := hG.hc hc
  have hv1 := hv.grow hc hG
  have hl3 : id3.nat < h1.nx.nat := hc1.cells hA
  unfold f106_l0
  by_cases hlt : j < F.length
  · have d0 : decide ((j : Int) < (F.length : Int)) = true := by simpa using hlt
    obtain ⟨ida, q, hp1, hp2, _, _⟩ := hv1.at2 hlt
    obtain ⟨b0, b1, b2⟩ := hF.2 F[j] (List.getElem_mem hlt)
    obtain ⟨a, ea⟩ : ∃ a : Nat, F[j].1 = (a : Int) := ⟨F[j].1.toNat, by omega⟩
    obtain ⟨b, eb⟩ : ∃ b : Nat, F[j].2 = (b : Int) := ⟨F[j].2.toNat, by omega⟩
    have ha : a < 7 := by omega
    have hb : b < 7 := by omega
    have hstep := dgL_step (m := 7) (a := a) (b := b) (E := F.take j) ha hb (by omega)
    have heq : ((a : Int), (b : Int)) = F[j] := by rw [← ea, ← eb]
    rw [heq, ← List.take_succ_eq_append_getElem hlt] at hstep
    have hst2 : storeV (h1.new (.cells 2 zz)) 2 (.p h1.nx 0) (.agg [.i .i64 F[j].1, .i .i64 F[j].2]) = .ok undefV ((h1.new (.cells 2 zz)).put h1.nx (.cells 2 [.i .i64 F[j].1, .i .i64 F[j].2])) := st2 (a := .i .i64 (.ofNat 0)) (b := .i .i64 (.ofNat 0)) get_new_same
    have nx1 := nx_new h1 (.cells 2 zz)
    have gB : Grow h1.nx.nat h1 ((h1.new (.cells 2 zz)).put h1.nx (.cells 2 [.i .i64 F[j].1, .i .i64 F[j].2])) := (Grow.new (Nat.le_refl _) _).trans (Grow.put (Nat.le_refl _) (by omega) _)
    have c5 : ((h1.new (.cells 2 zz)).put h1.nx (.cells 2 [.i .i64 F[j].1, .i .i64 F[j].2])).get h1.nx = .cells 2 [.i .i64 F[j].1, .i .i64 F[j].2] := get_put_same
    have hzz : ([.i .i64 0, .i .i64 0] : List V) = zz := rfl
    generalize (h1.new (.cells 2 zz)).put h1.nx (.cells 2 [.i .i64 F[j].1, .i .i64 F[j].2]) = h3 at *
    have hA3 := hA.same (gB.old _ hl3)
    have hr3 : h3.get h.nx = _ := (gB.old _ (by omega)).trans hr
    have l0 : loadV h3 (.p h1.nx (0 + 0 * 1)) one? = .ok (.i .i64 F[j].1) h3 := load_p c5 rfl
    have ix7 : ∀ (k : Nat) (f : Nat → RV), k < 7 → idxV (.i .i64 (k : Int)) 7 f = f k := fun k f hk => idx_n hk
    have ixa : ∀ f : Nat → RV, idxV (.i .i64 (a : Int)) 7 f = f a := fun f => ix7 a f ha
    have ixb : ∀ f : Nat → RV, idxV (.i .i64 (b : Int)) 7 f = f b := fun f => ix7 b f hb
    have hla : a < (dgL 7 (F.take j)).length := by rw [dgL_len]; exact ha
    have ld1 := hA3.ld hla
    rw [dgL_at] at ld1
    have hna := dgE_nn (E := F.take j) (v := a)
    have hnb := dgE_nn (E := F.take j) (v := b)
    have hF1 := hF.1
    have hlt100 : (F.take j).length ≤ 100 := by simp; omega
    obtain ⟨sa1, sa2⟩ := hA3.st hla (x := dgE (F.take j) a + 1) (c := .i .i64 (dgE (F.take j) a + 1)) rfl rfl
    rw [dgL_len] at sa1 sa2
    have gC : Grow h.nx.nat h3 (h3.put id3 (.cells 7 (((dgL 7 (F.take j)).set a (dgE (F.take j) a + 1)).map iE))) := Grow.put (by omega) (by have := gB.nx; omega) _
    have hr4 : (h3.put id3 (.cells 7 (((dgL 7 (F.take j)).set a (dgE (F.take j) a + 1)).map iE))).get h.nx = _ := (get_put_other (kNe hid3)).trans hr3
    have c54 : (h3.put id3 (.cells 7 (((dgL 7 (F.take j)).set a (dgE (F.take j) a + 1)).map iE))).get h1.nx = .cells 2 [.i .i64 F[j].1, .i .i64 F[j].2] := by rw [get_put_other (kNe hl3).symm]; exact c5
    have hl34 : id3.nat < (h3.put id3 (.cells 7 (((dgL 7 (F.take j)).set a (dgE (F.take j) a + 1)).map iE))).nx.nat := by show id3.nat < h3.nx.nat; have := gB.nx; omega
    generalize h3.put id3 (.cells 7 (((dgL 7 (F.take j)).set a (dgE (F.take j) a + 1)).map iE)) = h4 at *
    have l1 : loadV h4 (.p h1.nx (0 + 1 * 1)) one? = .ok (.i .i64 F[j].2) h4 := load_p c54 rfl
    have hlb : b < ((dgL 7 (F.take j)).set a (dgE (F.take j) a + 1)).length := by rw [List.length_set, dgL_len]; exact hb
    have hgb : ((dgL 7 (F.take j)).set a (dgE (F.take j) a + 1))[b] = dgE (F.take j) b := by
      rw [List.getElem_set, if_neg (by omega), dgL_at]
    have ld2 := sa2.ld hlb
    rw [hgb] at ld2
    obtain ⟨sb1, sb2⟩ := sa2.st hlb (x := dgE (F.take j) b + 1) (c := .i .i64 (dgE (F.take j) b + 1)) rfl rfl
    rw [List.length_set, dgL_len, ← hstep] at sb1 sb2
    rw [ea] at l0
    rw [eb] at l1
    rw [ea, eb] at hst2 hp2
    simp (disch := omega) only [f106_r3, f106_r4, f106_r5, w_skip, w_reg, w_seq, w_cond, w_block, seqK_n, ckB_b, cbB_b, true_and, x_nil, x_alloc, x_ld, x_ldn, x_st, x_bin, x_iadr, x_iads, kx, rvP_ok, okv_some, ev_t, ev_c, getV_some, putD_some, putD_none, bin_add, bin_lss, onP_p, of0, of1, getK_set, Nat.reduceEqDiff, ↓reduceIte, ix2_0, g3, g6, g7, g8, d0, hp1, hp2, hzz, hst2, l0, ixa, ld1, iE, sa1, fw64]
    simp (disch := omega) only [f106_r6, f106_r7, w_reg, seqK_n, atK_n, loopK_n, x_nil, x_mv, x_ld, x_st, x_bin, x_iadr, kx, rvP_ok, okv_some, ev_t, ev_c, getV_some, putD_some, putD_none, bin_add, onP_p, of1, getK_set, Nat.reduceEqDiff, ↓reduceIte, ix2_1, g3, g8, l1, ixb, ld2, iE, sb1, fw64]
    refine ⟨j + 1, by omega, by omega, (hG.trans (gB.low hG.nx)).trans (gC.trans (Grow.put (by omega) hl34 _)), ?_, sb2, by simp (disch := omega) only [getK_set, Nat.reduceEqDiff, ↓reduceIte, g2, g3, g6, g7, and_self, Int.natCast_add, Int.natCast_one]⟩
    rw [get_put_other (kNe hid3)]; exact hr4
  · have d0 : decide ((j : Int) < (F.length : Int)) = false := by simpa using hlt
    have ej : j = F.length := by omega
    rw [ej, List.take_length] at hA
    have ldn := hA.ldn (n := 7) (by rw [dgL_len])
    have hs := st7 (cs := (dgL 7 F).map iE) hr (by simp) (by rw [List.length_map, dgL_len])
    have hrd : readP (h1.put h.nx (.cells 7 ((dgL 7 F).map iE))) (.p h.nx 0) (many? 7) = some (.agg ((dgL 7 F).map iE)) := readP7 get_put_same (by rw [List.length_map, dgL_len])
    simp (disch := omega) only [f106_r3, f106_r8, f106_rs, w_reg, w_seq, w_cond, w_exit, w_ret, seqK_n, seqK_e, atK_e, loopK_e, ckB_b, cbB_b, true_and, retK_r, x_nil, x_ldn, x_st, x_bin, kx, rvP_ok, okv_some, ev_t, getV_some, putD_some, putD_none, bin_lss, oGet_s, readRs_nil, readRs_n, retV_1, Option.some.injEq, exists_eq_left', getK_set, Nat.reduceEqDiff, ↓reduceIte, Bool.false_eq_true, g2, g3, g7, g8, d0, ldn, hs, hrd, true_and]
    exact hG.trans (Grow.put (Nat.le_refl _) (by omega) _)
end
end Go.Ev
namespace Go.Ev
open Go Go.RowKit
/-- A node that is connected to what is marked is marked. -/
def mk1 (A : List Bool) (e : Int × Int) : List Bool := if (A.getD e.1.toNat false || A.getD e.2.toNat false) = true then (A.set e.1.toNat true).set e.2.toNat true else A
def mkR (E : List (Int × Int)) (A : List Bool) : List Bool := E.foldl mk1 A
def mkN (E : List (Int × Int)) (A : List Bool) : Nat → List Bool
  | 0 => A
  | t + 1 => mkR E (mkN E A t)
def one7 : List Bool := true :: List.replicate 6 false
def conB (n : Nat) (E : List (Int × Int)) : Bool := !decide (false ∈ (mkN E one7 n).take n)
theorem mk1_len {A : List Bool} {e : Int × Int} : (mk1 A e).length = A.length := by unfold mk1; split <;> simp
theorem mkR_len : ∀ {E : List (Int × Int)} {A : List Bool}, (mkR E A).length = A.length
  | [], A => rfl
  | e :: E, A => by show (mkR E (mk1 A e)).length = _; rw [mkR_len, mk1_len]
theorem mkN_len {E : List (Int × Int)} {A : List Bool} : ∀ {t : Nat}, (mkN E A t).length = A.length
  | 0 => rfl
  | t + 1 => by show (mkR E _).length = _; rw [mkR_len, mkN_len]
/-- The edges between nodes with more than one edge. -/
def inP (E : List (Int × Int)) (e : Int × Int) : Bool := decide (dgE E e.1.toNat > 1) && decide (dgE E e.2.toNat > 1)
def inE' (E F : List (Int × Int)) : List (Int × Int) := F.filter (inP E)
theorem inE'_snoc {E : List (Int × Int)} {j : Nat} (hj : j < E.length) : inE' E (E.take (j + 1)) = if inP E E[j] = true then inE' E (E.take j) ++ [E[j]] else inE' E (E.take j) := by
  unfold inE'
  rw [List.take_succ_eq_append_getElem hj, List.filter_append]
  cases h : inP E E[j] <;> simp [h]
def inE (E : List (Int × Int)) : List (Int × Int) := inE' E E
def catB (n : Nat) (E : List (Int × Int)) : Bool := decide (E.length + 1 = n) && (conB n E && decide (maxL 0 (dgL 7 (inE E)) ≤ 2))
section
variable {fs : T EF} {h : H} {v : V} {n : Nat} {E : List (Int × Int)}
theorem build7 {fr : Fr} : fillE fr [.b false, .b false, .b false, .b false, .b false, .b false, .b false] [(0, 1, .c (.b true))] = some (one7.map V.b) := of_eq_true (eq_self _)
def f105_I (h : H) (n : Nat) (v : V) (E : List (Int × Int)) (t : Nat) (fr : Fr) (h1 : H) : Prop := t ≤ n ∧ Grow h.nx.nat h h1 ∧ h.nx.nat < h1.nx.nat ∧ Ar V.b h1 h.nx (mkN E one7 t) ∧ fr.get (K.ofNat 0) = some (.i .i64 (n : Int)) ∧ fr.get (K.ofNat 1) = some (v) ∧ fr.get (K.ofNat 5) = some (.p h.nx 0) ∧ fr.get (K.ofNat 9) = some (.i .i64 (n : Int)) ∧ fr.get (K.ofNat 10) = some (.i .i64 (t : Int))
def f105_J (h : H) (n : Nat) (v : V) (E : List (Int × Int)) (t : Nat) (j : Nat) (fr : Fr) (h1 : H) : Prop := j ≤ E.length ∧ Grow h.nx.nat h h1 ∧ h.nx.nat < h1.nx.nat ∧ Ar V.b h1 h.nx (mkR (E.take j) (mkN E one7 t)) ∧ fr.get (K.ofNat 0) = some (.i .i64 (n : Int)) ∧ fr.get (K.ofNat 1) = some (v) ∧ fr.get (K.ofNat 5) = some (.p h.nx 0) ∧ fr.get (K.ofNat 9) = some (.i .i64 (n : Int)) ∧ fr.get (K.ofNat 10) = some (.i .i64 (t : Int)) ∧ fr.get (K.ofNat 12) = some (v) ∧ fr.get (K.ofNat 13) = some (.i .i64 (E.length : Int)) ∧ fr.get (K.ofNat 14) = some (.i .i64 (j : Int))
theorem f105_ret (h131 : fs.get (K.ofNat 131) = some f131) (h148 : fs.get (K.ofNat 148) = some f148) (hv : Srp h v E) (hc : HC h) (hE : EdgesOk n E) : Ret fs f105 [.i .i64 (n : Int), v] h fun r h' => r = .b (conB n E) ∧ Grow h.nx.nat h h' := by
  have hE10 := hE.1
  have hn7 := hE.2.1
  apply ret_of rfl
  show W fs none f105_c _ _ _
  unfold f105_c
  have n1 := nx_new h (.cells 7 [.b false, .b false, .b false, .b false, .b false, .b false, .b false])
  have s1 := st7 (h := h.new (.cells 7 [.b false, .b false, .b false, .b false, .b false, .b false, .b false])) (id := h.nx) (cs := one7.map V.b) get_new_same rfl rfl
  have e1 : Ar V.b ((h.new (.cells 7 [.b false, .b false, .b false, .b false, .b false, .b false, .b false])).put h.nx (.cells 7 (one7.map V.b))) h.nx (mkN E one7 0) := get_put_same
  have gA : Grow h.nx.nat h ((h.new (.cells 7 [.b false, .b false, .b false, .b false, .b false, .b false, .b false])).put h.nx (.cells 7 (one7.map V.b))) := (Grow.new (Nat.le_refl _) _).trans (Grow.put (Nat.le_refl _) (by omega) _)
  simp (disch := omega) only [f105_r0, f105_r1, f105_r2, w_reg, w_seq, w_block, seqK_n, x_nil, x_mv, x_as, x_alloc, x_build, x_st, kx, rvP_ok, ev_t, ev_c, getV_some, putD_some, putD_none, oGet_s, frame_2, of0, getK_set, Nat.reduceEqDiff, ↓reduceIte, build7, s1]
  have n2 : h.nx.nat < ((h.new (.cells 7 [.b false, .b false, .b false, .b false, .b false, .b false, .b false])).put h.nx (.cells 7 (one7.map V.b))).nx.nat := by show _ < (h.new (.cells 7 [.b false, .b false, .b false, .b false, .b false, .b false, .b false])).nx.nat; omega
  generalize (h.new (.cells 7 [.b false, .b false, .b false, .b false, .b false, .b false, .b false])).put h.nx (.cells 7 (one7.map V.b)) = h2 at *
  refine W_loop (f105_I h n v E) (fun t => n - t) ?_ 0 ⟨by omega, gA, n2, e1, by simp (disch := omega) only [getK_set, Nat.reduceEqDiff, ↓reduceIte, and_self, Int.natCast_zero]⟩
  clear e1 gA n1 n2 s1 h2
  rintro t fr h1 ⟨ht, hG, hnx, hA, g0, g1, g5, g9, g10⟩
  have hv1 := hv.grow hc hG
  unfold f105_l1
  by_cases hlt : t < n
  · have d0 : decide ((t : Int) < (n : Int)) = true := by simpa using hlt
    simp (disch := omega) only [f105_r3, f105_r4, w_skip, w_reg, w_seq, w_cond, w_block, seqK_n, ckB_b, cbB_b, true_and, x_nil, x_mv, x_bin, x_len, kx, rvP_ok, okv_some, ev_t, ev_c, getV_some, putD_some, bin_lss, of0, getK_set, Nat.reduceEqDiff, ↓reduceIte, g1, g9, g10, d0, hv1.len]
    refine W_loop (f105_J h n v E t) (fun j => E.length - j) ?_ 0 ⟨by omega, hG, hnx, hA, by simp (disch := omega) only [getK_set, Nat.reduceEqDiff, ↓reduceIte, g0, g1, g5, g9, g10, and_self, Int.natCast_zero]⟩
    clear hG hnx hA g0 g1 g5 g9 g10 fr hv1
    rintro j fr h1 ⟨hj, hG, hnx, hA, g0, g1, g5, g9, g10, g12, g13, g14⟩
    have hc1 := hG.hc hc
    have hv1 := hv.grow hc hG
    unfold f105_l0
    by_cases hlt2 : j < E.length
    · have d1 : decide ((j : Int) < (E.length : Int)) = true := by simpa using hlt2
      obtain ⟨ida, q, hp1, hp2, _, _⟩ := hv1.at2 hlt2
      obtain ⟨b0, b1, b2⟩ := hE.2.2 E[j] (List.getElem_mem hlt2)
      have hsn : mkR (E.take (j + 1)) (mkN E one7 t) = mk1 (mkR (E.take j) (mkN E one7 t)) E[j] := by
        unfold mkR; rw [List.take_succ_eq_append_getElem hlt2, List.foldl_append]; rfl
      have hlA : (mkR (E.take j) (mkN E one7 t)).length = 7 := by rw [mkR_len, mkN_len]; rfl
      generalize mkR (E.take j) (mkN E one7 t) = A at *
      obtain ⟨a, ea⟩ : ∃ a : Nat, E[j].1 = (a : Int) := ⟨E[j].1.toNat, by omega⟩
      obtain ⟨b, eb⟩ : ∃ b : Nat, E[j].2 = (b : Int) := ⟨E[j].2.toNat, by omega⟩
      have ha : a < 7 := by omega
      have hb : b < 7 := by omega
      have hmk : mk1 A E[j] = if (A[a] || A[b]) = true then (A.set a true).set b true else A := by
        unfold mk1
        rw [ea, eb]
        simp only [Int.toNat_natCast, List.getD_eq_getElem?_getD, List.getElem?_eq_getElem (show a < A.length by omega), List.getElem?_eq_getElem (show b < A.length by omega), Option.getD_some]
      have hst2 : storeV (h1.new (.cells 2 zz)) 2 (.p h1.nx 0) (.agg [.i .i64 E[j].1, .i .i64 E[j].2]) = .ok undefV ((h1.new (.cells 2 zz)).put h1.nx (.cells 2 [.i .i64 E[j].1, .i .i64 E[j].2])) := st2 (a := .i .i64 (.ofNat 0)) (b := .i .i64 (.ofNat 0)) get_new_same
      have nx1 := nx_new h1 (.cells 2 zz)
      have gB : Grow h1.nx.nat h1 ((h1.new (.cells 2 zz)).put h1.nx (.cells 2 [.i .i64 E[j].1, .i .i64 E[j].2])) := (Grow.new (Nat.le_refl _) _).trans (Grow.put (Nat.le_refl _) (by omega) _)
      have c7 : ((h1.new (.cells 2 zz)).put h1.nx (.cells 2 [.i .i64 E[j].1, .i .i64 E[j].2])).get h1.nx = .cells 2 [.i .i64 E[j].1, .i .i64 E[j].2] := get_put_same
      have hzz : ([.i .i64 0, .i .i64 0] : List V) = zz := rfl
      generalize (h1.new (.cells 2 zz)).put h1.nx (.cells 2 [.i .i64 E[j].1, .i .i64 E[j].2]) = h3 at *
      have hG3 := hG.trans (gB.low hG.nx)
      have hA3 := hA.same (gB.old _ hnx)
      have hnx3 : h.nx.nat < h3.nx.nat := by have := gB.nx; omega
      have l0 : loadV h3 (.p h1.nx (0 + 0 * 1)) one? = .ok (.i .i64 E[j].1) h3 := load_p c7 rfl
      have l1 : loadV h3 (.p h1.nx (0 + 1 * 1)) one? = .ok (.i .i64 E[j].2) h3 := load_p c7 rfl
      rw [ea] at l0
      rw [eb] at l1
      rw [ea, eb] at hst2 hp2
      have ixa : ∀ f : Nat → RV, idxV (.i .i64 (a : Int)) 7 f = f a := fun f => idx_n ha
      have ixb : ∀ f : Nat → RV, idxV (.i .i64 (b : Int)) 7 f = f b := fun f => idx_n hb
      have ld1 := hA3.ld (i := a) (by omega)
      have ld2 := hA3.ld (i := b) (by omega)
      obtain ⟨sa1, sa2⟩ := hA3.st (i := a) (by omega) (x := true) (c := .b true) rfl rfl
      rw [hlA] at sa1 sa2
      have c74 : (h3.put h.nx (.cells 7 ((A.set a true).map V.b))).get h1.nx = .cells 2 [.i .i64 E[j].1, .i .i64 E[j].2] := by rw [get_put_other (kNe hnx).symm]; exact c7
      rw [ea, eb] at c74
      have gC : Grow h.nx.nat h3 (h3.put h.nx (.cells 7 ((A.set a true).map V.b))) := Grow.put (Nat.le_refl _) hnx3 _
      have hnx4 : h.nx.nat < (h3.put h.nx (.cells 7 ((A.set a true).map V.b))).nx.nat := hnx3
      generalize h3.put h.nx (.cells 7 ((A.set a true).map V.b)) = h4 at *
      have l14 : loadV h4 (.p h1.nx (0 + 1 * 1)) one? = .ok (.i .i64 (b : Int)) h4 := load_p c74 rfl
      obtain ⟨sb1, sb2⟩ := sa2.st (i := b) (by simp; omega) (x := true) (c := .b true) rfl rfl
      rw [List.length_set, hlA] at sb1 sb2
      cases hAa : A[a]'(by omega) with
      | true =>
        rw [hAa] at ld1 hmk
        rw [Bool.true_or, if_pos rfl, ← hsn] at hmk
        rw [← hmk] at sb1 sb2
        simp (disch := omega) only [f105_r5, f105_r6, f105_r7, w_skip, w_reg, w_draw, w_seq, w_cond, w_block, seqK_n, ckB_b, cbB_b, okG_b, asG_f, true_and, x_nil, x_g, x_mv, x_pick, x_alloc, x_ld, x_ldn, x_st, x_bin, x_iadr, x_iads, kx, rvP_ok, okv_some, ev_t, ev_c, getV_some, putD_some, putD_none, bin_lss, pick_b, onP_p, of0, of1, getK_set, Nat.reduceEqDiff, ↓reduceIte, Bool.false_eq_true, Bool.not_true, ix2_0, g5, g12, g13, g14, d1, hp1, hp2, hzz, hst2, l0, ixa, ld1, Bool.not_true]
        simp (disch := omega) only [f105_r8, f105_r9, w_reg, seqK_n, atK_n, loopK_n, true_and, x_nil, x_mv, x_st, x_bin, kx, kg, xg_nil, xg_ld, xg_iadr, xd_cons, fresh_nil, stK_n, stK_s, stay_nil, stay_cons, again_ok, beq_i, stay_ld, beq_p, rvP_ok, okv_some, ev_t, ev_c, getV_some, putD_some, putD_none, bin_add, onP_p, of0, of1, getK_set, Nat.reduceEqDiff, ↓reduceIte, stay_iadr, ix2_0, ix2_1, g5, g14, l0, l1, ixa, ixb, sa1, l14, stay_iadr, again_ok, beq_p, beq_i, sb1, fw64]
        exact ⟨j + 1, by omega, by omega, hG3.trans (gC.trans (Grow.put (by omega) hnx4 _)), hnx4, sb2, by simp (disch := omega) only [getK_set, Nat.reduceEqDiff, ↓reduceIte, g0, g1, g5, g9, g10, g12, g13, and_self, Int.natCast_add, Int.natCast_one]⟩
      | false =>
      cases hAb : A[b]'(by omega) with
      | true =>
        rw [hAa] at ld1 hmk
        rw [hAb] at ld2 hmk
        rw [Bool.false_or, if_pos rfl, ← hsn] at hmk
        rw [← hmk] at sb1 sb2
        simp (disch := omega) only [f105_r5, f105_r6, f105_r7, w_skip, w_reg, w_draw, w_seq, w_cond, w_block, seqK_n, ckB_b, cbB_b, okG_b, asG_f, true_and, x_nil, x_g, x_mv, x_pick, x_alloc, x_ld, x_ldn, x_st, x_bin, x_iadr, x_iads, kx, rvP_ok, okv_some, ev_t, ev_c, getV_some, putD_some, putD_none, bin_lss, pick_b, onP_p, of0, of1, getK_set, Nat.reduceEqDiff, ↓reduceIte, Bool.false_eq_true, Bool.not_false, ix2_0, ix2_1, g5, g12, g13, g14, d1, hp1, hp2, hzz, hst2, l0, l1, ixa, ixb, ld1, ld2, Bool.not_false]
        simp (disch := omega) only [f105_r8, f105_r9, w_reg, seqK_n, atK_n, loopK_n, true_and, x_nil, x_mv, x_st, x_bin, kx, kg, xg_nil, xg_ld, xg_iadr, xd_cons, fresh_nil, stK_n, stK_s, stay_nil, stay_cons, again_ok, beq_i, stay_ld, beq_p, rvP_ok, okv_some, ev_t, ev_c, getV_some, putD_some, putD_none, bin_add, onP_p, of0, of1, getK_set, Nat.reduceEqDiff, ↓reduceIte, stay_iadr, ix2_0, ix2_1, g5, g14, l0, l1, ixa, ixb, sa1, l14, stay_iadr, again_ok, beq_p, beq_i, sb1, fw64]
        exact ⟨j + 1, by omega, by omega, hG3.trans (gC.trans (Grow.put (by omega) hnx4 _)), hnx4, sb2, by simp (disch := omega) only [getK_set, Nat.reduceEqDiff, ↓reduceIte, g0, g1, g5, g9, g10, g12, g13, and_self, Int.natCast_add, Int.natCast_one]⟩
      | false =>
        rw [hAa] at ld1 hmk
        rw [hAb] at ld2 hmk
        rw [Bool.false_or, if_neg (by simp), ← hsn] at hmk
        rw [← hmk] at hA3
        simp (disch := omega) only [f105_r5, f105_r6, f105_r7, w_skip, w_reg, w_seq, w_cond, w_block, seqK_n, atK_n, ckB_b, cbB_b, okG_b, asG_f, true_and, x_nil, x_g, x_mv, x_pick, x_alloc, x_ld, x_ldn, x_st, x_bin, x_iadr, x_iads, kx, rvP_ok, okv_some, ev_t, ev_c, getV_some, putD_some, putD_none, bin_lss, pick_b, onP_p, of0, of1, getK_set, Nat.reduceEqDiff, ↓reduceIte, Bool.false_eq_true, Bool.not_false, ix2_0, ix2_1, g5, g12, g13, g14, d1, hp1, hp2, hzz, hst2, l0, l1, ixa, ixb, ld1, ld2, Bool.not_false]
        simp (disch := omega) only [f105_r9, loopK_n, x_nil, x_mv, x_bin, kx, rvP_ok, okv_some, ev_t, ev_c, getV_some, putD_some, bin_add, of1, getK_set, Nat.reduceEqDiff, ↓reduceIte, g14, fw64]
        exact ⟨j + 1, by omega, by omega, hG3, hnx3, hA3, by simp (disch := omega) only [getK_set, Nat.reduceEqDiff, ↓reduceIte, g0, g1, g5, g9, g10, g12, g13, and_self, Int.natCast_add, Int.natCast_one]⟩
    · have d1 : decide ((j : Int) < (E.length : Int)) = false := by simpa using hlt2
      have ej : j = E.length := by omega
      rw [ej, List.take_length] at hA
      simp (disch := omega) only [f105_r5, f105_r10, w_reg, w_seq, w_cond, w_exit, seqK_n, seqK_e, atK_n, atK_e, loopK_n, loopK_e, ckB_b, cbB_b, true_and, x_nil, x_mv, x_bin, kx, rvP_ok, okv_some, ev_t, ev_c, getV_some, putD_some, bin_add, bin_lss, of1, getK_set, Nat.reduceEqDiff, ↓reduceIte, Bool.false_eq_true, g10, g13, g14, d1, fw64]
      exact ⟨t + 1, by omega, by omega, hG, hnx, hA, by simp (disch := omega) only [getK_set, Nat.reduceEqDiff, ↓reduceIte, g0, g1, g5, g9, and_self, Int.natCast_add, Int.natCast_one]⟩
  · have d0 : decide ((t : Int) < (n : Int)) = false := by simpa using hlt
    have et : t = n := by omega
    rw [et] at hA
    have hlA : (mkN E one7 n).length = 7 := by rw [mkN_len]; rfl
    have hsl := hA.sr (n := n) (by omega)
    unfold Ar at hA
    rw [hlA] at hA
    have hcut : ∀ (fr : Fr) (x : EO), slcAV fr 7 1 (.p h.nx 0) none (some x) h1 = (ev fr x).onI .no fun _ u => oGet (nonneg u) .no fun u => bif Nat.ble u 7 then RV.ok (.sl h.nx 0 u 1) h1 else .no := fun fr x => by
      show (h1.get h.nx).onC RV.no _ = _
      rw [hA]
      show (oGet (bound fr none 0) .no fun l => oGet (bound fr (some x) 7) .no fun u => bif Nat.ble l u && Nat.ble u 7 then RV.ok (.sl h.nx (0 + l * 1) (u - l) 1) h1 else .no) = _
      rw [bound_eq, bound_eq, Option.map_some]
      show (oGet ((ev fr x).onI none fun _ n => nonneg n) RV.no fun u => bif Nat.ble 0 u && Nat.ble u 7 then RV.ok (.sl h.nx (0 + 0 * 1) (u - 0) 1) h1 else .no) = _
      cases ev fr x <;> try rfl
    have hnn : nonneg (n : Int) = some n := rfl
    have hble : Nat.ble n 7 = true := Nat.ble_eq_true_of_le hn7
    simp (disch := omega) only [f105_r3, f105_r11, w_reg, w_seq, w_cond, w_exit, seqK_n, seqK_e, atK_e, loopK_e, ckB_b, cbB_b, true_and, x_nil, x_mv, x_bin, x_call, x_slcA, kx, rvP_ok, okv_some, ev_t, ev_c, evs_nil, evs_cons, getV_some, putD_some, bin_lss, onI_i, oGet_s, getK_set, Nat.reduceEqDiff, ↓reduceIte, Bool.false_eq_true, g0, g5, g9, g10, d0, hcut, hnn, hble, cond_true]
    refine (callP_0 (ef := f131) h131 rfl (f131_ret h148 hsl (by simp; omega))).mono ?_
    rintro r h2 ⟨rfl, rfl⟩
    simp (disch := omega) only [f105_rs, w_ret, seqK_n, true_and, retK_r, x_nil, x_as, x_not, kx, rvP_ok, ev_t, getV_some, putD_some, onB_b, oGet_s, readRs_nil, readRs_t, retV_1, Option.some.injEq, exists_eq_left', getK_set, ↓reduceIte, conB, true_and]
    exact hG
def f67_I (h h2 : H) (n : Nat) (v : V) (E : List (Int × Int)) (id5 : K) (j : Nat) (fr : Fr) (h1 : H) : Prop := j ≤ E.length ∧ Grow h2.nx.nat h2 h1 ∧ ∃ c, Sk 2 qE h1 c (inE' E (E.take j)) ∧ Own h2.nx.nat c ∧ fr.get (K.ofNat 0) = some (.i .i64 (n : Int)) ∧ fr.get (K.ofNat 1) = some (v) ∧ fr.get (K.ofNat 5) = some (.p id5 0) ∧ fr.get (K.ofNat 6) = some (c) ∧ fr.get (K.ofNat 25) = some (v) ∧ fr.get (K.ofNat 26) = some (.i .i64 (E.length : Int)) ∧ fr.get (K.ofNat 27) = some (.i .i64 (j : Int))
theorem inE_in7 (hE : EdgesOk n E) : In7 (inE E) := ⟨Nat.le_trans (List.length_filter_le _ _) (by have := hE.1; omega), fun e he => by
  have := hE.2.2 e (List.mem_filter.1 he).1
  have := hE.2.1
  omega⟩
structure CallsCt (fs : T EF) : Prop where
  c102 : fs.get (K.ofNat 102) = some f102
  c105 : fs.get (K.ofNat 105) = some f105
  c106 : fs.get (K.ofNat 106) = some f106
  c131 : fs.get (K.ofNat 131) = some f131
  c148 : fs.get (K.ofNat 148) = some f148
theorem f67_ret (k : CallsCt fs) (hv : Srp h v E) (hc : HC h) (hE : EdgesOk n E) : Ret fs f67 [.i .i64 (n : Int), v] h fun r h' => r = .b (catB n E) ∧ Grow h.nx.nat h h' := by
  have hE10 := hE.1
  have hn7 := hE.2.1
  apply ret_of rfl
  show W fs none f67_c _ _ _
  unfold f67_c
  by_cases hne : E.length + 1 = n
  · have d0 : decide ((E.length : Int) ≠ (n : Int) - 1) = false := by simp; omega
    have hcat : catB n E = (conB n E && decide (maxL 0 (dgL 7 (inE E)) ≤ 2)) := by unfold catB; rw [decide_eq_true hne, Bool.true_and]
    simp (disch := omega) only [f67_r0, f67_r1, w_reg, w_seq, seqK_n, okG_b, asG_f, true_and, x_nil, x_g, x_mv, x_as, x_bin, x_call, x_len, kx, rvP_ok, okv_some, ev_t, ev_c, evs_nil, evs_cons, getV_some, putD_some, bin_sub, bin_neq, frame_2, of1, getK_set, Nat.reduceEqDiff, ↓reduceIte, Bool.not_false, hv.len, fw64, d0, Bool.not_false]
    refine (callP_0 (ef := f105) k.c105 rfl (f105_ret k.c131 k.c148 hv hc hE)).mono ?_
    rintro r h1 ⟨rfl, hG1⟩
    have hc1 := hG1.hc hc
    have hv1 := hv.grow hc hG1
    cases hcn : conB n E with
    | false =>
      rw [hcn, Bool.false_and] at hcat
      simp (disch := omega) only [f67_r2, f67_rs, w_reg, w_seq, w_cond, w_ret, seqK_n, seqK_r, ckB_b, cbB_b, okG_b, asG_f, true_and, retK_r, x_nil, x_g, x_as, x_pick, x_not, kx, rvP_ok, ev_t, ev_c, getV_some, putD_some, pick_b, onB_b, oGet_s, readRs_nil, readRs_t, retV_1, Option.some.injEq, exists_eq_left', getK_set, Nat.reduceEqDiff, ↓reduceIte, Bool.false_eq_true, Bool.not_false, hcat, Bool.not_false, true_and]
      exact hG1
    | true =>
      rw [hcn, Bool.true_and] at hcat
      have hIn : In7 E := ⟨by omega, fun e he => by have := hE.2.2 e he; omega⟩
      simp (disch := omega) only [f67_r3, w_skip, w_reg, w_seq, w_cond, seqK_n, ckB_b, cbB_b, okG_b, asG_f, true_and, x_nil, x_g, x_mv, x_pick, x_not, x_call, kx, rvP_ok, ev_t, ev_c, evs_nil, evs_cons, getV_some, putD_some, pick_b, onB_b, of0, getK_set, Nat.reduceEqDiff, ↓reduceIte, Bool.false_eq_true, Bool.not_true, Bool.not_false, Bool.not_true]
      refine (callP_0 (ef := f106) k.c106 rfl (f106_ret hv1 hc1 hIn)).mono ?_
      rintro r h2 ⟨rfl, hG2⟩
      have h0 : ([.i .i64 0, .i .i64 0, .i .i64 0, .i .i64 0, .i .i64 0, .i .i64 0, .i .i64 0] : List V) = (List.replicate 7 (0 : Int)).map iE := rfl
      have hG12 := hG1.trans (hG2.low hG1.nx)
      have n3 := nx_new h2 (.cells 7 ((List.replicate 7 (0 : Int)).map iE))
      have s3 := st7 (h := h2.new (.cells 7 ((List.replicate 7 (0 : Int)).map iE))) (id := h2.nx) (cs := (dgL 7 E).map iE) get_new_same rfl (by rw [List.length_map, dgL_len])
      have e3 : ((h2.new (.cells 7 ((List.replicate 7 (0 : Int)).map iE))).put h2.nx (.cells 7 ((dgL 7 E).map iE))).get h2.nx = .cells 7 ((dgL 7 E).map iE) := get_put_same
      have g3 : Grow h2.nx.nat h2 ((h2.new (.cells 7 ((List.replicate 7 (0 : Int)).map iE))).put h2.nx (.cells 7 ((dgL 7 E).map iE))) := (Grow.new (Nat.le_refl _) _).trans (Grow.put (Nat.le_refl _) (by omega) _)
      have x3 : h2.nx.nat < ((h2.new (.cells 7 ((List.replicate 7 (0 : Int)).map iE))).put h2.nx (.cells 7 ((dgL 7 E).map iE))).nx.nat := by show _ < (h2.new (.cells 7 ((List.replicate 7 (0 : Int)).map iE))).nx.nat; omega
      simp (disch := omega) only [f67_r4, f67_r5, w_reg, w_seq, seqK_n, x_nil, x_mv, x_as, x_alloc, x_st, x_len, kx, rvP_ok, ev_t, ev_c, getV_some, putD_some, putD_none, of0, getK_set, Nat.reduceEqDiff, ↓reduceIte, h0, s3]
      generalize (h2.new (.cells 7 ((List.replicate 7 (0 : Int)).map iE))).put h2.nx (.cells 7 ((dgL 7 E).map iE)) = h3 at *
      have hG3 := hG12.trans (g3.low hG12.nx)
      have hc3 := hG3.hc hc
      have hv3 := hv.grow hc hG3
      have eA : Ar iE h3 h2.nx (dgL 7 E) := by unfold Ar; rw [dgL_len]; exact e3
      generalize h2.nx = id5 at *
      simp (disch := omega) only [w_block, seqK_n, x_nil, x_mv, kx, rvP_ok, ev_c, putD_some, hv3.len]
      refine W_loop (f67_I h h3 n v E id5) (fun j => E.length - j) ?_ 0 ⟨by omega, Grow.refl _ _, .sn, Sk.nil, Own.sn, by simp (disch := omega) only [getK_set, Nat.reduceEqDiff, ↓reduceIte, and_self, Int.natCast_zero]⟩
      rintro j fr hx ⟨hj, hGx, c, hsk, hown, g0, g1, g5, g6, g25, g26, g27⟩
      have hcx := hGx.hc hc3
      have hvx := hv3.grow hc3 hGx
      have eAx := eA.same (hGx.old id5 x3)
      unfold f67_l0
      by_cases hlt2 : j < E.length
      · have d1 : decide ((j : Int) < (E.length : Int)) = true := by simpa using hlt2
        obtain ⟨ida, q, hp1, hp2, _, _⟩ := hvx.at2 hlt2
        obtain ⟨b0, b1, b2⟩ := hE.2.2 E[j] (List.getElem_mem hlt2)
        have hsn := inE'_snoc hlt2
        obtain ⟨a, ea⟩ : ∃ a : Nat, E[j].1 = (a : Int) := ⟨E[j].1.toNat, by omega⟩
        obtain ⟨b, eb⟩ : ∃ b : Nat, E[j].2 = (b : Int) := ⟨E[j].2.toNat, by omega⟩
        have ha : a < 7 := by omega
        have hb : b < 7 := by omega
        have hst2 : storeV (hx.new (.cells 2 zz)) 2 (.p hx.nx 0) (.agg [.i .i64 E[j].1, .i .i64 E[j].2]) = .ok undefV ((hx.new (.cells 2 zz)).put hx.nx (.cells 2 [.i .i64 E[j].1, .i .i64 E[j].2])) := st2 (a := .i .i64 (.ofNat 0)) (b := .i .i64 (.ofNat 0)) get_new_same
        have nx1 := nx_new hx (.cells 2 zz)
        have gB : Grow hx.nx.nat hx ((hx.new (.cells 2 zz)).put hx.nx (.cells 2 [.i .i64 E[j].1, .i .i64 E[j].2])) := (Grow.new (Nat.le_refl _) _).trans (Grow.put (Nat.le_refl _) (by omega) _)
        have c8 : ((hx.new (.cells 2 zz)).put hx.nx (.cells 2 [.i .i64 E[j].1, .i .i64 E[j].2])).get hx.nx = .cells 2 [.i .i64 E[j].1, .i .i64 E[j].2] := get_put_same
        have hzz : ([.i .i64 0, .i .i64 0] : List V) = zz := rfl
        generalize (hx.new (.cells 2 zz)).put hx.nx (.cells 2 [.i .i64 E[j].1, .i .i64 E[j].2]) = h4 at *
        have l0 : loadV h4 (.p hx.nx (0 + 0 * 1)) one? = .ok (.i .i64 E[j].1) h4 := load_p c8 rfl
        have l1 : loadV h4 (.p hx.nx (0 + 1 * 1)) one? = .ok (.i .i64 E[j].2) h4 := load_p c8 rfl
        have l2 : loadV h4 (.p hx.nx 0) (many? 2) = .ok (.agg [.i .i64 E[j].1, .i .i64 E[j].2]) h4 := ldn2 c8
        have hx5 : id5.nat < hx.nx.nat := by have := hGx.nx; omega
        have eA4 := eAx.same (gB.old id5 hx5)
        have ld1 := eA4.ld (i := a) (by rw [dgL_len]; exact ha)
        have ld2 := eA4.ld (i := b) (by rw [dgL_len]; exact hb)
        rw [dgL_at] at ld1 ld2
        have ixa : ∀ f : Nat → RV, idxV (.i .i64 (a : Int)) 7 f = f a := fun f => idx_n ha
        have ixb : ∀ f : Nat → RV, idxV (.i .i64 (b : Int)) 7 f = f b := fun f => idx_n hb
        rw [ea] at l0
        rw [eb] at l1
        rw [ea, eb] at hst2 hp2 l2
        have hGx4 := hGx.trans (gB.low hGx.nx)
        have hsk4 := hsk.grow hcx gB
        have hc4 := gB.hc hcx
        have hpr : inP E E[j] = (decide (dgE E a > 1) && decide (dgE E b > 1)) := by unfold inP; rw [ea, eb]; rfl
        cases hda : decide (dgE E a > 1) with
        | false =>
          rw [hda, Bool.false_and] at hpr
          rw [hpr, if_neg (by simp)] at hsn
          simp (disch := omega) only [f67_r6, f67_r7, f67_r8, f67_r10, w_skip, w_reg, w_seq, w_cond, w_block, seqK_n, atK_n, loopK_n, ckB_b, cbB_b, okG_b, asG_t, true_and, x_nil, x_g, x_mv, x_pick, x_alloc, x_ld, x_ldn, x_st, x_bin, x_iadr, x_iads, kx, rvP_ok, okv_some, ev_t, ev_c, getV_some, putD_some, putD_none, bin_add, bin_lss, bin_gtr, pick_b, onP_p, of0, of1, getK_set, Nat.reduceEqDiff, ↓reduceIte, Bool.false_eq_true, ix2_0, g5, g25, g26, g27, d1, hp1, hp2, hzz, hst2, l0, ixa, ld1, iE, hda, fw64]
          exact ⟨j + 1, by omega, by omega, hGx4, c, by rw [hsn]; exact hsk4, hown, by simp (disch := omega) only [getK_set, Nat.reduceEqDiff, ↓reduceIte, g0, g1, g5, g6, g25, g26, and_self, Int.natCast_add, Int.natCast_one]⟩
        | true =>
        cases hdb : decide (dgE E b > 1) with
        | false =>
          rw [hda, hdb, Bool.true_and] at hpr
          rw [hpr, if_neg (by simp)] at hsn
          simp (disch := omega) only [f67_r6, f67_r7, f67_r8, f67_r10, w_skip, w_reg, w_seq, w_cond, w_block, seqK_n, atK_n, loopK_n, ckB_b, cbB_b, okG_b, asG_t, true_and, x_nil, x_g, x_mv, x_pick, x_alloc, x_ld, x_ldn, x_st, x_bin, x_iadr, x_iads, kx, rvP_ok, okv_some, ev_t, ev_c, getV_some, putD_some, putD_none, bin_add, bin_lss, bin_gtr, pick_b, onP_p, of0, of1, getK_set, Nat.reduceEqDiff, ↓reduceIte, Bool.false_eq_true, ix2_0, ix2_1, g5, g25, g26, g27, d1, hp1, hp2, hzz, hst2, l0, l1, ixa, ixb, ld1, ld2, iE, hda, hdb, fw64]
          exact ⟨j + 1, by omega, by omega, hGx4, c, by rw [hsn]; exact hsk4, hown, by simp (disch := omega) only [getK_set, Nat.reduceEqDiff, ↓reduceIte, g0, g1, g5, g6, g25, g26, and_self, Int.natCast_add, Int.natCast_one]⟩
        | true =>
          rw [hda, hdb, Bool.true_and] at hpr
          rw [hpr, if_pos rfl] at hsn
          obtain ⟨c', h5, a1, s5, o5, gr5, _⟩ := Sk.push qE_len (by omega) (x := E[j]) hsk4 hown hGx4.nx hc4 (by have := List.length_filter_le (inP E) (E.take j); unfold inE'; simp at this; omega)
          have a1' : appV 2 (h4.new (.cells (1 * 2) [.i .i64 (a : Int), .i .i64 (b : Int)])) c (.sl h4.nx 0 1 2) = .ok c' h5 := by rw [← ea, ← eb]; exact a1
          simp (disch := omega) only [f67_r6, f67_r7, f67_r8, w_skip, w_reg, w_seq, w_cond, w_block, seqK_n, ckB_b, cbB_b, okG_b, asG_t, true_and, x_nil, x_g, x_mv, x_pick, x_alloc, x_ld, x_ldn, x_st, x_bin, x_iadr, x_iads, kx, rvP_ok, okv_some, ev_t, ev_c, getV_some, putD_some, putD_none, bin_lss, bin_gtr, pick_b, onP_p, of0, of1, getK_set, Nat.reduceEqDiff, ↓reduceIte, ix2_0, ix2_1, g5, g25, g26, g27, d1, hp1, hp2, hzz, hst2, l0, l1, ixa, ixb, ld1, ld2, iE, hda, hdb]
          simp (disch := omega) only [f67_r9, f67_r10, w_reg, seqK_n, atK_n, loopK_n, x_nil, x_mv, x_as, x_bslice, x_ldn, x_bin, x_app, kx, rvP_ok, okv_some, ev_t, ev_c, getV_some, putD_some, bin_add, oGet_s, of0, of1, getK_set, Nat.reduceEqDiff, ↓reduceIte, cells2, g6, g27, l2, fw64, cells2, fill_p2, set_p2, a1']
          exact ⟨j + 1, by omega, by omega, hGx4.trans gr5, c', by rw [hsn]; exact s5, o5, by simp (disch := omega) only [getK_set, Nat.reduceEqDiff, ↓reduceIte, g0, g1, g5, g25, g26, and_self, Int.natCast_add, Int.natCast_one]⟩
      · have d1 : decide ((j : Int) < (E.length : Int)) = false := by simpa using hlt2
        have ej : j = E.length := by omega
        rw [ej, List.take_length] at hsk
        have hsk : Sk 2 qE hx c (inE E) := hsk
        simp (disch := omega) only [f67_r6, f67_r11, w_reg, w_seq, w_cond, w_exit, seqK_n, seqK_e, atK_e, loopK_e, ckB_b, cbB_b, true_and, x_nil, x_mv, x_bin, x_call, kx, rvP_ok, okv_some, ev_t, ev_c, evs_nil, evs_cons, getV_some, putD_some, bin_lss, of0, getK_set, Nat.reduceEqDiff, ↓reduceIte, Bool.false_eq_true, g6, g26, g27, d1]
        refine (callP_0 (ef := f106) k.c106 rfl (f106_ret hsk.srp hcx (inE_in7 hE))).mono ?_
        rintro r h4 ⟨rfl, hG4⟩
        have n5 := nx_new h4 (.cells 7 ((List.replicate 7 (0 : Int)).map iE))
        have s5 := st7 (h := h4.new (.cells 7 ((List.replicate 7 (0 : Int)).map iE))) (id := h4.nx) (cs := (dgL 7 (inE E)).map iE) get_new_same rfl (by rw [List.length_map, dgL_len])
        have e5 : ((h4.new (.cells 7 ((List.replicate 7 (0 : Int)).map iE))).put h4.nx (.cells 7 ((dgL 7 (inE E)).map iE))).get h4.nx = .cells 7 ((dgL 7 (inE E)).map iE) := get_put_same
        have g5 : Grow h4.nx.nat h4 ((h4.new (.cells 7 ((List.replicate 7 (0 : Int)).map iE))).put h4.nx (.cells 7 ((dgL 7 (inE E)).map iE))) := (Grow.new (Nat.le_refl _) _).trans (Grow.put (Nat.le_refl _) (by omega) _)
        have eB : Ar iE ((h4.new (.cells 7 ((List.replicate 7 (0 : Int)).map iE))).put h4.nx (.cells 7 ((dgL 7 (inE E)).map iE))) h4.nx (dgL 7 (inE E)) := by unfold Ar; rw [dgL_len]; exact e5
        have hcut := fun fr => slcA_7 (fr := fr) e5
        have hsl := eB.sr (n := 7) (by rw [dgL_len]; exact Nat.le_refl _)
        rw [List.take_of_length_le (by rw [dgL_len]; exact Nat.le_refl _)] at hsl
        have hGz : Grow h.nx.nat h ((h4.new (.cells 7 ((List.replicate 7 (0 : Int)).map iE))).put h4.nx (.cells 7 ((dgL 7 (inE E)).map iE))) := hG3.trans ((hGx.trans ((hG4.trans (g5.low hG4.nx)).low hGx.nx)).low hG3.nx)
        simp (disch := omega) only [f67_r12, w_reg, w_seq, seqK_n, x_nil, x_alloc, x_st, x_call, x_slcA, kx, rvP_ok, ev_t, ev_c, evs_nil, evs_cons, getV_some, putD_some, putD_none, of0, getK_set, Nat.reduceEqDiff, ↓reduceIte, h0, s5, hcut]
        refine (callP_0 (ef := f102) k.c102 rfl (f102_ret (a := 0) hsl (by rw [dgL_len]; omega))).mono ?_
        rintro r h5 ⟨rfl, rfl⟩
        simp (disch := omega) only [f67_r13, f67_rs, w_reg, w_seq, w_ret, seqK_n, true_and, retK_r, x_nil, x_mv, x_as, x_bin, x_ext, kx, rvP_ok, okv_some, ev_t, ev_c, getV_some, putD_some, bin_leq, onTup_t, oGet_s, nth0, nth1, readRs_nil, readRs_t, retV_1, of2, Option.some.injEq, exists_eq_left', getK_set, Nat.reduceEqDiff, ↓reduceIte, hcat, true_and]
        exact hGz
  · have d0 : decide ((E.length : Int) ≠ (n : Int) - 1) = true := by simp; omega
    have hcat : catB n E = false := by unfold catB; rw [decide_eq_false hne]; rfl
    simp (disch := omega) only [f67_r0, f67_r1, f67_r2, f67_rs, w_reg, w_seq, w_cond, w_ret, seqK_n, seqK_r, ckB_b, cbB_b, okG_b, asG_f, true_and, retK_r, x_nil, x_g, x_mv, x_as, x_pick, x_bin, x_len, kx, rvP_ok, okv_some, ev_t, ev_c, getV_some, putD_some, bin_sub, bin_neq, pick_b, oGet_s, readRs_nil, readRs_t, retV_1, frame_2, of1, Option.some.injEq, exists_eq_left', getK_set, Nat.reduceEqDiff, ↓reduceIte, Bool.false_eq_true, Bool.not_true, hv.len, fw64, d0, hcat, Bool.not_true, true_and]
    exact Grow.refl _ _
end
end Go.Ev
namespace Go.Ev
open Go Go.RowKit
noncomputable def f22_r0 : List EOper := [⟨(some (K.ofNat 4)), none, .as (.c (.b false))⟩, ⟨(some (K.ofNat 5)), none, .as (.c (.i .i64 (.ofNat 0)))⟩]
noncomputable def f22_r1 : List EOper := [⟨(some (K.ofNat 7)), none, .mv (.t (K.ofNat 0))⟩, ⟨(some (K.ofNat 8)), none, .mv (.t (K.ofNat 1))⟩, ⟨(some (K.ofNat 9)), none, .call (.c (.fn (K.ofNat 17) [])) [(.t (K.ofNat 7)), (.t (K.ofNat 8))]⟩, ⟨(some (K.ofNat 6)), none, .as (.t (K.ofNat 9))⟩]
noncomputable def f22_r2 : List EOper := [⟨(some (K.ofNat 10)), none, .mv (.t (K.ofNat 6))⟩, ⟨(some (K.ofNat 11)), none, .bin .neq (.t (K.ofNat 10)) (.c (.i .i64 (.ofNat 0)))⟩]
noncomputable def f22_r3 : List EOper := [⟨(some (K.ofNat 12)), none, .mv (.t (K.ofNat 6))⟩, ⟨(some (K.ofNat 4)), none, .as (.c (.b false))⟩, ⟨(some (K.ofNat 5)), none, .as (.t (K.ofNat 12))⟩]
noncomputable def f22_r4 : List EOper := [⟨(some (K.ofNat 13)), none, .mv (.t (K.ofNat 0))⟩, ⟨(some (K.ofNat 14)), none, .mv (.t (K.ofNat 1))⟩, ⟨(some (K.ofNat 15)), none, .call (.c (.fn (K.ofNat 67) [])) [(.t (K.ofNat 13)), (.t (K.ofNat 14))]⟩, ⟨(some (K.ofNat 4)), none, .as (.t (K.ofNat 15))⟩, ⟨(some (K.ofNat 5)), none, .as (.c (.i .i64 (.ofNat 0)))⟩]
noncomputable def f22_c : EC := (.seq (.reg f22_r0) (.seq (.seq (.reg f22_r1) (.seq (.reg f22_r2) (.cond (.t (K.ofNat 11)) (.seq (.reg f22_r3) .ret) .skip))) (.seq (.reg f22_r4) .ret)))
noncomputable def f22 : EF := ⟨16, [.tmp (K.ofNat 4), .tmp (K.ofNat 5)], f22_c, none⟩
theorem f22_rs : f22.rs = [.tmp (K.ofNat 4), .tmp (K.ofNat 5)] := of_eq_true (eq_self _)
noncomputable def f27_r0 : List EOper := [⟨(some (K.ofNat 4)), none, .as (.c .sn)⟩, ⟨(some (K.ofNat 5)), none, .as (.c (.i .i64 (.ofNat 0)))⟩]
noncomputable def f27_r1 : List EOper := [⟨(some (K.ofNat 9)), none, .mv (.t (K.ofNat 0))⟩, ⟨(some (K.ofNat 10)), none, .mv (.t (K.ofNat 1))⟩, ⟨(some (K.ofNat 11)), none, .call (.c (.fn (K.ofNat 17) [])) [(.t (K.ofNat 9)), (.t (K.ofNat 10))]⟩, ⟨(some (K.ofNat 6)), none, .as (.t (K.ofNat 11))⟩]
noncomputable def f27_r2 : List EOper := [⟨(some (K.ofNat 12)), none, .mv (.t (K.ofNat 6))⟩, ⟨(some (K.ofNat 13)), none, .bin .neq (.t (K.ofNat 12)) (.c (.i .i64 (.ofNat 0)))⟩]
noncomputable def f27_r3 : List EOper := [⟨(some (K.ofNat 14)), none, .mv (.t (K.ofNat 6))⟩, ⟨(some (K.ofNat 4)), none, .as (.c .sn)⟩, ⟨(some (K.ofNat 5)), none, .as (.t (K.ofNat 14))⟩]
noncomputable def f27_r4 : List EOper := [⟨(some (K.ofNat 15)), none, .mv (.t (K.ofNat 0))⟩, ⟨(some (K.ofNat 16)), none, .mv (.t (K.ofNat 1))⟩, ⟨(some (K.ofNat 17)), none, .call (.c (.fn (K.ofNat 67) [])) [(.t (K.ofNat 15)), (.t (K.ofNat 16))]⟩, ⟨(some (K.ofNat 18)), none, .not (.t (K.ofNat 17))⟩]
noncomputable def f27_r5 : List EOper := [⟨(some (K.ofNat 4)), none, .as (.c .sn)⟩, ⟨(some (K.ofNat 5)), none, .as (.c (.i .i64 (.ofNat 4)))⟩]
noncomputable def f27_r6 : List EOper := [⟨(some (K.ofNat 20)), none, .mv (.t (K.ofNat 0))⟩, ⟨(some (K.ofNat 21)), none, .mv (.t (K.ofNat 1))⟩, ⟨(some (K.ofNat 22)), none, .call (.c (.fn (K.ofNat 69) [])) [(.t (K.ofNat 20)), (.t (K.ofNat 21))]⟩, ⟨(some (K.ofNat 19)), none, .mv (.t (K.ofNat 22))⟩, ⟨(some (K.ofNat 23)), none, .ext (.t (K.ofNat 19)) 0⟩, ⟨(some (K.ofNat 24)), none, .ext (.t (K.ofNat 19)) 1⟩, ⟨(some (K.ofNat 7)), none, .as (.t (K.ofNat 23))⟩, ⟨(some (K.ofNat 8)), none, .as (.t (K.ofNat 24))⟩]
noncomputable def f27_r7 : List EOper := [⟨(some (K.ofNat 25)), none, .mv (.t (K.ofNat 7))⟩, ⟨(some (K.ofNat 4)), none, .as (.t (K.ofNat 25))⟩, ⟨(some (K.ofNat 5)), none, .as (.c (.i .i64 (.ofNat 0)))⟩]
noncomputable def f27_c : EC := (.seq (.reg f27_r0) (.seq (.seq (.reg f27_r1) (.seq (.reg f27_r2) (.cond (.t (K.ofNat 13)) (.seq (.reg f27_r3) .ret) .skip))) (.seq (.seq (.reg f27_r4) (.cond (.t (K.ofNat 18)) (.seq (.reg f27_r5) .ret) .skip)) (.seq (.reg f27_r6) (.seq (.reg f27_r7) .ret)))))
noncomputable def f27 : EF := ⟨26, [.tmp (K.ofNat 4), .tmp (K.ofNat 5)], f27_c, none⟩
theorem f27_rs : f27.rs = [.tmp (K.ofNat 4), .tmp (K.ofNat 5)] := of_eq_true (eq_self _)
noncomputable def f3_r0 : List EOper := [⟨(some (K.ofNat 6)), none, .as (.c (.b false))⟩]
noncomputable def f3_r1 : List EOper := [⟨(some (K.ofNat 31)), none, .mv (.t (K.ofNat 1))⟩, ⟨(some (K.ofNat 32)), none, .call (.c (.fn (K.ofNat 14) [])) [(.t (K.ofNat 31)), (.c (.i .i64 (.ofNat 20)))]⟩, ⟨(some (K.ofNat 33)), none, .mv (.t (K.ofNat 2))⟩, ⟨(some (K.ofNat 34)), none, .call (.c (.fn (K.ofNat 15) [])) [(.t (K.ofNat 33)), (.c (.i .i64 (.ofNat 10)))]⟩, ⟨(some (K.ofNat 7)), none, .as (.t (K.ofNat 32))⟩, ⟨(some (K.ofNat 8)), none, .as (.t (K.ofNat 34))⟩]
noncomputable def f3_r2 : List EOper := [⟨(some (K.ofNat 35)), none, .mv (.t (K.ofNat 0))⟩, ⟨(some (K.ofNat 36)), none, .mv (.t (K.ofNat 7))⟩, ⟨(some (K.ofNat 37)), none, .call (.c (.fn (K.ofNat 16) [])) [(.t (K.ofNat 35)), (.t (K.ofNat 36))]⟩, ⟨(some (K.ofNat 9)), none, .as (.t (K.ofNat 37))⟩]
noncomputable def f3_r3 : List EOper := [⟨(some (K.ofNat 38)), none, .mv (.t (K.ofNat 0))⟩, ⟨(some (K.ofNat 39)), none, .mv (.t (K.ofNat 7))⟩, ⟨(some (K.ofNat 40)), none, .call (.c (.fn (K.ofNat 17) [])) [(.t (K.ofNat 38)), (.t (K.ofNat 39))]⟩, ⟨(some (K.ofNat 41)), none, .mv (.t (K.ofNat 9))⟩, ⟨(some (K.ofNat 42)), none, .bin .neq (.t (K.ofNat 40)) (.t (K.ofNat 41))⟩]
noncomputable def f3_r4 : List EOper := [⟨(some (K.ofNat 6)), none, .as (.c (.b false))⟩]
noncomputable def f3_r5 : List EOper := [⟨(some (K.ofNat 44)), none, .mv (.t (K.ofNat 0))⟩, ⟨(some (K.ofNat 45)), none, .mv (.t (K.ofNat 7))⟩, ⟨(some (K.ofNat 46)), none, .mv (.t (K.ofNat 8))⟩, ⟨(some (K.ofNat 47)), none, .call (.c (.fn (K.ofNat 18) [])) [(.t (K.ofNat 44)), (.t (K.ofNat 45)), (.t (K.ofNat 46))]⟩, ⟨(some (K.ofNat 43)), none, .mv (.t (K.ofNat 47))⟩, ⟨(some (K.ofNat 48)), none, .ext (.t (K.ofNat 43)) 0⟩, ⟨(some (K.ofNat 49)), none, .ext (.t (K.ofNat 43)) 1⟩, ⟨(some (K.ofNat 10)), none, .as (.t (K.ofNat 48))⟩, ⟨(some (K.ofNat 11)), none, .as (.t (K.ofNat 49))⟩]
noncomputable def f3_r6 : List EOper := [⟨(some (K.ofNat 51)), none, .mv (.t (K.ofNat 0))⟩, ⟨(some (K.ofNat 52)), none, .mv (.t (K.ofNat 7))⟩, ⟨(some (K.ofNat 53)), none, .mv (.t (K.ofNat 8))⟩, ⟨(some (K.ofNat 54)), none, .call (.c (.fn (K.ofNat 19) [])) [(.t (K.ofNat 51)), (.t (K.ofNat 52)), (.t (K.ofNat 53))]⟩, ⟨(some (K.ofNat 50)), none, .mv (.t (K.ofNat 54))⟩, ⟨(some (K.ofNat 55)), none, .ext (.t (K.ofNat 50)) 0⟩, ⟨(some (K.ofNat 56)), none, .ext (.t (K.ofNat 50)) 1⟩, ⟨(some (K.ofNat 57)), none, .ext (.t (K.ofNat 50)) 2⟩, ⟨(some (K.ofNat 12)), none, .as (.t (K.ofNat 55))⟩, ⟨(some (K.ofNat 13)), none, .as (.t (K.ofNat 56))⟩, ⟨(some (K.ofNat 14)), none, .as (.t (K.ofNat 57))⟩]
noncomputable def f3_r7 : List EOper := [⟨(some (K.ofNat 59)), none, .mv (.t (K.ofNat 0))⟩, ⟨(some (K.ofNat 60)), none, .mv (.t (K.ofNat 7))⟩, ⟨(some (K.ofNat 61)), none, .mv (.t (K.ofNat 8))⟩, ⟨(some (K.ofNat 62)), none, .call (.c (.fn (K.ofNat 20) [])) [(.t (K.ofNat 59)), (.t (K.ofNat 60)), (.t (K.ofNat 61))]⟩, ⟨(some (K.ofNat 58)), none, .mv (.t (K.ofNat 62))⟩, ⟨(some (K.ofNat 63)), none, .ext (.t (K.ofNat 58)) 0⟩, ⟨(some (K.ofNat 64)), none, .ext (.t (K.ofNat 58)) 1⟩, ⟨(some (K.ofNat 15)), none, .as (.t (K.ofNat 63))⟩, ⟨(some (K.ofNat 16)), none, .as (.t (K.ofNat 64))⟩]
noncomputable def f3_r8 : List EOper := [⟨(some (K.ofNat 66)), none, .mv (.t (K.ofNat 0))⟩, ⟨(some (K.ofNat 67)), none, .mv (.t (K.ofNat 7))⟩, ⟨(some (K.ofNat 68)), none, .mv (.t (K.ofNat 8))⟩, ⟨(some (K.ofNat 69)), none, .call (.c (.fn (K.ofNat 21) [])) [(.t (K.ofNat 66)), (.t (K.ofNat 67)), (.t (K.ofNat 68))]⟩, ⟨(some (K.ofNat 65)), none, .mv (.t (K.ofNat 69))⟩, ⟨(some (K.ofNat 70)), none, .ext (.t (K.ofNat 65)) 0⟩, ⟨(some (K.ofNat 71)), none, .ext (.t (K.ofNat 65)) 1⟩, ⟨(some (K.ofNat 17)), none, .as (.t (K.ofNat 70))⟩, ⟨(some (K.ofNat 18)), none, .as (.t (K.ofNat 71))⟩]
noncomputable def f3_r9 : List EOper := [⟨(some (K.ofNat 73)), none, .mv (.t (K.ofNat 0))⟩, ⟨(some (K.ofNat 74)), none, .mv (.t (K.ofNat 7))⟩, ⟨(some (K.ofNat 75)), none, .call (.c (.fn (K.ofNat 22) [])) [(.t (K.ofNat 73)), (.t (K.ofNat 74))]⟩, ⟨(some (K.ofNat 72)), none, .mv (.t (K.ofNat 75))⟩, ⟨(some (K.ofNat 76)), none, .ext (.t (K.ofNat 72)) 0⟩, ⟨(some (K.ofNat 77)), none, .ext (.t (K.ofNat 72)) 1⟩, ⟨(some (K.ofNat 19)), none, .as (.t (K.ofNat 76))⟩, ⟨(some (K.ofNat 20)), none, .as (.t (K.ofNat 77))⟩]
noncomputable def f3_r10 : List EOper := [⟨(some (K.ofNat 78)), none, .mv (.t (K.ofNat 9))⟩, ⟨(some (K.ofNat 79)), none, .bin .eql (.t (K.ofNat 78)) (.c (.i .i64 (.ofNat 0)))⟩]
noncomputable def f3_r11 : List EOper := [⟨(some (K.ofNat 80)), none, .mv (.t (K.ofNat 11))⟩, ⟨(some (K.ofNat 81)), none, .bin .eql (.t (K.ofNat 80)) (.c (.i .i64 (.ofNat 0)))⟩, ⟨(some (K.ofNat 82)), none, .mv (.t (K.ofNat 81))⟩, ⟨(some (K.ofNat 83)), (some ((K.ofNat 82), true)), .mv (.t (K.ofNat 14))⟩, ⟨(some (K.ofNat 84)), (some ((K.ofNat 82), true)), .bin .eql (.t (K.ofNat 83)) (.c (.i .i64 (.ofNat 0)))⟩, ⟨(some (K.ofNat 85)), none, .pick (.t (K.ofNat 82)) (.t (K.ofNat 84)) (.c (.b false))⟩, ⟨(some (K.ofNat 86)), none, .mv (.t (K.ofNat 85))⟩, ⟨(some (K.ofNat 87)), (some ((K.ofNat 86), true)), .mv (.t (K.ofNat 20))⟩, ⟨(some (K.ofNat 88)), (some ((K.ofNat 86), true)), .bin .eql (.t (K.ofNat 87)) (.c (.i .i64 (.ofNat 0)))⟩, ⟨(some (K.ofNat 89)), none, .pick (.t (K.ofNat 86)) (.t (K.ofNat 88)) (.c (.b false))⟩, ⟨(some (K.ofNat 90)), none, .mv (.t (K.ofNat 89))⟩, ⟨(some (K.ofNat 91)), (some ((K.ofNat 90), true)), .call (.c (.fn (K.ofNat 23) [])) []⟩, ⟨(some (K.ofNat 92)), none, .pick (.t (K.ofNat 90)) (.t (K.ofNat 91)) (.c (.b false))⟩, ⟨(some (K.ofNat 6)), none, .as (.t (K.ofNat 92))⟩]
noncomputable def f3_r12 : List EOper := [⟨(some (K.ofNat 94)), none, .mv (.t (K.ofNat 0))⟩, ⟨(some (K.ofNat 95)), none, .mv (.t (K.ofNat 7))⟩, ⟨(some (K.ofNat 96)), none, .call (.c (.fn (K.ofNat 24) [])) [(.t (K.ofNat 94)), (.t (K.ofNat 95))]⟩, ⟨(some (K.ofNat 93)), none, .mv (.t (K.ofNat 96))⟩, ⟨(some (K.ofNat 97)), none, .ext (.t (K.ofNat 93)) 0⟩, ⟨(some (K.ofNat 98)), none, .ext (.t (K.ofNat 93)) 1⟩, ⟨(some (K.ofNat 99)), none, .ext (.t (K.ofNat 93)) 2⟩, ⟨(some (K.ofNat 21)), none, .as (.t (K.ofNat 97))⟩, ⟨(some (K.ofNat 22)), none, .as (.t (K.ofNat 98))⟩, ⟨(some (K.ofNat 23)), none, .as (.t (K.ofNat 99))⟩]
noncomputable def f3_r13 : List EOper := [⟨(some (K.ofNat 101)), none, .mv (.t (K.ofNat 0))⟩, ⟨(some (K.ofNat 102)), none, .mv (.t (K.ofNat 7))⟩, ⟨(some (K.ofNat 103)), none, .call (.c (.fn (K.ofNat 25) [])) [(.t (K.ofNat 101)), (.t (K.ofNat 102))]⟩, ⟨(some (K.ofNat 100)), none, .mv (.t (K.ofNat 103))⟩, ⟨(some (K.ofNat 104)), none, .ext (.t (K.ofNat 100)) 0⟩, ⟨(some (K.ofNat 105)), none, .ext (.t (K.ofNat 100)) 1⟩, ⟨(some (K.ofNat 24)), none, .as (.t (K.ofNat 104))⟩, ⟨(some (K.ofNat 25)), none, .as (.t (K.ofNat 105))⟩]
noncomputable def f3_r14 : List EOper := [⟨(some (K.ofNat 107)), none, .mv (.t (K.ofNat 0))⟩, ⟨(some (K.ofNat 108)), none, .mv (.t (K.ofNat 7))⟩, ⟨(some (K.ofNat 109)), none, .call (.c (.fn (K.ofNat 26) [])) [(.t (K.ofNat 107)), (.t (K.ofNat 108))]⟩, ⟨(some (K.ofNat 106)), none, .mv (.t (K.ofNat 109))⟩, ⟨(some (K.ofNat 110)), none, .ext (.t (K.ofNat 106)) 0⟩, ⟨(some (K.ofNat 111)), none, .ext (.t (K.ofNat 106)) 1⟩, ⟨(some (K.ofNat 112)), none, .ext (.t (K.ofNat 106)) 2⟩, ⟨(some (K.ofNat 26)), none, .as (.t (K.ofNat 110))⟩, ⟨(some (K.ofNat 27)), none, .as (.t (K.ofNat 111))⟩, ⟨(some (K.ofNat 28)), none, .as (.t (K.ofNat 112))⟩]
noncomputable def f3_r15 : List EOper := [⟨(some (K.ofNat 114)), none, .mv (.t (K.ofNat 0))⟩, ⟨(some (K.ofNat 115)), none, .mv (.t (K.ofNat 7))⟩, ⟨(some (K.ofNat 116)), none, .call (.c (.fn (K.ofNat 27) [])) [(.t (K.ofNat 114)), (.t (K.ofNat 115))]⟩, ⟨(some (K.ofNat 113)), none, .mv (.t (K.ofNat 116))⟩, ⟨(some (K.ofNat 117)), none, .ext (.t (K.ofNat 113)) 0⟩, ⟨(some (K.ofNat 118)), none, .ext (.t (K.ofNat 113)) 1⟩, ⟨(some (K.ofNat 29)), none, .as (.t (K.ofNat 117))⟩, ⟨(some (K.ofNat 30)), none, .as (.t (K.ofNat 118))⟩]
noncomputable def f3_r16 : List EOper := [⟨(some (K.ofNat 119)), none, .mv (.t (K.ofNat 11))⟩, ⟨(some (K.ofNat 120)), none, .mv (.t (K.ofNat 9))⟩, ⟨(some (K.ofNat 121)), none, .bin .eql (.t (K.ofNat 119)) (.t (K.ofNat 120))⟩, ⟨(some (K.ofNat 122)), none, .mv (.t (K.ofNat 121))⟩, ⟨(some (K.ofNat 123)), (some ((K.ofNat 122), true)), .mv (.t (K.ofNat 14))⟩, ⟨(some (K.ofNat 124)), (some ((K.ofNat 122), true)), .mv (.t (K.ofNat 9))⟩, ⟨(some (K.ofNat 125)), (some ((K.ofNat 122), true)), .bin .eql (.t (K.ofNat 123)) (.t (K.ofNat 124))⟩, ⟨(some (K.ofNat 126)), none, .pick (.t (K.ofNat 122)) (.t (K.ofNat 125)) (.c (.b false))⟩, ⟨(some (K.ofNat 127)), none, .mv (.t (K.ofNat 126))⟩, ⟨(some (K.ofNat 128)), (some ((K.ofNat 127), true)), .mv (.t (K.ofNat 16))⟩, ⟨(some (K.ofNat 129)), (some ((K.ofNat 127), true)), .mv (.t (K.ofNat 9))⟩, ⟨(some (K.ofNat 130)), (some ((K.ofNat 127), true)), .bin .eql (.t (K.ofNat 128)) (.t (K.ofNat 129))⟩, ⟨(some (K.ofNat 131)), none, .pick (.t (K.ofNat 127)) (.t (K.ofNat 130)) (.c (.b false))⟩, ⟨(some (K.ofNat 132)), none, .mv (.t (K.ofNat 131))⟩, ⟨(some (K.ofNat 133)), (some ((K.ofNat 132), true)), .mv (.t (K.ofNat 18))⟩, ⟨(some (K.ofNat 134)), (some ((K.ofNat 132), true)), .mv (.t (K.ofNat 9))⟩, ⟨(some (K.ofNat 135)), (some ((K.ofNat 132), true)), .bin .eql (.t (K.ofNat 133)) (.t (K.ofNat 134))⟩, ⟨(some (K.ofNat 136)), none, .pick (.t (K.ofNat 132)) (.t (K.ofNat 135)) (.c (.b false))⟩, ⟨(some (K.ofNat 137)), none, .mv (.t (K.ofNat 136))⟩, ⟨(some (K.ofNat 138)), (some ((K.ofNat 137), true)), .mv (.t (K.ofNat 20))⟩, ⟨(some (K.ofNat 139)), (some ((K.ofNat 137), true)), .mv (.t (K.ofNat 9))⟩, ⟨(some (K.ofNat 140)), (some ((K.ofNat 137), true)), .bin .eql (.t (K.ofNat 138)) (.t (K.ofNat 139))⟩, ⟨(some (K.ofNat 141)), none, .pick (.t (K.ofNat 137)) (.t (K.ofNat 140)) (.c (.b false))⟩, ⟨(some (K.ofNat 142)), none, .mv (.t (K.ofNat 141))⟩, ⟨(some (K.ofNat 143)), (some ((K.ofNat 142), true)), .mv (.t (K.ofNat 23))⟩, ⟨(some (K.ofNat 144)), (some ((K.ofNat 142), true)), .mv (.t (K.ofNat 9))⟩, ⟨(some (K.ofNat 145)), (some ((K.ofNat 142), true)), .bin .eql (.t (K.ofNat 143)) (.t (K.ofNat 144))⟩, ⟨(some (K.ofNat 146)), none, .pick (.t (K.ofNat 142)) (.t (K.ofNat 145)) (.c (.b false))⟩, ⟨(some (K.ofNat 147)), none, .mv (.t (K.ofNat 146))⟩, ⟨(some (K.ofNat 148)), (some ((K.ofNat 147), true)), .mv (.t (K.ofNat 25))⟩, ⟨(some (K.ofNat 149)), (some ((K.ofNat 147), true)), .mv (.t (K.ofNat 9))⟩, ⟨(some (K.ofNat 150)), (some ((K.ofNat 147), true)), .bin .eql (.t (K.ofNat 148)) (.t (K.ofNat 149))⟩, ⟨(some (K.ofNat 151)), none, .pick (.t (K.ofNat 147)) (.t (K.ofNat 150)) (.c (.b false))⟩, ⟨(some (K.ofNat 152)), none, .mv (.t (K.ofNat 151))⟩, ⟨(some (K.ofNat 153)), (some ((K.ofNat 152), true)), .mv (.t (K.ofNat 28))⟩, ⟨(some (K.ofNat 154)), (some ((K.ofNat 152), true)), .mv (.t (K.ofNat 9))⟩, ⟨(some (K.ofNat 155)), (some ((K.ofNat 152), true)), .bin .eql (.t (K.ofNat 153)) (.t (K.ofNat 154))⟩, ⟨(some (K.ofNat 156)), none, .pick (.t (K.ofNat 152)) (.t (K.ofNat 155)) (.c (.b false))⟩, ⟨(some (K.ofNat 157)), none, .mv (.t (K.ofNat 156))⟩, ⟨(some (K.ofNat 158)), (some ((K.ofNat 157), true)), .mv (.t (K.ofNat 30))⟩, ⟨(some (K.ofNat 159)), (some ((K.ofNat 157), true)), .mv (.t (K.ofNat 9))⟩, ⟨(some (K.ofNat 160)), (some ((K.ofNat 157), true)), .bin .eql (.t (K.ofNat 158)) (.t (K.ofNat 159))⟩, ⟨(some (K.ofNat 161)), none, .pick (.t (K.ofNat 157)) (.t (K.ofNat 160)) (.c (.b false))⟩, ⟨(some (K.ofNat 162)), none, .mv (.t (K.ofNat 161))⟩, ⟨(some (K.ofNat 163)), (some ((K.ofNat 162), true)), .mv (.t (K.ofNat 10))⟩, ⟨(some (K.ofNat 164)), (some ((K.ofNat 162), true)), .not (.t (K.ofNat 163))⟩, ⟨(some (K.ofNat 165)), none, .pick (.t (K.ofNat 162)) (.t (K.ofNat 164)) (.c (.b false))⟩, ⟨(some (K.ofNat 166)), none, .mv (.t (K.ofNat 165))⟩, ⟨(some (K.ofNat 167)), (some ((K.ofNat 166), true)), .mv (.t (K.ofNat 13))⟩, ⟨(some (K.ofNat 168)), (some ((K.ofNat 166), true)), .not (.t (K.ofNat 167))⟩, ⟨(some (K.ofNat 169)), none, .pick (.t (K.ofNat 166)) (.t (K.ofNat 168)) (.c (.b false))⟩, ⟨(some (K.ofNat 170)), none, .mv (.t (K.ofNat 169))⟩, ⟨(some (K.ofNat 171)), (some ((K.ofNat 170), true)), .mv (.t (K.ofNat 19))⟩, ⟨(some (K.ofNat 172)), (some ((K.ofNat 170), true)), .not (.t (K.ofNat 171))⟩, ⟨(some (K.ofNat 173)), none, .pick (.t (K.ofNat 170)) (.t (K.ofNat 172)) (.c (.b false))⟩, ⟨(some (K.ofNat 174)), none, .mv (.t (K.ofNat 173))⟩, ⟨(some (K.ofNat 175)), (some ((K.ofNat 174), true)), .mv (.t (K.ofNat 22))⟩, ⟨(some (K.ofNat 176)), (some ((K.ofNat 174), true)), .not (.t (K.ofNat 175))⟩, ⟨(some (K.ofNat 177)), none, .pick (.t (K.ofNat 174)) (.t (K.ofNat 176)) (.c (.b false))⟩, ⟨(some (K.ofNat 178)), none, .mv (.t (K.ofNat 177))⟩, ⟨(some (K.ofNat 179)), (some ((K.ofNat 178), true)), .mv (.t (K.ofNat 27))⟩, ⟨(some (K.ofNat 180)), (some ((K.ofNat 178), true)), .not (.t (K.ofNat 179))⟩, ⟨(some (K.ofNat 181)), none, .pick (.t (K.ofNat 178)) (.t (K.ofNat 180)) (.c (.b false))⟩, ⟨(some (K.ofNat 182)), none, .mv (.t (K.ofNat 181))⟩, ⟨(some (K.ofNat 183)), (some ((K.ofNat 182), true)), .mv (.t (K.ofNat 12))⟩, ⟨(some (K.ofNat 184)), (some ((K.ofNat 182), true)), .mv (.t (K.ofNat 15))⟩, ⟨(some (K.ofNat 185)), (some ((K.ofNat 182), true)), .len (.t (K.ofNat 184))⟩, ⟨(some (K.ofNat 186)), (some ((K.ofNat 182), true)), .bin .add (.t (K.ofNat 183)) (.t (K.ofNat 185))⟩, ⟨(some (K.ofNat 187)), (some ((K.ofNat 182), true)), .mv (.t (K.ofNat 17))⟩, ⟨(some (K.ofNat 188)), (some ((K.ofNat 182), true)), .len (.t (K.ofNat 187))⟩, ⟨(some (K.ofNat 189)), (some ((K.ofNat 182), true)), .bin .add (.t (K.ofNat 186)) (.t (K.ofNat 188))⟩, ⟨(some (K.ofNat 190)), (some ((K.ofNat 182), true)), .mv (.t (K.ofNat 21))⟩, ⟨(some (K.ofNat 191)), (some ((K.ofNat 182), true)), .len (.t (K.ofNat 190))⟩, ⟨(some (K.ofNat 192)), (some ((K.ofNat 182), true)), .bin .add (.t (K.ofNat 189)) (.t (K.ofNat 191))⟩, ⟨(some (K.ofNat 193)), (some ((K.ofNat 182), true)), .mv (.t (K.ofNat 24))⟩, ⟨(some (K.ofNat 194)), (some ((K.ofNat 182), true)), .bin .add (.t (K.ofNat 192)) (.t (K.ofNat 193))⟩, ⟨(some (K.ofNat 195)), (some ((K.ofNat 182), true)), .mv (.t (K.ofNat 26))⟩, ⟨(some (K.ofNat 196)), (some ((K.ofNat 182), true)), .len (.t (K.ofNat 195))⟩, ⟨(some (K.ofNat 197)), (some ((K.ofNat 182), true)), .bin .add (.t (K.ofNat 194)) (.t (K.ofNat 196))⟩, ⟨(some (K.ofNat 198)), (some ((K.ofNat 182), true)), .mv (.t (K.ofNat 29))⟩, ⟨(some (K.ofNat 199)), (some ((K.ofNat 182), true)), .len (.t (K.ofNat 198))⟩, ⟨(some (K.ofNat 200)), (some ((K.ofNat 182), true)), .bin .add (.t (K.ofNat 197)) (.t (K.ofNat 199))⟩, ⟨(some (K.ofNat 201)), (some ((K.ofNat 182), true)), .bin .eql (.t (K.ofNat 200)) (.c (.i .i64 (.ofNat 0)))⟩, ⟨(some (K.ofNat 202)), none, .pick (.t (K.ofNat 182)) (.t (K.ofNat 201)) (.c (.b false))⟩, ⟨(some (K.ofNat 203)), none, .mv (.t (K.ofNat 202))⟩, ⟨(some (K.ofNat 204)), (some ((K.ofNat 203), true)), .call (.c (.fn (K.ofNat 23) [])) []⟩, ⟨(some (K.ofNat 205)), none, .pick (.t (K.ofNat 203)) (.t (K.ofNat 204)) (.c (.b false))⟩, ⟨(some (K.ofNat 6)), none, .as (.t (K.ofNat 205))⟩]
noncomputable def f3_c : EC := (.seq (.reg f3_r0) (.seq (.reg f3_r1) (.seq (.reg f3_r2) (.seq (.seq (.reg f3_r3) (.cond (.t (K.ofNat 42)) (.seq (.reg f3_r4) .ret) .skip)) (.seq (.reg f3_r5) (.seq (.reg f3_r6) (.seq (.reg f3_r7) (.seq (.reg f3_r8) (.seq (.reg f3_r9) (.seq (.seq (.reg f3_r10) (.cond (.t (K.ofNat 79)) (.seq (.reg f3_r11) .ret) .skip)) (.seq (.reg f3_r12) (.seq (.reg f3_r13) (.seq (.reg f3_r14) (.seq (.reg f3_r15) (.seq (.reg f3_r16) .ret)))))))))))))))
noncomputable def f3 : EF := ⟨206, [.tmp (K.ofNat 6)], f3_c, none⟩
section
variable {fs : T EF} {h : H} {v : V} {E : List (Int × Int)}
theorem f22_ok {m : Nat} (k : CallsC fs) (kt : CallsCt fs) (h67 : fs.get (K.ofNat 67) = some f67) (hv : Srp h v E) (hc : HC h) (hn : chkI (m : Int) E = 0) : Ret fs f22 [.i .i64 (m : Int), v] h fun r h' => r = .tup [.b (catB m E), .i .i64 0] ∧ Grow h.nx.nat h h' := by
  obtain ⟨m', hm, hm2, hE⟩ := chkI_ok hn
  obtain rfl : m = m' := by omega
  have hE6 : E.length ≤ 1000000 := by have := hE.1; omega
  apply ret_of rfl
  show W fs none f22_c _ _ _
  unfold f22_c
  simp (disch := omega) only [f22_r0, f22_r1, w_reg, w_seq, seqK_n, x_nil, x_mv, x_as, x_call, ev_t, ev_c, evs_nil, evs_cons, getV_some, putD_some, frame_2, of0, getK_set, Nat.reduceEqDiff, ↓reduceIte]
  refine (callP_0 (ef := f17) k.c17 rfl (f17_ret (n := (m : Int)) k hv hc hE6)).mono ?_
  rintro r h4 ⟨rfl, gB⟩
  rw [hn]
  have d : decide ((0 : Int) ≠ 0) = false := rfl
  simp (disch := omega) only [f22_r2, f22_r4, w_skip, w_reg, w_seq, w_cond, seqK_n, ckB_b, cbB_b, true_and, x_nil, x_mv, x_as, x_bin, x_call, kx, rvP_ok, okv_some, ev_t, ev_c, evs_nil, evs_cons, getV_some, putD_some, bin_neq, of0, getK_set, Nat.reduceEqDiff, ↓reduceIte, Bool.false_eq_true, d]
  refine (callP_0 (ef := f67) h67 rfl (f67_ret kt (hv.grow hc gB) (gB.hc hc) hE)).mono ?_
  rintro r h5 ⟨rfl, gC⟩
  simp (disch := omega) only [f22_rs, w_ret, seqK_n, true_and, retK_r, x_nil, x_as, kx, ev_t, ev_c, getV_some, putD_some, oGet_s, readRs_nil, readRs_t, retV_2, Option.some.injEq, exists_eq_left', getK_set, Nat.reduceEqDiff, ↓reduceIte, true_and]
  exact gB.trans (gC.low gB.nx)
end
section
variable {fs : T EF} {h : H}
end
end Go.Ev
namespace Go.Ev
open Go Go.RowKit
theorem nodup_le {α : Type} [DecidableEq α] : ∀ {l m : List α}, l.Nodup → (∀ x ∈ l, x ∈ m) → l.length ≤ m.length
  | [], _, _, _ => Nat.zero_le _
  | x :: l, m, hn, hs => by
    rw [List.nodup_cons] at hn
    have hx : x ∈ m := hs x (by simp)
    have := nodup_le (l := l) (m := m.erase x) hn.2 fun y hy => (List.mem_erase_of_ne (fun e : y = x => hn.1 (e ▸ hy))).2 (hs y (by simp [hy]))
    rw [List.length_erase_of_mem hx] at this
    have : 0 < m.length := List.length_pos_of_mem hx
    rw [List.length_cons]; omega
theorem two_le {α : Type} {a b : α} (hab : a ≠ b) : ∀ {l : List α}, a ∈ l → b ∈ l → 2 ≤ l.length
  | [], h, _ => absurd h (by simp)
  | [x], h, h' => absurd ((List.mem_singleton.1 h).trans (List.mem_singleton.1 h').symm) hab
  | _ :: _ :: _, _, _ => by simp
theorem three_le {α : Type} {a b c : α} (hab : a ≠ b) (hac : a ≠ c) (hbc : b ≠ c) : ∀ {l : List α}, a ∈ l → b ∈ l → c ∈ l → 3 ≤ l.length
  | [], h, _, _ => absurd h (by simp)
  | x :: l, h1, h2, h3 => by
    rw [List.length_cons]
    rcases List.mem_cons.1 h1 with rfl | g1
    · have := two_le hbc (l := l) ((List.mem_cons.1 h2).resolve_left fun e => hab e.symm) ((List.mem_cons.1 h3).resolve_left fun e => hac e.symm)
      omega
    · rcases List.mem_cons.1 h2 with rfl | h2
      · have := two_le hac (l := l) g1 ((List.mem_cons.1 h3).resolve_left fun e => hbc e.symm)
        omega
      · have := two_le hab (l := l) g1 h2
        omega
/-- The edge is at the node. -/
def atN (v : Nat) (e : Int × Int) : Bool := decide (v = e.1.toNat) || decide (v = e.2.toNat)
theorem dgE_ge {v : Nat} : ∀ {E : List (Int × Int)}, ((E.filter (atN v)).length : Int) ≤ dgE E v
  | [] => by show (0 : Int) ≤ 0; omega
  | e :: E => by
    have := dgE_ge (v := v) (E := E)
    rw [dgE_cons]
    unfold dg1
    cases h : atN v e with
    | true =>
      rw [List.filter_cons_of_pos h, List.length_cons]
      unfold atN at h
      rw [Bool.or_eq_true, decide_eq_true_iff, decide_eq_true_iff] at h
      rcases h with h | h
      · rw [if_pos h]; split <;> omega
      · rw [if_pos h]; split <;> omega
    | false =>
      rw [List.filter_cons_of_neg (by rw [h]; simp)]
      split <;> split <;> omega
/-- Neighbours. -/
def nbE (E : List (Int × Int)) (u v : Nat) : Prop := ∃ e ∈ E, (e.1.toNat = u ∧ e.2.toNat = v) ∨ (e.1.toNat = v ∧ e.2.toNat = u)
def inn (E : List (Int × Int)) (v : Nat) : Prop := 1 < dgE E v
section
variable {n : Nat} {E : List (Int × Int)}
theorem at_of {e : Int × Int} {u v : Nat} (h : (e.1.toNat = u ∧ e.2.toNat = v) ∨ (e.1.toNat = v ∧ e.2.toNat = u)) : atN u e = true := by
  unfold atN
  rcases h with ⟨h, _⟩ | ⟨_, h⟩ <;> simp [h]
theorem nb_symm {u v : Nat} (h : nbE E u v) : nbE E v u := by
  obtain ⟨e, he, h⟩ := h
  exact ⟨e, he, h.symm⟩
theorem nb_ne {u v w : Nat} {e e' : Int × Int} (h : (e.1.toNat = u ∧ e.2.toNat = v) ∨ (e.1.toNat = v ∧ e.2.toNat = u)) (h' : (e'.1.toNat = u ∧ e'.2.toNat = w) ∨ (e'.1.toNat = w ∧ e'.2.toNat = u)) (hvw : v ≠ w) : e ≠ e' := by
  rintro rfl
  omega
theorem deg1 {u v : Nat} (h : nbE E u v) : 1 ≤ dgE E u := by
  obtain ⟨e, he, h⟩ := h
  have := dgE_ge (v := u) (E := E)
  have : 0 < (E.filter (atN u)).length := List.length_pos_of_mem (List.mem_filter.2 ⟨he, at_of h⟩)
  omega
theorem deg2 {u v w : Nat} (h : nbE E u v) (h' : nbE E u w) (hvw : v ≠ w) : 2 ≤ dgE E u := by
  obtain ⟨e, he, h⟩ := h
  obtain ⟨e', he', h'⟩ := h'
  have := dgE_ge (v := u) (E := E)
  have := two_le (nb_ne h h' hvw) (List.mem_filter.2 ⟨he, at_of h⟩) (List.mem_filter.2 ⟨he', at_of h'⟩)
  omega
theorem deg3 {u v w x : Nat} (h : nbE E u v) (h' : nbE E u w) (h'' : nbE E u x) (hvw : v ≠ w) (hvx : v ≠ x) (hwx : w ≠ x) : 3 ≤ dgE E u := by
  obtain ⟨e, he, h⟩ := h
  obtain ⟨e', he', h'⟩ := h'
  obtain ⟨e'', he'', h''⟩ := h''
  have := dgE_ge (v := u) (E := E)
  have := three_le (nb_ne h h' hvw) (nb_ne h h'' hvx) (nb_ne h' h'' hwx) (List.mem_filter.2 ⟨he, at_of h⟩) (List.mem_filter.2 ⟨he', at_of h'⟩) (List.mem_filter.2 ⟨he'', at_of h''⟩)
  omega
theorem nb_in {u v : Nat} (hu : inn E u) (hv : inn E v) (h : nbE E u v) : nbE (inE E) u v := by
  obtain ⟨e, he, h⟩ := h
  refine ⟨e, List.mem_filter.2 ⟨he, ?_⟩, h⟩
  unfold inn at hu hv
  unfold inP
  rcases h with ⟨rfl, rfl⟩ | ⟨rfl, rfl⟩ <;> simp [hu, hv]
/-! ### What is connected -/
theorem get_mk {A : List Bool} {e : Int × Int} {z : Nat} (h : (mk1 A e).getD z false = true) : A.getD z false = true ∨ ((z = e.1.toNat ∨ z = e.2.toNat) ∧ (A.getD e.1.toNat false = true ∨ A.getD e.2.toNat false = true)) := by
  unfold mk1 at h
  split at h
  · rename_i hor
    rw [Bool.or_eq_true] at hor
    rw [List.getD_eq_getElem?_getD, List.getElem?_set, List.getElem?_set] at h
    by_cases h1 : e.2.toNat = z
    · exact .inr ⟨.inr h1.symm, hor⟩
    · rw [if_neg h1] at h
      by_cases h2 : e.1.toNat = z
      · exact .inr ⟨.inl h2.symm, hor⟩
      · rw [if_neg h2, ← List.getD_eq_getElem?_getD] at h; exact .inl h
  · exact .inl h
theorem mkR_cl {P : Nat → Prop} : ∀ {F : List (Int × Int)} {A : List Bool}, (∀ e ∈ F, P e.1.toNat ↔ P e.2.toNat) → (∀ z, A.getD z false = true → P z) → ∀ z, (mkR F A).getD z false = true → P z
  | [], _, _, hA, z, h => hA z h
  | e :: F, A, hF, hA, z, h => by
    refine mkR_cl (F := F) (A := mk1 A e) (fun e he => hF e (by simp [he])) (fun z hz => ?_) z h
    have he := hF e (by simp)
    rcases get_mk hz with h | ⟨h1, h2⟩
    · exact hA z h
    · have : P e.1.toNat := by
        rcases h2 with h2 | h2
        · exact hA _ h2
        · exact he.2 (hA _ h2)
      rcases h1 with rfl | rfl
      · exact this
      · exact he.1 this
theorem mkN_cl {P : Nat → Prop} (hF : ∀ e ∈ E, P e.1.toNat ↔ P e.2.toNat) (h0 : P 0) : ∀ t z, (mkN E one7 t).getD z false = true → P z
  | 0, z, h => by
    cases z with
    | zero => exact h0
    | succ z =>
      have h : (List.replicate 6 false).getD z false = true := h
      rw [rep_getD] at h; cases h
  | t + 1, z, h => mkR_cl hF (mkN_cl hF h0 t) z h
theorem con_all (hn : n ≤ 7) (hc : conB n E = true) {P : Nat → Prop} (hF : ∀ e ∈ E, P e.1.toNat ↔ P e.2.toNat) (h0 : P 0) {z : Nat} (hz : z < n) : P z := by
  refine mkN_cl hF h0 n z ?_
  unfold conB at hc
  rw [Bool.not_eq_true', decide_eq_false_iff_not] at hc
  have hl : (mkN E one7 n).length = 7 := by rw [mkN_len]; rfl
  rw [List.getD_eq_getElem?_getD, List.getElem?_eq_getElem (by omega)]
  cases hb : (mkN E one7 n)[z] with
  | true => rfl
  | false => exact absurd (List.mem_iff_getElem.2 ⟨z, by simp; omega, by simp [hb]⟩) hc
/-- What is closed and holds one node holds all. -/
theorem con_cl (hn : n ≤ 7) (hc : conB n E = true) {P : Nat → Prop} (hF : ∀ e ∈ E, P e.1.toNat ↔ P e.2.toNat) {x : Nat} (hx : P x) (hxn : x < n) {z : Nat} (hz : z < n) : P z := by
  by_cases h0 : P 0
  · exact con_all hn hc hF h0 hz
  · exact absurd hx (con_all hn hc (P := fun z => ¬ P z) (fun e he => not_congr (hF e he)) h0 hxn)
end
end Go.Ev
namespace Go.Ev
open Go Go.RowKit
section
variable {n : Nat} {E : List (Int × Int)}
theorem sumN_le {f g : Nat → Int} : ∀ m, (∀ v, v < m → f v ≤ g v) → sumN m f ≤ sumN m g
  | 0, _ => Int.le_refl _
  | m + 1, h => by
    have := sumN_le m fun v hv => h v (by omega)
    have := h m (by omega)
    show sumN m f + f m ≤ sumN m g + g m
    omega
theorem sumN_k {k : Int} : ∀ m : Nat, sumN m (fun _ => k) = (m : Int) * k
  | 0 => by show (0 : Int) = _; simp
  | m + 1 => by
    show sumN m _ + k = _
    rw [sumN_k m, Int.natCast_add, Int.add_mul]; omega
open Classical in
/-- 1 for a node with one edge. -/
noncomputable def lfN (E : List (Int × Int)) (v : Nat) : Int := if inn E v then 0 else 1
/-- What two kinds of edges' ends come to. -/
theorem ends_two : ∀ {F : List (Int × Int)}, (∀ e ∈ F, inn E e.1.toNat ∨ inn E e.2.toNat) → 2 * endsS (lfN E) F + endsS (fun _ => 1) (F.filter (inP E)) = 2 * F.length
  | [], _ => rfl
  | e :: F, h => by
    have ih := ends_two (F := F) fun e he => h e (by simp [he])
    have h1 := h e (by simp)
    have e1 : endsS (lfN E) (e :: F) = lfN E e.1.toNat + lfN E e.2.toNat + endsS (lfN E) F := rfl
    rw [e1, List.length_cons]
    by_cases ha : inn E e.1.toNat <;> by_cases hb : inn E e.2.toNat
    · have hp : inP E e = true := by unfold inn at ha hb; unfold inP; simp [ha, hb]
      rw [List.filter_cons_of_pos hp]
      have e2 : endsS (fun _ => 1) (e :: F.filter (inP E)) = 1 + 1 + endsS (fun _ => 1) (F.filter (inP E)) := rfl
      rw [e2]
      unfold lfN at ih ⊢
      rw [if_pos ha, if_pos hb]
      omega
    · have hp : ¬ inP E e = true := by unfold inn at ha hb; unfold inP; simp; intro; omega
      rw [List.filter_cons_of_neg hp]
      unfold lfN at ih ⊢
      rw [if_pos ha, if_neg hb]
      omega
    · have hp : ¬ inP E e = true := by unfold inn at ha hb; unfold inP; simp; intro; omega
      rw [List.filter_cons_of_neg hp]
      unfold lfN at ih ⊢
      rw [if_neg ha, if_pos hb]
      omega
    · exact absurd h1 (by simp [ha, hb])
/-- An edge at each node; no edge between nodes that have no other one. -/
theorem deg_pos (hE : EdgesOk n E) (hc : conB n E = true) (h2 : 2 ≤ n) {v : Nat} (hv : v < n) : 1 ≤ dgE E v := by
  rcases Int.lt_or_le (dgE E v) 1 with h | h
  · have key : ∀ e ∈ E, e.1.toNat = v ↔ e.2.toNat = v := fun e he => by
      constructor
      · intro h1
        have := deg1 (u := v) (v := e.2.toNat) ⟨e, he, .inl ⟨h1, rfl⟩⟩
        omega
      · intro h1
        have := deg1 (u := v) (v := e.1.toNat) ⟨e, he, .inr ⟨rfl, h1⟩⟩
        omega
    have h0 := con_cl hE.2.1 hc (P := fun z => z = v) key rfl hv (z := 0) (by omega)
    have h1 := con_cl hE.2.1 hc (P := fun z => z = v) key rfl hv (z := 1) (by omega)
    omega
  · exact h
theorem one_nb {u v w : Nat} (hu : ¬ inn E u) (h : nbE E u v) (h' : nbE E u w) : v = w := by
  by_cases e : v = w
  · exact e
  · have := deg2 h h' e
    unfold inn at hu
    omega
theorem no_k2 (hE : EdgesOk n E) (hc : conB n E = true) (h3 : 3 ≤ n) {e : Int × Int} (he : e ∈ E) : inn E e.1.toNat ∨ inn E e.2.toNat := by
  by_cases ha : inn E e.1.toNat
  · exact .inl ha
  by_cases hb : inn E e.2.toNat
  · exact .inr hb
  have hb0 := hE.2.2 e he
  have nab : nbE E e.1.toNat e.2.toNat := ⟨e, he, .inl ⟨rfl, rfl⟩⟩
  have key : ∀ e' ∈ E, (e'.1.toNat = e.1.toNat ∨ e'.1.toNat = e.2.toNat) ↔ (e'.2.toNat = e.1.toNat ∨ e'.2.toNat = e.2.toNat) := fun e' he' => by
    have n' : nbE E e'.1.toNat e'.2.toNat := ⟨e', he', .inl ⟨rfl, rfl⟩⟩
    constructor
    · rintro (h | h)
      · rw [h] at n'; exact .inr (one_nb ha n' nab)
      · rw [h] at n'; exact .inl (one_nb hb n' (nb_symm nab))
    · rintro (h | h)
      · rw [h] at n'; exact .inr (one_nb ha (nb_symm n') nab)
      · rw [h] at n'; exact .inl (one_nb hb (nb_symm n') (nb_symm nab))
  have all := fun z (hz : z < n) => con_cl hE.2.1 hc (P := fun z => z = e.1.toNat ∨ z = e.2.toNat) key (x := e.1.toNat) (.inl rfl) (by omega) hz
  have h0 := all 0 (by omega)
  have h1 := all 1 (by omega)
  have h2 := all 2 (by omega)
  omega
/-- A node to begin with. -/
theorem start_at (hE : EdgesOk n E) (hc : conB n E = true) (h3 : 3 ≤ n) (hl : E.length + 1 = n) : ∃ c, c < n ∧ inn E c ∧ ∀ u w, nbE E c u → nbE E c w → inn E u → inn E w → u = w := by
  apply Classical.byContradiction
  intro hno
  have hd : ∀ c, c < n → inn E c → 2 ≤ dgE (inE E) c := fun c hcn hin => by
    apply Classical.byContradiction
    intro hlt
    refine hno ⟨c, hcn, hin, fun u w hu hw iu iw => ?_⟩
    apply Classical.byContradiction
    intro hne
    exact hlt (deg2 (nb_in hin iu hu) (nb_in hin iw hw) hne)
  have hb : ∀ e ∈ E, e.1.toNat < n ∧ e.2.toNat < n := fun e he => by have := hE.2.2 e he; omega
  have s1 := ends_sum (g := lfN E) hb
  have s2 := ends_sum (g := fun _ => 1) (E := inE E) (m := n) fun e he => hb e (List.mem_filter.1 he).1
  have s3 := ends_two (E := E) (F := E) fun e he => no_k2 hE hc h3 he
  have s4 : sumN n (fun _ => 2) ≤ sumN n (fun v => (dgE E v * lfN E v + dgE E v * lfN E v) + dgE (inE E) v * 1) := sumN_le n fun v hv => by
    have h1 := deg_pos hE hc (by omega) hv
    have h2 := (dgE_nn (E := inE E) (v := v)).1
    unfold lfN
    by_cases hi : inn E v
    · rw [if_pos hi]
      have := hd v hv hi
      omega
    · rw [if_neg hi]; omega
  rw [sumN_k, sumN_add, sumN_add, ← s1, ← s2] at s4
  have s3 : 2 * endsS (lfN E) E + endsS (fun _ => 1) (inE E) = 2 * E.length := s3
  omega
end
end Go.Ev
namespace Go.Ev
open Go Go.RowKit
def dF (f : Nat → Int) (e : Int × Int) : Int := absD (f e.1.toNat) (f e.2.toNat)
/-- Labels of some nodes: those below lo and above hi are given. -/
structure Zig (n : Nat) (E : List (Int × Int)) (S : List Nat) (f : Nat → Int) (U : List (Int × Int)) (lo hi : Int) (c : Nat) (low : Bool) : Prop where
  nd : S.Nodup
  lt : ∀ s ∈ S, s < n
  cS : c ∈ S
  cin : inn E c
  cnt : lo + (n : Int) - 1 - hi = S.length
  lo1 : 1 ≤ lo
  hi1 : hi ≤ (n : Int) - 1
  val : ∀ s ∈ S, (0 ≤ f s ∧ f s < lo) ∨ (hi < f s ∧ f s ≤ (n : Int) - 1)
  inj : ∀ s ∈ S, ∀ t ∈ S, f s = f t → s = t
  uE : ∀ e ∈ U, e ∈ E
  und : U.Nodup
  ulen : U.length + 1 = S.length
  udf : U.Pairwise (fun e e' => dF f e ≠ dF f e')
  uge : ∀ e ∈ U, (n : Int) - S.length + 1 ≤ dF f e
  upt : ∀ e ∈ U, e.1.toNat ∈ S ∧ e.2.toNat ∈ S ∧ ((f e.1.toNat < lo ∧ hi < f e.2.toNat) ∨ (f e.2.toNat < lo ∧ hi < f e.1.toNat))
  cl : ∀ s ∈ S, s ≠ c → ∀ t, nbE E s t → t ∈ S
  cf : f c = if low = true then lo - 1 else hi + 1
  one : ∀ u w, nbE E c u → nbE E c w → u ∉ S → w ∉ S → inn E u → inn E w → u = w
section
variable {n : Nat} {E : List (Int × Int)} {S : List Nat} {f : Nat → Int} {U : List (Int × Int)} {lo hi : Int} {c u : Nat} {low : Bool}
theorem Zig.put (z : Zig n E S f U lo hi c low) (hlt : S.length < n) (hnb : nbE E c u) (hu : u ∉ S) (hun : u < n) (mv : Bool)
    (hin : inn E (if mv = true then u else c)) (hcl : ∀ s ∈ u :: S, s ≠ (if mv = true then u else c) → ∀ t, nbE E s t → t ∈ u :: S)
    (hone : ∀ v w, nbE E (if mv = true then u else c) v → nbE E (if mv = true then u else c) w → v ∉ u :: S → w ∉ u :: S → inn E v → inn E w → v = w) :
    ∃ f' U' lo' hi' c' low', Zig n E (u :: S) f' U' lo' hi' c' low' := by
  have hcnt := z.cnt
  have hlo1 := z.lo1
  have hhi1 := z.hi1
  have hcf := z.cf
  obtain ⟨x, lo', hi', hx, hlo', hhi', hlh, hd, hcx⟩ : ∃ x lo' hi' : Int, ((0 ≤ x ∧ x < lo') ∨ (hi' < x ∧ x ≤ (n : Int) - 1)) ∧ (lo ≤ lo') ∧ (hi' ≤ hi) ∧ (lo' - hi' = lo - hi + 1) ∧ (lo ≤ x ∧ x ≤ hi ∧ absD (f c) x = (n : Int) - S.length) ∧
      ((f c < lo ∧ hi' < x ∧ f c = lo' - 1 ∧ x = hi' + 1 ∧ low = true) ∨ (hi < f c ∧ x < lo' ∧ f c = hi' + 1 ∧ x = lo' - 1 ∧ low = false)) := by
    cases low with
    | true =>
      rw [if_pos rfl] at hcf
      refine ⟨hi, lo, hi - 1, .inr (by omega), by omega, by omega, by omega, ⟨by omega, by omega, ?_⟩, .inl ⟨by omega, by omega, by omega, by omega, rfl⟩⟩
      unfold absD; split <;> omega
    | false =>
      rw [if_neg (by simp)] at hcf
      refine ⟨lo, lo + 1, hi, .inl (by omega), by omega, by omega, by omega, ⟨by omega, by omega, ?_⟩, .inr ⟨by omega, by omega, by omega, by omega, rfl⟩⟩
      unfold absD; split <;> omega
  obtain ⟨hx1, hx2, hd⟩ := hd
  obtain ⟨g, hg⟩ : ∃ g : Nat → Int, g = fun y => if y = u then x else f y := ⟨_, rfl⟩
  have gu : g u = x := by rw [hg]; simp
  have go : ∀ s ∈ S, g s = f s := fun s hs => by rw [hg]; exact if_neg fun e : s = u => hu (e ▸ hs)
  obtain ⟨e, he, hends⟩ := hnb
  have heU : e ∉ U := fun h => by
    obtain ⟨h1, h2, _⟩ := z.upt e h
    rcases hends with ⟨_, h⟩ | ⟨h, _⟩
    · exact hu (h ▸ h2)
    · exact hu (h ▸ h1)
  have hde : dF g e = (n : Int) - S.length := by
    unfold dF
    rcases hends with ⟨h1, h2⟩ | ⟨h1, h2⟩
    · rw [h1, h2, gu, go c z.cS]; exact hd
    · rw [h1, h2, gu, go c z.cS, absD_comm]; exact hd
  have hdo : ∀ e' ∈ U, dF g e' = dF f e' := fun e' he' => by
    obtain ⟨h1, h2, _⟩ := z.upt e' he'
    unfold dF
    rw [go _ h1, go _ h2]
  refine ⟨g, e :: U, lo', hi', if mv = true then u else c, (if mv = true then !low else low), ?_⟩
  constructor
  · exact List.nodup_cons.2 ⟨hu, z.nd⟩
  · intro s hs
    rcases List.mem_cons.1 hs with rfl | hs
    · exact hun
    · exact z.lt s hs
  · cases mv
    · exact List.mem_cons_of_mem _ z.cS
    · exact List.mem_cons_self
  · exact hin
  · rw [List.length_cons]; omega
  · omega
  · omega
  · intro s hs
    rcases List.mem_cons.1 hs with rfl | hs
    · rw [gu]; exact hx
    · rw [go s hs]
      have := z.val s hs
      omega
  · intro s hs t ht hst
    have old : ∀ s ∈ S, f s ≠ x := fun s hs h => by
      have := z.val s hs
      omega
    rcases List.mem_cons.1 hs with rfl | hs' <;> rcases List.mem_cons.1 ht with rfl | ht'
    · rfl
    · rw [gu, go t ht'] at hst; exact absurd hst.symm (old t ht')
    · rw [gu, go s hs'] at hst; exact absurd hst (old s hs')
    · rw [go s hs', go t ht'] at hst; exact z.inj s hs' t ht' hst
  · intro e' he'
    rcases List.mem_cons.1 he' with rfl | he'
    · exact he
    · exact z.uE e' he'
  · exact List.nodup_cons.2 ⟨heU, z.und⟩
  · rw [List.length_cons, List.length_cons, z.ulen]
  · refine List.pairwise_cons.2 ⟨fun e' he' => ?_, List.Pairwise.imp_of_mem (fun {a b} ha hb h => ?_) z.udf⟩
    · rw [hde, hdo e' he']
      have := z.uge e' he'
      omega
    · rw [hdo a ha, hdo b hb]; exact h
  · intro e' he'
    rw [List.length_cons]
    rcases List.mem_cons.1 he' with rfl | he'
    · rw [hde]; omega
    · rw [hdo e' he']
      have := z.uge e' he'
      omega
  · intro e' he'
    rcases List.mem_cons.1 he' with rfl | he'
    · rcases hends with ⟨h1, h2⟩ | ⟨h1, h2⟩
      · rw [h1, h2, gu, go c z.cS]
        exact ⟨List.mem_cons_of_mem _ z.cS, List.mem_cons_self, by omega⟩
      · rw [h1, h2, gu, go c z.cS]
        exact ⟨List.mem_cons_self, List.mem_cons_of_mem _ z.cS, by omega⟩
    · obtain ⟨h1, h2, h3⟩ := z.upt e' he'
      rw [go _ h1, go _ h2]
      exact ⟨List.mem_cons_of_mem _ h1, List.mem_cons_of_mem _ h2, by omega⟩
  · exact hcl
  · cases mv with
    | true =>
      rw [if_pos rfl, if_pos rfl, gu]
      rcases hcx with ⟨_, _, _, h, rfl⟩ | ⟨_, _, _, h, rfl⟩
      · simpa using h
      · simpa using h
    | false =>
      rw [show (if false = true then u else c) = c from if_neg (by simp), show (if false = true then !low else low) = low from if_neg (by simp), go c z.cS]
      rcases hcx with ⟨_, _, h, _, h'⟩ | ⟨_, _, h, _, h'⟩
      · rw [h', if_pos rfl]; exact h
      · rw [h', if_neg (by simp)]; exact h
  · exact hone
theorem out_of {S : List Nat} (h : S.length < n) : ∃ x, x < n ∧ x ∉ S := by
  apply Classical.byContradiction
  intro hno
  have := nodup_le (l := List.range n) (m := S) List.nodup_range fun x hx => Classical.byContradiction fun hx' => hno ⟨x, by simpa using hx, hx'⟩
  rw [List.length_range] at this
  omega
theorem Zig.step (z : Zig n E S f U lo hi c low) (hE : EdgesOk n E) (hc : conB n E = true) (hm : ∀ v, dgE (inE E) v ≤ 2) (hlt : S.length < n) :
    ∃ u f' U' lo' hi' c' low', Zig n E (u :: S) f' U' lo' hi' c' low' := by
  obtain ⟨x, hxn, hx⟩ := out_of hlt
  have hex : ∃ t, nbE E c t ∧ t ∉ S ∧ t < n := by
    apply Classical.byContradiction
    intro hno
    have key : ∀ s ∈ S, ∀ t, t < n → nbE E s t → t ∈ S := fun s hs t htn h => by
      by_cases e : s = c
      · subst e
        exact Classical.byContradiction fun ht => hno ⟨t, h, ht, htn⟩
      · exact z.cl s hs e t h
    refine hx (con_cl hE.2.1 hc (P := fun z => z ∈ S) (fun e he => ?_) z.cS (z.lt c z.cS) hxn)
    have := hE.2.2 e he
    exact ⟨fun h => key _ h _ (by omega) ⟨e, he, .inl ⟨rfl, rfl⟩⟩, fun h => key _ h _ (by omega) ⟨e, he, .inr ⟨rfl, rfl⟩⟩⟩
  by_cases hleaf : ∃ t, nbE E c t ∧ t ∉ S ∧ t < n ∧ ¬ inn E t
  · obtain ⟨u, hnb, hu, hun, hul⟩ := hleaf
    refine ⟨u, z.put hlt hnb hu hun false (by simpa using z.cin) (fun s hs hne t hst => ?_) (fun v w hv hw hvS hwS => ?_)⟩
    · have hne : s ≠ c := by simpa using hne
      rcases List.mem_cons.1 hs with rfl | hs
      · rw [one_nb hul hst (nb_symm hnb)]
        exact List.mem_cons_of_mem _ z.cS
      · exact List.mem_cons_of_mem _ (z.cl s hs hne t hst)
    · exact z.one v w (by simpa using hv) (by simpa using hw) (fun h => hvS (List.mem_cons_of_mem _ h)) (fun h => hwS (List.mem_cons_of_mem _ h))
  · obtain ⟨u, hnb, hu, hun⟩ := hex
    have hall : ∀ t, nbE E c t → t ∉ S → inn E t := fun t ht htS => by
      apply Classical.byContradiction
      intro hl
      refine hleaf ⟨t, ht, htS, ?_, hl⟩
      obtain ⟨e, he, h⟩ := ht
      have := hE.2.2 e he
      omega
    have hui := hall u hnb hu
    refine ⟨u, z.put hlt hnb hu hun true (by simpa using hui) (fun s hs hne t hst => ?_) (fun v w hv hw hvS hwS iv iw => ?_)⟩
    · have hne : s ≠ u := by simpa using hne
      have hs : s ∈ S := (List.mem_cons.1 hs).resolve_left hne
      by_cases e : s = c
      · subst e
        by_cases ht : t ∈ S
        · exact List.mem_cons_of_mem _ ht
        · rw [z.one t u hst hnb ht hu (hall t hst ht) hui]
          exact List.mem_cons_self
      · exact List.mem_cons_of_mem _ (z.cl s hs e t hst)
    · have hv : nbE E u v := by simpa using hv
      have hw : nbE E u w := by simpa using hw
      have hcv : c ≠ v := fun e => hvS (e ▸ List.mem_cons_of_mem _ z.cS)
      have hcw : c ≠ w := fun e => hwS (e ▸ List.mem_cons_of_mem _ z.cS)
      apply Classical.byContradiction
      intro hvw
      have := deg3 (nb_in hui z.cin (nb_symm hnb)) (nb_in hui iv hv) (nb_in hui iw hw) hcv hcw hvw
      have := hm u
      omega
theorem Zig.all (hE : EdgesOk n E) (hc : conB n E = true) (hm : ∀ v, dgE (inE E) v ≤ 2) : ∀ (k : Nat) {S : List Nat} {f : Nat → Int} {U : List (Int × Int)} {lo hi : Int} {c : Nat} {low : Bool}, Zig n E S f U lo hi c low → S.length + k = n →
    ∃ S f U lo hi c low, Zig n E S f U lo hi c low ∧ S.length = n
  | 0, S, f, U, lo, hi, c, low, z, h => ⟨S, f, U, lo, hi, c, low, z, h⟩
  | k + 1, S, f, U, lo, hi, c, low, z, h => by
    obtain ⟨u, f', U', lo', hi', c', low', z'⟩ := z.step hE hc hm (by omega)
    exact Zig.all hE hc hm k z' (by rw [List.length_cons]; omega)
theorem Zig.start (hcn : c < n) (hin : inn E c) (hone : ∀ u w, nbE E c u → nbE E c w → inn E u → inn E w → u = w) : Zig n E [c] (fun _ => 0) [] 1 ((n : Int) - 1) c true where
  nd := by simp
  lt := fun s hs => by rw [List.mem_singleton.1 hs]; exact hcn
  cS := by simp
  cin := hin
  cnt := by show 1 + (n : Int) - 1 - ((n : Int) - 1) = ((1 : Nat) : Int); omega
  lo1 := by omega
  hi1 := by omega
  val := fun s _ => .inl (by simp)
  inj := fun s hs t ht _ => by rw [List.mem_singleton.1 hs, List.mem_singleton.1 ht]
  uE := fun e he => absurd he (by simp)
  und := List.nodup_nil
  ulen := rfl
  udf := List.Pairwise.nil
  uge := fun e he => absurd he (by simp)
  upt := fun e he => absurd he (by simp)
  cl := fun s hs hne => absurd (List.mem_singleton.1 hs) hne
  cf := by simp
  one := fun u w hu hw _ _ iu iw => hone u w hu hw iu iw
end
end Go.Ev
namespace Go.Ev
open Go Go.RowKit
section
variable {n : Nat} {E : List (Int × Int)}
theorem dfE_pre {P Q : List Int} {e : Int × Int} (h0 : 0 ≤ e.1 ∧ e.1 < e.2) (h : e.2 < (P.length : Int)) : dfE (P ++ Q) e = dfE P e := by
  unfold dfE
  rw [List.getD_eq_getElem?_getD, List.getD_eq_getElem?_getD, List.getD_eq_getElem?_getD, List.getD_eq_getElem?_getD, List.getElem?_append_left (by omega), List.getElem?_append_left (by omega)]
/-- All graceful labels are found. -/
theorem enumL_mem (hE : EdgesOk n E) {M : List Int} (hlen : M.length = n) (hlab : LabOk E M) (hnd : M.Nodup) (hpw : E.Pairwise fun e e' => dfE M e ≠ dfE M e') : ∀ (f : Nat) (L : List Int) (A : List Bool), LInv E L A → L.length + f = n → (∃ Q, M = L ++ Q) → M ∈ enumL E f L A
  | 0, L, A, _, hl, ⟨Q, hQ⟩ => by
    have h1 : Q.length = 0 := by rw [hQ, List.length_append] at hlen; omega
    have : Q = [] := List.length_eq_zero_iff.1 h1
    subst this
    rw [List.append_nil] at hQ
    subst hQ
    show M ∈ [M]
    simp
  | f + 1, L, A, hI, hl, ⟨Q, hQ⟩ => by
    cases Q with
    | nil => rw [hQ, List.append_nil] at hlen; omega
    | cons x Q =>
      have hM : M = (L ++ [x]) ++ Q := by rw [hQ]; simp
      have hx := hlab x (by rw [hQ]; simp)
      obtain ⟨y, rfl⟩ : ∃ y : Nat, x = (y : Int) := ⟨x.toNat, by omega⟩
      have hn : (y : Int) ∉ L := fun h => by
        rw [hQ, List.nodup_append] at hnd
        exact hnd.2.2 _ h _ (List.mem_cons_self) rfl
      have sp := step_iff (x := (y : Int)) hE hI hx hn
      have hk : PwK E (L ++ [(y : Int)]) ((L.length : Int) + 1) := by
        unfold PwK
        refine List.Pairwise.imp_of_mem (fun {a b} ha hb h h1 h2 => ?_) hpw
        have q1 := hE.2.2 a ha
        have q2 := hE.2.2 b hb
        have key : ∀ e ∈ E, e.2 < (L.length : Int) + 1 → dfE M e = dfE (L ++ [(y : Int)]) e := fun e he h3 => by
          have := hE.2.2 e he
          rw [hM]
          exact dfE_pre (by omega) (by simp; omega)
        rw [key a ha h1, key b hb h2] at h
        exact h
      rw [enumL_succ]
      refine List.mem_flatMap.2 ⟨y, by simp; omega, ?_⟩
      cases hs : stepE E L (y : Int) A with
      | none => rw [hs] at sp; exact absurd hk sp
      | some B =>
        rw [hs] at sp
        rw [subL_on hn hs]
        exact enumL_mem hE hlen hlab hnd hpw f _ B sp.2 (by simp; omega) ⟨Q, hM⟩
theorem labsL_mem (hE : EdgesOk n E) {M : List Int} (hlen : M.length = n) (hlab : LabOk E M) (hnd : M.Nodup) (hpw : E.Pairwise fun e e' => dfE M e ≠ dfE M e') : M ∈ labsL n E :=
  enumL_mem hE hlen hlab hnd hpw n [] _ (LInv.start hE) (by simp) ⟨M, rfl⟩
theorem prtO_at {L : List Int} {c : Int} (h0 : 0 ≤ c) (h1 : c < (E.length : Int)) (hp : prtC E L c = true) : (prtO E L).isSome = true := by
  unfold prtO
  cases h : firstF (fun c => if prtC E L c = true then some c else none) 0 E.length with
  | some _ => rfl
  | none =>
    have := firstF_none h c h0 (by omega)
    rw [if_pos hp] at this; cases this
theorem pFirst_of {M : List Int} (hM : M ∈ labsL n E) (hp : (prtO E M).isSome = true) : pFirst n E ≠ none := by
  intro h
  unfold pFirst at h
  rw [List.head?_eq_none_iff] at h
  have : M ∈ (labsL n E).filter (okM E true) := List.mem_filter.2 ⟨hM, by unfold okM; rw [hp]; rfl⟩
  rw [h] at this
  exact absurd this (by simp)
theorem cat_first (hE : EdgesOk n E) (hnd : E.Nodup) (h2 : 2 ≤ n) (hc : catB n E = true) : pFirst n E ≠ none := by
  unfold catB at hc
  rw [Bool.and_eq_true, Bool.and_eq_true, decide_eq_true_iff, decide_eq_true_iff] at hc
  obtain ⟨hl, hcon, hmx⟩ := hc
  by_cases h3 : n = 2
  · subst h3
    obtain ⟨e, rfl⟩ : ∃ e, E = [e] := List.length_eq_one_iff.1 (by omega)
    have he := hE.2.2 e (by simp)
    obtain ⟨a, b⟩ := e
    have ha : a = 0 := by simp only at he; omega
    have hb : b = 1 := by simp only at he; omega
    subst ha hb
    refine pFirst_of (M := [0, 1]) (labsL_mem hE rfl ?_ (by simp) (List.pairwise_singleton _ _)) (prtO_at (c := 0) (by omega) (by simp) rfl)
    intro x hx
    simp at hx ⊢
    omega
  have hm : ∀ v, dgE (inE E) v ≤ 2 := fun v => by
    by_cases hv : v < 7
    · have := (maxL_le.1 hmx).2 (dgE (inE E) v) (List.mem_iff_getElem.2 ⟨v, by rw [dgL_len]; exact hv, dgL_at _⟩)
      exact this
    · have : dgE (inE E) v = 0 := by
        have key : ∀ F : List (Int × Int), (∀ e ∈ F, e.1.toNat ≠ v ∧ e.2.toNat ≠ v) → dgE F v = 0 := by
          intro F
          induction F with
          | nil => intro _; rfl
          | cons e F ih =>
            intro h
            obtain ⟨h1, h2⟩ := h e (by simp)
            rw [dgE_cons, ih fun e he => h e (by simp [he])]
            unfold dg1
            rw [if_neg fun e => h1 e.symm, if_neg fun e => h2 e.symm]; rfl
        refine key _ fun e he => ?_
        have := hE.2.2 e (List.mem_filter.1 he).1
        have := hE.2.1
        omega
      omega
  obtain ⟨c, hcn, hin, hone⟩ := start_at hE hcon (by omega) hl
  obtain ⟨S, f, U, lo, hi, c', low, z, hS⟩ := Zig.all hE hcon hm (n - 1) (Zig.start hcn hin hone) (by simp; omega)
  have hcnt := z.cnt
  have hin : ∀ x, x < n → x ∈ S := fun x hx => by
    apply Classical.byContradiction
    intro hno
    have := nodup_le (l := x :: S) (m := List.range n) (List.nodup_cons.2 ⟨hno, z.nd⟩) fun y hy => by
      rcases List.mem_cons.1 hy with rfl | hy
      · simpa using hx
      · simpa using z.lt y hy
    rw [List.length_cons, List.length_range] at this
    omega
  have hUl := z.ulen
  have hEU : ∀ e ∈ E, e ∈ U := fun e he => by
    apply Classical.byContradiction
    intro hno
    have := nodup_le (l := e :: U) (m := E) (List.nodup_cons.2 ⟨hno, z.und⟩) fun y hy => by
      rcases List.mem_cons.1 hy with rfl | hy
      · exact he
      · exact z.uE y hy
    rw [List.length_cons] at this
    omega
  obtain ⟨M, hM⟩ : ∃ M, M = (List.range n).map f := ⟨_, rfl⟩
  have hMl : M.length = n := by rw [hM]; simp
  have hMg : ∀ v, v < n → M.getD v 0 = f v := fun v hv => by
    rw [hM, List.getD_eq_getElem?_getD, List.getElem?_map, List.getElem?_range hv]; rfl
  have hdf : ∀ e ∈ E, dfE M e = dF f e := fun e he => by
    have := hE.2.2 e he
    unfold dfE dF
    rw [hMg _ (by omega), hMg _ (by omega)]
  have hval : ∀ v, v < n → 0 ≤ f v ∧ f v ≤ (n : Int) - 1 := fun v hv => by
    have := z.val v (hin v hv)
    have := z.lo1
    have := z.hi1
    omega
  have hlab : LabOk E M := fun x hx => by
    rw [hM] at hx
    obtain ⟨v, hv, rfl⟩ := List.mem_map.1 hx
    have := hval v (by simpa using hv)
    omega
  have hMn : M.Nodup := by
    rw [hM]
    unfold List.Nodup
    rw [List.pairwise_map]
    refine List.Pairwise.imp_of_mem (fun {a b} ha hb h he => h ?_) (List.nodup_range (n := n))
    exact z.inj a (hin a (by simpa using ha)) b (hin b (by simpa using hb)) he
  have hpw : E.Pairwise fun e e' => dfE M e ≠ dfE M e' := by
    refine List.Pairwise.imp_of_mem (fun {a b} ha hb h => ?_) hnd
    rw [hdf a ha, hdf b hb]
    exact pw_all (R := fun e e' => dF f e ≠ dF f e') (fun a b h => h.symm) z.udf a (hEU a ha) b (hEU b hb) h
  refine pFirst_of (labsL_mem hE hMl hlab hMn hpw) (prtO_at (c := lo - 1) (by have := z.lo1; omega) ?_ ?_)
  · cases hE0 : E with
    | nil => rw [hE0] at hl; simp at hl; omega
    | cons e E' =>
      have he : e ∈ E := by rw [hE0]; simp
      have h1 := (z.upt e (hEU e he)).2.2
      have hb := hE.2.2 e he
      have := hval e.1.toNat (by omega)
      have := hval e.2.toNat (by omega)
      rw [← hE0]
      omega
  · unfold prtC
    rw [List.all_eq_true]
    intro e he
    have hb := hE.2.2 e he
    have h1 := (z.upt e (hEU e he)).2.2
    unfold prt1
    rw [hMg _ (by omega), hMg _ (by omega)]
    have hlh : lo = hi + 1 := by omega
    rcases h1 with ⟨h1, h2⟩ | ⟨h1, h2⟩
    · rw [decide_eq_true (by omega), decide_eq_false (by omega)]; rfl
    · rw [decide_eq_false (by omega), decide_eq_true (by omega)]; rfl
/-- Rising edges come but once. -/
theorem ris_nodup {N : Int} (h : risB N E = true) : E.Nodup := by
  have h1 : ∀ i j (hi : i < E.length) (hj : j < E.length), i < j → bfB E[i] E[j] = true := by
    intro i j
    induction j with
    | zero => intro _ _ h; omega
    | succ j ih =>
      intro hi hj hij
      have hk := List.all_eq_true.1 h (j + 1) (by simpa using hj)
      unfold okAt at hk
      rw [Bool.and_eq_true] at hk
      have hk := hk.2
      rw [decide_eq_false (by omega), Bool.false_or, show j + 1 - 1 = j from rfl, List.getD_eq_getElem?_getD, List.getD_eq_getElem?_getD, List.getElem?_eq_getElem hj, List.getElem?_eq_getElem (by omega)] at hk
      have hk : bfB E[j] E[j + 1] = true := hk
      rcases Nat.lt_or_eq_of_le (Nat.le_of_lt_succ hij) with h2 | h2
      · have h3 := ih hi (by omega) h2
        rw [bfB_iff] at hk h3 ⊢
        omega
      · subst h2; exact hk
  unfold List.Nodup
  rw [List.pairwise_iff_getElem]
  intro i j hi hj hij he
  have := h1 i j hi hj hij
  rw [he, bfB_iff] at this
  omega
end
end Go.Ev
namespace Go.Ev
open Go Go.RowKit
noncomputable def f73_r0 : List EOper := [⟨(some (K.ofNat 6)), none, .as (.c .sn)⟩]
noncomputable def f73_r1 : List EOper := [⟨(some (K.ofNat 11)), none, .mv (.t (K.ofNat 0))⟩, ⟨(some (K.ofNat 12)), none, .mkslice 1 [(.i .i64 (.ofNat 0))] (.t (K.ofNat 11))⟩, ⟨(some (K.ofNat 7)), none, .as (.t (K.ofNat 12))⟩]
noncomputable def f73_r2 : List EOper := [⟨(some (K.ofNat 8)), none, .as (.c (.i .i64 (.ofNat 0)))⟩]
noncomputable def f73_r3 : List EOper := [⟨(some (K.ofNat 13)), none, .mv (.t (K.ofNat 8))⟩, ⟨(some (K.ofNat 14)), none, .mv (.t (K.ofNat 1))⟩, ⟨(some (K.ofNat 15)), none, .len (.t (K.ofNat 14))⟩, ⟨(some (K.ofNat 16)), none, .bin .lss (.t (K.ofNat 13)) (.t (K.ofNat 15))⟩]
noncomputable def f73_r4 : List Stage := [⟨[⟨(some (K.ofNat 19)), none, .mv (.t (K.ofNat 1))⟩, ⟨(some (K.ofNat 20)), none, .mv (.t (K.ofNat 8))⟩, ⟨(some (K.ofNat 21)), none, .iads 2 (.t (K.ofNat 19)) (.t (K.ofNat 20))⟩, ⟨(some (K.ofNat 22)), none, .iadr 2 1 (.t (K.ofNat 21)) (.c (.i .i64 (.ofNat 0)))⟩, ⟨(some (K.ofNat 23)), none, .ld (.t (K.ofNat 22))⟩, ⟨(some (K.ofNat 24)), none, .mv (.t (K.ofNat 1))⟩, ⟨(some (K.ofNat 25)), none, .mv (.t (K.ofNat 8))⟩, ⟨(some (K.ofNat 26)), none, .iads 2 (.t (K.ofNat 24)) (.t (K.ofNat 25))⟩, ⟨(some (K.ofNat 27)), none, .iadr 2 1 (.t (K.ofNat 26)) (.c (.i .i64 (.ofNat 1)))⟩, ⟨(some (K.ofNat 28)), none, .ld (.t (K.ofNat 27))⟩], [], (some ⟨(some (K.ofNat 9)), none, .as (.t (K.ofNat 23))⟩), []⟩, ⟨[], [⟨(some (K.ofNat 24)), none, .mv (.t (K.ofNat 1))⟩, ⟨(some (K.ofNat 25)), none, .mv (.t (K.ofNat 8))⟩, ⟨(some (K.ofNat 26)), none, .iads 2 (.t (K.ofNat 24)) (.t (K.ofNat 25))⟩, ⟨(some (K.ofNat 27)), none, .iadr 2 1 (.t (K.ofNat 26)) (.c (.i .i64 (.ofNat 1)))⟩, ⟨(some (K.ofNat 28)), none, .ld (.t (K.ofNat 27))⟩], (some ⟨(some (K.ofNat 10)), none, .as (.t (K.ofNat 28))⟩), []⟩, ⟨[], [], none, []⟩]
noncomputable def f73_r5 : List EOper := [⟨(some (K.ofNat 29)), none, .mv (.t (K.ofNat 2))⟩, ⟨(some (K.ofNat 30)), none, .mv (.t (K.ofNat 9))⟩, ⟨(some (K.ofNat 31)), none, .iads 1 (.t (K.ofNat 29)) (.t (K.ofNat 30))⟩, ⟨(some (K.ofNat 32)), none, .ld (.t (K.ofNat 31))⟩, ⟨(some (K.ofNat 33)), none, .mv (.t (K.ofNat 32))⟩, ⟨(some (K.ofNat 34)), (some ((K.ofNat 33), true)), .mv (.t (K.ofNat 2))⟩, ⟨(some (K.ofNat 35)), (some ((K.ofNat 33), true)), .mv (.t (K.ofNat 10))⟩, ⟨(some (K.ofNat 36)), (some ((K.ofNat 33), true)), .iads 1 (.t (K.ofNat 34)) (.t (K.ofNat 35))⟩, ⟨(some (K.ofNat 37)), (some ((K.ofNat 33), true)), .ld (.t (K.ofNat 36))⟩, ⟨(some (K.ofNat 38)), none, .pick (.t (K.ofNat 33)) (.t (K.ofNat 37)) (.c (.b false))⟩]
noncomputable def f73_r6 : List EOper := [⟨(some (K.ofNat 39)), none, .mv (.t (K.ofNat 7))⟩, ⟨(some (K.ofNat 40)), none, .mv (.t (K.ofNat 9))⟩, ⟨(some (K.ofNat 41)), none, .iads 1 (.t (K.ofNat 39)) (.t (K.ofNat 40))⟩, ⟨(some (K.ofNat 42)), none, .ld (.t (K.ofNat 41))⟩, ⟨(some (K.ofNat 43)), none, .bin .add (.t (K.ofNat 42)) (.c (.i .i64 (.ofNat 1)))⟩, ⟨(some (K.ofNat 44)), none, .iads 1 (.t (K.ofNat 39)) (.t (K.ofNat 40))⟩, ⟨none, none, .st 1 (.t (K.ofNat 44)) (.t (K.ofNat 43))⟩]
noncomputable def f73_r7 : List EOper := [⟨(some (K.ofNat 45)), none, .mv (.t (K.ofNat 7))⟩, ⟨(some (K.ofNat 46)), none, .mv (.t (K.ofNat 10))⟩, ⟨(some (K.ofNat 47)), none, .iads 1 (.t (K.ofNat 45)) (.t (K.ofNat 46))⟩, ⟨(some (K.ofNat 48)), none, .ld (.t (K.ofNat 47))⟩, ⟨(some (K.ofNat 49)), none, .bin .add (.t (K.ofNat 48)) (.c (.i .i64 (.ofNat 1)))⟩, ⟨(some (K.ofNat 50)), none, .iads 1 (.t (K.ofNat 45)) (.t (K.ofNat 46))⟩, ⟨none, none, .st 1 (.t (K.ofNat 50)) (.t (K.ofNat 49))⟩]
noncomputable def f73_r8 : List EOper := [⟨(some (K.ofNat 17)), none, .mv (.t (K.ofNat 8))⟩, ⟨(some (K.ofNat 18)), none, .bin .add (.t (K.ofNat 17)) (.c (.i .i64 (.ofNat 1)))⟩, ⟨(some (K.ofNat 8)), none, .as (.t (K.ofNat 18))⟩]
noncomputable def f73_l0 : EC := (.seq (.seq (.reg f73_r3) (.cond (.t (K.ofNat 16)) .skip (.exit 0))) (.seq (.block 1 (.seq (.draw f73_r4) (.seq (.reg f73_r5) (.cond (.t (K.ofNat 38)) (.seq (.reg f73_r6) (.reg f73_r7)) .skip)))) (.reg f73_r8)))
noncomputable def f73_r9 : List EOper := [⟨(some (K.ofNat 51)), none, .mv (.t (K.ofNat 7))⟩, ⟨(some (K.ofNat 6)), none, .as (.t (K.ofNat 51))⟩]
noncomputable def f73_c : EC := (.seq (.reg f73_r0) (.seq (.reg f73_r1) (.seq (.seq (.reg f73_r2) (.block 0 (.loop f73_l0))) (.seq (.reg f73_r9) .ret))))
noncomputable def f73 : EF := ⟨52, [.tmp (K.ofNat 6)], f73_c, none⟩
theorem f73_rs : f73.rs = [.tmp (K.ofNat 6)] := of_eq_true (eq_self _)
/-- The edges within a set of nodes. -/
def bnB (I : List Bool) (e : Int × Int) : Bool := I.getD e.1.toNat false && I.getD e.2.toNat false
def flI (I : List Bool) (F : List (Int × Int)) : List (Int × Int) := F.filter (bnB I)
section
variable {fs : T EF} {h : H} {v w : V} {n : Nat} {E : List (Int × Int)}
theorem flI_snoc {I : List Bool} {j : Nat} (hj : j < E.length) : flI I (E.take (j + 1)) = if bnB I E[j] = true then flI I (E.take j) ++ [E[j]] else flI I (E.take j) := by
  unfold flI
  rw [List.take_succ_eq_append_getElem hj, List.filter_append]
  cases h : bnB I E[j] <;> simp [h]
def f73_A (h : H) (v w : V) (n : Nat) (E : List (Int × Int)) (I : List Bool) (j : Nat) (fr : Fr) (h1 : H) : Prop := j ≤ E.length ∧ Grow h.nx.nat h h1 ∧ ∃ d, Sl iE h1 d (dgL n (flI I (E.take j))) ∧ Own h.nx.nat d ∧ fr.get (K.ofNat 1) = some (v) ∧ fr.get (K.ofNat 2) = some (w) ∧ fr.get (K.ofNat 7) = some (d) ∧ fr.get (K.ofNat 8) = some (.i .i64 (j : Int))
theorem f73_ret {I : List Bool} (hv : Srp h v E) (hw : Sr V.b h w I) (hI : I.length = n) (hc : HC h) (hE : EdgesOk n E) : Ret fs f73 [.i .i64 (n : Int), v, w] h fun r h' => Sl iE h' r (dgL n (flI I E)) ∧ Own h.nx.nat r ∧ Grow h.nx.nat h h' := by
  have hE10 := hE.1
  have hn7 := hE.2.1
  apply ret_of rfl
  show W fs none f73_c _ _ _
  unfold f73_c
  have hmk := mks_ints (h := h) (k := .i64) (n := n) (by omega)
  have hsl0 := mks_sl (h := h) (n := n)
  have gD := Grow.new (Nat.le_refl h.nx.nat) (.cells (n * 1) (rep [.i .i64 0] n))
  simp (disch := omega) only [f73_r0, f73_r1, f73_r2, w_reg, w_seq, w_block, seqK_n, x_nil, x_mv, x_as, x_mks, kx, rvP_ok, ev_t, ev_c, getV_some, putD_some, frame_3, of0, getK_set, Nat.reduceEqDiff, ↓reduceIte, hmk]
  refine W_loop (f73_A h v w n E I) (fun j => E.length - j) ?_ 0 ⟨by omega, gD, .sl h.nx 0 n 1, ?_, fun _ _ _ _ e => by cases e; exact Nat.le_refl _, by simp (disch := omega) only [getK_set, Nat.reduceEqDiff, ↓reduceIte, and_self, Int.natCast_zero]⟩
  case refine_2 =>
    have : dgL n (flI I (E.take 0)) = List.replicate n 0 := by
      apply List.ext_getElem
      · simp [dgL]
      · intro i h1 h2; rw [dgL_at, List.getElem_replicate]; rfl
    rw [this]; exact hsl0
  clear hmk hsl0 gD
  rintro j fr hx ⟨hj, hGx, d, hd, hod, g1, g2, g7, g8⟩
  have hcx := hGx.hc hc
  have hvx := hv.grow hc hGx
  have hwx := hw.grow hc hGx
  unfold f73_l0
  by_cases hlt : j < E.length
  · have d0 : decide ((j : Int) < (E.length : Int)) = true := by simpa using hlt
    obtain ⟨ide, q, hp1, _, hp2, hp3⟩ := hvx.at2 hlt
    obtain ⟨e0, e1, e2⟩ := hE.2.2 E[j] (List.getElem_mem hlt)
    have hfs := flI_snoc (I := I) hlt
    have hstep := dgL_step (m := n) (a := E[j].1.toNat) (b := E[j].2.toNat) (E := flI I (E.take j)) (by omega) (by omega) (by omega)
    have heq : E[j] = ((E[j].1.toNat : Int), (E[j].2.toNat : Int)) := by ext <;> simp <;> omega
    rw [← heq] at hstep
    obtain ⟨a, ea⟩ : ∃ a : Nat, E[j].1 = (a : Int) := ⟨E[j].1.toNat, by omega⟩
    obtain ⟨b, eb⟩ : ∃ b : Nat, E[j].2 = (b : Int) := ⟨E[j].2.toNat, by omega⟩
    have hbn : bnB I E[j] = (I.getD a false && I.getD b false) := by unfold bnB; rw [ea, eb]; rfl
    rw [ea] at hp2 hstep
    rw [eb] at hp3 hstep
    rw [Int.toNat_natCast, Int.toNat_natCast] at hstep
    have ha : a < n := by omega
    have hb : b < n := by omega
    have hna := dgE_nn (E := flI I (E.take j)) (v := a)
    have hnb := dgE_nn (E := flI I (E.take j)) (v := b)
    have hlt10 : (flI I (E.take j)).length ≤ 10 := Nat.le_trans (List.length_filter_le _ _) (by simp; omega)
    generalize flI I (E.take j) = F at *
    generalize E[j] = eJ at *
    obtain ⟨pa, wa1, wa2⟩ := hwx.at a (by omega)
    obtain ⟨pb, wb1, wb2⟩ := hwx.at b (by omega)
    have ga : I.getD a false = I[a]'(by omega) := by rw [List.getD_eq_getElem?_getD, List.getElem?_eq_getElem (by omega)]; rfl
    have gb : I.getD b false = I[b]'(by omega) := by rw [List.getD_eq_getElem?_getD, List.getElem?_eq_getElem (by omega)]; rfl
    rw [ga, gb] at hbn
    obtain ⟨p, hpa, hpb⟩ := hd.at a (by rw [dgL_len]; exact ha)
    rw [dgL_at] at hpb
    obtain ⟨p', id', m', cs', s1, s2, s3, ⟨off', n', sz', s4⟩, s5⟩ := hd.st (i := a) (by rw [dgL_len]; exact ha) (x := dgE F a + 1) (c := .i .i64 (dgE F a + 1)) rfl rfl hcx
    obtain rfl : p = p' := by have := (hpa .i64 hx).symm.trans (s1 .i64 hx); injection this
    have hob := hod _ _ _ _ s4
    have gP := Grow.put hob s5 (.cells m' cs')
    have hcy := gP.hc hcx
    have hGy := hGx.trans gP
    have hub := hvx.beq
    have hlen := hvx.len
    cases hIa : I[a]'(by omega) with
    | false =>
      rw [hIa, Bool.false_and] at hbn
      rw [hIa] at wa2
      rw [if_neg (by rw [hbn]; simp)] at hfs
      simp (disch := omega) only [f73_r3, f73_r4, f73_r5, f73_r8, w_skip, w_reg, w_draw, w_seq, w_cond, w_block, seqK_n, atK_n, loopK_n, ckB_b, cbB_b, okG_b, asG_t, true_and, x_nil, x_g, x_mv, x_as, x_pick, x_ld, x_bin, x_iads, x_len, kx, kg, xg_nil, xg_mv, xg_ld, xg_iadr, xg_iads, xd_cons, fresh_nil, stK_n, stK_s, stay_nil, stay_cons, again_ok, stay_mv, beq_i, stay_iads, stay_ld, beq_p, rvP_ok, okv_some, ev_t, ev_c, getV_some, putD_some, bin_add, bin_lss, pick_b, onP_p, of0, of1, getK_set, Nat.reduceEqDiff, ↓reduceIte, Bool.false_eq_true, stay_iadr, ix2_0, ix2_1, g1, g2, g8, hlen, d0, hp1, hp2, hp3, hub, wa1, wa2, fw64]
      exact ⟨j + 1, by omega, by omega, hGx, d, by rw [hfs]; exact hd, hod, by simp (disch := omega) only [getK_set, Nat.reduceEqDiff, ↓reduceIte, g1, g2, g7, and_self, Int.natCast_add, Int.natCast_one]⟩
    | true =>
    cases hIb : I[b]'(by omega) with
    | false =>
      rw [hIb, Bool.and_false] at hbn
      rw [hIa] at wa2
      rw [hIb] at wb2
      rw [if_neg (by rw [hbn]; simp)] at hfs
      simp (disch := omega) only [f73_r3, f73_r4, f73_r5, f73_r8, w_skip, w_reg, w_draw, w_seq, w_cond, w_block, seqK_n, atK_n, loopK_n, ckB_b, cbB_b, okG_b, asG_t, true_and, x_nil, x_g, x_mv, x_as, x_pick, x_ld, x_bin, x_iads, x_len, kx, kg, xg_nil, xg_mv, xg_ld, xg_iadr, xg_iads, xd_cons, fresh_nil, stK_n, stK_s, stay_nil, stay_cons, again_ok, stay_mv, beq_i, stay_iads, stay_ld, beq_p, rvP_ok, okv_some, ev_t, ev_c, getV_some, putD_some, bin_add, bin_lss, pick_b, onP_p, of0, of1, getK_set, Nat.reduceEqDiff, ↓reduceIte, Bool.false_eq_true, stay_iadr, ix2_0, ix2_1, g1, g2, g8, hlen, d0, hp1, hp2, hp3, hub, wa1, wa2, wb1, wb2, fw64]
      exact ⟨j + 1, by omega, by omega, hGx, d, by rw [hfs]; exact hd, hod, by simp (disch := omega) only [getK_set, Nat.reduceEqDiff, ↓reduceIte, g1, g2, g7, and_self, Int.natCast_add, Int.natCast_one]⟩
    | true =>
      rw [hIa, hIb] at hbn
      rw [hIa] at wa2
      rw [hIb] at wb2
      rw [if_pos (by rw [hbn]; rfl)] at hfs
      generalize hx.put id' (.cells m' cs') = hy at *
      have hbl : b < ((dgL n F).set a (dgE F a + 1)).length := by rw [List.length_set, dgL_len]; exact hb
      obtain ⟨p2, hqa, hqb⟩ := s3.at b hbl
      have hgb : ((dgL n F).set a (dgE F a + 1))[b] = dgE F b := by
        rw [List.getElem_set, if_neg (by omega), dgL_at]
      rw [hgb] at hqb
      obtain ⟨p2', id2, m2, cs2, u1, u2, u3, ⟨off2, n2, sz2, u4⟩, u5⟩ := s3.st (i := b) hbl (x := dgE F b + 1) (c := .i .i64 (dgE F b + 1)) rfl rfl hcy
      obtain rfl : p2 = p2' := by have := (hqa .i64 hy).symm.trans (u1 .i64 hy); injection this
      rw [← hstep] at u3
      have gP2 := Grow.put (hod _ _ _ _ u4) u5 (.cells m2 cs2)
      simp (disch := omega) only [f73_r3, f73_r4, f73_r5, w_skip, w_reg, w_draw, w_seq, w_cond, w_block, seqK_n, ckB_b, cbB_b, okG_b, asG_t, true_and, x_nil, x_g, x_mv, x_as, x_pick, x_ld, x_bin, x_iads, x_len, kx, kg, xg_nil, xg_mv, xg_ld, xg_iadr, xg_iads, xd_cons, fresh_nil, stK_n, stK_s, stay_nil, stay_cons, again_ok, stay_mv, beq_i, stay_iads, stay_ld, beq_p, rvP_ok, okv_some, ev_t, ev_c, getV_some, putD_some, bin_lss, pick_b, onP_p, of0, of1, getK_set, Nat.reduceEqDiff, ↓reduceIte, stay_iadr, ix2_0, ix2_1, g1, g2, g8, hlen, d0, hp1, hp2, hp3, hub, wa1, wa2, wb1, wb2]
      simp (disch := omega) only [f73_r6, f73_r7, f73_r8, w_reg, seqK_n, atK_n, loopK_n, x_nil, x_mv, x_as, x_ld, x_st, x_bin, x_iads, kx, rvP_ok, okv_some, ev_t, ev_c, getV_some, putD_some, putD_none, bin_add, of1, getK_set, Nat.reduceEqDiff, ↓reduceIte, g7, g8, hpa, hpb, s2, hqa, hqb, u2, iE, fw64]
      exact ⟨j + 1, by omega, by omega, hGy.trans gP2, d, by rw [hfs]; exact u3, hod, by simp (disch := omega) only [getK_set, Nat.reduceEqDiff, ↓reduceIte, g1, g2, g7, and_self, Int.natCast_add, Int.natCast_one]⟩
  · have d0 : decide ((j : Int) < (E.length : Int)) = false := by simpa using hlt
    have ej : j = E.length := by omega
    rw [ej, List.take_length] at hd
    have hlen := hvx.len
    simp (disch := omega) only [f73_r3, f73_r9, f73_rs, w_reg, w_seq, w_cond, w_exit, w_ret, seqK_n, seqK_e, atK_e, loopK_e, ckB_b, cbB_b, true_and, retK_r, x_nil, x_mv, x_as, x_bin, x_len, kx, rvP_ok, okv_some, ev_t, getV_some, putD_some, bin_lss, oGet_s, readRs_nil, readRs_t, retV_1, Option.some.injEq, exists_eq_left', getK_set, Nat.reduceEqDiff, ↓reduceIte, Bool.false_eq_true, g1, g7, g8, hlen, d0]
    exact ⟨hd, hod, hGx⟩
end
end Go.Ev
