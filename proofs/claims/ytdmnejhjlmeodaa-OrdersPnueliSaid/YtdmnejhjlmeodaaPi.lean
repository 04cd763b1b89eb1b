/-
  Orders: a line sorted by a relation (sortList of numbers, lineOf).
  Orders: two lines; Draw, Realize.
  Orders: Realize; the law OrdersPnueli.
  A law's argument that is an array of two pairs.
  A law's argument that is an array of two slices of numbers.
-/
import Derived.Test.YtdmnejhjlmeodaaPh
import Derived.Test.YtdmnejhjlmeodaaPe
namespace Go.Ev
open Go Go.RowKit
noncomputable def f105_r0 : List EOper := [⟨some (.ofNat 5), none, .as (.c (.b false))⟩]
noncomputable def f105_r1 : List EOper := [⟨some (.ofNat 6), none, .mv (.t (.ofNat 0))⟩, ⟨some (.ofNat 7), none, .mv (.t (.ofNat 1))⟩, ⟨some (.ofNat 8), none, .iadr 7 7 (.t (.ofNat 2)) (.t (.ofNat 6))⟩, ⟨some (.ofNat 9), none, .iadr 7 1 (.t (.ofNat 8)) (.t (.ofNat 7))⟩, ⟨some (.ofNat 10), none, .ld (.t (.ofNat 9))⟩, ⟨some (.ofNat 5), none, .as (.t (.ofNat 10))⟩]
noncomputable def f105_c : EC := (.seq (.reg f105_r0) (.seq (.reg f105_r1) .ret))
noncomputable def f105 : EF := ⟨11, [.tmp (.ofNat 5)], f105_c, none⟩
theorem f105_rs : f105.rs = [.tmp (.ofNat 5)] := of_eq_true (eq_self _)
noncomputable def f110_r0 : List EOper := [⟨some (.ofNat 5), none, .as (.c (.i .i64 (.ofNat 0)))⟩]
noncomputable def f110_r1 : List EOper := [⟨some (.ofNat 7), none, .ld (.t (.ofNat 2))⟩, ⟨some (.ofNat 8), none, .mv (.t (.ofNat 0))⟩, ⟨some (.ofNat 9), none, .mv (.t (.ofNat 1))⟩, ⟨some (.ofNat 10), none, .call (.t (.ofNat 7)) [(.t (.ofNat 8)), (.t (.ofNat 9))]⟩, ⟨some (.ofNat 6), none, .as (.t (.ofNat 10))⟩]
noncomputable def f110_r2 : List EOper := [⟨some (.ofNat 5), none, .as (.c (.i .i64 (.negSucc 0)))⟩]
noncomputable def f110_r3 : List EOper := [⟨some (.ofNat 12), none, .ld (.t (.ofNat 2))⟩, ⟨some (.ofNat 13), none, .mv (.t (.ofNat 1))⟩, ⟨some (.ofNat 14), none, .mv (.t (.ofNat 0))⟩, ⟨some (.ofNat 15), none, .call (.t (.ofNat 12)) [(.t (.ofNat 13)), (.t (.ofNat 14))]⟩, ⟨some (.ofNat 11), none, .as (.t (.ofNat 15))⟩]
noncomputable def f110_r4 : List EOper := [⟨some (.ofNat 5), none, .as (.c (.i .i64 (.ofNat 1)))⟩]
noncomputable def f110_r5 : List EOper := [⟨some (.ofNat 5), none, .as (.c (.i .i64 (.ofNat 0)))⟩]
noncomputable def f110_c : EC := (.seq (.reg f110_r0) (.seq (.block 0 (.seq (.reg f110_r1) (.cond (.t (.ofNat 6)) (.seq (.reg f110_r2) .ret) (.seq (.reg f110_r3) (.cond (.t (.ofNat 11)) (.seq (.reg f110_r4) .ret) .skip))))) (.seq (.reg f110_r5) .ret)))
noncomputable def f110 : EF := ⟨16, [.tmp (.ofNat 5)], f110_c, none⟩
theorem f110_rs : f110.rs = [.tmp (.ofNat 5)] := of_eq_true (eq_self _)
noncomputable def f128_r0 : List EOper := [⟨some (.ofNat 10), none, .mv (.t (.ofNat 1))⟩, ⟨some (.ofNat 11), none, .bin .add (.t (.ofNat 10)) (.c (.i .i64 (.ofNat 1)))⟩, ⟨some (.ofNat 8), none, .as (.t (.ofNat 11))⟩]
noncomputable def f128_r1 : List EOper := [⟨some (.ofNat 12), none, .mv (.t (.ofNat 8))⟩, ⟨some (.ofNat 13), none, .mv (.t (.ofNat 2))⟩, ⟨some (.ofNat 14), none, .bin .lss (.t (.ofNat 12)) (.t (.ofNat 13))⟩]
noncomputable def f128_r2 : List EOper := [⟨some (.ofNat 17), none, .mv (.t (.ofNat 8))⟩, ⟨some (.ofNat 9), none, .as (.t (.ofNat 17))⟩]
noncomputable def f128_r3 : List Stage := [⟨[⟨some (.ofNat 18), none, .mv (.t (.ofNat 9))⟩, ⟨some (.ofNat 19), none, .mv (.t (.ofNat 1))⟩, ⟨some (.ofNat 20), none, .bin .gtr (.t (.ofNat 18)) (.t (.ofNat 19))⟩, ⟨some (.ofNat 21), none, .mv (.t (.ofNat 20))⟩, ⟨some (.ofNat 22), (some ((.ofNat 21), true)), .mv (.t (.ofNat 3))⟩, ⟨some (.ofNat 23), (some ((.ofNat 21), true)), .mv (.t (.ofNat 0))⟩, ⟨some (.ofNat 24), (some ((.ofNat 21), true)), .mv (.t (.ofNat 9))⟩, ⟨some (.ofNat 25), (some ((.ofNat 21), true)), .iads 1 (.t (.ofNat 23)) (.t (.ofNat 24))⟩, ⟨some (.ofNat 26), (some ((.ofNat 21), true)), .ld (.t (.ofNat 25))⟩, ⟨some (.ofNat 27), (some ((.ofNat 21), true)), .mv (.t (.ofNat 0))⟩, ⟨some (.ofNat 28), (some ((.ofNat 21), true)), .mv (.t (.ofNat 9))⟩, ⟨some (.ofNat 29), (some ((.ofNat 21), true)), .bin .sub (.t (.ofNat 28)) (.c (.i .i64 (.ofNat 1)))⟩, ⟨some (.ofNat 30), (some ((.ofNat 21), true)), .iads 1 (.t (.ofNat 27)) (.t (.ofNat 29))⟩, ⟨some (.ofNat 31), (some ((.ofNat 21), true)), .ld (.t (.ofNat 30))⟩], [], (some ⟨some (.ofNat 32), (some ((.ofNat 21), true)), .call (.t (.ofNat 22)) [(.t (.ofNat 26)), (.t (.ofNat 31))]⟩), []⟩, ⟨[⟨some (.ofNat 33), (some ((.ofNat 21), true)), .bin .lss (.t (.ofNat 32)) (.c (.i .i64 (.ofNat 0)))⟩, ⟨some (.ofNat 34), none, .pick (.t (.ofNat 21)) (.t (.ofNat 33)) (.c (.b false))⟩], [], none, []⟩]
noncomputable def f128_r4 : List Stage := [⟨[⟨some (.ofNat 37), none, .mv (.t (.ofNat 0))⟩, ⟨some (.ofNat 38), none, .mv (.t (.ofNat 9))⟩, ⟨some (.ofNat 39), none, .mv (.t (.ofNat 0))⟩, ⟨some (.ofNat 40), none, .mv (.t (.ofNat 9))⟩, ⟨some (.ofNat 41), none, .bin .sub (.t (.ofNat 40)) (.c (.i .i64 (.ofNat 1)))⟩, ⟨some (.ofNat 42), none, .mv (.t (.ofNat 0))⟩, ⟨some (.ofNat 43), none, .mv (.t (.ofNat 9))⟩, ⟨some (.ofNat 44), none, .bin .sub (.t (.ofNat 43)) (.c (.i .i64 (.ofNat 1)))⟩, ⟨some (.ofNat 45), none, .iads 1 (.t (.ofNat 42)) (.t (.ofNat 44))⟩, ⟨some (.ofNat 46), none, .ld (.t (.ofNat 45))⟩, ⟨some (.ofNat 47), none, .mv (.t (.ofNat 0))⟩, ⟨some (.ofNat 48), none, .mv (.t (.ofNat 9))⟩, ⟨some (.ofNat 49), none, .iads 1 (.t (.ofNat 47)) (.t (.ofNat 48))⟩, ⟨some (.ofNat 50), none, .ld (.t (.ofNat 49))⟩, ⟨some (.ofNat 51), none, .iads 1 (.t (.ofNat 37)) (.t (.ofNat 38))⟩], [], (some ⟨none, none, .st 1 (.t (.ofNat 51)) (.t (.ofNat 46))⟩), []⟩, ⟨[⟨some (.ofNat 52), none, .iads 1 (.t (.ofNat 39)) (.t (.ofNat 41))⟩], [⟨some (.ofNat 39), none, .mv (.t (.ofNat 0))⟩, ⟨some (.ofNat 40), none, .mv (.t (.ofNat 9))⟩, ⟨some (.ofNat 41), none, .bin .sub (.t (.ofNat 40)) (.c (.i .i64 (.ofNat 1)))⟩], (some ⟨none, none, .st 1 (.t (.ofNat 52)) (.t (.ofNat 50))⟩), []⟩, ⟨[], [], none, []⟩]
noncomputable def f128_r5 : List EOper := [⟨some (.ofNat 35), none, .mv (.t (.ofNat 9))⟩, ⟨some (.ofNat 36), none, .bin .sub (.t (.ofNat 35)) (.c (.i .i64 (.ofNat 1)))⟩, ⟨some (.ofNat 9), none, .as (.t (.ofNat 36))⟩]
noncomputable def f128_l0 : EC := (.seq (.seq (.draw f128_r3) (.cond (.t (.ofNat 34)) .skip (.exit 2))) (.seq (.block 3 (.draw f128_r4)) (.reg f128_r5)))
noncomputable def f128_r6 : List EOper := [⟨some (.ofNat 15), none, .mv (.t (.ofNat 8))⟩, ⟨some (.ofNat 16), none, .bin .add (.t (.ofNat 15)) (.c (.i .i64 (.ofNat 1)))⟩, ⟨some (.ofNat 8), none, .as (.t (.ofNat 16))⟩]
noncomputable def f128_l1 : EC := (.seq (.seq (.reg f128_r1) (.cond (.t (.ofNat 14)) .skip (.exit 0))) (.seq (.block 1 (.seq (.reg f128_r2) (.block 2 (.loop f128_l0)))) (.reg f128_r6)))
noncomputable def f128_c : EC := (.seq (.reg f128_r0) (.block 0 (.loop f128_l1)))
noncomputable def f128 : EF := ⟨53, [], f128_c, none⟩
theorem f128_rs : f128.rs = [] := of_eq_true (eq_self _)
noncomputable def f120_r0 : List EOper := [⟨some (.ofNat 2), none, .as (.c (.i .i64 (.ofNat 0)))⟩]
noncomputable def f120_r1 : List EOper := [⟨some (.ofNat 3), none, .mv (.t (.ofNat 0))⟩, ⟨some (.ofNat 4), none, .bin .geq (.t (.ofNat 3)) (.c (.i .u64 (.ofNat 4294967296)))⟩]
noncomputable def f120_r2 : List EOper := [⟨some (.ofNat 5), none, .mv (.t (.ofNat 0))⟩, ⟨some (.ofNat 6), none, .bin .shr (.t (.ofNat 5)) (.c (.i .u64 (.ofNat 32)))⟩, ⟨some (.ofNat 0), none, .as (.t (.ofNat 6))⟩]
noncomputable def f120_r3 : List EOper := [⟨some (.ofNat 2), none, .as (.c (.i .i64 (.ofNat 32)))⟩]
noncomputable def f120_r4 : List EOper := [⟨some (.ofNat 7), none, .mv (.t (.ofNat 0))⟩, ⟨some (.ofNat 8), none, .bin .geq (.t (.ofNat 7)) (.c (.i .u64 (.ofNat 65536)))⟩]
noncomputable def f120_r5 : List EOper := [⟨some (.ofNat 9), none, .mv (.t (.ofNat 0))⟩, ⟨some (.ofNat 10), none, .bin .shr (.t (.ofNat 9)) (.c (.i .u64 (.ofNat 16)))⟩, ⟨some (.ofNat 0), none, .as (.t (.ofNat 10))⟩]
noncomputable def f120_r6 : List EOper := [⟨some (.ofNat 11), none, .mv (.t (.ofNat 2))⟩, ⟨some (.ofNat 12), none, .bin .add (.t (.ofNat 11)) (.c (.i .i64 (.ofNat 16)))⟩, ⟨some (.ofNat 2), none, .as (.t (.ofNat 12))⟩]
noncomputable def f120_r7 : List EOper := [⟨some (.ofNat 13), none, .mv (.t (.ofNat 0))⟩, ⟨some (.ofNat 14), none, .bin .geq (.t (.ofNat 13)) (.c (.i .u64 (.ofNat 256)))⟩]
noncomputable def f120_r8 : List EOper := [⟨some (.ofNat 15), none, .mv (.t (.ofNat 0))⟩, ⟨some (.ofNat 16), none, .bin .shr (.t (.ofNat 15)) (.c (.i .u64 (.ofNat 8)))⟩, ⟨some (.ofNat 0), none, .as (.t (.ofNat 16))⟩]
noncomputable def f120_r9 : List EOper := [⟨some (.ofNat 17), none, .mv (.t (.ofNat 2))⟩, ⟨some (.ofNat 18), none, .bin .add (.t (.ofNat 17)) (.c (.i .i64 (.ofNat 8)))⟩, ⟨some (.ofNat 2), none, .as (.t (.ofNat 18))⟩]
noncomputable def f120_r10 : List EOper := [⟨some (.ofNat 19), none, .mv (.t (.ofNat 2))⟩, ⟨some (.ofNat 20), none, .mv (.t (.ofNat 0))⟩, ⟨some (.ofNat 21), none, .conv .u8 (.t (.ofNat 20))⟩, ⟨some (.ofNat 22), none, .pr .sidx (.c (.s ⟨#[0, 1, 2, 2, 3, 3, 3, 3, 4, 4, 4, 4, 4, 4, 4, 4, 5, 5, 5, 5, 5, 5, 5, 5, 5, 5, 5, 5, 5, 5, 5, 5, 6, 6, 6, 6, 6, 6, 6, 6, 6, 6, 6, 6, 6, 6, 6, 6, 6, 6, 6, 6, 6, 6, 6, 6, 6, 6, 6, 6, 6, 6, 6, 6, 7, 7, 7, 7, 7, 7, 7, 7, 7, 7, 7, 7, 7, 7, 7, 7, 7, 7, 7, 7, 7, 7, 7, 7, 7, 7, 7, 7, 7, 7, 7, 7, 7, 7, 7, 7, 7, 7, 7, 7, 7, 7, 7, 7, 7, 7, 7, 7, 7, 7, 7, 7, 7, 7, 7, 7, 7, 7, 7, 7, 7, 7, 7, 7, 8, 8, 8, 8, 8, 8, 8, 8, 8, 8, 8, 8, 8, 8, 8, 8, 8, 8, 8, 8, 8, 8, 8, 8, 8, 8, 8, 8, 8, 8, 8, 8, 8, 8, 8, 8, 8, 8, 8, 8, 8, 8, 8, 8, 8, 8, 8, 8, 8, 8, 8, 8, 8, 8, 8, 8, 8, 8, 8, 8, 8, 8, 8, 8, 8, 8, 8, 8, 8, 8, 8, 8, 8, 8, 8, 8, 8, 8, 8, 8, 8, 8, 8, 8, 8, 8, 8, 8, 8, 8, 8, 8, 8, 8, 8, 8, 8, 8, 8, 8, 8, 8, 8, 8, 8, 8, 8, 8, 8, 8, 8, 8, 8, 8, 8, 8, 8, 8, 8, 8, 8, 8, 8, 8, 8, 8, 8, 8]⟩)) (.t (.ofNat 21))⟩, ⟨some (.ofNat 23), none, .conv .i64 (.t (.ofNat 22))⟩, ⟨some (.ofNat 24), none, .bin .add (.t (.ofNat 19)) (.t (.ofNat 23))⟩, ⟨some (.ofNat 2), none, .as (.t (.ofNat 24))⟩]
noncomputable def f120_c : EC := (.seq (.reg f120_r0) (.seq (.seq (.reg f120_r1) (.cond (.t (.ofNat 4)) (.seq (.reg f120_r2) (.reg f120_r3)) .skip)) (.seq (.seq (.reg f120_r4) (.cond (.t (.ofNat 8)) (.seq (.reg f120_r5) (.reg f120_r6)) .skip)) (.seq (.seq (.reg f120_r7) (.cond (.t (.ofNat 14)) (.seq (.reg f120_r8) (.reg f120_r9)) .skip)) (.seq (.reg f120_r10) .ret)))))
noncomputable def f120 : EF := ⟨25, [.tmp (.ofNat 2)], f120_c, none⟩
noncomputable def f107_r0 : List EOper := [⟨some (.ofNat 2), none, .as (.c (.i .i64 (.ofNat 0)))⟩]
noncomputable def f107_r1 : List EOper := [⟨some (.ofNat 3), none, .mv (.t (.ofNat 0))⟩, ⟨some (.ofNat 4), none, .conv .u32 (.t (.ofNat 3))⟩, ⟨some (.ofNat 5), none, .call (.c (.fn (.ofNat 119) [])) [(.t (.ofNat 4))]⟩, ⟨some (.ofNat 2), none, .as (.t (.ofNat 5))⟩]
noncomputable def f107_r2 : List EOper := [⟨some (.ofNat 6), none, .mv (.t (.ofNat 0))⟩, ⟨some (.ofNat 7), none, .call (.c (.fn (.ofNat 120) [])) [(.t (.ofNat 6))]⟩, ⟨some (.ofNat 2), none, .as (.t (.ofNat 7))⟩]
noncomputable def f107_c : EC := (.seq (.reg f107_r0) (.seq (.cond (.c (.b false)) (.seq (.reg f107_r1) .ret) .skip) (.seq (.reg f107_r2) .ret)))
noncomputable def f107 : EF := ⟨8, [.tmp (.ofNat 2)], f107_c, none⟩
theorem f107_rs : f107.rs = [.tmp (.ofNat 2)] := of_eq_true (eq_self _)
noncomputable def f122_r0 : List EOper := [⟨some (.ofNat 10), none, .as (.c (.b true))⟩]
noncomputable def f122_r1 : List EOper := [⟨some (.ofNat 11), none, .as (.c (.b true))⟩]
noncomputable def f122_r2 : List EOper := [⟨some (.ofNat 21), none, .mv (.t (.ofNat 2))⟩, ⟨some (.ofNat 22), none, .mv (.t (.ofNat 1))⟩, ⟨some (.ofNat 23), none, .bin .sub (.t (.ofNat 21)) (.t (.ofNat 22))⟩, ⟨some (.ofNat 12), none, .as (.t (.ofNat 23))⟩]
noncomputable def f122_r3 : List EOper := [⟨some (.ofNat 24), none, .mv (.t (.ofNat 12))⟩, ⟨some (.ofNat 25), none, .bin .leq (.t (.ofNat 24)) (.c (.i .i64 (.ofNat 12)))⟩]
noncomputable def f122_r4 : List EOper := [⟨some (.ofNat 26), none, .mv (.t (.ofNat 0))⟩, ⟨some (.ofNat 27), none, .mv (.t (.ofNat 1))⟩, ⟨some (.ofNat 28), none, .mv (.t (.ofNat 2))⟩, ⟨some (.ofNat 29), none, .mv (.t (.ofNat 4))⟩, ⟨some (.ofNat 30), none, .call (.c (.fn (.ofNat 128) [])) [(.t (.ofNat 26)), (.t (.ofNat 27)), (.t (.ofNat 28)), (.t (.ofNat 29))]⟩]
noncomputable def f122_r5 : List EOper := [⟨some (.ofNat 31), none, .mv (.t (.ofNat 3))⟩, ⟨some (.ofNat 32), none, .bin .eql (.t (.ofNat 31)) (.c (.i .i64 (.ofNat 0)))⟩]
noncomputable def f122_r6 : List EOper := [⟨some (.ofNat 33), none, .mv (.t (.ofNat 0))⟩, ⟨some (.ofNat 34), none, .mv (.t (.ofNat 1))⟩, ⟨some (.ofNat 35), none, .mv (.t (.ofNat 2))⟩, ⟨some (.ofNat 36), none, .mv (.t (.ofNat 4))⟩, ⟨some (.ofNat 37), none, .call (.c (.fn (.ofNat 129) [])) [(.t (.ofNat 33)), (.t (.ofNat 34)), (.t (.ofNat 35)), (.t (.ofNat 36))]⟩]
noncomputable def f122_r7 : List EOper := [⟨some (.ofNat 38), none, .mv (.t (.ofNat 10))⟩, ⟨some (.ofNat 39), none, .not (.t (.ofNat 38))⟩]
noncomputable def f122_r8 : List EOper := [⟨some (.ofNat 40), none, .mv (.t (.ofNat 0))⟩, ⟨some (.ofNat 41), none, .mv (.t (.ofNat 1))⟩, ⟨some (.ofNat 42), none, .mv (.t (.ofNat 2))⟩, ⟨some (.ofNat 43), none, .mv (.t (.ofNat 4))⟩, ⟨some (.ofNat 44), none, .call (.c (.fn (.ofNat 130) [])) [(.t (.ofNat 40)), (.t (.ofNat 41)), (.t (.ofNat 42)), (.t (.ofNat 43))]⟩]
noncomputable def f122_r9 : List EOper := [⟨some (.ofNat 45), none, .mv (.t (.ofNat 3))⟩, ⟨some (.ofNat 46), none, .bin .sub (.t (.ofNat 45)) (.c (.i .i64 (.ofNat 1)))⟩, ⟨some (.ofNat 3), none, .as (.t (.ofNat 46))⟩]
noncomputable def f122_r10 : List EOper := [⟨some (.ofNat 48), none, .mv (.t (.ofNat 0))⟩, ⟨some (.ofNat 49), none, .mv (.t (.ofNat 1))⟩, ⟨some (.ofNat 50), none, .mv (.t (.ofNat 2))⟩, ⟨some (.ofNat 51), none, .mv (.t (.ofNat 4))⟩, ⟨some (.ofNat 52), none, .call (.c (.fn (.ofNat 131) [])) [(.t (.ofNat 48)), (.t (.ofNat 49)), (.t (.ofNat 50)), (.t (.ofNat 51))]⟩, ⟨some (.ofNat 47), none, .mv (.t (.ofNat 52))⟩, ⟨some (.ofNat 53), none, .ext (.t (.ofNat 47)) 0⟩, ⟨some (.ofNat 54), none, .ext (.t (.ofNat 47)) 1⟩, ⟨some (.ofNat 13), none, .as (.t (.ofNat 53))⟩, ⟨some (.ofNat 14), none, .as (.t (.ofNat 54))⟩]
noncomputable def f122_r11 : List EOper := [⟨some (.ofNat 55), none, .mv (.t (.ofNat 14))⟩, ⟨some (.ofNat 56), none, .bin .eql (.t (.ofNat 55)) (.c (.i .i64 (.ofNat 2)))⟩]
noncomputable def f122_r12 : List EOper := [⟨some (.ofNat 57), none, .mv (.t (.ofNat 0))⟩, ⟨some (.ofNat 58), none, .mv (.t (.ofNat 1))⟩, ⟨some (.ofNat 59), none, .mv (.t (.ofNat 2))⟩, ⟨some (.ofNat 60), none, .mv (.t (.ofNat 4))⟩, ⟨some (.ofNat 61), none, .call (.c (.fn (.ofNat 132) [])) [(.t (.ofNat 57)), (.t (.ofNat 58)), (.t (.ofNat 59)), (.t (.ofNat 60))]⟩]
noncomputable def f122_r13 : List EOper := [⟨some (.ofNat 62), none, .mv (.t (.ofNat 2))⟩, ⟨some (.ofNat 63), none, .bin .sub (.t (.ofNat 62)) (.c (.i .i64 (.ofNat 1)))⟩, ⟨some (.ofNat 64), none, .mv (.t (.ofNat 13))⟩, ⟨some (.ofNat 65), none, .mv (.t (.ofNat 1))⟩, ⟨some (.ofNat 66), none, .bin .sub (.t (.ofNat 64)) (.t (.ofNat 65))⟩, ⟨some (.ofNat 67), none, .bin .sub (.t (.ofNat 63)) (.t (.ofNat 66))⟩, ⟨some (.ofNat 13), none, .as (.t (.ofNat 67))⟩]
noncomputable def f122_r14 : List EOper := [⟨some (.ofNat 14), none, .as (.c (.i .i64 (.ofNat 1)))⟩]
noncomputable def f122_r15 : List EOper := [⟨some (.ofNat 68), none, .mv (.t (.ofNat 10))⟩, ⟨some (.ofNat 69), none, .mv (.t (.ofNat 68))⟩, ⟨some (.ofNat 70), (some ((.ofNat 69), true)), .mv (.t (.ofNat 11))⟩, ⟨some (.ofNat 71), none, .pick (.t (.ofNat 69)) (.t (.ofNat 70)) (.c (.b false))⟩, ⟨some (.ofNat 72), none, .mv (.t (.ofNat 71))⟩, ⟨some (.ofNat 73), (some ((.ofNat 72), true)), .mv (.t (.ofNat 14))⟩, ⟨some (.ofNat 74), (some ((.ofNat 72), true)), .bin .eql (.t (.ofNat 73)) (.c (.i .i64 (.ofNat 1)))⟩, ⟨some (.ofNat 75), none, .pick (.t (.ofNat 72)) (.t (.ofNat 74)) (.c (.b false))⟩]
noncomputable def f122_r16 : List EOper := [⟨some (.ofNat 76), none, .mv (.t (.ofNat 0))⟩, ⟨some (.ofNat 77), none, .mv (.t (.ofNat 1))⟩, ⟨some (.ofNat 78), none, .mv (.t (.ofNat 2))⟩, ⟨some (.ofNat 79), none, .mv (.t (.ofNat 4))⟩, ⟨some (.ofNat 80), none, .call (.c (.fn (.ofNat 133) [])) [(.t (.ofNat 76)), (.t (.ofNat 77)), (.t (.ofNat 78)), (.t (.ofNat 79))]⟩]
noncomputable def f122_r17 : List Stage := [⟨[⟨some (.ofNat 81), none, .mv (.t (.ofNat 1))⟩, ⟨some (.ofNat 82), none, .bin .gtr (.t (.ofNat 81)) (.c (.i .i64 (.ofNat 0)))⟩, ⟨some (.ofNat 83), none, .mv (.t (.ofNat 82))⟩, ⟨some (.ofNat 84), (some ((.ofNat 83), true)), .mv (.t (.ofNat 4))⟩, ⟨some (.ofNat 85), (some ((.ofNat 83), true)), .mv (.t (.ofNat 0))⟩, ⟨some (.ofNat 86), (some ((.ofNat 83), true)), .mv (.t (.ofNat 1))⟩, ⟨some (.ofNat 87), (some ((.ofNat 83), true)), .bin .sub (.t (.ofNat 86)) (.c (.i .i64 (.ofNat 1)))⟩, ⟨some (.ofNat 88), (some ((.ofNat 83), true)), .iads 1 (.t (.ofNat 85)) (.t (.ofNat 87))⟩, ⟨some (.ofNat 89), (some ((.ofNat 83), true)), .ld (.t (.ofNat 88))⟩, ⟨some (.ofNat 90), (some ((.ofNat 83), true)), .mv (.t (.ofNat 0))⟩, ⟨some (.ofNat 91), (some ((.ofNat 83), true)), .mv (.t (.ofNat 13))⟩, ⟨some (.ofNat 92), (some ((.ofNat 83), true)), .iads 1 (.t (.ofNat 90)) (.t (.ofNat 91))⟩, ⟨some (.ofNat 93), (some ((.ofNat 83), true)), .ld (.t (.ofNat 92))⟩], [], (some ⟨some (.ofNat 94), (some ((.ofNat 83), true)), .call (.t (.ofNat 84)) [(.t (.ofNat 89)), (.t (.ofNat 93))]⟩), []⟩, ⟨[⟨some (.ofNat 95), (some ((.ofNat 83), true)), .bin .lss (.t (.ofNat 94)) (.c (.i .i64 (.ofNat 0)))⟩, ⟨some (.ofNat 96), (some ((.ofNat 83), true)), .not (.t (.ofNat 95))⟩, ⟨some (.ofNat 97), none, .pick (.t (.ofNat 83)) (.t (.ofNat 96)) (.c (.b false))⟩], [], none, []⟩]
noncomputable def f122_r18 : List EOper := [⟨some (.ofNat 98), none, .mv (.t (.ofNat 0))⟩, ⟨some (.ofNat 99), none, .mv (.t (.ofNat 1))⟩, ⟨some (.ofNat 100), none, .mv (.t (.ofNat 2))⟩, ⟨some (.ofNat 101), none, .mv (.t (.ofNat 13))⟩, ⟨some (.ofNat 102), none, .mv (.t (.ofNat 4))⟩, ⟨some (.ofNat 103), none, .call (.c (.fn (.ofNat 134) [])) [(.t (.ofNat 98)), (.t (.ofNat 99)), (.t (.ofNat 100)), (.t (.ofNat 101)), (.t (.ofNat 102))]⟩, ⟨some (.ofNat 15), none, .as (.t (.ofNat 103))⟩]
noncomputable def f122_r19 : List EOper := [⟨some (.ofNat 104), none, .mv (.t (.ofNat 15))⟩, ⟨some (.ofNat 1), none, .as (.t (.ofNat 104))⟩]
noncomputable def f122_r20 : List EOper := [⟨some (.ofNat 106), none, .mv (.t (.ofNat 0))⟩, ⟨some (.ofNat 107), none, .mv (.t (.ofNat 1))⟩, ⟨some (.ofNat 108), none, .mv (.t (.ofNat 2))⟩, ⟨some (.ofNat 109), none, .mv (.t (.ofNat 13))⟩, ⟨some (.ofNat 110), none, .mv (.t (.ofNat 4))⟩, ⟨some (.ofNat 111), none, .call (.c (.fn (.ofNat 135) [])) [(.t (.ofNat 106)), (.t (.ofNat 107)), (.t (.ofNat 108)), (.t (.ofNat 109)), (.t (.ofNat 110))]⟩, ⟨some (.ofNat 105), none, .mv (.t (.ofNat 111))⟩, ⟨some (.ofNat 112), none, .ext (.t (.ofNat 105)) 0⟩, ⟨some (.ofNat 113), none, .ext (.t (.ofNat 105)) 1⟩, ⟨some (.ofNat 16), none, .as (.t (.ofNat 112))⟩, ⟨some (.ofNat 17), none, .as (.t (.ofNat 113))⟩]
noncomputable def f122_r21 : List EOper := [⟨some (.ofNat 114), none, .mv (.t (.ofNat 17))⟩, ⟨some (.ofNat 11), none, .as (.t (.ofNat 114))⟩]
noncomputable def f122_r22 : List EOper := [⟨some (.ofNat 115), none, .mv (.t (.ofNat 16))⟩, ⟨some (.ofNat 116), none, .mv (.t (.ofNat 1))⟩, ⟨some (.ofNat 117), none, .bin .sub (.t (.ofNat 115)) (.t (.ofNat 116))⟩, ⟨some (.ofNat 118), none, .mv (.t (.ofNat 2))⟩, ⟨some (.ofNat 119), none, .mv (.t (.ofNat 16))⟩, ⟨some (.ofNat 120), none, .bin .sub (.t (.ofNat 118)) (.t (.ofNat 119))⟩, ⟨some (.ofNat 18), none, .as (.t (.ofNat 117))⟩, ⟨some (.ofNat 19), none, .as (.t (.ofNat 120))⟩]
noncomputable def f122_r23 : List EOper := [⟨some (.ofNat 121), none, .mv (.t (.ofNat 12))⟩, ⟨some (.ofNat 122), none, .bin .quo (.t (.ofNat 121)) (.c (.i .i64 (.ofNat 8)))⟩, ⟨some (.ofNat 20), none, .as (.t (.ofNat 122))⟩]
noncomputable def f122_r24 : List EOper := [⟨some (.ofNat 123), none, .mv (.t (.ofNat 18))⟩, ⟨some (.ofNat 124), none, .mv (.t (.ofNat 19))⟩, ⟨some (.ofNat 125), none, .bin .lss (.t (.ofNat 123)) (.t (.ofNat 124))⟩]
noncomputable def f122_r25 : List EOper := [⟨some (.ofNat 126), none, .mv (.t (.ofNat 18))⟩, ⟨some (.ofNat 127), none, .mv (.t (.ofNat 20))⟩, ⟨some (.ofNat 128), none, .bin .geq (.t (.ofNat 126)) (.t (.ofNat 127))⟩, ⟨some (.ofNat 10), none, .as (.t (.ofNat 128))⟩]
noncomputable def f122_r26 : List EOper := [⟨some (.ofNat 129), none, .mv (.t (.ofNat 0))⟩, ⟨some (.ofNat 130), none, .mv (.t (.ofNat 1))⟩, ⟨some (.ofNat 131), none, .mv (.t (.ofNat 16))⟩, ⟨some (.ofNat 132), none, .mv (.t (.ofNat 3))⟩, ⟨some (.ofNat 133), none, .mv (.t (.ofNat 4))⟩, ⟨some (.ofNat 134), none, .call (.c (.fn (.ofNat 122) [])) [(.t (.ofNat 129)), (.t (.ofNat 130)), (.t (.ofNat 131)), (.t (.ofNat 132)), (.t (.ofNat 133))]⟩]
noncomputable def f122_r27 : List EOper := [⟨some (.ofNat 135), none, .mv (.t (.ofNat 16))⟩, ⟨some (.ofNat 136), none, .bin .add (.t (.ofNat 135)) (.c (.i .i64 (.ofNat 1)))⟩, ⟨some (.ofNat 1), none, .as (.t (.ofNat 136))⟩]
noncomputable def f122_r28 : List EOper := [⟨some (.ofNat 137), none, .mv (.t (.ofNat 19))⟩, ⟨some (.ofNat 138), none, .mv (.t (.ofNat 20))⟩, ⟨some (.ofNat 139), none, .bin .geq (.t (.ofNat 137)) (.t (.ofNat 138))⟩, ⟨some (.ofNat 10), none, .as (.t (.ofNat 139))⟩]
noncomputable def f122_r29 : List EOper := [⟨some (.ofNat 140), none, .mv (.t (.ofNat 0))⟩, ⟨some (.ofNat 141), none, .mv (.t (.ofNat 16))⟩, ⟨some (.ofNat 142), none, .bin .add (.t (.ofNat 141)) (.c (.i .i64 (.ofNat 1)))⟩, ⟨some (.ofNat 143), none, .mv (.t (.ofNat 2))⟩, ⟨some (.ofNat 144), none, .mv (.t (.ofNat 3))⟩, ⟨some (.ofNat 145), none, .mv (.t (.ofNat 4))⟩, ⟨some (.ofNat 146), none, .call (.c (.fn (.ofNat 122) [])) [(.t (.ofNat 140)), (.t (.ofNat 142)), (.t (.ofNat 143)), (.t (.ofNat 144)), (.t (.ofNat 145))]⟩]
noncomputable def f122_r30 : List EOper := [⟨some (.ofNat 147), none, .mv (.t (.ofNat 16))⟩, ⟨some (.ofNat 2), none, .as (.t (.ofNat 147))⟩]
noncomputable def f122_l0 : EC := (.block 1 (.seq (.reg f122_r2) (.seq (.seq (.reg f122_r3) (.cond (.t (.ofNat 25)) (.seq (.reg f122_r4) .ret) .skip)) (.seq (.seq (.reg f122_r5) (.cond (.t (.ofNat 32)) (.seq (.reg f122_r6) .ret) .skip)) (.seq (.seq (.reg f122_r7) (.cond (.t (.ofNat 39)) (.seq (.reg f122_r8) (.reg f122_r9)) .skip)) (.seq (.reg f122_r10) (.seq (.seq (.reg f122_r11) (.cond (.t (.ofNat 56)) (.seq (.reg f122_r12) (.seq (.reg f122_r13) (.reg f122_r14))) .skip)) (.seq (.seq (.reg f122_r15) (.cond (.t (.ofNat 75)) (.seq (.reg f122_r16) (.cond (.t (.ofNat 80)) .ret .skip)) .skip)) (.seq (.seq (.draw f122_r17) (.cond (.t (.ofNat 97)) (.seq (.reg f122_r18) (.seq (.reg f122_r19) (.exit 1))) .skip)) (.seq (.reg f122_r20) (.seq (.reg f122_r21) (.seq (.reg f122_r22) (.seq (.reg f122_r23) (.seq (.reg f122_r24) (.cond (.t (.ofNat 125)) (.seq (.reg f122_r25) (.seq (.reg f122_r26) (.reg f122_r27))) (.seq (.reg f122_r28) (.seq (.reg f122_r29) (.reg f122_r30))))))))))))))))))
noncomputable def f122_c : EC := (.seq (.reg f122_r0) (.seq (.reg f122_r1) (.block 0 (.loop f122_l0))))
noncomputable def f122 : EF := ⟨148, [], f122_c, none⟩
theorem f122_rs : f122.rs = [] := of_eq_true (eq_self _)
noncomputable def f109_r0 : List EOper := [⟨some (.ofNat 5), none, .mv (.t (.ofNat 0))⟩, ⟨some (.ofNat 6), none, .len (.t (.ofNat 5))⟩, ⟨some (.ofNat 4), none, .as (.t (.ofNat 6))⟩]
noncomputable def f109_r1 : List EOper := [⟨some (.ofNat 7), none, .mv (.t (.ofNat 0))⟩, ⟨some (.ofNat 8), none, .mv (.t (.ofNat 4))⟩, ⟨some (.ofNat 9), none, .mv (.t (.ofNat 4))⟩, ⟨some (.ofNat 10), none, .conv .u64 (.t (.ofNat 9))⟩, ⟨some (.ofNat 11), none, .call (.c (.fn (.ofNat 107) [])) [(.t (.ofNat 10))]⟩, ⟨some (.ofNat 12), none, .mv (.t (.ofNat 1))⟩, ⟨some (.ofNat 13), none, .call (.c (.fn (.ofNat 122) [])) [(.t (.ofNat 7)), (.c (.i .i64 (.ofNat 0))), (.t (.ofNat 8)), (.t (.ofNat 11)), (.t (.ofNat 12))]⟩]
noncomputable def f109_c : EC := (.seq (.reg f109_r0) (.reg f109_r1))
noncomputable def f109 : EF := ⟨14, [], f109_c, none⟩
theorem f109_rs : f109.rs = [] := of_eq_true (eq_self _)
noncomputable def f104_r0 : List EOper := [⟨some (.ofNat 3), none, .box 1 (.t (.ofNat 1))⟩]
noncomputable def f104_r1 : List EOper := [⟨some (.ofNat 4), none, .mv (.t (.ofNat 0))⟩, ⟨some (.ofNat 5), none, .mkfn (.ofNat 110) [(.t (.ofNat 3))]⟩, ⟨some (.ofNat 6), none, .call (.c (.fn (.ofNat 109) [])) [(.t (.ofNat 4)), (.t (.ofNat 5))]⟩]
noncomputable def f104_c : EC := (.seq (.reg f104_r0) (.reg f104_r1))
noncomputable def f104 : EF := ⟨7, [], f104_c, none⟩
theorem f104_rs : f104.rs = [] := of_eq_true (eq_self _)
noncomputable def f93_r0 : List EOper := [⟨some (.ofNat 3), none, .box 49 (.t (.ofNat 1))⟩, ⟨some (.ofNat 4), none, .as (.c .sn)⟩]
noncomputable def f93_r1 : List EOper := [⟨some (.ofNat 7), none, .mv (.t (.ofNat 0))⟩, ⟨some (.ofNat 8), none, .mkslice 1 [(.i .i64 (.ofNat 0))] (.t (.ofNat 7))⟩, ⟨some (.ofNat 5), none, .as (.t (.ofNat 8))⟩]
noncomputable def f93_r2 : List EOper := [⟨some (.ofNat 9), none, .mv (.t (.ofNat 0))⟩, ⟨some (.ofNat 10), none, .mv (.c (.i .i64 (.ofNat 0)))⟩]
noncomputable def f93_r3 : List EOper := [⟨some (.ofNat 11), none, .bin .lss (.t (.ofNat 10)) (.t (.ofNat 9))⟩]
noncomputable def f93_r4 : List EOper := [⟨some (.ofNat 12), none, .mv (.t (.ofNat 10))⟩, ⟨some (.ofNat 6), none, .as (.t (.ofNat 12))⟩]
noncomputable def f93_r5 : List EOper := [⟨some (.ofNat 13), none, .mv (.t (.ofNat 5))⟩, ⟨some (.ofNat 14), none, .mv (.t (.ofNat 6))⟩, ⟨some (.ofNat 15), none, .mv (.t (.ofNat 6))⟩, ⟨some (.ofNat 16), none, .iads 1 (.t (.ofNat 13)) (.t (.ofNat 14))⟩, ⟨none, none, .st 1 (.t (.ofNat 16)) (.t (.ofNat 15))⟩]
noncomputable def f93_r6 : List EOper := [⟨some (.ofNat 17), none, .bin .add (.t (.ofNat 10)) (.c (.i .i64 (.ofNat 1)))⟩, ⟨some (.ofNat 10), none, .mv (.t (.ofNat 17))⟩]
noncomputable def f93_l0 : EC := (.seq (.reg f93_r3) (.seq (.cond (.t (.ofNat 11)) .skip (.exit 0)) (.seq (.block 1 (.seq (.reg f93_r4) (.reg f93_r5))) (.reg f93_r6))))
noncomputable def f93_r7 : List EOper := [⟨some (.ofNat 18), none, .mv (.t (.ofNat 5))⟩, ⟨some (.ofNat 19), none, .mkfn (.ofNat 105) [(.t (.ofNat 3))]⟩, ⟨some (.ofNat 20), none, .call (.c (.fn (.ofNat 104) [])) [(.t (.ofNat 18)), (.t (.ofNat 19))]⟩]
noncomputable def f93_r8 : List EOper := [⟨some (.ofNat 21), none, .mv (.t (.ofNat 5))⟩, ⟨some (.ofNat 4), none, .as (.t (.ofNat 21))⟩]
noncomputable def f93_c : EC := (.seq (.reg f93_r0) (.seq (.reg f93_r1) (.seq (.seq (.reg f93_r2) (.block 0 (.loop f93_l0))) (.seq (.reg f93_r7) (.seq (.reg f93_r8) .ret)))))
noncomputable def f93 : EF := ⟨22, [.tmp (.ofNat 4)], f93_c, none⟩
theorem f93_rs : f93.rs = [.tmp (.ofNat 4)] := of_eq_true (eq_self _)
/-- What a sort leaves alone. -/
structure OnlyO (v : V) (h h' : H) : Prop where
  nx : h'.nx = h.nx
  old : ∀ id, NotIn id v → h'.get id = h.get id
theorem OnlyO.refl {v : V} {h : H} : OnlyO v h h := ⟨rfl, fun _ _ => rfl⟩
theorem OnlyO.hc {v : V} {h h' : H} (o : OnlyO v h h') (hc : HC h) (hv : ∀ id off n sz, v = .sl id off n sz → id.nat < h.nx.nat) : HC h' := fun id hid => by
  rw [o.nx] at hid
  rw [o.old id (fun off n sz e => by have := hv _ _ _ _ e; omega)]
  exact hc id hid
theorem OnlyO.put {v : V} {h h' : H} {id : K} {x : Blk} (o : OnlyO v h h') (hv : ∃ off n sz, v = .sl id off n sz) : OnlyO v h (h'.put id x) := ⟨o.nx, fun id' hn => by
  obtain ⟨off, n, sz, e⟩ := hv
  rw [get_put_other (fun q => hn off n sz (by rw [q]; exact e))]
  exact o.old id' hn⟩
theorem OnlyO.grow {v : V} {h h' : H} {b : Nat} (o : OnlyO v h h') (ho : Own b v) (hv : ∀ id off n sz, v = .sl id off n sz → id.nat < h.nx.nat) : Grow b h h' := ⟨by rw [o.nx]; exact Nat.le_refl _, fun id hi => o.old id (ho.notIn hi), fun hc => o.hc hc hv⟩
theorem swap_o {p x : Int} {B : List Int} : ∀ {A : List Int}, ((A ++ p :: x :: B).set (A.length + 1) p).set A.length x = A ++ x :: p :: B
  | [] => rfl
  | a :: A => by simp
def ltR (L : List Bool) (x y : Int) : Bool := rat L x.toNat y.toNat
def cmR (L : List Bool) (x y : Nat) : Int := if rat L x y = true then -1 else if rat L y x = true then 1 else 0
def All7 (S : List Int) : Prop := ∀ x ∈ S, ∃ a : Nat, a < 7 ∧ x = (a : Int)
structure SoE (L : List Bool) (idr idb : K) (h : H) : Prop where
  er : h.get idr = rC L
  eb : h.get idb = .cells 1 [.fn (K.ofNat 105) [.p idr 0]]
structure CallsSo (fs : T EF) : Prop where
  c105 : fs.get (K.ofNat 105) = some f105
  c110 : fs.get (K.ofNat 110) = some f110
  c128 : fs.get (K.ofNat 128) = some f128
  c120 : fs.get (K.ofNat 120) = some f120
  c107 : fs.get (K.ofNat 107) = some f107
  c122 : fs.get (K.ofNat 122) = some f122
  c109 : fs.get (K.ofNat 109) = some f109
  c104 : fs.get (K.ofNat 104) = some f104
section
variable {fs : T EF} {h : H} {v : V} {S : List Int} {L : List Bool} {idr idb : K}
theorem f105_ret {x y : Nat} (hL : L.length = 49) (hx : x < 7) (hy : y < 7) (er : h.get idr = rC L) : Ret fs f105 [.i .i64 (x : Int), .i .i64 (y : Int), .p idr 0] h fun r h' => r = .b (rat L x y) ∧ h' = h := by
  apply ret_of rfl
  show W fs none f105_c _ _ _
  unfold f105_c
  have l := rC_ld hx hy hL er
  simp (disch := omega) only [f105_r0, f105_r1, f105_rs, w_reg, w_seq, w_ret, seqK_n, retK_r, x_nil, x_mv, x_as, x_ld, x_iadr, kx, rvP_ok, ev_t, ev_c, getV_some, putD_some, onP_p, oGet_s, idx_n, readRs_nil, readRs_t, retV_1, frame_3, Option.some.injEq, exists_eq_left', getK_set, Nat.reduceEqDiff, ↓reduceIte, l, and_self]
theorem f110_ret {x y : Nat} (k : CallsSo fs) (hL : L.length = 49) (hx : x < 7) (hy : y < 7) (e : SoE L idr idb h) : Ret fs f110 [.i .i64 (x : Int), .i .i64 (y : Int), .p idb 0] h fun r h' => r = .i .i64 (cmR L x y) ∧ h' = h := by
  apply ret_of rfl
  show W fs none f110_c _ _ _
  unfold f110_c
  have l := load_p (off := 0) e.eb (show nth [V.fn (K.ofNat 105) [.p idr 0]] 0 = some _ from rfl)
  unfold cmR
  simp (disch := omega) only [f110_r0, f110_r1, w_reg, w_seq, w_block, seqK_n, x_nil, x_mv, x_as, x_ld, x_call, kx, rvP_ok, ev_t, ev_c, evs_nil, evs_cons, getV_some, putD_some, frame_3, of0, getK_set, Nat.reduceEqDiff, ↓reduceIte, l]
  refine (callP_of (ef := f105) (args := [.i .i64 (x : Int), .i .i64 (y : Int)]) (caps := [.p idr 0]) k.c105 rfl (f105_ret hL hx hy e.er)).mono ?_
  rintro r h1 ⟨rfl, rfl⟩
  cases h1_ : rat L x y with
  | true =>
    simp (disch := omega) only [f110_r2, f110_rs, w_reg, w_seq, w_cond, w_ret, seqK_n, seqK_r, atK_r, ckB_b, cbB_b, true_and, retK_r, x_nil, x_as, kx, ev_t, ev_c, getV_some, putD_some, oGet_s, readRs_nil, readRs_t, retV_1, Option.some.injEq, exists_eq_left', getK_set, ↓reduceIte]
    exact ⟨rfl, trivial⟩
  | false =>
    simp (disch := omega) only [f110_r3, w_reg, w_seq, w_cond, seqK_n, ckB_b, cbB_b, true_and, x_nil, x_mv, x_as, x_ld, x_call, kx, rvP_ok, ev_t, evs_nil, evs_cons, getV_some, putD_some, getK_set, Nat.reduceEqDiff, ↓reduceIte, Bool.false_eq_true, l]
    refine (callP_of (ef := f105) (args := [.i .i64 (y : Int), .i .i64 (x : Int)]) (caps := [.p idr 0]) k.c105 rfl (f105_ret hL hy hx e.er)).mono ?_
    rintro r h1 ⟨rfl, rfl⟩
    cases h2_ : rat L y x with
    | true => simp (disch := omega) only [f110_r4, f110_rs, w_reg, w_seq, w_cond, w_ret, seqK_n, seqK_r, atK_r, ckB_b, cbB_b, retK_r, x_nil, x_as, kx, ev_t, ev_c, getV_some, putD_some, oGet_s, readRs_nil, readRs_t, retV_1, of1, Option.some.injEq, exists_eq_left', getK_set, ↓reduceIte, and_self]
    | false => simp (disch := omega) only [f110_r5, f110_rs, w_skip, w_reg, w_seq, w_cond, w_ret, seqK_n, atK_n, ckB_b, cbB_b, retK_r, x_nil, x_as, kx, ev_t, ev_c, getV_some, putD_some, oGet_s, readRs_nil, readRs_t, retV_1, of0, Option.some.injEq, exists_eq_left', getK_set, ↓reduceIte, Bool.false_eq_true, and_self, Bool.false_eq_true]
def f128_I (h : H) (v c : V) (L : List Bool) (S : List Int) (i : Nat) (fr : Fr) (h1 : H) : Prop := 1 ≤ i ∧ i ≤ S.length ∧ OnlyO v h h1 ∧ Sl iE h1 v (srtR (ltR L) (S.take i) ++ S.drop i) ∧ fr.get (K.ofNat 0) = some (v) ∧ fr.get (K.ofNat 1) = some (.i .i64 0) ∧ fr.get (K.ofNat 2) = some (.i .i64 (S.length : Int)) ∧ fr.get (K.ofNat 3) = some (c) ∧ fr.get (K.ofNat 8) = some (.i .i64 (i : Int))
def f128_J (h : H) (v c : V) (L : List Bool) (S P R : List Int) (x : Int) (i j : Nat) (fr : Fr) (h1 : H) : Prop := j ≤ i ∧ OnlyO v h h1 ∧ Sl iE h1 v ((P.take j ++ x :: P.drop j) ++ R) ∧ stopI (ltR L) x P P.length = stopI (ltR L) x P j ∧ fr.get (K.ofNat 0) = some (v) ∧ fr.get (K.ofNat 1) = some (.i .i64 0) ∧ fr.get (K.ofNat 2) = some (.i .i64 (S.length : Int)) ∧ fr.get (K.ofNat 3) = some (c) ∧ fr.get (K.ofNat 8) = some (.i .i64 (i : Int)) ∧ fr.get (K.ofNat 9) = some (.i .i64 (j : Int))
theorem f128_ret (k : CallsSo fs) (hL : L.length = 49) (hv : Sl iE h v S) (hS : S.length ≤ 1000) (h1 : 1 ≤ S.length) (h7 : All7 S) (e : SoE L idr idb h) (nr : NotIn idr v) (nb : NotIn idb v) (hc : HC h) : Ret fs f128 [v, .i .i64 0, .i .i64 (S.length : Int), .fn (.ofNat 110) [.p idb 0]] h fun r h' => r = .tup [] ∧ Sl iE h' v (srtR (ltR L) S) ∧ OnlyO v h h' := by
  have hlt0 := hv.lt hc
  apply ret_of rfl
  show W fs none f128_c _ _ _
  unfold f128_c
  simp (disch := omega) only [f128_r0, w_reg, w_seq, w_block, seqK_n, x_nil, x_mv, x_as, x_bin, kx, rvP_ok, okv_some, ev_t, ev_c, getV_some, putD_some, bin_add, frame_4, of1, getK_set, Nat.reduceEqDiff, ↓reduceIte, fw64]
  refine W_loop (f128_I h v (.fn (K.ofNat 110) [.p idb 0]) L S) (fun i => S.length - i) ?_ 1 ⟨by omega, h1, OnlyO.refl, ?_, by simp (disch := omega) only [getK_set, Nat.reduceEqDiff, ↓reduceIte, and_self, Int.natCast_one, Int.zero_add]⟩
  · rintro i fr h2 ⟨hi0, hi, hO, hs, g0, g1, g2, g3, g8⟩
    unfold f128_l1
    by_cases hlt : i < S.length
    · have d0 : decide ((i : Int) < (S.length : Int)) = true := decide_eq_true (by omega)
      have hP : (srtR (ltR L) (S.take i)).length = i := by rw [srtR_len]; simp; omega
      have hsn : srtR (ltR L) (S.take (i + 1)) = insR (ltR L) S[i] (srtR (ltR L) (S.take i)) := by rw [List.take_succ_eq_append_getElem hlt, srtR_snoc]
      have hdr : S.drop i = S[i] :: S.drop (i + 1) := List.drop_eq_getElem_cons hlt
      have hx7 := h7 S[i] (List.getElem_mem _)
      have hP7 : All7 (srtR (ltR L) (S.take i)) := fun y hy => h7 y (List.mem_of_mem_take (srtR_perm.mem_iff.1 hy))
      generalize S[i] = x at *
      generalize srtR (ltR L) (S.take i) = P at *
      generalize hRe : S.drop (i + 1) = R at *
      obtain ⟨xn, hxn, hxe⟩ := hx7
      simp (disch := omega) only [f128_r1, f128_r2, w_skip, w_reg, w_seq, w_cond, w_block, seqK_n, ckB_b, cbB_b, true_and, x_nil, x_mv, x_as, x_bin, kx, rvP_ok, okv_some, ev_t, getV_some, putD_some, bin_lss, getK_set, Nat.reduceEqDiff, ↓reduceIte, g2, g8, d0]
      refine W_loop (f128_J h v (.fn (K.ofNat 110) [.p idb 0]) L S P R x i) (fun j => j) ?_ i ⟨Nat.le_refl _, hO, by rw [List.take_of_length_le (by omega), List.drop_eq_nil_of_le (by omega), List.append_assoc]; rw [hdr] at hs; exact hs, by rw [hP], by simp (disch := omega) only [getK_set, Nat.reduceEqDiff, ↓reduceIte, g0, g1, g2, g3, g8, and_self]⟩
      clear hs hO g0 g1 g2 g3 g8 fr
      rintro j fr h3 ⟨hj, hO, hs, hB, g0, g1, g2, g3, g8, g9⟩
      have fin : stopI (ltR L) x P j = j → Sl iE h3 v (srtR (ltR L) (S.take (i + 1)) ++ R) := fun q => by
        rw [hsn]; unfold insR; rw [hB, q]; exact hs
      unfold f128_l0
      rcases j with _ | j
      · have d1 : decide ((0 : Int) > 0) = false := rfl
        simp (disch := omega) only [f128_r3, f128_r6, w_reg, w_draw, w_seq, w_cond, w_exit, seqK_n, seqK_e, atK_n, atK_e, loopK_n, loopK_e, ckB_b, cbB_b, okG_b, asG_t, true_and, x_nil, x_g, x_mv, x_as, x_bin, kx, kg, xg_nil, xg_g, xg_mv, xg_pick, xg_bin, xd_cons, fresh_nil, stK_n, stK_s, stay_nil, rvP_ok, okv_some, ev_t, ev_c, getV_some, putD_some, bin_add, bin_gtr, pick_b, of0, of1, getK_set, Nat.reduceEqDiff, ↓reduceIte, Bool.false_eq_true, g1, g8, g9, Int.natCast_zero, d1, fw64]
        exact ⟨i + 1, by omega, by omega, by omega, hO, by rw [hRe]; exact fin rfl, by simp (disch := omega) only [getK_set, Nat.reduceEqDiff, ↓reduceIte, g0, g1, g2, g3, and_self, Int.natCast_add, Int.natCast_one]⟩
      · have d1 : decide (((j + 1 : Nat) : Int) > 0) = true := decide_eq_true (by omega)
        have hj1 : ((j + 1 : Nat) : Int) - 1 = (j : Int) := by omega
        have hjP : j < P.length := by omega
        have htk : P.take (j + 1) = P.take j ++ [P[j]] := List.take_succ_eq_append_getElem hjP
        have hdj : P.drop j = P[j] :: P.drop (j + 1) := List.drop_eq_getElem_cons hjP
        have hgd : P.getD j 0 = P[j] := by rw [List.getD_eq_getElem?_getD, List.getElem?_eq_getElem hjP]; rfl
        have hst : stopI (ltR L) x P (j + 1) = bif ltR L x P[j] then stopI (ltR L) x P j else j + 1 := by rw [← hgd]; rfl
        have hA : (P.take j).length = j := by simp; omega
        have hp7 := hP7 P[j] (List.getElem_mem _)
        rw [htk] at hs
        have hs' : Sl iE h3 v (P.take j ++ P[j] :: x :: (P.drop (j + 1) ++ R)) := by rw [List.append_assoc (P.take j), List.append_assoc (P.take j)] at hs; exact hs
        have hTe : P.take (j + 1) = P.take j ++ [P[j]] := htk
        generalize P[j] = p at *
        generalize hAe : P.take j = A at *
        generalize hBe : P.drop (j + 1) = B at *
        obtain ⟨pn, hpn, hpe⟩ := hp7
        have hlen : (A ++ p :: x :: (B ++ R)).length = A.length + (B ++ R).length + 2 := by simp; omega
        obtain ⟨p1, a1, a2⟩ := hs'.at (j + 1) (by omega)
        obtain ⟨p0, b1, b2⟩ := hs'.at j (by omega)
        have x1 : (A ++ p :: x :: (B ++ R))[j + 1]'(by omega) = x := by simp [← hA]
        have x0 : (A ++ p :: x :: (B ++ R))[j]'(by omega) = p := by simp [← hA]
        rw [x1] at a2
        rw [x0] at b2
        have e3 : SoE L idr idb h3 := ⟨(hO.old _ nr).trans e.er, (hO.old _ nb).trans e.eb⟩
        have hcall := callP_of (fs := fs) (h := h3) (ef := f110) (args := [.i .i64 (xn : Int), .i .i64 (pn : Int)]) (caps := [.p idb 0]) k.c110 rfl (f110_ret k hL hxn hpn e3)
        rw [← hxe, ← hpe] at hcall
        have hltx : ltR L x p = rat L xn pn := by unfold ltR; rw [hxe, hpe]; rfl
        have hc3 := hO.hc hc hlt0
        cases d2 : rat L xn pn with
        | false =>
          have dc : decide (cmR L xn pn < 0) = false := by
            unfold cmR; rw [d2, if_neg (by simp)]
            split <;> rfl
          rw [hltx, d2] at hst
          simp (disch := omega) only [f128_r3, w_draw, w_seq, okG_b, asG_t, true_and, x_g, x_call, kg, xg_nil, xg_g, xg_mv, xg_ld, xg_bin, xg_iads, xd_cons, fresh_nil, stK_s, stay_nil, rvP_ok, okv_some, ev_t, ev_c, evs_nil, evs_cons, getV_some, putD_some, bin_sub, bin_gtr, of0, of1, getK_set, Nat.reduceEqDiff, ↓reduceIte, g0, g1, g3, g9, d1, hj1, a1, a2, b1, b2, iE, fw64]
          refine hcall.mono ?_
          rintro r h4 ⟨rfl, rfl⟩
          simp (disch := omega) only [f128_r6, w_reg, w_cond, w_exit, seqK_n, seqK_e, atK_n, atK_e, loopK_n, loopK_e, ckB_b, cbB_b, okG_b, asG_t, true_and, x_nil, x_mv, x_as, x_bin, kx, kg, xg_nil, xg_g, xg_pick, xg_bin, xd_cons, fresh_nil, stK_n, stay_nil, rvP_ok, okv_some, ev_t, ev_c, getV_some, putD_some, bin_add, bin_lss, pick_b, of1, getK_set, Nat.reduceEqDiff, ↓reduceIte, Bool.false_eq_true, g8, dc, fw64]
          exact ⟨i + 1, by omega, by omega, by omega, hO, by rw [hRe]; exact fin hst, by simp (disch := omega) only [getK_set, Nat.reduceEqDiff, ↓reduceIte, g0, g1, g2, g3, and_self, Int.natCast_add, Int.natCast_one]⟩
        | true =>
          have dc : decide (cmR L xn pn < 0) = true := by
            unfold cmR; rw [d2, if_pos rfl]; rfl
          rw [hltx, d2] at hst
          obtain ⟨p1', id, m, cs', z1, z2, z3, ⟨off, nn, sz, z4⟩, z5⟩ := hs'.st (i := j + 1) (by omega) (x := p) (c := .i .i64 p) rfl rfl hc3
          obtain rfl : p1 = p1' := by have := (a1 .i64 h3).symm.trans (z1 .i64 h3); injection this
          have hc4 := (hO.put (x := .cells m cs') ⟨_, _, _, z4⟩).hc hc hlt0
          obtain ⟨p0', id2, m2, cs2, y1, y2, y3, y4, y5⟩ := z3.st (i := j) (by simp; omega) (x := x) (c := .i .i64 x) rfl rfl hc4
          obtain rfl : p0 = p0' := by have := (b1 .i64 h3).symm.trans (y1 .i64 h3); injection this
          have hsw : ((A ++ p :: x :: (B ++ R)).set (j + 1) p).set j x = (A ++ x :: (p :: B)) ++ R := by
            have := swap_o (p := p) (x := x) (B := B ++ R) (A := A)
            rw [hA] at this
            rw [this]; simp
          rw [hsw] at y3
          have hvb := hs.beq
          simp (disch := omega) only [f128_r3, w_draw, w_seq, okG_b, asG_t, true_and, x_g, x_call, kg, xg_nil, xg_g, xg_mv, xg_ld, xg_bin, xg_iads, xd_cons, fresh_nil, stK_s, stay_nil, rvP_ok, okv_some, ev_t, ev_c, evs_nil, evs_cons, getV_some, putD_some, bin_sub, bin_gtr, of0, of1, getK_set, Nat.reduceEqDiff, ↓reduceIte, g0, g1, g3, g9, d1, hj1, a1, a2, b1, b2, iE, fw64]
          refine hcall.mono ?_
          rintro r h4 ⟨rfl, rfl⟩
          simp (disch := omega) only [f128_r4, f128_r5, w_skip, w_reg, w_draw, w_seq, w_cond, w_block, seqK_n, atK_n, loopK_n, ckB_b, cbB_b, okG_b, asG_t, true_and, x_nil, x_mv, x_as, x_st, x_bin, kx, kg, xg_nil, xg_g, xg_mv, xg_pick, xg_ld, xg_bin, xg_iads, xd_cons, fresh_nil, stK_n, stK_s, stay_nil, stay_cons, again_ok, stay_mv, beq_i, stay_bin, rvP_ok, okv_some, ev_t, ev_c, getV_some, putD_some, putD_none, bin_sub, bin_lss, pick_b, of1, getK_set, Nat.reduceEqDiff, ↓reduceIte, g0, g9, dc, hj1, a1, a2, b1, b2, z2, y2, hvb, iE, fw64]
          refine ⟨j, by omega, by omega, (hO.put ⟨_, _, _, z4⟩).put y4, ?_, by rw [hB]; exact hst, by simp (disch := omega) only [getK_set, Nat.reduceEqDiff, ↓reduceIte, g0, g1, g2, g3, g8, and_self]⟩
          rw [hAe, hdj]; exact y3
    · have d0 : decide ((i : Int) < (S.length : Int)) = false := decide_eq_false (by omega)
      have ei : i = S.length := by omega
      rw [ei, List.take_length, List.drop_length, List.append_nil] at hs
      simp (disch := omega) only [f128_r1, f128_rs, w_reg, w_seq, w_cond, w_exit, seqK_n, seqK_e, atK_e, loopK_e, ckB_b, cbB_b, true_and, retK_n, x_nil, x_mv, x_bin, kx, rvP_ok, okv_some, ev_t, getV_some, putD_some, bin_lss, readRs_nil, retV_0, Option.some.injEq, exists_eq_left', getK_set, Nat.reduceEqDiff, ↓reduceIte, Bool.false_eq_true, g2, g8, d0, true_and]
      exact ⟨hs, hO⟩
  · have : S.take 1 = [S[0]] := by rw [List.take_succ_eq_append_getElem (by omega)]; simp
    rw [this, show srtR (ltR L) [S[0]] = [S[0]] from rfl, ← this, List.take_append_drop]; exact hv
theorem f120_ret {n : Nat} (hn : n ≤ 12) : Ret fs f120 [.i .u64 (n : Int)] h fun r h' => (∃ b, r = .i .i64 b) ∧ h' = h := by
  rcases (show n = 0 ∨ n = 1 ∨ n = 2 ∨ n = 3 ∨ n = 4 ∨ n = 5 ∨ n = 6 ∨ n = 7 ∨ n = 8 ∨ n = 9 ∨ n = 10 ∨ n = 11 ∨ n = 12 by omega) with rfl | rfl | rfl | rfl | rfl | rfl | rfl | rfl | rfl | rfl | rfl | rfl | rfl <;> exact ⟨20, _, _, rfl, ⟨_, rfl⟩, rfl⟩
theorem f107_ret {n : Nat} (k : CallsSo fs) (hn : n ≤ 12) : Ret fs f107 [.i .u64 (n : Int)] h fun r h' => (∃ b, r = .i .i64 b) ∧ h' = h := by
  apply ret_of rfl
  show W fs none f107_c _ _ _
  unfold f107_c
  simp (disch := omega) only [f107_r0, f107_r2, w_skip, w_reg, w_seq, w_cond, seqK_n, ckB_b, cbB_b, true_and, x_nil, x_mv, x_as, x_call, ev_t, ev_c, evs_nil, evs_cons, getV_some, putD_some, frame_1, of0, getK_set, Nat.reduceEqDiff, ↓reduceIte, Bool.false_eq_true]
  refine (callP_0 (ef := f120) k.c120 rfl (f120_ret hn)).mono ?_
  rintro r h1 ⟨⟨b, rfl⟩, rfl⟩
  simp (disch := omega) only [f107_rs, w_ret, seqK_n, retK_r, x_nil, x_as, kx, ev_t, getV_some, putD_some, oGet_s, readRs_nil, readRs_t, retV_1, Option.some.injEq, exists_eq_left', getK_set, ↓reduceIte, and_true]
  exact ⟨b, rfl⟩
theorem f122_ret {b : Int} (k : CallsSo fs) (hL : L.length = 49) (hv : Sl iE h v S) (hS : S.length ≤ 12) (h1 : 1 ≤ S.length) (h7 : All7 S) (e : SoE L idr idb h) (nr : NotIn idr v) (nb : NotIn idb v) (hc : HC h) : Ret fs f122 [v, .i .i64 0, .i .i64 (S.length : Int), .i .i64 b, .fn (.ofNat 110) [.p idb 0]] h fun r h' => r = .tup [] ∧ Sl iE h' v (srtR (ltR L) S) ∧ OnlyO v h h' := by
  apply ret_of rfl
  show W fs none f122_c _ _ _
  unfold f122_c
  have d0 : decide ((S.length : Int) ≤ 12) = true := decide_eq_true (by omega)
  have e0 : (S.length : Int) - 0 = (S.length : Int) := Int.sub_zero _
  simp (disch := omega) only [f122_r0, f122_r1, w_reg, w_seq, w_block, seqK_n, x_nil, x_as, ev_c, putD_some, frame_5]
  refine W_loop (fun (_ : Unit) fr h1 => h1 = h ∧ fr.get (K.ofNat 0) = some (v) ∧ fr.get (K.ofNat 1) = some (.i .i64 0) ∧ fr.get (K.ofNat 2) = some (.i .i64 (S.length : Int)) ∧ fr.get (K.ofNat 4) = some (.fn (K.ofNat 110) [.p idb 0])) (fun _ => 0) ?_ () ⟨rfl, by simp (disch := omega) only [getK_set, Nat.reduceEqDiff, ↓reduceIte, and_self]⟩
  rintro _ fr h2 ⟨rfl, g0, g1, g2, g4⟩
  unfold f122_l0
  simp (disch := omega) only [f122_r2, f122_r3, f122_r4, w_reg, w_seq, w_cond, w_block, seqK_n, ckB_b, cbB_b, true_and, x_nil, x_mv, x_as, x_bin, x_call, kx, rvP_ok, okv_some, ev_t, ev_c, evs_nil, evs_cons, getV_some, putD_some, bin_sub, bin_leq, of12, getK_set, Nat.reduceEqDiff, ↓reduceIte, g0, g1, g2, g4, e0, d0, fw64]
  refine (callP_0 (ef := f128) k.c128 rfl (f128_ret k hL hv (by omega) h1 h7 e nr nb hc)).mono ?_
  rintro r h3 ⟨rfl, hs, hO⟩
  simp (disch := omega) only [f122_rs, w_ret, seqK_n, seqK_r, atK_r, loopK_r, true_and, retK_r, x_nil, kx, putD_some, readRs_nil, retV_0, Option.some.injEq, exists_eq_left', true_and]
  exact ⟨hs, hO⟩
theorem f109_ret (k : CallsSo fs) (hL : L.length = 49) (hv : Sl iE h v S) (hS : S.length ≤ 12) (h1 : 1 ≤ S.length) (h7 : All7 S) (e : SoE L idr idb h) (nr : NotIn idr v) (nb : NotIn idb v) (hc : HC h) : Ret fs f109 [v, .fn (.ofNat 110) [.p idb 0]] h fun r h' => r = .tup [] ∧ Sl iE h' v (srtR (ltR L) S) ∧ OnlyO v h h' := by
  apply ret_of rfl
  show W fs none f109_c _ _ _
  unfold f109_c
  have hl := hv.len
  have fu : fw .u64 (S.length : Int) = (S.length : Int) := by
    show (bif Nat.ble S.length (kmax .u64) then Int.ofNat S.length else _) = _
    rw [Nat.ble_eq_true_of_le (show S.length ≤ kmax .u64 from by show S.length ≤ 18446744073709551615; omega)]; rfl
  simp (disch := omega) only [f109_r0, f109_r1, w_reg, w_seq, seqK_n, x_nil, x_mv, x_as, x_conv, x_call, x_len, kx, rvP_ok, ev_t, ev_c, evs_nil, evs_cons, getV_some, putD_some, onI_i, frame_2, of0, getK_set, Nat.reduceEqDiff, ↓reduceIte, hl, fu]
  refine (callP_0 (ef := f107) k.c107 rfl (f107_ret k hS)).mono ?_
  rintro r h2 ⟨⟨b, rfl⟩, rfl⟩
  simp (disch := omega) only [x_mv, x_call, kx, ev_t, ev_c, evs_nil, evs_cons, getV_some, putD_some, getK_set, Nat.reduceEqDiff, ↓reduceIte]
  refine (callP_0 (ef := f122) k.c122 rfl (f122_ret k hL hv hS h1 h7 e nr nb hc)).mono ?_
  rintro r h3 ⟨rfl, hs, hO⟩
  simp (disch := omega) only [f109_rs, true_and, retK_n, x_nil, kx, putD_some, readRs_nil, retV_0, Option.some.injEq, exists_eq_left', true_and]
  exact ⟨hs, hO⟩
theorem f104_ret {b : Nat} (k : CallsSo fs) (hL : L.length = 49) (hv : Sl iE h v S) (ho : Own b v) (hb : b ≤ h.nx.nat) (hS : S.length ≤ 12) (h1 : 1 ≤ S.length) (h7 : All7 S) (er : h.get idr = rC L) (nr : NotIn idr v) (hc : HC h) : Ret fs f104 [v, .fn (.ofNat 105) [.p idr 0]] h fun r h' => r = .tup [] ∧ Sl iE h' v (srtR (ltR L) S) ∧ Grow b h h' := by
  apply ret_of rfl
  show W fs none f104_c _ _ _
  unfold f104_c
  have cf : cellsN 1 (.fn (K.ofNat 105) [.p idr 0]) = some [.fn (K.ofNat 105) [.p idr 0]] := rfl
  have n1 := nx_new h (.cells 1 [.fn (K.ofNat 105) [.p idr 0]])
  have gr1 : Grow h.nx.nat h (h.new (.cells 1 [.fn (K.ofNat 105) [.p idr 0]])) := Grow.new (Nat.le_refl _) _
  have e1 : (h.new (.cells 1 [.fn (K.ofNat 105) [.p idr 0]])).get h.nx = .cells 1 [.fn (K.ofNat 105) [.p idr 0]] := get_new_same
  simp (disch := omega) only [f104_r0, f104_r1, w_reg, w_seq, seqK_n, x_nil, x_mv, x_box, x_mkfn, x_call, kx, rvP_ok, ev_t, ev_c, evs_nil, evs_cons, getV_some, putD_some, oGet_s, frame_2, getK_set, Nat.reduceEqDiff, ↓reduceIte, cf]
  generalize h.new (.cells 1 [.fn (K.ofNat 105) [.p idr 0]]) = h2 at *
  have hc2 := gr1.hc hc
  have hlt := hv.lt hc
  have hv2 := hv.grow hc gr1
  refine (callP_0 (ef := f109) k.c109 rfl (f109_ret k hL hv2 hS h1 h7 ⟨(gr1.old _ (hc.cells er)).trans er, e1⟩ nr (fun off n sz e => by have := hlt _ _ _ _ e; omega) hc2)).mono ?_
  rintro r h3 ⟨rfl, hs, hO⟩
  simp (disch := omega) only [f104_rs, true_and, retK_n, x_nil, kx, putD_some, readRs_nil, retV_0, Option.some.injEq, exists_eq_left', true_and]
  exact ⟨hs, (gr1.low hb).trans (hO.grow ho (hv2.lt hc2))⟩
def lnL (L : List Bool) (n : Nat) : List Int := srtR (ltR L) ((List.range n).map fun a : Nat => (a : Int))
theorem all7_range {n : Nat} (hn : n ≤ 7) : All7 ((List.range n).map fun a : Nat => (a : Int)) := fun x hx => by
  obtain ⟨a, ha, rfl⟩ := List.mem_map.1 hx
  exact ⟨a, by have := List.mem_range.1 ha; omega, rfl⟩
theorem range_set {n i : Nat} (hi : i < n) : (((List.range i).map fun a : Nat => (a : Int)) ++ List.replicate (n - i) 0).set i (i : Int) = ((List.range (i + 1)).map fun a : Nat => (a : Int)) ++ List.replicate (n - (i + 1)) 0 := by
  apply List.ext_getElem
  · simp; omega
  · intro a h1 h2
    simp only [List.length_set, List.length_append, List.length_map, List.length_range, List.length_replicate] at h1
    rw [List.getElem_set]
    by_cases e : i = a
    · subst e
      rw [if_pos rfl, List.getElem_append_left (by simp)]; simp
    · rw [if_neg e]
      by_cases h : a < i
      · rw [List.getElem_append_left (by simpa using h), List.getElem_append_left (by simp; omega)]; simp
      · rw [List.getElem_append_right (by simp; omega), List.getElem_append_right (by simp; omega)]; simp
def f93_I (h0 : H) (idr : K) (w : V) (L : List Bool) (n : Nat) (i : Nat) (fr : Fr) (h1 : H) : Prop := i ≤ n ∧ Grow h0.nx.nat h0 h1 ∧ HC h1 ∧ h1.get idr = rC L ∧ Sl iE h1 w (((List.range i).map fun a : Nat => (a : Int)) ++ List.replicate (n - i) 0) ∧ fr.get (K.ofNat 3) = some (.p idr 0) ∧ fr.get (K.ofNat 5) = some (w) ∧ fr.get (K.ofNat 9) = some (.i .i64 (n : Int)) ∧ fr.get (K.ofNat 10) = some (.i .i64 (i : Int))
theorem f93_ret {n : Nat} (k : CallsSo fs) (hL : L.length = 49) (hn1 : 1 ≤ n) (hn : n ≤ 7) (hc : HC h) : Ret fs f93 [.i .i64 (n : Int), rV L] h fun r h' => Sl iE h' r (lnL L n) ∧ Own h.nx.nat r ∧ Grow h.nx.nat h h' := by
  apply ret_of rfl
  show W fs none f93_c _ _ _
  unfold f93_c
  have c1 := rC_cells hL
  have n1 := nx_new h (.cells 49 (L.map V.b))
  have gr1 : Grow h.nx.nat h (h.new (.cells 49 (L.map V.b))) := Grow.new (Nat.le_refl _) _
  have e1 : (h.new (.cells 49 (L.map V.b))).get h.nx = rC L := get_new_same
  simp (disch := omega) only [f93_r0, w_reg, w_seq, seqK_n, x_nil, x_as, x_box, kx, rvP_ok, ev_t, ev_c, getV_some, putD_some, oGet_s, frame_2, getK_set, ↓reduceIte, c1]
  generalize h.new (.cells 49 (L.map V.b)) = h1 at *
  have hc1 := gr1.hc hc
  have hmk := mks_ints (h := h1) (k := .i64) (n := n) (by omega)
  have hs0 := mks_sl (h := h1) (n := n)
  have gr2 : Grow h1.nx.nat h1 (h1.new (.cells (n * 1) (rep [.i .i64 0] n))) := Grow.new (Nat.le_refl _) _
  have n2 := nx_new h1 (.cells (n * 1) (rep [.i .i64 0] n))
  simp (disch := omega) only [f93_r1, f93_r2, w_reg, w_seq, w_block, seqK_n, x_nil, x_mv, x_as, x_mks, kx, rvP_ok, ev_t, ev_c, getV_some, putD_some, of0, getK_set, Nat.reduceEqDiff, ↓reduceIte, hmk]
  generalize h1.new (.cells (n * 1) (rep [.i .i64 0] n)) = h2 at *
  have hc2 := gr2.hc hc1
  have gA : Grow h.nx.nat h h2 := gr1.trans (gr2.low (by omega))
  have er := (gr2.old h.nx (by omega)).trans e1
  have ow : Own h1.nx.nat (.sl h1.nx 0 n 1) := fun id off n sz e => by cases e; exact Nat.le_refl _
  have nrw : NotIn h.nx (.sl h1.nx 0 n 1) := ow.notIn (by omega)
  refine W_loop (f93_I h h.nx (.sl h1.nx 0 n 1) L n) (fun i => n - i) ?_ 0 ⟨by omega, gA, hc2, er, by simpa using hs0, by simp (disch := omega) only [getK_set, Nat.reduceEqDiff, ↓reduceIte, and_self, Int.natCast_zero]⟩
  rintro i fr h3 ⟨hi, hG, hc3, er3, hs, g3, g5, g9, g10⟩
  unfold f93_l0
  by_cases hlt : i < n
  · have d0 : decide ((i : Int) < (n : Int)) = true := decide_eq_true (by omega)
    obtain ⟨p, id, m, cs', z1, z2, z3, ⟨off, nn, sz, z4⟩, z5⟩ := hs.st (i := i) (by simp; omega) (x := (i : Int)) (c := .i .i64 (i : Int)) rfl rfl hc3
    rw [range_set hlt] at z3
    have hid : id = h1.nx := by cases z4; rfl
    subst hid
    have hlt3 := hs.lt hc3 _ _ _ _ rfl
    have gp : Grow h.nx.nat h3 (h3.put h1.nx (.cells m cs')) := Grow.put (by omega) hlt3 _
    simp (disch := omega) only [f93_r3, f93_r4, f93_r5, f93_r6, w_skip, w_reg, w_seq, w_cond, w_block, seqK_n, atK_n, loopK_n, ckB_b, cbB_b, true_and, x_nil, x_mv, x_as, x_st, x_bin, x_iads, kx, rvP_ok, okv_some, ev_t, ev_c, getV_some, putD_some, putD_none, bin_add, bin_lss, of1, getK_set, Nat.reduceEqDiff, ↓reduceIte, g5, g9, g10, d0, z1, z2, fw64]
    exact ⟨i + 1, by omega, by omega, hG.trans gp, gp.hc hc3, (get_put_other (kNe (by omega))).trans er3, z3, by simp (disch := omega) only [getK_set, Nat.reduceEqDiff, ↓reduceIte, g3, g5, g9, and_self, Int.natCast_add, Int.natCast_one]⟩
  · have d0 : decide ((i : Int) < (n : Int)) = false := decide_eq_false (by omega)
    have ei : i = n := by omega
    subst ei
    rw [Nat.sub_self, List.replicate_zero, List.append_nil] at hs
    have hlen : ((List.range i).map fun a : Nat => (a : Int)).length = i := by simp
    simp (disch := omega) only [f93_r3, f93_r7, w_reg, w_seq, w_cond, w_exit, seqK_n, seqK_e, atK_e, loopK_e, ckB_b, cbB_b, true_and, x_nil, x_mv, x_bin, x_mkfn, x_call, kx, rvP_ok, okv_some, ev_t, ev_c, evs_nil, evs_cons, getV_some, putD_some, bin_lss, getK_set, Nat.reduceEqDiff, ↓reduceIte, Bool.false_eq_true, g3, g5, g9, g10, d0]
    refine (callP_0 (ef := f104) k.c104 rfl (f104_ret (b := h1.nx.nat) k hL hs ow (by have := hG.nx; have := hs.lt hc3 _ _ _ _ rfl; omega) (by omega) (by omega) (all7_range hn) er3 nrw hc3)).mono ?_
    rintro r h4 ⟨rfl, hs4, g4⟩
    simp (disch := omega) only [f93_r8, f93_rs, w_reg, w_seq, w_ret, seqK_n, retK_r, x_nil, x_mv, x_as, kx, ev_t, getV_some, putD_some, oGet_s, readRs_nil, readRs_t, retV_1, Option.some.injEq, exists_eq_left', getK_set, Nat.reduceEqDiff, ↓reduceIte, g5]
    exact ⟨hs4, ow.low (by omega), hG.trans (g4.low (by omega))⟩
end
end Go.Ev
namespace Go.Ev
open Go Go.RowKit
noncomputable def f66_r0 : List EOper := [⟨some (.ofNat 4), none, .box 49 (.t (.ofNat 1))⟩, ⟨some (.ofNat 5), none, .box 49 (.t (.ofNat 2))⟩, ⟨some (.ofNat 6), none, .alloc 2 [.sn, .sn]⟩]
noncomputable def f66_r1 : List Stage := [⟨[⟨some (.ofNat 7), none, .mv (.t (.ofNat 0))⟩, ⟨some (.ofNat 8), none, .ldn 49 (.t (.ofNat 4))⟩, ⟨some (.ofNat 9), none, .ldn 49 (.t (.ofNat 5))⟩, ⟨some (.ofNat 10), none, .bslice 2 49 (List.replicate 98 (.b false)) [(0, 49, (.t (.ofNat 8))), (49, 49, (.t (.ofNat 9)))]⟩, ⟨some (.ofNat 13), none, .mv (.t (.ofNat 0))⟩, ⟨some (.ofNat 14), none, .ldn 49 (.t (.ofNat 4))⟩, ⟨some (.ofNat 15), none, .ldn 49 (.t (.ofNat 5))⟩], [], (some ⟨some (.ofNat 11), none, .call (.c (.fn (.ofNat 69) [])) [(.t (.ofNat 10))]⟩), [(.ofNat 10)]⟩, ⟨[], [⟨some (.ofNat 7), none, .mv (.t (.ofNat 0))⟩, ⟨some (.ofNat 13), none, .mv (.t (.ofNat 0))⟩, ⟨some (.ofNat 14), none, .ldn 49 (.t (.ofNat 4))⟩, ⟨some (.ofNat 15), none, .ldn 49 (.t (.ofNat 5))⟩], (some ⟨some (.ofNat 12), none, .call (.c (.fn (.ofNat 93) [])) [(.t (.ofNat 7)), (.t (.ofNat 11))]⟩), []⟩, ⟨[], [⟨some (.ofNat 13), none, .mv (.t (.ofNat 0))⟩, ⟨some (.ofNat 14), none, .ldn 49 (.t (.ofNat 4))⟩, ⟨some (.ofNat 15), none, .ldn 49 (.t (.ofNat 5))⟩], (some ⟨some (.ofNat 16), none, .call (.c (.fn (.ofNat 70) [])) [(.t (.ofNat 15))]⟩), []⟩, ⟨[⟨some (.ofNat 17), none, .bslice 2 49 (List.replicate 98 (.b false)) [(0, 49, (.t (.ofNat 14))), (49, 49, (.t (.ofNat 16)))]⟩], [⟨some (.ofNat 13), none, .mv (.t (.ofNat 0))⟩, ⟨some (.ofNat 14), none, .ldn 49 (.t (.ofNat 4))⟩], (some ⟨some (.ofNat 18), none, .call (.c (.fn (.ofNat 69) [])) [(.t (.ofNat 17))]⟩), [(.ofNat 17)]⟩, ⟨[], [⟨some (.ofNat 13), none, .mv (.t (.ofNat 0))⟩], (some ⟨some (.ofNat 19), none, .call (.c (.fn (.ofNat 93) [])) [(.t (.ofNat 13)), (.t (.ofNat 18))]⟩), []⟩, ⟨[⟨some (.ofNat 20), none, .build [.sn, .sn] [(0, 1, (.t (.ofNat 12))), (1, 1, (.t (.ofNat 19)))]⟩], [], (some ⟨none, none, .st 2 (.t (.ofNat 6)) (.t (.ofNat 20))⟩), []⟩, ⟨[], [], none, []⟩]
noncomputable def f66_c : EC := (.seq (.reg f66_r0) (.seq (.draw f66_r1) .ret))
noncomputable def f66 : EF := ⟨21, [.celln (.ofNat 6) 2], f66_c, none⟩
theorem f66_rs : f66.rs = [.celln (.ofNat 6) 2] := of_eq_true (eq_self _)
noncomputable def f33_r0 : List EOper := [⟨some (.ofNat 4), none, .alloc 2 [.sn, .sn]⟩, ⟨some (.ofNat 5), none, .as (.c (.b false))⟩, ⟨some (.ofNat 6), none, .as (.c (.i .i64 (.ofNat 0)))⟩]
noncomputable def f33_r1 : List EOper := [⟨some (.ofNat 13), none, .mv (.t (.ofNat 0))⟩, ⟨some (.ofNat 14), none, .mv (.t (.ofNat 1))⟩, ⟨some (.ofNat 15), none, .call (.c (.fn (.ofNat 47) [])) [(.t (.ofNat 13)), (.t (.ofNat 14))]⟩, ⟨some (.ofNat 7), none, .as (.t (.ofNat 15))⟩]
noncomputable def f33_r2 : List EOper := [⟨some (.ofNat 16), none, .mv (.t (.ofNat 7))⟩, ⟨some (.ofNat 17), none, .bin .neq (.t (.ofNat 16)) (.c (.i .i64 (.ofNat 0)))⟩]
noncomputable def f33_r3 : List EOper := [⟨some (.ofNat 18), none, .build [.sn, .sn] []⟩, ⟨some (.ofNat 19), none, .mv (.t (.ofNat 7))⟩, ⟨none, none, .st 2 (.t (.ofNat 4)) (.t (.ofNat 18))⟩, ⟨some (.ofNat 5), none, .as (.c (.b false))⟩, ⟨some (.ofNat 6), none, .as (.t (.ofNat 19))⟩]
noncomputable def f33_r4 : List EOper := [⟨some (.ofNat 20), none, .mv (.t (.ofNat 1))⟩, ⟨some (.ofNat 21), none, .call (.c (.fn (.ofNat 48) [])) [(.t (.ofNat 20))]⟩, ⟨some (.ofNat 8), none, .alloc 49 (List.replicate 49 (.b false))⟩, ⟨none, none, .st 49 (.t (.ofNat 8)) (.t (.ofNat 21))⟩]
noncomputable def f33_r5 : List EOper := [⟨some (.ofNat 23), none, .ldn 49 (.t (.ofNat 8))⟩, ⟨some (.ofNat 24), none, .call (.c (.fn (.ofNat 60) [])) [(.t (.ofNat 23))]⟩, ⟨some (.ofNat 22), none, .mv (.t (.ofNat 24))⟩, ⟨some (.ofNat 25), none, .ext (.t (.ofNat 22)) 0⟩, ⟨some (.ofNat 26), none, .ext (.t (.ofNat 22)) 1⟩, ⟨some (.ofNat 9), none, .alloc 49 (List.replicate 49 (.b false))⟩, ⟨none, none, .st 49 (.t (.ofNat 9)) (.t (.ofNat 25))⟩, ⟨some (.ofNat 10), none, .as (.t (.ofNat 26))⟩]
noncomputable def f33_r6 : List EOper := [⟨some (.ofNat 28), none, .ldn 49 (.t (.ofNat 8))⟩, ⟨some (.ofNat 29), none, .mv (.t (.ofNat 0))⟩, ⟨some (.ofNat 30), none, .call (.c (.fn (.ofNat 49) [])) [(.t (.ofNat 28)), (.t (.ofNat 29))]⟩, ⟨some (.ofNat 31), none, .call (.c (.fn (.ofNat 60) [])) [(.t (.ofNat 30))]⟩, ⟨some (.ofNat 27), none, .mv (.t (.ofNat 31))⟩, ⟨some (.ofNat 32), none, .ext (.t (.ofNat 27)) 0⟩, ⟨some (.ofNat 33), none, .ext (.t (.ofNat 27)) 1⟩, ⟨some (.ofNat 11), none, .alloc 49 (List.replicate 49 (.b false))⟩, ⟨none, none, .st 49 (.t (.ofNat 11)) (.t (.ofNat 32))⟩, ⟨some (.ofNat 12), none, .as (.t (.ofNat 33))⟩]
noncomputable def f33_r7 : List EOper := [⟨some (.ofNat 34), none, .mv (.t (.ofNat 10))⟩, ⟨some (.ofNat 35), none, .not (.t (.ofNat 34))⟩, ⟨some (.ofNat 36), none, .mv (.t (.ofNat 35))⟩, ⟨some (.ofNat 37), (some ((.ofNat 36), false)), .mv (.t (.ofNat 12))⟩, ⟨some (.ofNat 38), (some ((.ofNat 36), false)), .not (.t (.ofNat 37))⟩, ⟨some (.ofNat 39), none, .pick (.t (.ofNat 36)) (.c (.b true)) (.t (.ofNat 38))⟩]
noncomputable def f33_r8 : List EOper := [⟨some (.ofNat 40), none, .build [.sn, .sn] []⟩, ⟨none, none, .st 2 (.t (.ofNat 4)) (.t (.ofNat 40))⟩, ⟨some (.ofNat 5), none, .as (.c (.b false))⟩, ⟨some (.ofNat 6), none, .as (.c (.i .i64 (.ofNat 0)))⟩]
noncomputable def f33_r9 : List EOper := [⟨some (.ofNat 41), none, .mv (.t (.ofNat 0))⟩, ⟨some (.ofNat 42), none, .ldn 49 (.t (.ofNat 11))⟩, ⟨some (.ofNat 43), none, .ldn 49 (.t (.ofNat 9))⟩, ⟨some (.ofNat 44), none, .call (.c (.fn (.ofNat 66) [])) [(.t (.ofNat 41)), (.t (.ofNat 42)), (.t (.ofNat 43))]⟩, ⟨none, none, .st 2 (.t (.ofNat 4)) (.t (.ofNat 44))⟩, ⟨some (.ofNat 5), none, .as (.c (.b true))⟩, ⟨some (.ofNat 6), none, .as (.c (.i .i64 (.ofNat 0)))⟩]
noncomputable def f33_c : EC := (.seq (.reg f33_r0) (.seq (.seq (.reg f33_r1) (.seq (.reg f33_r2) (.cond (.t (.ofNat 17)) (.seq (.reg f33_r3) .ret) .skip))) (.seq (.reg f33_r4) (.seq (.reg f33_r5) (.seq (.reg f33_r6) (.seq (.seq (.reg f33_r7) (.cond (.t (.ofNat 39)) (.seq (.reg f33_r8) .ret) .skip)) (.seq (.reg f33_r9) .ret)))))))
noncomputable def f33 : EF := ⟨45, [.celln (.ofNat 4) 2, .tmp (.ofNat 5), .tmp (.ofNat 6)], f33_c, none⟩
theorem f33_rs : f33.rs = [.celln (.ofNat 4) 2, .tmp (.ofNat 5), .tmp (.ofNat 6)] := of_eq_true (eq_self _)
noncomputable def f44_r0 : List EOper := [⟨some (.ofNat 4), none, .alloc 2 [.sn, .sn]⟩, ⟨some (.ofNat 5), none, .as (.c (.b false))⟩, ⟨some (.ofNat 6), none, .as (.c (.i .i64 (.ofNat 0)))⟩]
noncomputable def f44_r1 : List EOper := [⟨some (.ofNat 10), none, .mv (.t (.ofNat 0))⟩, ⟨some (.ofNat 11), none, .mv (.t (.ofNat 1))⟩, ⟨some (.ofNat 12), none, .call (.c (.fn (.ofNat 45) [])) [(.t (.ofNat 10)), (.t (.ofNat 11))]⟩, ⟨some (.ofNat 7), none, .as (.t (.ofNat 12))⟩]
noncomputable def f44_r2 : List EOper := [⟨some (.ofNat 13), none, .mv (.t (.ofNat 7))⟩, ⟨some (.ofNat 14), none, .bin .neq (.t (.ofNat 13)) (.c (.i .i64 (.ofNat 0)))⟩]
noncomputable def f44_r3 : List EOper := [⟨some (.ofNat 15), none, .build [.sn, .sn] []⟩, ⟨some (.ofNat 16), none, .mv (.t (.ofNat 7))⟩, ⟨none, none, .st 2 (.t (.ofNat 4)) (.t (.ofNat 15))⟩, ⟨some (.ofNat 5), none, .as (.c (.b false))⟩, ⟨some (.ofNat 6), none, .as (.t (.ofNat 16))⟩]
noncomputable def f44_r4 : List EOper := [⟨some (.ofNat 18), none, .mv (.t (.ofNat 1))⟩, ⟨some (.ofNat 19), none, .call (.c (.fn (.ofNat 48) [])) [(.t (.ofNat 18))]⟩, ⟨some (.ofNat 20), none, .mv (.t (.ofNat 0))⟩, ⟨some (.ofNat 21), none, .call (.c (.fn (.ofNat 49) [])) [(.t (.ofNat 19)), (.t (.ofNat 20))]⟩, ⟨some (.ofNat 22), none, .call (.c (.fn (.ofNat 60) [])) [(.t (.ofNat 21))]⟩, ⟨some (.ofNat 17), none, .mv (.t (.ofNat 22))⟩, ⟨some (.ofNat 23), none, .ext (.t (.ofNat 17)) 0⟩, ⟨some (.ofNat 24), none, .ext (.t (.ofNat 17)) 1⟩, ⟨some (.ofNat 8), none, .alloc 49 (List.replicate 49 (.b false))⟩, ⟨none, none, .st 49 (.t (.ofNat 8)) (.t (.ofNat 23))⟩, ⟨some (.ofNat 9), none, .as (.t (.ofNat 24))⟩]
noncomputable def f44_r5 : List EOper := [⟨some (.ofNat 25), none, .mv (.t (.ofNat 9))⟩, ⟨some (.ofNat 26), none, .not (.t (.ofNat 25))⟩]
noncomputable def f44_r6 : List EOper := [⟨some (.ofNat 27), none, .build [.sn, .sn] []⟩, ⟨none, none, .st 2 (.t (.ofNat 4)) (.t (.ofNat 27))⟩, ⟨some (.ofNat 5), none, .as (.c (.b false))⟩, ⟨some (.ofNat 6), none, .as (.c (.i .i64 (.ofNat 0)))⟩]
noncomputable def f44_r7 : List Stage := [⟨[⟨some (.ofNat 28), none, .mv (.t (.ofNat 0))⟩, ⟨some (.ofNat 29), none, .mv (.t (.ofNat 1))⟩, ⟨some (.ofNat 31), none, .ldn 49 (.t (.ofNat 8))⟩], [], (some ⟨some (.ofNat 30), none, .call (.c (.fn (.ofNat 71) [])) [(.t (.ofNat 29))]⟩), []⟩, ⟨[], [⟨some (.ofNat 28), none, .mv (.t (.ofNat 0))⟩, ⟨some (.ofNat 31), none, .ldn 49 (.t (.ofNat 8))⟩], (some ⟨some (.ofNat 32), none, .call (.c (.fn (.ofNat 66) [])) [(.t (.ofNat 28)), (.t (.ofNat 30)), (.t (.ofNat 31))]⟩), []⟩, ⟨[], [], (some ⟨none, none, .st 2 (.t (.ofNat 4)) (.t (.ofNat 32))⟩), []⟩, ⟨[], [], (some ⟨some (.ofNat 5), none, .as (.c (.b true))⟩), []⟩, ⟨[], [], (some ⟨some (.ofNat 6), none, .as (.c (.i .i64 (.ofNat 0)))⟩), []⟩, ⟨[], [], none, []⟩]
noncomputable def f44_c : EC := (.seq (.reg f44_r0) (.seq (.seq (.reg f44_r1) (.seq (.reg f44_r2) (.cond (.t (.ofNat 14)) (.seq (.reg f44_r3) .ret) .skip))) (.seq (.reg f44_r4) (.seq (.seq (.reg f44_r5) (.cond (.t (.ofNat 26)) (.seq (.reg f44_r6) .ret) .skip)) (.seq (.draw f44_r7) .ret)))))
noncomputable def f44 : EF := ⟨33, [.celln (.ofNat 4) 2, .tmp (.ofNat 5), .tmp (.ofNat 6)], f44_c, none⟩
theorem f44_rs : f44.rs = [.celln (.ofNat 4) 2, .tmp (.ofNat 5), .tmp (.ofNat 6)] := of_eq_true (eq_self _)
structure CallsTw (fs : T EF) : Prop extends Nat4 fs, CallsSo fs where
  c93 : fs.get (K.ofNat 93) = some f93
section
variable {fs : T EF} {h : H}
theorem f66_ret {n : Nat} {A B : List Bool} (k : CallsTw fs) (hA : A.length = 49) (hB : B.length = 49) (hn1 : 1 ≤ n) (hn : n ≤ 7) (hc : HC h) : Ret fs f66 [.i .i64 (n : Int), rV A, rV B] h fun r h' => ∃ u w, r = .agg [u, w] ∧ Sl iE h' u (lnL (jnR [A, B]) n) ∧ Sl iE h' w (lnL (jnR [A, turnR B]) n) ∧ Own h.nx.nat u ∧ Own h.nx.nat w ∧ Grow h.nx.nat h h' := by
  apply ret_of rfl
  show W fs none f66_c _ _ _
  unfold f66_c
  have cA := rC_cells hA
  have cB := rC_cells hB
  have hT : (turnR B).length = 49 := rl_len
  have cT := rC_cells hT
  have n1 := nx_new h (.cells 49 (A.map V.b))
  have g1 : Grow h.nx.nat h (h.new (.cells 49 (A.map V.b))) := Grow.new (Nat.le_refl _) _
  have e1 : (h.new (.cells 49 (A.map V.b))).get h.nx = rC A := get_new_same
  have n2 := nx_new (h.new (.cells 49 (A.map V.b))) (.cells 49 (B.map V.b))
  have n3 := nx_new ((h.new (.cells 49 (A.map V.b))).new (.cells 49 (B.map V.b))) (.cells 2 [.sn, .sn])
  simp (disch := omega) only [f66_r0, w_reg, w_draw, w_seq, seqK_n, x_nil, x_alloc, x_box, kx, rvP_ok, ev_t, getV_some, putD_some, oGet_s, frame_3, getK_set, Nat.reduceEqDiff, ↓reduceIte, cA, cB]
  generalize h.new (.cells 49 (A.map V.b)) = h1 at *
  have g2 : Grow h1.nx.nat h1 (h1.new (.cells 49 (B.map V.b))) := Grow.new (Nat.le_refl _) _
  have e2 : (h1.new (.cells 49 (B.map V.b))).get h1.nx = rC B := get_new_same
  generalize h1.new (.cells 49 (B.map V.b)) = h2 at *
  have g3 : Grow h2.nx.nat h2 (h2.new (.cells 2 [.sn, .sn])) := Grow.new (Nat.le_refl _) _
  have e3 : (h2.new (.cells 2 [.sn, .sn])).get h2.nx = .cells 2 [.sn, .sn] := get_new_same
  generalize h2.new (.cells 2 [.sn, .sn]) = h3 at *
  have gA : Grow h.nx.nat h h3 := g1.trans ((g2.low (by omega)).trans (g3.low (by omega)))
  have hc3 := gA.hc hc
  have a1 := (g3.old h.nx (by omega)).trans ((g2.old h.nx (by omega)).trans e1)
  have a2 := (g3.old h1.nx (by omega)).trans e2
  have la : ∀ {hh : H}, Grow h3.nx.nat h3 hh → loadV hh (.p h.nx 0) (many? 49) = .ok (rV A) hh := fun {hh} g => rC_ldn hA ((g.old h.nx (by omega)).trans a1)
  have lb : ∀ {hh : H}, Grow h3.nx.nat h3 hh → loadV hh (.p h1.nx 0) (many? 49) = .ok (rV B) hh := fun {hh} g => rC_ldn hB ((g.old h1.nx (by omega)).trans a2)
  have z3 := Grow.refl h3.nx.nat h3
  have dd := hc3.dead
  have k70 := k.n70 B
  have gL : Grow h3.nx.nat h3 (h3.new (.cells (2 * 49) (A.map V.b ++ B.map V.b))) := Grow.new (Nat.le_refl _) _
  simp (disch := omega) only [f66_r1, true_and, x_call, kg, xg_nil, xg_mv, xg_ldn, xg_bslice, xd_cons, stK_s, stay_nil, rvP_ok, ev_t, ev_c, evs_nil, evs_cons, getV_some, putD_some, oGet_s, Option.some.injEq, exists_eq_left', getK_set, Nat.reduceEqDiff, ↓reduceIte, fill_0, la z3, lb z3, la gL, lb gL, fill_c, cA, cB, set98a hA, set98b hA hB, dd]
  refine ⟨fresh_one (n := 2) (sz := 49) (by simp (disch := omega) only [getK_set, Nat.reduceEqDiff, ↓reduceIte]), ?_⟩
  have hr8 := Rs.two (h := h3) (L := A) hA hB
  have n4 := nx_new h3 (.cells (2 * 49) (A.map V.b ++ B.map V.b))
  have hc4 := gL.hc hc3
  generalize h3.new (.cells (2 * 49) (A.map V.b ++ B.map V.b)) = h4 at *
  have hall : ∀ z ∈ [A, B], z.length = 49 := fun z hz => by
    simp only [List.mem_cons, List.not_mem_nil, or_false] at hz
    rcases hz with rfl | rfl
    · exact hA
    · exact hB
  refine (callP_0 (ef := f69) k.c69 rfl (f69_ret k.c84 k.c101 hr8 hall (by simp) hc4)).mono ?_
  rintro r h5 ⟨rfl, g5⟩
  have hc5 := g5.hc hc4
  have gB := gL.trans (g5.low gL.nx)
  have hJ : (jnR [A, B]).length = 49 := rl_len
  simp (disch := omega) only [true_and, x_nil, x_call, kx, xg_nil, xd_cons, fresh_nil, stK_s, stay_nil, stay_cons, again_ok, stay_mv, beq_i, ev_t, ev_c, evs_nil, evs_cons, getV_some, putD_some, getK_set, Nat.reduceEqDiff, ↓reduceIte, stay_ldn, la gB, lb gB, beq_rV]
  refine (callP_0 (ef := f93) k.c93 rfl (f93_ret k.toCallsSo hJ hn1 hn hc5)).mono ?_
  rintro u h6 ⟨su, ou, g6⟩
  have hc6 := g6.hc hc5
  have gC := gB.trans (g6.low gB.nx)
  have gCn := gC.nx
  simp (disch := omega) only [true_and, x_nil, x_call, kx, xg_nil, xg_bslice, xd_cons, fresh_nil, stK_s, stay_nil, stay_cons, again_ok, stay_mv, beq_i, ev_t, ev_c, evs_nil, evs_cons, getV_some, putD_some, oGet_s, Option.some.injEq, exists_eq_left', getK_set, Nat.reduceEqDiff, ↓reduceIte, stay_ldn, fill_0, la gC, lb gC, beq_rV, k70 _ _ hB, fill_c, cA, cT, set98a hA, set98b hA hT, hc6.dead]
  refine ⟨fresh_one (n := 2) (sz := 49) (by simp (disch := omega) only [getK_set, ↓reduceIte]), ?_⟩
  have gL2 : Grow h6.nx.nat h6 (h6.new (.cells (2 * 49) (A.map V.b ++ (turnR B).map V.b))) := Grow.new (Nat.le_refl _) _
  have hr9 := Rs.two (h := h6) (L := A) hA hT
  have n7 := nx_new h6 (.cells (2 * 49) (A.map V.b ++ (turnR B).map V.b))
  have hc7 := gL2.hc hc6
  have gD := gC.trans (gL2.low gC.nx)
  simp (disch := omega) only [true_and, again_ok, la gD, beq_rV]
  generalize h6.new (.cells (2 * 49) (A.map V.b ++ (turnR B).map V.b)) = h7 at *
  have hall2 : ∀ z ∈ [A, turnR B], z.length = 49 := fun z hz => by
    simp only [List.mem_cons, List.not_mem_nil, or_false] at hz
    rcases hz with rfl | rfl
    · exact hA
    · exact hT
  refine (callP_0 (ef := f69) k.c69 rfl (f69_ret k.c84 k.c101 hr9 hall2 (by simp) hc7)).mono ?_
  rintro r h8 ⟨rfl, g8⟩
  have hc8 := g8.hc hc7
  have gE := gD.trans (g8.low gD.nx)
  have hJ2 : (jnR [A, turnR B]).length = 49 := rl_len
  simp (disch := omega) only [true_and, x_nil, x_call, kx, xg_nil, xd_cons, fresh_nil, stK_s, stay_nil, stay_cons, stay_mv, beq_i, ev_t, ev_c, evs_nil, evs_cons, getV_some, putD_some, getK_set, Nat.reduceEqDiff, ↓reduceIte]
  refine (callP_0 (ef := f93) k.c93 rfl (f93_ret k.toCallsSo hJ2 hn1 hn hc8)).mono ?_
  rintro w h9 ⟨sw, ow, g9⟩
  have hc9 := g9.hc hc8
  have gF := gE.trans (g9.low gE.nx)
  have su9 := su.grow hc6 (gL2.trans ((g8.low gL2.nx).trans (g9.low (by have := gL2.nx; have := g8.nx; omega))))
  have e9 := (gF.old h2.nx (by omega)).trans e3
  have s9 : storeV h9 2 (.p h2.nx 0) (.agg [u, w]) = .ok undefV (h9.put h2.nx (.cells 2 [u, w])) := store_p e9 (show cellsN 2 (.agg [u, w]) = some [u, w] from rfl) (by omega)
  have rd : readP (h9.put h2.nx (.cells 2 [u, w])) (.p h2.nx 0) (many? 2) = some (.agg [u, w]) := rd2 get_put_same
  have g5n := g5.nx
  have gEn := gE.nx
  have o1 : Own h3.nx.nat u := ou.low (by have := gL.nx; omega)
  have o2 : Own h3.nx.nat w := ow.low (by omega)
  have gp : Grow h.nx.nat h9 (h9.put h2.nx (.cells 2 [u, w])) := Grow.put (by omega) (hc9.cells e9) _
  simp (disch := omega) only [f66_rs, w_ret, seqK_n, true_and, retK_r, x_nil, x_st, kx, kg, xg_nil, xg_build, xd_cons, fresh_nil, stK_n, stK_s, stay_nil, rvP_ok, ev_t, getV_some, putD_some, putD_none, oGet_s, readRs_nil, readRs_n, retV_1, Option.some.injEq, exists_eq_left', getK_set, Nat.reduceEqDiff, ↓reduceIte, fill_2, set_2, su9.one, sw.one, fill_2, set_2, s9, rd]
  exact ⟨u, w, rfl, su9.put (o1.notIn (by omega)) _, sw.put (o2.notIn (by omega)) _, o1.low gA.nx, o2.low gA.nx, (gA.trans (gF.low gA.nx)).trans gp⟩
/-! ### Draw -/
theorem gR_oth {n : Nat} {g : Nat → Nat → Bool} (hg : Gph n g) : otR n (gR (arI g)) = gR (arI (oth n g)) := by
  have h7 := hg.n7
  refine rel_ext otR_len gR_len fun a b ha hb => ?_
  have hgr : rat (gR (arI g)) a b = true ↔ g a b = true ∨ g b a = true := by rw [gR_arI hg]; unfold sy; rw [Bool.or_eq_true]
  rw [Bool.eq_iff_iff, gR_arI (oth_gph hg)]
  unfold otR sy oth
  rw [woR_iff, rat_rl, hgr]
  simp only [Bool.and_eq_true, Bool.or_eq_true, decide_eq_true_eq, Bool.not_eq_true']
  have u1 := fun h => hg.up a b h
  have u2 := fun h => hg.up b a h
  constructor
  · rintro ⟨⟨_, ⟨h1, h2⟩, h3⟩, h4⟩
    rcases Nat.lt_or_gt_of_ne h3 with h | h
    · exact .inl ⟨⟨h, h2⟩, by cases e : g a b with | false => rfl | true => exact absurd (.inl e) h4⟩
    · exact .inr ⟨⟨h, h1⟩, by cases e : g b a with | false => rfl | true => exact absurd (.inr e) h4⟩
  · rintro (⟨⟨h1, h2⟩, h3⟩ | ⟨⟨h1, h2⟩, h3⟩)
    · refine ⟨⟨⟨ha, hb⟩, ⟨by omega, h2⟩, by omega⟩, fun h => ?_⟩
      rcases h with h | h
      · rw [h] at h3; cases h3
      · have := u2 h; omega
    · refine ⟨⟨⟨ha, hb⟩, ⟨h2, by omega⟩, by omega⟩, fun h => ?_⟩
      rcases h with h | h
      · have := u1 h; omega
      · rw [h] at h3; cases h3
structure CallsDw (fs : T EF) : Prop extends CallsOr fs, CallsTw fs where
  c66 : fs.get (K.ofNat 66) = some f66
/-- What Draw gives. -/
structure DrI (n : Nat) (g : Nat → Nat → Bool) (h0 : Nat) (r : V) (h' : H) : Prop where
  out : ∃ b F b' F', orV (gR (arI g)) = .tup [rV F, .b b] ∧ orV (gR (arI (oth n g))) = .tup [rV F', .b b'] ∧ OrI g b F ∧ OrI (oth n g) b' F' ∧
    (((b && b') = true ∧ ∃ u w, r = .tup [.agg [u, w], .b true, .i .i64 0] ∧ Sl iE h' u (lnL (jnR [F', F]) n) ∧ Sl iE h' w (lnL (jnR [F', turnR F]) n) ∧ Own h0 u ∧ Own h0 w) ∨
     ((b && b') = false ∧ r = .tup [.agg [.sn, .sn], .b false, .i .i64 0]))
theorem f33_ret {n : Nat} {v : V} {g : Nat → Nat → Bool} (k : CallsDw fs) (hg : Gph n g) (hv : Srp h v (arI g)) (hc : HC h) : Ret fs f33 [.i .i64 (n : Int), v] h fun r h' => DrI n g h.nx.nat r h' ∧ Grow h.nx.nat h h' := by
  have hlb := arI_len (g := g)
  apply ret_of rfl
  show W fs none f33_c _ _ _
  unfold f33_c
  have n1 := nx_new h (.cells 2 [.sn, .sn])
  have g1 : Grow h.nx.nat h (h.new (.cells 2 [.sn, .sn])) := Grow.new (Nat.le_refl _) _
  have e1 : (h.new (.cells 2 [.sn, .sn])).get h.nx = .cells 2 [.sn, .sn] := get_new_same
  simp (disch := omega) only [f33_r0, f33_r1, w_reg, w_seq, seqK_n, x_nil, x_mv, x_as, x_alloc, x_call, ev_t, ev_c, evs_nil, evs_cons, getV_some, putD_some, frame_2, of0, getK_set, Nat.reduceEqDiff, ↓reduceIte]
  generalize h.new (.cells 2 [.sn, .sn]) = h1 at *
  have hc1 := g1.hc hc
  have hv1 := hv.grow hc g1
  refine (callP_0 (ef := f47) k.c47 rfl (f47_ret k.toCallsCk hv1 (by omega) hc1)).mono ?_
  rintro r h2 ⟨rfl, g2⟩
  rw [chkG_g hg]
  have ne0 : decide ((0 : Int) ≠ 0) = false := rfl
  simp (disch := omega) only [f33_r2, f33_r4, w_skip, w_reg, w_seq, w_cond, seqK_n, ckB_b, cbB_b, true_and, x_nil, x_mv, x_as, x_bin, x_call, kx, rvP_ok, okv_some, ev_t, ev_c, evs_nil, evs_cons, getV_some, putD_some, bin_neq, of0, getK_set, Nat.reduceEqDiff, ↓reduceIte, Bool.false_eq_true, ne0]
  have hc2 := g2.hc hc1
  have hv2 := hv1.grow hc1 g2
  refine (callP_0 (ef := f48) k.c48 rfl (f48_ret k.toNat2 hv2 nd_arI (by omega) hc2)).mono ?_
  rintro r h3 ⟨rfl, g3⟩
  have hc3 := g3.hc hc2
  have gA : Grow h.nx.nat h h3 := g1.trans ((g2.low (by omega)).trans (g3.low (by have := g2.nx; omega)))
  have a1 : ∀ {hh : H}, Grow h1.nx.nat h1 hh → hh.get h.nx = .cells 2 [.sn, .sn] := fun {hh} g => (g.old h.nx (by omega)).trans e1
  have g13 : Grow h1.nx.nat h1 h3 := g2.trans (g3.low g2.nx)
  obtain ⟨b, F, hO, hF⟩ := orI_of hg
  obtain ⟨b', F', hO', hF'⟩ := orI_of (oth_gph hg)
  have hGl : (gR (arI g)).length = 49 := gR_len
  have hz : (rl fun _ _ => false).length = 49 := rl_len
  -- three cells
  have s3 := rC_stn hGl rl_len (M := rl fun _ _ => false) (h := h3.new (.cells 49 (List.replicate 49 (.b false)))) (id := h3.nx) (by rw [rl_false]; exact get_new_same)
  have n3 := nx_new h3 (.cells 49 (List.replicate 49 (.b false)))
  have g4 : Grow h3.nx.nat h3 ((h3.new (.cells 49 (List.replicate 49 (.b false)))).put h3.nx (rC (gR (arI g)))) := (Grow.new (Nat.le_refl _) _).trans (Grow.put (Nat.le_refl _) (by omega) _)
  have e4 : ((h3.new (.cells 49 (List.replicate 49 (.b false)))).put h3.nx (rC (gR (arI g)))).get h3.nx = rC (gR (arI g)) := get_put_same
  have l4 := rC_ldn hGl e4
  have n4 : ((h3.new (.cells 49 (List.replicate 49 (.b false)))).put h3.nx (rC (gR (arI g)))).nx.nat = h3.nx.nat + 1 := n3
  have k49 := k.n49 (gR (arI g)) n
  rw [gR_oth hg] at k49
  simp (disch := omega) only [f33_r5, w_reg, w_seq, seqK_n, x_nil, x_mv, x_alloc, x_ldn, x_st, x_ext, x_call, kx, rvP_ok, okv_some, ev_t, ev_c, evs_nil, evs_cons, getV_some, putD_some, putD_none, onTup_t, nth0, nth1, getK_set, Nat.reduceEqDiff, ↓reduceIte, s3, l4, k.n60 _ _ _ (symR_g hg), hO]
  generalize (h3.new (.cells 49 (List.replicate 49 (.b false)))).put h3.nx (rC (gR (arI g))) = h4 at *
  have s5 := rC_stn hF.len rl_len (M := rl fun _ _ => false) (h := h4.new (.cells 49 (List.replicate 49 (.b false)))) (id := h4.nx) (by rw [rl_false]; exact get_new_same)
  have n5 := nx_new h4 (.cells 49 (List.replicate 49 (.b false)))
  have g5 : Grow h4.nx.nat h4 ((h4.new (.cells 49 (List.replicate 49 (.b false)))).put h4.nx (rC F)) := (Grow.new (Nat.le_refl _) _).trans (Grow.put (Nat.le_refl _) (by omega) _)
  have e5 : ((h4.new (.cells 49 (List.replicate 49 (.b false)))).put h4.nx (rC F)).get h4.nx = rC F := get_put_same
  have l5 := rC_ldn hGl ((g5.old h3.nx (by omega)).trans e4)
  have n5' : ((h4.new (.cells 49 (List.replicate 49 (.b false)))).put h4.nx (rC F)).nx.nat = h4.nx.nat + 1 := n5
  simp (disch := omega) only [f33_r6, w_reg, w_seq, seqK_n, x_nil, x_mv, x_as, x_alloc, x_ldn, x_st, x_ext, x_call, kx, rvP_ok, okv_some, ev_t, ev_c, evs_nil, evs_cons, getV_some, putD_some, putD_none, onTup_t, nth0, nth1, getK_set, Nat.reduceEqDiff, ↓reduceIte, s5, l5, k49 _ _ hGl hg.n7, k.n60 _ _ _ (symR_g (oth_gph hg)), hO']
  generalize (h4.new (.cells 49 (List.replicate 49 (.b false)))).put h4.nx (rC F) = h5 at *
  have s6 := rC_stn hF'.len rl_len (M := rl fun _ _ => false) (h := h5.new (.cells 49 (List.replicate 49 (.b false)))) (id := h5.nx) (by rw [rl_false]; exact get_new_same)
  have n6 := nx_new h5 (.cells 49 (List.replicate 49 (.b false)))
  have g6 : Grow h5.nx.nat h5 ((h5.new (.cells 49 (List.replicate 49 (.b false)))).put h5.nx (rC F')) := (Grow.new (Nat.le_refl _) _).trans (Grow.put (Nat.le_refl _) (by omega) _)
  have e6 : ((h5.new (.cells 49 (List.replicate 49 (.b false)))).put h5.nx (rC F')).get h5.nx = rC F' := get_put_same
  have e6' := (g6.old h4.nx (by omega)).trans e5
  have g16 : Grow h1.nx.nat h1 ((h5.new (.cells 49 (List.replicate 49 (.b false)))).put h5.nx (rC F')) := g13.trans ((g4.low g13.nx).trans ((g5.low (by have := g13.nx; omega)).trans (g6.low (by have := g13.nx; omega))))
  simp (disch := omega) only [w_reg, w_seq, seqK_n, x_nil, x_as, kx, rvP_ok, ev_t, getV_some, putD_some, putD_none, getK_set, Nat.reduceEqDiff, ↓reduceIte, s6]
  generalize (h5.new (.cells 49 (List.replicate 49 (.b false)))).put h5.nx (rC F') = h6 at *
  have hc6 := g16.hc hc1
  have a6 := a1 g16
  have st : ∀ {x y : V}, storeV h6 2 (.p h.nx 0) (.agg [x, y]) = .ok undefV (h6.put h.nx (.cells 2 [x, y])) := fun {x y} => store_p a6 (show cellsN 2 (.agg [x, y]) = some [x, y] from rfl) (by omega)
  have rd : ∀ {hh : H} {x y : V}, readP (hh.put h.nx (.cells 2 [x, y])) (.p h.nx 0) (many? 2) = some (.agg [x, y]) := rd2 get_put_same
  have g16n := g16.nx
  have gO : ∀ {hh : H} {B : Blk}, Grow h1.nx.nat h1 hh → Grow h.nx.nat h (hh.put h.nx B) := fun {hh B} g => (g1.trans (g.low g1.nx)).trans (Grow.put (Nat.le_refl _) (by have := g.nx; omega) _)
  cases b with
  | false =>
    simp (disch := omega) only [f33_r7, f33_r8, f33_rs, w_reg, w_seq, w_cond, w_ret, seqK_n, seqK_r, ckB_b, cbB_b, okG_b, asG_f, true_and, retK_r, x_nil, x_g, x_mv, x_as, x_pick, x_build, x_st, x_not, kx, rvP_ok, ev_t, ev_c, getV_some, putD_some, putD_none, pick_b, onB_b, oGet_s, readRs_nil, readRs_t, readRs_n, retV_2, of0, Option.some.injEq, exists_eq_left', getK_set, Nat.reduceEqDiff, ↓reduceIte, Bool.false_eq_true, Bool.not_true, Bool.not_false, fill_0, st, rd]
    exact ⟨⟨_, _, _, _, hO, hO', hF, hF', .inr ⟨rfl, rfl⟩⟩, gO g16⟩
  | true =>
    cases b' with
    | false =>
      simp (disch := omega) only [f33_r7, f33_r8, f33_rs, w_reg, w_seq, w_cond, w_ret, seqK_n, seqK_r, ckB_b, cbB_b, okG_b, asG_f, true_and, retK_r, x_nil, x_g, x_mv, x_as, x_pick, x_build, x_st, x_not, kx, rvP_ok, ev_t, ev_c, getV_some, putD_some, putD_none, pick_b, onB_b, oGet_s, readRs_nil, readRs_t, readRs_n, retV_2, of0, Option.some.injEq, exists_eq_left', getK_set, Nat.reduceEqDiff, ↓reduceIte, Bool.false_eq_true, Bool.not_true, Bool.not_false, fill_0, st, rd]
      exact ⟨⟨_, _, _, _, hO, hO', hF, hF', .inr ⟨rfl, rfl⟩⟩, gO g16⟩
    | true =>
      have lF := rC_ldn hF.len e6'
      have lF' := rC_ldn hF'.len e6
      simp (disch := omega) only [f33_r7, f33_r9, w_skip, w_reg, w_seq, w_cond, seqK_n, ckB_b, cbB_b, okG_b, asG_f, true_and, x_nil, x_g, x_mv, x_pick, x_ldn, x_not, x_call, kx, rvP_ok, ev_t, ev_c, evs_nil, evs_cons, getV_some, putD_some, pick_b, onB_b, of0, getK_set, Nat.reduceEqDiff, ↓reduceIte, Bool.false_eq_true, Bool.not_true, Bool.not_false, lF, lF']
      refine (callP_0 (ef := f66) k.c66 rfl (f66_ret k.toCallsTw hF'.len hF.len hg.n1 hg.n7 hc6)).mono ?_
      rintro r h7 ⟨u, w, rfl, su, sw, ou, ow, g7⟩
      have g17 := g16.trans (g7.low g16.nx)
      have a7 := a1 g17
      have s7 : storeV h7 2 (.p h.nx 0) (.agg [u, w]) = .ok undefV (h7.put h.nx (.cells 2 [u, w])) := store_p a7 (show cellsN 2 (.agg [u, w]) = some [u, w] from rfl) (by omega)
      simp (disch := omega) only [f33_rs, w_ret, seqK_n, retK_r, x_nil, x_as, x_st, kx, rvP_ok, ev_t, ev_c, getV_some, putD_some, putD_none, oGet_s, readRs_nil, readRs_t, readRs_n, retV_2, Option.some.injEq, exists_eq_left', getK_set, Nat.reduceEqDiff, ↓reduceIte, s7, rd]
      exact ⟨⟨_, _, _, _, hO, hO', hF, hF', .inl ⟨rfl, u, w, rfl, su.put (ou.notIn (by omega)) _, sw.put (ow.notIn (by omega)) _, ou.low (by omega), ow.low (by omega)⟩⟩, gO g17⟩
end
end Go.Ev
namespace Go.Ev
open Go Go.RowKit
noncomputable def f9_r0 : List EOper := [⟨some (.ofNat 5), none, .box 2 (.t (.ofNat 2))⟩, ⟨some (.ofNat 6), none, .as (.c (.b false))⟩]
noncomputable def f9_r1 : List EOper := [⟨some (.ofNat 32), none, .mv (.t (.ofNat 0))⟩, ⟨some (.ofNat 33), none, .mv (.t (.ofNat 1))⟩, ⟨some (.ofNat 34), none, .call (.c (.fn (.ofNat 11) [])) [(.t (.ofNat 32)), (.t (.ofNat 33)), (.c (.i .i64 (.ofNat 7)))]⟩, ⟨some (.ofNat 31), none, .mv (.t (.ofNat 34))⟩, ⟨some (.ofNat 35), none, .ext (.t (.ofNat 31)) 0⟩, ⟨some (.ofNat 36), none, .ext (.t (.ofNat 31)) 1⟩, ⟨some (.ofNat 7), none, .as (.t (.ofNat 35))⟩, ⟨some (.ofNat 8), none, .as (.t (.ofNat 36))⟩]
noncomputable def f9_r2 : List EOper := [⟨some (.ofNat 38), none, .mv (.t (.ofNat 7))⟩, ⟨some (.ofNat 39), none, .mv (.t (.ofNat 8))⟩, ⟨some (.ofNat 40), none, .call (.c (.fn (.ofNat 12) [])) [(.t (.ofNat 38)), (.t (.ofNat 39))]⟩, ⟨some (.ofNat 37), none, .mv (.t (.ofNat 40))⟩, ⟨some (.ofNat 41), none, .ext (.t (.ofNat 37)) 0⟩, ⟨some (.ofNat 42), none, .ext (.t (.ofNat 37)) 1⟩, ⟨some (.ofNat 9), none, .as (.t (.ofNat 41))⟩, ⟨some (.ofNat 10), none, .as (.t (.ofNat 42))⟩]
noncomputable def f9_r3 : List EOper := [⟨some (.ofNat 44), none, .mv (.t (.ofNat 7))⟩, ⟨some (.ofNat 45), none, .mv (.t (.ofNat 8))⟩, ⟨some (.ofNat 46), none, .call (.c (.fn (.ofNat 23) [])) [(.t (.ofNat 44)), (.t (.ofNat 45))]⟩, ⟨some (.ofNat 43), none, .mv (.t (.ofNat 46))⟩, ⟨some (.ofNat 47), none, .ext (.t (.ofNat 43)) 0⟩, ⟨some (.ofNat 48), none, .ext (.t (.ofNat 43)) 1⟩, ⟨some (.ofNat 49), none, .ext (.t (.ofNat 43)) 2⟩, ⟨some (.ofNat 11), none, .as (.t (.ofNat 47))⟩, ⟨some (.ofNat 12), none, .as (.t (.ofNat 48))⟩, ⟨some (.ofNat 13), none, .as (.t (.ofNat 49))⟩]
noncomputable def f9_r4 : List EOper := [⟨some (.ofNat 51), none, .mv (.t (.ofNat 7))⟩, ⟨some (.ofNat 52), none, .mv (.t (.ofNat 9))⟩, ⟨some (.ofNat 53), none, .call (.c (.fn (.ofNat 23) [])) [(.t (.ofNat 51)), (.t (.ofNat 52))]⟩, ⟨some (.ofNat 50), none, .mv (.t (.ofNat 53))⟩, ⟨some (.ofNat 54), none, .ext (.t (.ofNat 50)) 0⟩, ⟨some (.ofNat 55), none, .ext (.t (.ofNat 50)) 1⟩, ⟨some (.ofNat 56), none, .ext (.t (.ofNat 50)) 2⟩, ⟨some (.ofNat 14), none, .as (.t (.ofNat 54))⟩, ⟨some (.ofNat 15), none, .as (.t (.ofNat 55))⟩, ⟨some (.ofNat 16), none, .as (.t (.ofNat 56))⟩]
noncomputable def f9_r5 : List EOper := [⟨some (.ofNat 58), none, .mv (.t (.ofNat 7))⟩, ⟨some (.ofNat 59), none, .mv (.t (.ofNat 8))⟩, ⟨some (.ofNat 60), none, .call (.c (.fn (.ofNat 33) [])) [(.t (.ofNat 58)), (.t (.ofNat 59))]⟩, ⟨some (.ofNat 57), none, .mv (.t (.ofNat 60))⟩, ⟨some (.ofNat 61), none, .ext (.t (.ofNat 57)) 0⟩, ⟨some (.ofNat 62), none, .ext (.t (.ofNat 57)) 1⟩, ⟨some (.ofNat 63), none, .ext (.t (.ofNat 57)) 2⟩, ⟨some (.ofNat 17), none, .alloc 2 [.sn, .sn]⟩, ⟨none, none, .st 2 (.t (.ofNat 17)) (.t (.ofNat 61))⟩, ⟨some (.ofNat 18), none, .as (.t (.ofNat 62))⟩, ⟨some (.ofNat 19), none, .as (.t (.ofNat 63))⟩]
noncomputable def f9_r6 : List EOper := [⟨some (.ofNat 64), none, .mv (.t (.ofNat 10))⟩, ⟨some (.ofNat 65), none, .bin .neq (.t (.ofNat 64)) (.c (.i .i64 (.ofNat 0)))⟩, ⟨some (.ofNat 66), none, .mv (.t (.ofNat 65))⟩, ⟨some (.ofNat 67), (some ((.ofNat 66), false)), .mv (.t (.ofNat 13))⟩, ⟨some (.ofNat 68), (some ((.ofNat 66), false)), .bin .neq (.t (.ofNat 67)) (.c (.i .i64 (.ofNat 0)))⟩, ⟨some (.ofNat 69), none, .pick (.t (.ofNat 66)) (.c (.b true)) (.t (.ofNat 68))⟩, ⟨some (.ofNat 70), none, .mv (.t (.ofNat 69))⟩, ⟨some (.ofNat 71), (some ((.ofNat 70), false)), .mv (.t (.ofNat 16))⟩, ⟨some (.ofNat 72), (some ((.ofNat 70), false)), .bin .neq (.t (.ofNat 71)) (.c (.i .i64 (.ofNat 0)))⟩, ⟨some (.ofNat 73), none, .pick (.t (.ofNat 70)) (.c (.b true)) (.t (.ofNat 72))⟩, ⟨some (.ofNat 74), none, .mv (.t (.ofNat 73))⟩, ⟨some (.ofNat 75), (some ((.ofNat 74), false)), .mv (.t (.ofNat 19))⟩, ⟨some (.ofNat 76), (some ((.ofNat 74), false)), .bin .neq (.t (.ofNat 75)) (.c (.i .i64 (.ofNat 0)))⟩, ⟨some (.ofNat 77), none, .pick (.t (.ofNat 74)) (.c (.b true)) (.t (.ofNat 76))⟩, ⟨some (.ofNat 78), none, .mv (.t (.ofNat 77))⟩, ⟨some (.ofNat 79), (some ((.ofNat 78), false)), .mv (.t (.ofNat 18))⟩, ⟨some (.ofNat 80), (some ((.ofNat 78), false)), .mv (.t (.ofNat 12))⟩, ⟨some (.ofNat 81), (some ((.ofNat 78), false)), .mv (.t (.ofNat 80))⟩, ⟨some (.ofNat 82), (some ((.ofNat 81), true)), .mv (.t (.ofNat 15))⟩, ⟨some (.ofNat 83), (some ((.ofNat 78), false)), .pick (.t (.ofNat 81)) (.t (.ofNat 82)) (.c (.b false))⟩, ⟨some (.ofNat 84), (some ((.ofNat 78), false)), .eqk (.one none) true (.t (.ofNat 79)) (.t (.ofNat 83))⟩, ⟨some (.ofNat 85), none, .pick (.t (.ofNat 78)) (.c (.b true)) (.t (.ofNat 84))⟩]
noncomputable def f9_r7 : List EOper := [⟨some (.ofNat 6), none, .as (.c (.b false))⟩]
noncomputable def f9_r8 : List EOper := [⟨some (.ofNat 86), none, .mv (.t (.ofNat 12))⟩]
noncomputable def f9_r9 : List EOper := [⟨some (.ofNat 88), none, .mv (.t (.ofNat 7))⟩, ⟨some (.ofNat 89), none, .mv (.t (.ofNat 11))⟩, ⟨some (.ofNat 90), none, .call (.c (.fn (.ofNat 44) [])) [(.t (.ofNat 88)), (.t (.ofNat 89))]⟩, ⟨some (.ofNat 87), none, .mv (.t (.ofNat 90))⟩, ⟨some (.ofNat 91), none, .ext (.t (.ofNat 87)) 0⟩, ⟨some (.ofNat 92), none, .ext (.t (.ofNat 87)) 1⟩, ⟨some (.ofNat 93), none, .ext (.t (.ofNat 87)) 2⟩, ⟨some (.ofNat 20), none, .alloc 2 [.sn, .sn]⟩, ⟨none, none, .st 2 (.t (.ofNat 20)) (.t (.ofNat 91))⟩, ⟨some (.ofNat 21), none, .as (.t (.ofNat 92))⟩, ⟨some (.ofNat 22), none, .as (.t (.ofNat 93))⟩]
noncomputable def f9_r10 : List EOper := [⟨some (.ofNat 94), none, .mv (.t (.ofNat 22))⟩, ⟨some (.ofNat 95), none, .bin .neq (.t (.ofNat 94)) (.c (.i .i64 (.ofNat 0)))⟩, ⟨some (.ofNat 96), none, .mv (.t (.ofNat 95))⟩, ⟨some (.ofNat 97), (some ((.ofNat 96), false)), .mv (.t (.ofNat 21))⟩, ⟨some (.ofNat 98), (some ((.ofNat 96), false)), .mv (.t (.ofNat 15))⟩, ⟨some (.ofNat 99), (some ((.ofNat 96), false)), .eqk (.one none) true (.t (.ofNat 97)) (.t (.ofNat 98))⟩, ⟨some (.ofNat 100), none, .pick (.t (.ofNat 96)) (.c (.b true)) (.t (.ofNat 99))⟩]
noncomputable def f9_r11 : List EOper := [⟨some (.ofNat 6), none, .as (.c (.b false))⟩]
noncomputable def f9_r12 : List EOper := [⟨some (.ofNat 102), none, .mv (.t (.ofNat 0))⟩, ⟨some (.ofNat 103), none, .ldn 2 (.t (.ofNat 5))⟩, ⟨some (.ofNat 104), none, .call (.c (.fn (.ofNat 39) [])) [(.t (.ofNat 102)), (.t (.ofNat 103))]⟩, ⟨some (.ofNat 101), none, .mv (.t (.ofNat 104))⟩, ⟨some (.ofNat 105), none, .ext (.t (.ofNat 101)) 0⟩, ⟨some (.ofNat 106), none, .ext (.t (.ofNat 101)) 1⟩, ⟨some (.ofNat 24), none, .alloc 2 [.sn, .sn]⟩, ⟨some (.ofNat 23), none, .as (.t (.ofNat 105))⟩, ⟨none, none, .st 2 (.t (.ofNat 24)) (.t (.ofNat 106))⟩]
noncomputable def f9_r13 : List EOper := [⟨some (.ofNat 108), none, .mv (.t (.ofNat 23))⟩, ⟨some (.ofNat 109), none, .ldn 2 (.t (.ofNat 24))⟩, ⟨some (.ofNat 110), none, .call (.c (.fn (.ofNat 36) [])) [(.t (.ofNat 108)), (.t (.ofNat 109))]⟩, ⟨some (.ofNat 107), none, .mv (.t (.ofNat 110))⟩, ⟨some (.ofNat 111), none, .ext (.t (.ofNat 107)) 0⟩, ⟨some (.ofNat 112), none, .ext (.t (.ofNat 107)) 1⟩, ⟨some (.ofNat 25), none, .as (.t (.ofNat 111))⟩, ⟨some (.ofNat 26), none, .as (.t (.ofNat 112))⟩]
noncomputable def f9_r14 : List EOper := [⟨some (.ofNat 114), none, .mv (.t (.ofNat 23))⟩, ⟨some (.ofNat 115), none, .ldn 2 (.t (.ofNat 24))⟩, ⟨some (.ofNat 116), none, .call (.c (.fn (.ofNat 37) [])) [(.t (.ofNat 114)), (.t (.ofNat 115))]⟩, ⟨some (.ofNat 113), none, .mv (.t (.ofNat 116))⟩, ⟨some (.ofNat 117), none, .ext (.t (.ofNat 113)) 0⟩, ⟨some (.ofNat 118), none, .ext (.t (.ofNat 113)) 1⟩, ⟨some (.ofNat 27), none, .as (.t (.ofNat 117))⟩, ⟨some (.ofNat 28), none, .as (.t (.ofNat 118))⟩]
noncomputable def f9_r15 : List EOper := [⟨some (.ofNat 119), none, .mv (.t (.ofNat 26))⟩, ⟨some (.ofNat 120), none, .bin .neq (.t (.ofNat 119)) (.c (.i .i64 (.ofNat 0)))⟩, ⟨some (.ofNat 121), none, .mv (.t (.ofNat 120))⟩, ⟨some (.ofNat 122), (some ((.ofNat 121), false)), .mv (.t (.ofNat 28))⟩, ⟨some (.ofNat 123), (some ((.ofNat 121), false)), .bin .neq (.t (.ofNat 122)) (.c (.i .i64 (.ofNat 0)))⟩, ⟨some (.ofNat 124), none, .pick (.t (.ofNat 121)) (.c (.b true)) (.t (.ofNat 123))⟩, ⟨some (.ofNat 125), none, .mv (.t (.ofNat 124))⟩, ⟨some (.ofNat 126), (some ((.ofNat 125), false)), .mv (.t (.ofNat 25))⟩, ⟨some (.ofNat 127), (some ((.ofNat 125), false)), .len (.t (.ofNat 126))⟩, ⟨some (.ofNat 128), (some ((.ofNat 125), false)), .mv (.t (.ofNat 27))⟩, ⟨some (.ofNat 129), (some ((.ofNat 125), false)), .len (.t (.ofNat 128))⟩, ⟨some (.ofNat 130), (some ((.ofNat 125), false)), .bin .add (.t (.ofNat 127)) (.t (.ofNat 129))⟩, ⟨some (.ofNat 131), (some ((.ofNat 125), false)), .mv (.t (.ofNat 23))⟩, ⟨some (.ofNat 132), (some ((.ofNat 125), false)), .mv (.t (.ofNat 23))⟩, ⟨some (.ofNat 133), (some ((.ofNat 125), false)), .bin .sub (.t (.ofNat 132)) (.c (.i .i64 (.ofNat 1)))⟩, ⟨some (.ofNat 134), (some ((.ofNat 125), false)), .bin .mul (.t (.ofNat 131)) (.t (.ofNat 133))⟩, ⟨some (.ofNat 135), (some ((.ofNat 125), false)), .bin .quo (.t (.ofNat 134)) (.c (.i .i64 (.ofNat 2)))⟩, ⟨some (.ofNat 136), (some ((.ofNat 125), false)), .bin .neq (.t (.ofNat 130)) (.t (.ofNat 135))⟩, ⟨some (.ofNat 137), none, .pick (.t (.ofNat 125)) (.c (.b true)) (.t (.ofNat 136))⟩]
noncomputable def f9_r16 : List EOper := [⟨some (.ofNat 6), none, .as (.c (.b false))⟩]
noncomputable def f9_r17 : List EOper := [⟨some (.ofNat 29), none, .as (.c (.i .i64 (.ofNat 0)))⟩]
noncomputable def f9_r18 : List EOper := [⟨some (.ofNat 138), none, .mv (.t (.ofNat 29))⟩, ⟨some (.ofNat 139), none, .mv (.t (.ofNat 27))⟩, ⟨some (.ofNat 140), none, .len (.t (.ofNat 139))⟩, ⟨some (.ofNat 141), none, .bin .lss (.t (.ofNat 138)) (.t (.ofNat 140))⟩]
noncomputable def f9_r19 : List EOper := [⟨some (.ofNat 144), none, .mv (.t (.ofNat 27))⟩, ⟨some (.ofNat 145), none, .mv (.t (.ofNat 29))⟩, ⟨some (.ofNat 146), none, .iads 2 (.t (.ofNat 144)) (.t (.ofNat 145))⟩, ⟨some (.ofNat 147), none, .ldn 2 (.t (.ofNat 146))⟩, ⟨some (.ofNat 30), none, .alloc 2 [(.i .i64 (.ofNat 0)), (.i .i64 (.ofNat 0))]⟩, ⟨none, none, .st 2 (.t (.ofNat 30)) (.t (.ofNat 147))⟩]
noncomputable def f9_r20 : List EOper := [⟨some (.ofNat 148), none, .mv (.t (.ofNat 25))⟩, ⟨some (.ofNat 149), none, .iadr 2 1 (.t (.ofNat 30)) (.c (.i .i64 (.ofNat 0)))⟩, ⟨some (.ofNat 150), none, .ld (.t (.ofNat 149))⟩, ⟨some (.ofNat 151), none, .iadr 2 1 (.t (.ofNat 30)) (.c (.i .i64 (.ofNat 1)))⟩, ⟨some (.ofNat 152), none, .ld (.t (.ofNat 151))⟩, ⟨some (.ofNat 153), none, .min (.t (.ofNat 150)) (.t (.ofNat 152))⟩, ⟨some (.ofNat 154), none, .iadr 2 1 (.t (.ofNat 30)) (.c (.i .i64 (.ofNat 0)))⟩, ⟨some (.ofNat 155), none, .ld (.t (.ofNat 154))⟩, ⟨some (.ofNat 156), none, .iadr 2 1 (.t (.ofNat 30)) (.c (.i .i64 (.ofNat 1)))⟩, ⟨some (.ofNat 157), none, .ld (.t (.ofNat 156))⟩, ⟨some (.ofNat 158), none, .max (.t (.ofNat 155)) (.t (.ofNat 157))⟩, ⟨some (.ofNat 159), none, .build [(.i .i64 (.ofNat 0)), (.i .i64 (.ofNat 0))] [(0, 1, (.t (.ofNat 153))), (1, 1, (.t (.ofNat 158)))]⟩, ⟨some (.ofNat 160), none, .call (.c (.fn (.ofNat 40) [])) [(.t (.ofNat 148)), (.t (.ofNat 159))]⟩]
noncomputable def f9_r21 : List EOper := [⟨some (.ofNat 6), none, .as (.c (.b false))⟩]
noncomputable def f9_r22 : List EOper := [⟨some (.ofNat 142), none, .mv (.t (.ofNat 29))⟩, ⟨some (.ofNat 143), none, .bin .add (.t (.ofNat 142)) (.c (.i .i64 (.ofNat 1)))⟩, ⟨some (.ofNat 29), none, .as (.t (.ofNat 143))⟩]
noncomputable def f9_l0 : EC := (.seq (.seq (.reg f9_r18) (.cond (.t (.ofNat 141)) .skip (.exit 0))) (.seq (.block 1 (.seq (.reg f9_r19) (.seq (.reg f9_r20) (.cond (.t (.ofNat 160)) (.seq (.reg f9_r21) .ret) .skip)))) (.reg f9_r22)))
noncomputable def f9_r23 : List EOper := [⟨some (.ofNat 161), none, .mv (.t (.ofNat 23))⟩, ⟨some (.ofNat 162), none, .mv (.t (.ofNat 27))⟩, ⟨some (.ofNat 163), none, .call (.c (.fn (.ofNat 45) [])) [(.t (.ofNat 161)), (.t (.ofNat 162))]⟩, ⟨some (.ofNat 164), none, .bin .eql (.t (.ofNat 163)) (.c (.i .i64 (.ofNat 0)))⟩, ⟨some (.ofNat 165), none, .mv (.t (.ofNat 164))⟩, ⟨some (.ofNat 166), (some ((.ofNat 165), true)), .call (.c (.fn (.ofNat 22) [])) []⟩, ⟨some (.ofNat 167), none, .pick (.t (.ofNat 165)) (.t (.ofNat 166)) (.c (.b false))⟩, ⟨some (.ofNat 6), none, .as (.t (.ofNat 167))⟩]
noncomputable def f9_c : EC := (.seq (.reg f9_r0) (.seq (.reg f9_r1) (.seq (.reg f9_r2) (.seq (.reg f9_r3) (.seq (.reg f9_r4) (.seq (.reg f9_r5) (.seq (.seq (.reg f9_r6) (.cond (.t (.ofNat 85)) (.seq (.reg f9_r7) .ret) .skip)) (.seq (.seq (.reg f9_r8) (.cond (.t (.ofNat 86)) (.seq (.reg f9_r9) (.seq (.reg f9_r10) (.cond (.t (.ofNat 100)) (.seq (.reg f9_r11) .ret) .skip))) .skip)) (.seq (.reg f9_r12) (.seq (.reg f9_r13) (.seq (.reg f9_r14) (.seq (.seq (.reg f9_r15) (.cond (.t (.ofNat 137)) (.seq (.reg f9_r16) .ret) .skip)) (.seq (.seq (.reg f9_r17) (.block 0 (.loop f9_l0))) (.seq (.reg f9_r23) .ret))))))))))))))
noncomputable def f9 : EF := ⟨168, [.tmp (.ofNat 6)], f9_c, none⟩
theorem f9_rs : f9.rs = [.tmp (.ofNat 6)] := of_eq_true (eq_self _)
/-- What Realize gives. -/
structure ReI (n : Nat) (g : Nat → Nat → Bool) (F : List Bool) (h0 : Nat) (r : V) (h' : H) : Prop where
  out : ∃ b' F', orV (gR (arI (oth n g))) = .tup [rV F', .b b'] ∧ OrI (oth n g) b' F' ∧
    ((b' = true ∧ ∃ u w, r = .tup [.agg [u, w], .b true, .i .i64 0] ∧ Sl iE h' u (lnL (jnR [F, F']) n) ∧ Sl iE h' w (lnL (jnR [F, turnR F']) n) ∧ Own h0 u ∧ Own h0 w) ∨
     (b' = false ∧ r = .tup [.agg [.sn, .sn], .b false, .i .i64 0]))
theorem gR_ord {n : Nat} {g : Nat → Nat → Bool} {F : List Bool} (hg : Gph n g) (_hF : F.length = 49) (o : Ord (Er (gR (arI g))) (Er F)) : gR (arI (rat F)) = gR (arI g) := by
  have sy := symR_g hg
  refine rel_ext gR_len gR_len fun a b ha hb => ?_
  rw [Bool.eq_iff_iff, gR_iff nd_arI, mem_arI', mem_arI']
  constructor
  · rintro (⟨_, _, h⟩ | ⟨_, _, h⟩)
    · exact o.sub _ _ h
    · exact sy.gr.sym _ _ (o.sub _ _ h)
  · intro h
    rcases o.all _ _ h with h | h
    · exact .inl ⟨ha, hb, h⟩
    · exact .inr ⟨hb, ha, h⟩
structure CallsRe (fs : T EF) : Prop extends CallsDw fs where
  c45 : fs.get (K.ofNat 45) = some f45
section
variable {fs : T EF} {h : H}
theorem f44_ret {n : Nat} {v : V} {g : Nat → Nat → Bool} {F : List Bool} (k : CallsRe fs) (hg : Gph n g) (o : OrdN n F) (hE : gR (arI (rat F)) = gR (arI g)) (hv : Srp h v (arI (rat F))) (hc : HC h) : Ret fs f44 [.i .i64 (n : Int), v] h fun r h' => ReI n g F h.nx.nat r h' ∧ Grow h.nx.nat h h' := by
  have hlb := arI_len (g := rat F)
  apply ret_of rfl
  show W fs none f44_c _ _ _
  unfold f44_c
  have n1 := nx_new h (.cells 2 [.sn, .sn])
  have g1 : Grow h.nx.nat h (h.new (.cells 2 [.sn, .sn])) := Grow.new (Nat.le_refl _) _
  have e1 : (h.new (.cells 2 [.sn, .sn])).get h.nx = .cells 2 [.sn, .sn] := get_new_same
  simp (disch := omega) only [f44_r0, f44_r1, w_reg, w_seq, seqK_n, x_nil, x_mv, x_as, x_alloc, x_call, ev_t, ev_c, evs_nil, evs_cons, getV_some, putD_some, frame_2, of0, getK_set, Nat.reduceEqDiff, ↓reduceIte]
  generalize h.new (.cells 2 [.sn, .sn]) = h1 at *
  have hc1 := g1.hc hc
  have hv1 := hv.grow hc g1
  refine (callP_0 (ef := f45) k.c45 rfl (f45_ret k.toCallsCk hv1 (by omega) hc1)).mono ?_
  rintro r h2 ⟨rfl, g2⟩
  rw [ckO_o hg.n1 hg.n7 o]
  have ne0 : decide ((0 : Int) ≠ 0) = false := rfl
  simp (disch := omega) only [f44_r2, f44_r4, w_skip, w_reg, w_seq, w_cond, seqK_n, ckB_b, cbB_b, true_and, x_nil, x_mv, x_as, x_bin, x_call, kx, rvP_ok, okv_some, ev_t, ev_c, evs_nil, evs_cons, getV_some, putD_some, bin_neq, of0, getK_set, Nat.reduceEqDiff, ↓reduceIte, Bool.false_eq_true, ne0]
  have hc2 := g2.hc hc1
  have hv2 := hv1.grow hc1 g2
  refine (callP_0 (ef := f48) k.c48 rfl (f48_ret k.toNat2 hv2 nd_arI (by omega) hc2)).mono ?_
  rintro r h3 ⟨rfl, g3⟩
  rw [hE]
  have hc3 := g3.hc hc2
  have a1 : ∀ {hh : H}, Grow h1.nx.nat h1 hh → hh.get h.nx = .cells 2 [.sn, .sn] := fun {hh} g => (g.old h.nx (by omega)).trans e1
  have g13 : Grow h1.nx.nat h1 h3 := g2.trans (g3.low g2.nx)
  obtain ⟨b', F', hO', hF'⟩ := orI_of (oth_gph hg)
  have hGl : (gR (arI g)).length = 49 := gR_len
  have k49 := k.n49 (gR (arI g)) n
  rw [gR_oth hg] at k49
  have s3 := rC_stn hF'.len rl_len (M := rl fun _ _ => false) (h := h3.new (.cells 49 (List.replicate 49 (.b false)))) (id := h3.nx) (by rw [rl_false]; exact get_new_same)
  have n3 := nx_new h3 (.cells 49 (List.replicate 49 (.b false)))
  have g4 : Grow h3.nx.nat h3 ((h3.new (.cells 49 (List.replicate 49 (.b false)))).put h3.nx (rC F')) := (Grow.new (Nat.le_refl _) _).trans (Grow.put (Nat.le_refl _) (by omega) _)
  have e4 : ((h3.new (.cells 49 (List.replicate 49 (.b false)))).put h3.nx (rC F')).get h3.nx = rC F' := get_put_same
  have g14 := g13.trans (g4.low g13.nx)
  have n4 : ((h3.new (.cells 49 (List.replicate 49 (.b false)))).put h3.nx (rC F')).nx.nat = h3.nx.nat + 1 := n3
  simp (disch := omega) only [w_reg, w_seq, seqK_n, x_nil, x_mv, x_as, x_alloc, x_st, x_ext, x_call, kx, rvP_ok, okv_some, ev_t, ev_c, evs_nil, evs_cons, getV_some, putD_some, putD_none, onTup_t, nth0, nth1, getK_set, Nat.reduceEqDiff, ↓reduceIte, s3, k49 _ _ hGl hg.n7, k.n60 _ _ _ (symR_g (oth_gph hg)), hO']
  generalize (h3.new (.cells 49 (List.replicate 49 (.b false)))).put h3.nx (rC F') = h4 at *
  have hc4 := g14.hc hc1
  have a4 := a1 g14
  have hv4 := hv1.grow hc1 g14
  have g14n := g14.nx
  have st : ∀ {hh : H} {x y : V}, Grow h1.nx.nat h1 hh → storeV hh 2 (.p h.nx 0) (.agg [x, y]) = .ok undefV (hh.put h.nx (.cells 2 [x, y])) := fun {hh x y} g => store_p (a1 g) (show cellsN 2 (.agg [x, y]) = some [x, y] from rfl) (by omega)
  have rd : ∀ {hh : H} {x y : V}, readP (hh.put h.nx (.cells 2 [x, y])) (.p h.nx 0) (many? 2) = some (.agg [x, y]) := rd2 get_put_same
  have gO : ∀ {hh : H} {B : Blk}, Grow h1.nx.nat h1 hh → Grow h.nx.nat h (hh.put h.nx B) := fun {hh B} g => (g1.trans (g.low g1.nx)).trans (Grow.put (Nat.le_refl _) (by have := g.nx; omega) _)
  cases b' with
  | false =>
    simp (disch := omega) only [f44_r5, f44_r6, f44_rs, w_reg, w_seq, w_cond, w_ret, seqK_n, seqK_r, ckB_b, cbB_b, true_and, retK_r, x_nil, x_mv, x_as, x_build, x_st, x_not, kx, rvP_ok, ev_t, ev_c, getV_some, putD_some, putD_none, onB_b, oGet_s, readRs_nil, readRs_t, readRs_n, retV_2, of0, Option.some.injEq, exists_eq_left', getK_set, Nat.reduceEqDiff, ↓reduceIte, Bool.not_false, fill_0, st g14, rd]
    exact ⟨⟨_, _, hO', hF', .inr ⟨rfl, rfl⟩⟩, gO g14⟩
  | true =>
    have lF := rC_ldn hF'.len e4
    simp (disch := omega) only [f44_r5, f44_r7, w_skip, w_draw, w_seq, w_cond, seqK_n, ckB_b, cbB_b, true_and, x_nil, x_mv, x_not, x_call, kx, kg, xg_nil, xg_mv, xg_ldn, xd_cons, fresh_nil, stK_s, stay_nil, rvP_ok, ev_t, ev_c, evs_nil, evs_cons, getV_some, putD_some, onB_b, of0, getK_set, Nat.reduceEqDiff, ↓reduceIte, Bool.false_eq_true, Bool.not_true, lF]
    refine (callP_0 (ef := f71) k.c71 rfl (f71_ret hv4 nd_arI (by omega) hc4)).mono ?_
    rintro r h5 ⟨rfl, g5⟩
    rw [relR_arI o.len]
    have hc5 := g5.hc hc4
    have g15 := g14.trans (g5.low g14.nx)
    have e5 := (g5.old h3.nx (by omega)).trans e4
    have lF5 := rC_ldn hF'.len e5
    simp (disch := omega) only [true_and, x_nil, x_call, kx, xg_nil, xd_cons, fresh_nil, stK_s, stay_nil, stay_cons, again_ok, stay_mv, beq_i, ev_t, ev_c, evs_nil, evs_cons, getV_some, putD_some, getK_set, Nat.reduceEqDiff, ↓reduceIte, stay_ldn, lF5, beq_rV]
    refine (callP_0 (ef := f66) k.c66 rfl (f66_ret k.toCallsTw o.len hF'.len hg.n1 hg.n7 hc5)).mono ?_
    rintro r h6 ⟨u, w, rfl, su, sw, ou, ow, g6⟩
    have g16 := g15.trans (g6.low g15.nx)
    have g15n := g15.nx
    simp (disch := omega) only [f44_rs, w_ret, seqK_n, true_and, retK_r, x_nil, x_as, x_st, kx, xg_nil, xd_cons, fresh_nil, stK_n, stK_s, stay_nil, rvP_ok, ev_t, ev_c, getV_some, putD_some, putD_none, oGet_s, readRs_nil, readRs_t, readRs_n, retV_2, Option.some.injEq, exists_eq_left', getK_set, Nat.reduceEqDiff, ↓reduceIte, st g16, rd]
    exact ⟨⟨_, _, hO', hF', .inl ⟨rfl, u, w, rfl, su.put (ou.notIn (by omega)) _, sw.put (ow.notIn (by omega)) _, ou.low (by omega), ow.low (by omega)⟩⟩, gO g16⟩
theorem OrI.same {n : Nat} {g : Nat → Nat → Bool} {b c : Bool} {F F' : List Bool} (hg : Gph n g) (x : OrI g b F) (y : OrI g c F') : b = c := by
  have hsy := symR_g hg
  cases b with
  | true => cases c with
    | true => rfl
    | false => exact absurd ((x.yes rfl).cf hsy.gr) (y.no rfl).2
  | false => cases c with
    | true => exact absurd ((y.yes rfl).cf hsy.gr) (x.no rfl).2
    | false => rfl
structure CallsPn (fs : T EF) : Prop extends CallsRe fs, CallsDn fs where
  c11 : fs.get (K.ofNat 11) = some f11
  c12 : fs.get (K.ofNat 12) = some f12
  c23 : fs.get (K.ofNat 23) = some f23
  c33 : fs.get (K.ofNat 33) = some f33
  c44 : fs.get (K.ofNat 44) = some f44
  c39 : fs.get (K.ofNat 39) = some f39
  c36 : fs.get (K.ofNat 36) = some f36
  c37 : fs.get (K.ofNat 37) = some f37
  c40 : fs.get (K.ofNat 40) = some f40
  aw : ∀ h P, CallP fs (.fn (K.ofNat 22) []) [] h P = P (.b true) h
def f9_I (h0 : H) (N : Nat) (d c : V) (i : Nat) (fr : Fr) (h1 : H) : Prop := i ≤ 49 ∧ Grow h0.nx.nat h0 h1 ∧ fr.get (K.ofNat 23) = some (.i .i64 (N : Int)) ∧ fr.get (K.ofNat 25) = some (d) ∧ fr.get (K.ofNat 27) = some (c) ∧ fr.get (K.ofNat 29) = some (.i .i64 (i : Int))
theorem f9_tail {n : Int} {v w : V} {X Y : List Int} {id5 : K} {Q : V → H → Prop} (k : CallsPn fs) (hQ : ∀ h', Grow h.nx.nat h h' → Q (.b true) h') (hv : Sr iE h v X) (hw : Sr iE h w Y) (hX : X.length ≤ 9223372036854775807) (hY : Y.length ≤ 9223372036854775807) (hc : HC h) (e5 : h.get id5 = .cells 2 [v, w]) {fr : Fr} (g0 : fr.get (.ofNat 0) = some (.i .i64 n)) (g5 : fr.get (.ofNat 5) = some (.p id5 0)) :
    W fs none (.reg f9_r12) (seqK (W fs none (.seq (.reg f9_r13) (.seq (.reg f9_r14) (.seq (.seq (.reg f9_r15) (.cond (.t (K.ofNat 137)) (.seq (.reg f9_r16) .ret) .skip)) (.seq (.seq (.reg f9_r17) (.block 0 (.loop f9_l0))) (.seq (.reg f9_r23) .ret)))))) (retK f9 Q)) fr h := by
  have l5 := ldn2 e5
  simp (disch := omega) only [f9_r12, w_reg, x_mv, x_ldn, x_call, kx, rvP_ok, ev_t, ev_c, evs_nil, evs_cons, getV_some, putD_some, getK_set, Nat.reduceEqDiff, ↓reduceIte, g0, g5, l5]
  refine (callP_0 (ef := f39) k.c39 rfl (f39_ret (n := n) hv hw hX hY hc)).mono ?_
  rintro r h1 ⟨g1, N, a0, a1, R0, R1, rfl, hN1, hN7, s0, p0, s1, p1, o0, o1⟩
  have hc1 := g1.hc hc
  have n2 := nx_new h1 (.cells 2 [.sn, .sn])
  have e2 : (h1.new (.cells 2 [.sn, .sn])).get h1.nx = .cells 2 [.sn, .sn] := get_new_same
  have st2_ : storeV (h1.new (.cells 2 [.sn, .sn])) 2 (.p h1.nx 0) (.agg [a0, a1]) = .ok undefV ((h1.new (.cells 2 [.sn, .sn])).put h1.nx (.cells 2 [a0, a1])) := store_p e2 (show cellsN 2 (.agg [a0, a1]) = some [a0, a1] from rfl) (by omega)
  have g2 : Grow h1.nx.nat h1 ((h1.new (.cells 2 [.sn, .sn])).put h1.nx (.cells 2 [a0, a1])) := (Grow.new (Nat.le_refl _) _).trans (Grow.put (Nat.le_refl _) (by omega) _)
  have c2 : ((h1.new (.cells 2 [.sn, .sn])).put h1.nx (.cells 2 [a0, a1])).get h1.nx = .cells 2 [a0, a1] := get_put_same
  have n2' : ((h1.new (.cells 2 [.sn, .sn])).put h1.nx (.cells 2 [a0, a1])).nx.nat = h1.nx.nat + 1 := n2
  have l2 := ldn2 c2
  simp (disch := omega) only [f9_r13, w_reg, w_seq, seqK_n, x_nil, x_mv, x_as, x_alloc, x_ldn, x_st, x_ext, x_call, kx, rvP_ok, okv_some, ev_t, ev_c, evs_nil, evs_cons, getV_some, putD_some, putD_none, onTup_t, nth0, nth1, getK_set, Nat.reduceEqDiff, ↓reduceIte, st2_, l2]
  generalize (h1.new (.cells 2 [.sn, .sn])).put h1.nx (.cells 2 [a0, a1]) = h2 at *
  have hc2 := g2.hc hc1
  have gA := g1.trans (g2.low g1.nx)
  have s0' := s0.grow hc1 g2
  have s1' := s1.grow hc1 g2
  have lR : ∀ {R : List Int}, RowP N R → R.length ≤ 9223372036854775807 := fun {R} p => by rw [p.len]; omega
  have hag : agOk (N : Int) R0 R1 := ⟨by omega, by omega, p0.ok, p1.ok⟩
  refine (callP_0 (ef := f36) k.c36 rfl (f36_ret k.toCallsDn s0'.sr s1'.sr (lR p0) (lR p1) hc2)).mono ?_
  rintro r h3 ⟨g3, hr⟩
  rcases hr with ⟨_, d, rfl, sd, od⟩ | ⟨no, _⟩
  · have hc3 := g3.hc hc2
    have gB := gA.trans (g3.low gA.nx)
    have l3 := ldn2 ((g3.old h1.nx (by omega)).trans c2)
    simp (disch := omega) only [f9_r14, w_reg, w_seq, seqK_n, x_nil, x_mv, x_as, x_ldn, x_ext, x_call, kx, rvP_ok, okv_some, ev_t, ev_c, evs_nil, evs_cons, getV_some, putD_some, onTup_t, nth0, nth1, getK_set, Nat.reduceEqDiff, ↓reduceIte, l3]
    refine (callP_0 (ef := f37) k.c37 rfl (f37_ret k.toCallsDn (s0'.grow hc2 g3).sr (s1'.grow hc2 g3).sr (lR p0) (lR p1) hc3)).mono ?_
    rintro r h4 ⟨g4, hr⟩
    rcases hr with ⟨_, c, rfl, sc, oc⟩ | ⟨no, _⟩
    · have hc4 := g4.hc hc3
      have gC := gB.trans (g4.low gB.nx)
      have sd4 := sd.grow hc3 g4
      have ne0 : decide ((0 : Int) ≠ 0) = false := rfl
      have po := pair_once hN7 p0.ok p1.ok
      have ao := agR_ord hN7 p0.ok p1.ok
      have eN : ((N : Int)).toNat = N := Int.toNat_natCast N
      rw [eN] at sd4
      have hld := sd4.len
      have hlc := sc.len
      have bd := arI_len (g := drR N R0 R1)
      have bc := arI_len (g := rat (agR R0 R1))
      have hq : ∀ a, binV .quo (.i .i64 a) (.i .i64 2) = some (.i .i64 (fw .i64 (a.tdiv 2))) := fun a => bin_quo (by omega)
      have hN7i : (N : Int) * ((N : Int) - 1) ≤ 100 ∧ 0 ≤ (N : Int) * ((N : Int) - 1) ∧ ((N : Int) * ((N : Int) - 1)).tdiv 2 = ((N * (N - 1) / 2 : Nat) : Int) := by
        rcases (show N = 1 ∨ N = 2 ∨ N = 3 ∨ N = 4 ∨ N = 5 ∨ N = 6 ∨ N = 7 by omega) with rfl | rfl | rfl | rfl | rfl | rfl | rfl <;> decide
      obtain ⟨q1, q2, q3⟩ := hN7i
      have hsum : ((arI (drR N R0 R1)).length : Int) + ((arI (rat (agR R0 R1))).length : Int) = ((N * (N - 1) / 2 : Nat) : Int) := by omega
      have hb2 : ((N * (N - 1) / 2 : Nat) : Int) ≤ 100 := by rw [← hsum]; omega
      have f1 : fw .i64 ((N : Int) - 1) = (N : Int) - 1 := fw64 (by omega) (by omega)
      have f2 : fw .i64 ((N : Int) * ((N : Int) - 1)) = (N : Int) * ((N : Int) - 1) := fw64 (by omega) (by omega)
      have f3 : fw .i64 ((N * (N - 1) / 2 : Nat) : Int) = ((N * (N - 1) / 2 : Nat) : Int) := fw64 (by omega) (by omega)
      have d0 : decide (((N * (N - 1) / 2 : Nat) : Int) ≠ ((N * (N - 1) / 2 : Nat) : Int)) = false := by simp
      generalize ((N * (N - 1) / 2 : Nat) : Int) = hf at *
      simp (disch := omega) only [f9_r15, f9_r17, w_skip, w_reg, w_seq, w_cond, w_block, seqK_n, ckB_b, cbB_b, okG_b, asG_f, true_and, x_nil, x_g, x_mv, x_as, x_pick, x_bin, x_ext, x_len, kx, rvP_ok, okv_some, ev_t, ev_c, getV_some, putD_some, bin_add, bin_sub, bin_mul, bin_neq, pick_b, onTup_t, nth0, nth1, of0, of1, of2, getK_set, Nat.reduceEqDiff, ↓reduceIte, Bool.false_eq_true, Bool.not_false, ne0, hld, hlc, hq, f1, f2, q3, hsum, f3, d0]
      refine W_loop (f9_I h4 N d c) (fun i => 49 - i) ?_ 0 ⟨by omega, Grow.refl _ _, by simp (disch := omega) only [getK_set, Nat.reduceEqDiff, ↓reduceIte, and_self, Int.natCast_zero]⟩
      clear g0 g5 fr
      rintro i fr h5 ⟨hi, hG, g23, g25, g27, g29⟩
      have hc5 := hG.hc hc4
      have sd5 := sd4.grow hc4 hG
      have sc5 := sc.grow hc4 hG
      have gD := gC.trans (hG.low gC.nx)
      unfold f9_l0
      by_cases hlt : i < (arI (rat (agR R0 R1))).length
      · have d1 : decide ((i : Int) < ((arI (rat (agR R0 R1))).length : Int)) = true := decide_eq_true (by omega)
        obtain ⟨id, q, p1_, p2_, _⟩ := sc5.srpo.at2 hlt
        obtain ⟨x1, x2, hx1, hx2, hxg, hx⟩ := mem_arI.1 (List.getElem_mem hlt)
        have p2_ : loadV h5 (.p id q) (many? 2) = .ok (aV (x1, x2)) h5 := by rw [hx] at p2_; exact p2_
        obtain ⟨hst, gE, c7, n5⟩ := arr_var (h := h5) (x := x1) (y := x2)
        simp (disch := omega) only [f9_r18, f9_r19, w_skip, w_reg, w_seq, w_cond, w_block, seqK_n, ckB_b, cbB_b, true_and, x_nil, x_mv, x_alloc, x_ldn, x_st, x_bin, x_iads, x_len, kx, rvP_ok, okv_some, ev_t, getV_some, putD_some, putD_none, bin_lss, of0, getK_set, Nat.reduceEqDiff, ↓reduceIte, g27, g29, hlc, d1, p1_, p2_, hst]
        generalize (h5.new (.cells 2 [.i .i64 0, .i .i64 0])).put h5.nx (.cells 2 [.i .i64 (x1 : Int), .i .i64 (x2 : Int)]) = h6 at *
        have hc6 := gE.hc hc5
        have sd6 := sd5.grow hc5 gE
        have l60 := ld20 c7
        have l61 := ld21 c7
        have hpv : V.agg [.i .i64 (min (x1 : Int) (x2 : Int)), .i .i64 (max (x1 : Int) (x2 : Int))] = pV (min (x1 : Int) (x2 : Int), max (x1 : Int) (x2 : Int)) := rfl
        have hno : decide ((min (x1 : Int) (x2 : Int), max (x1 : Int) (x2 : Int)) ∈ arI (drR N R0 R1)) = false := by
          refine decide_eq_false fun hm => ?_
          have hxx : ∀ a b : Nat, a < 7 → b < 7 → rat (agR R0 R1) a b = true ∨ rat (agR R0 R1) b a = true → ¬ ((a : Int), (b : Int)) ∈ arI (drR N R0 R1) := fun a b ha hb hab hm => by
            have h1 := (mem_arI'.1 hm).2.2
            have h2 := (drR_iff hN7 p0.ok p1.ok ha hb).1 h1
            rcases hab with h | h
            · exact h2.2.2.1 h
            · exact h2.2.2.2 h
          by_cases hle : x1 ≤ x2
          · rw [show min (x1 : Int) (x2 : Int) = (x1 : Int) by omega, show max (x1 : Int) (x2 : Int) = (x2 : Int) by omega] at hm
            exact hxx _ _ hx1 hx2 (.inl hxg) hm
          · rw [show min (x1 : Int) (x2 : Int) = (x2 : Int) by omega, show max (x1 : Int) (x2 : Int) = (x1 : Int) by omega] at hm
            exact hxx _ _ hx2 hx1 (.inr hxg) hm
        simp (disch := omega) only [f9_r20, x_mv, x_build, x_ld, x_iadr, x_call, x_min, x_max, kx, rvP_ok, ev_t, ev_c, evs_nil, evs_cons, getV_some, putD_some, onP_p, oGet_s, min_ii, max_ii, cells1_i, of0, of1, getK_set, Nat.reduceEqDiff, ↓reduceIte, fill_2, set_2, ix2_0, ix2_1, g25, l60, l61, fill_2, set_2, hpv]
        refine (callP_0 (ef := f40) k.c40 rfl (f40_ret sd6.srpo inI_arI (x := (min (x1 : Int) (x2 : Int), max (x1 : Int) (x2 : Int))) (inI_mm hx1 hx2) (by omega) hc6)).mono ?_
        rintro r h7 ⟨rfl, g7⟩
        rw [hno]
        simp (disch := omega) only [f9_r22, w_skip, w_reg, w_cond, seqK_n, atK_n, loopK_n, ckB_b, cbB_b, true_and, x_nil, x_mv, x_as, x_bin, kx, rvP_ok, okv_some, ev_t, ev_c, getV_some, putD_some, bin_add, of1, getK_set, Nat.reduceEqDiff, ↓reduceIte, Bool.false_eq_true, g29, fw64]
        have gE' := hG.trans (gE.low hG.nx)
        exact ⟨i + 1, by omega, by omega, gE'.trans (g7.low gE'.nx), by simp (disch := omega) only [getK_set, Nat.reduceEqDiff, ↓reduceIte, g23, g25, g27, and_self, Int.natCast_add, Int.natCast_one]⟩
      · have d1 : decide ((i : Int) < ((arI (rat (agR R0 R1))).length : Int)) = false := decide_eq_false (by omega)
        simp (disch := omega) only [f9_r18, f9_r23, w_reg, w_seq, w_cond, w_exit, seqK_n, seqK_e, atK_e, loopK_e, ckB_b, cbB_b, true_and, x_nil, x_mv, x_bin, x_call, x_len, kx, rvP_ok, okv_some, ev_t, ev_c, evs_nil, evs_cons, getV_some, putD_some, bin_lss, of0, getK_set, Nat.reduceEqDiff, ↓reduceIte, Bool.false_eq_true, g23, g27, g29, hlc, d1]
        refine (callP_0 (ef := f45) k.c45 rfl (f45_ret k.toCallsCk sc5.srpo (by omega) hc5)).mono ?_
        rintro r h6 ⟨rfl, g6⟩
        rw [ckO_o hN1 hN7 ao]
        have z0 : decide ((0 : Int) = 0) = true := rfl
        simp (disch := omega) only [f9_rs, w_ret, seqK_n, okG_b, asG_t, true_and, retK_r, x_nil, x_g, x_mv, x_as, x_pick, x_bin, x_call, kx, rvP_ok, okv_some, ev_t, ev_c, evs_nil, getV_some, putD_some, bin_eql, pick_b, oGet_s, readRs_nil, readRs_t, retV_1, Option.some.injEq, exists_eq_left', getK_set, Nat.reduceEqDiff, ↓reduceIte, decide_eq_true_eq, k.aw]
        exact hQ _ (gD.trans (g6.low gD.nx))
    · exact absurd hag no
  · exact absurd hag no
theorem f9_ret {n : Int} {e v w : V} {l : List (Int × Int)} {X Y : List Int} (k : CallsPn fs) (he : Srp h e l) (hv : Sr iE h v X) (hw : Sr iE h w Y) (hX : X.length ≤ 9223372036854775807) (hY : Y.length ≤ 9223372036854775807) (hc : HC h) : Ret fs f9 [.i .i64 n, e, .agg [v, w]] h fun r h' => r = .b true ∧ Grow h.nx.nat h h' := by
  apply ret_of rfl
  show W fs none f9_c _ _ _
  unfold f9_c
  have cvw : cellsN 2 (.agg [v, w]) = some [v, w] := rfl
  have n1 := nx_new h (.cells 2 [v, w])
  have g1 : Grow h.nx.nat h (h.new (.cells 2 [v, w])) := Grow.new (Nat.le_refl _) _
  have e1 : (h.new (.cells 2 [v, w])).get h.nx = .cells 2 [v, w] := get_new_same
  have o7 : Int.ofNat 7 = ((7 : Nat) : Int) := rfl
  simp (disch := omega) only [f9_r0, f9_r1, w_reg, w_seq, seqK_n, x_nil, x_mv, x_as, x_box, x_call, kx, rvP_ok, ev_t, ev_c, evs_nil, evs_cons, getV_some, putD_some, oGet_s, frame_3, getK_set, Nat.reduceEqDiff, ↓reduceIte, of7, cvw]
  generalize h.new (.cells 2 [v, w]) = h1 at *
  have hc1 := g1.hc hc
  refine (callP_0 (ef := f11) k.c11 rfl (f11_ret (n := n) (w := 7) (he.grow hc g1) (by omega) (by omega) hc1)).mono ?_
  rintro r h2 ⟨m, u, g, rfl, hm7, hg, hu, hou, g2⟩
  have hc2 := g2.hc hc1
  simp (disch := omega) only [f9_r2, w_reg, w_seq, seqK_n, x_nil, x_mv, x_as, x_ext, x_call, kx, rvP_ok, okv_some, ev_t, ev_c, evs_nil, evs_cons, getV_some, putD_some, onTup_t, nth0, nth1, getK_set, Nat.reduceEqDiff, ↓reduceIte]
  refine (callP_0 (ef := f12) k.c12 rfl (f12_ret k.toCallsEd hg hu.srpo hc2)).mono ?_
  rintro r h3 ⟨ot, rfl, hot, _, g3⟩
  have hc3 := g3.hc hc2
  have hu3 := hu.grow hc2 g3
  have ho := oth_gph hg
  simp (disch := omega) only [f9_r3, w_reg, w_seq, seqK_n, x_nil, x_mv, x_as, x_ext, x_call, kx, rvP_ok, okv_some, ev_t, ev_c, evs_nil, evs_cons, getV_some, putD_some, onTup_t, nth0, nth1, getK_set, Nat.reduceEqDiff, ↓reduceIte]
  refine (callP_0 (ef := f23) k.c23 rfl (f23_ret k.toCallsOr hg hu3.srpo hc3)).mono ?_
  rintro r h4 ⟨b, F, o, rfl, hF, hol, _, g4⟩
  have hc4 := g4.hc hc3
  simp (disch := omega) only [f9_r4, w_reg, w_seq, seqK_n, x_nil, x_mv, x_as, x_ext, x_call, kx, rvP_ok, okv_some, ev_t, ev_c, evs_nil, evs_cons, getV_some, putD_some, onTup_t, nth0, nth1, nth2, getK_set, Nat.reduceEqDiff, ↓reduceIte]
  refine (callP_0 (ef := f23) k.c23 rfl (f23_ret k.toCallsOr ho (hot.grow hc3 g4).srpo hc4)).mono ?_
  rintro r h5 ⟨b', F', o', rfl, hF', _, _, g5⟩
  have hc5 := g5.hc hc4
  simp (disch := omega) only [f9_r5, w_reg, w_seq, seqK_n, x_nil, x_mv, x_as, x_ext, x_call, kx, rvP_ok, okv_some, ev_t, ev_c, evs_nil, evs_cons, getV_some, putD_some, onTup_t, nth0, nth1, nth2, getK_set, Nat.reduceEqDiff, ↓reduceIte]
  refine (callP_0 (ef := f33) k.c33 rfl (f33_ret k.toCallsDw hg ((hu3.grow hc3 g4).grow hc4 g5).srpo hc5)).mono ?_
  rintro r h6 ⟨⟨b2, F2, b2', F2', _, _, hF2, hF2', hr⟩, g6⟩
  obtain rfl := hF.same hg hF2
  obtain rfl := hF'.same ho hF2'
  have hc6 := g6.hc hc5
  obtain ⟨x, y, rfl⟩ : ∃ x y, r = .tup [.agg [x, y], .b (b && b'), .i .i64 0] := by
    rcases hr with ⟨q, x, y, rfl, _⟩ | ⟨q, rfl⟩
    · exact ⟨x, y, by rw [q]⟩
    · exact ⟨_, _, by rw [q]⟩
  have n7 := nx_new h6 (.cells 2 [.sn, .sn])
  have s7 : storeV (h6.new (.cells 2 [.sn, .sn])) 2 (.p h6.nx 0) (.agg [x, y]) = .ok undefV ((h6.new (.cells 2 [.sn, .sn])).put h6.nx (.cells 2 [x, y])) := store_p get_new_same (show cellsN 2 (.agg [x, y]) = some [x, y] from rfl) (by omega)
  have g7 : Grow h6.nx.nat h6 ((h6.new (.cells 2 [.sn, .sn])).put h6.nx (.cells 2 [x, y])) := (Grow.new (Nat.le_refl _) _).trans (Grow.put (Nat.le_refl _) (by omega) _)
  have g26 : Grow h1.nx.nat h1 h6 := g2.trans ((g3.low g2.nx).trans ((g4.low (by have := g2.nx; have := g3.nx; omega)).trans ((g5.low (by have := g2.nx; have := g3.nx; have := g4.nx; omega)).trans (g6.low (by have := g2.nx; have := g3.nx; have := g4.nx; have := g5.nx; omega)))))
  have hol6 := (hol.grow hc4 g5).grow hc5 g6
  simp (disch := omega) only [w_reg, w_seq, seqK_n, x_nil, x_mv, x_as, x_alloc, x_st, x_ext, kx, rvP_ok, okv_some, ev_t, getV_some, putD_some, putD_none, onTup_t, nth0, nth1, nth2, getK_set, Nat.reduceEqDiff, ↓reduceIte, s7]
  generalize (h6.new (.cells 2 [.sn, .sn])).put h6.nx (.cells 2 [x, y]) = h7 at *
  have hc7 := g7.hc hc6
  have g17 := g26.trans (g7.low g26.nx)
  have hol7 := hol6.grow hc6 g7
  have ne0 : decide ((0 : Int) ≠ 0) = false := rfl
  have kt : keyEq (.one none) (.b true) (.b true) = some true := rfl
  have kf : keyEq (.one none) (.b false) (.b false) = some true := rfl
  have hQ : ∀ {hh : H}, Grow h1.nx.nat h1 hh → ∀ h', Grow hh.nx.nat hh h' → (V.b true = .b true ∧ Grow h.nx.nat h h') := fun {hh} g h' g' => ⟨rfl, (g1.trans (g.low g1.nx)).trans (g'.low (by have := g1.nx; have := g.nx; omega))⟩
  have nA := g1.nx
  cases b with
  | false =>
    simp (disch := omega) only [f9_r6, f9_r8, w_skip, w_reg, w_seq, w_cond, seqK_n, ckB_b, cbB_b, okG_b, asG_t, asG_f, true_and, x_nil, x_g, x_mv, x_pick, x_bin, x_eqk, kx, rvP_ok, okv_some, ev_t, ev_c, getV_some, putD_some, bin_neq, pick_b, oGet_s, of0, getK_set, Nat.reduceEqDiff, ↓reduceIte, Bool.false_eq_true, Bool.not_true, Bool.not_false, ne0, kf, cond_true, Bool.false_and]
    exact f9_tail (n := n) (h := h7) k (hQ g17) (hv.grow hc (g1.trans (g17.low g1.nx))) (hw.grow hc (g1.trans (g17.low g1.nx))) hX hY hc7 ((g17.old h.nx (by omega)).trans e1) (by simp (disch := omega) only [getK_set, Nat.reduceEqDiff, ↓reduceIte]) (by simp (disch := omega) only [getK_set, Nat.reduceEqDiff, ↓reduceIte])
  | true =>
    have oF := ord_n hg hF.len (hF.yes rfl)
    have hE := gR_ord hg hF.len (hF.yes rfl)
    have kk : ∀ c : Bool, keyEq (.one none) (.b c) (.b c) = some true := fun c => by cases c <;> rfl
    simp (disch := omega) only [f9_r6, f9_r8, f9_r9, w_skip, w_reg, w_seq, w_cond, seqK_n, ckB_b, cbB_b, okG_b, asG_t, asG_f, true_and, x_nil, x_g, x_mv, x_pick, x_bin, x_eqk, x_call, kx, rvP_ok, okv_some, ev_t, ev_c, evs_nil, evs_cons, getV_some, putD_some, bin_neq, pick_b, oGet_s, of0, getK_set, Nat.reduceEqDiff, ↓reduceIte, Bool.false_eq_true, Bool.not_true, Bool.not_false, ne0, kk, cond_true, Bool.true_and]
    refine (callP_0 (ef := f44) k.c44 rfl (f44_ret k.toCallsRe hg oF hE hol7.srpo hc7)).mono ?_
    rintro r h8 ⟨⟨b3, F3, _, hF3, hr⟩, g8⟩
    obtain rfl := hF'.same ho hF3
    have hc8 := g8.hc hc7
    obtain ⟨x, y, rfl⟩ : ∃ x y, r = .tup [.agg [x, y], .b b', .i .i64 0] := by
      rcases hr with ⟨q, x, y, rfl, _⟩ | ⟨q, rfl⟩
      · exact ⟨x, y, by rw [q]⟩
      · exact ⟨_, _, by rw [q]⟩
    have n9 := nx_new h8 (.cells 2 [.sn, .sn])
    have s9 : storeV (h8.new (.cells 2 [.sn, .sn])) 2 (.p h8.nx 0) (.agg [x, y]) = .ok undefV ((h8.new (.cells 2 [.sn, .sn])).put h8.nx (.cells 2 [x, y])) := store_p get_new_same (show cellsN 2 (.agg [x, y]) = some [x, y] from rfl) (by omega)
    have g9 : Grow h8.nx.nat h8 ((h8.new (.cells 2 [.sn, .sn])).put h8.nx (.cells 2 [x, y])) := (Grow.new (Nat.le_refl _) _).trans (Grow.put (Nat.le_refl _) (by omega) _)
    have g19 := g17.trans ((g8.low g17.nx).trans (g9.low (by have := g17.nx; have := g8.nx; omega)))
    simp (disch := omega) only [f9_r10, w_skip, w_reg, w_seq, w_cond, seqK_n, ckB_b, cbB_b, okG_b, asG_f, true_and, x_nil, x_g, x_mv, x_as, x_pick, x_alloc, x_st, x_bin, x_eqk, x_ext, kx, rvP_ok, okv_some, ev_t, ev_c, getV_some, putD_some, putD_none, bin_neq, pick_b, onTup_t, oGet_s, nth0, nth1, nth2, of0, getK_set, Nat.reduceEqDiff, ↓reduceIte, Bool.false_eq_true, Bool.not_true, Bool.not_false, s9, ne0, kk, cond_true]
    generalize (h8.new (.cells 2 [.sn, .sn])).put h8.nx (.cells 2 [x, y]) = h9 at *
    exact f9_tail (n := n) (h := h9) k (hQ g19) (hv.grow hc (g1.trans (g19.low g1.nx))) (hw.grow hc (g1.trans (g19.low g1.nx))) hX hY (g19.hc hc1) ((g19.old h.nx (by omega)).trans e1) (by simp (disch := omega) only [getK_set, Nat.reduceEqDiff, ↓reduceIte]) (by simp (disch := omega) only [getK_set, Nat.reduceEqDiff, ↓reduceIte])
end
end Go.Ev
namespace Go.Ev
open Go Go.RowKit
end Go.Ev
namespace Go.Ev
open Go Go.RowKit Go.ChangeShapes Go.WideShapes Go.ChangeAt
theorem Sr.oneT {e : Int → V} {h : H} {v : V} {L : List Int} (hs : Sr e h v L) : v.one = true := by
  rcases hs with ⟨rfl, _⟩ | ⟨_, _, _, _, rfl, _⟩ <;> rfl
theorem VR.s2 {ι : Io} {a b : V} {x y : Value} (h1 : VR ι a x) (h2 : VR ι b y) (o1 : a.one = true) (o2 : b.one = true) : VR ι (.agg [a, b]) (.agg #[x, y]) :=
  VR.aggs (cs := [a, b]) (vs := [x, y]) (.cons h1 (.cons h2 .nil)) fun z hz => by
    simp only [List.mem_cons, List.not_mem_nil, or_false] at hz
    rcases hz with rfl | rfl
    · exact o1
    · exact o2
section
variable {H : Type} {enc : TypeId × Value → H} {P : Program}
theorem trod_arr2x {w : World} {base : Nat} {spare : Nat → Bool} {held : Bool} {t e : TypeId} {fuel : Nat} {c0 c1 : Value} {x : DataW H × List MemPlace} (ht : P.underlying t = some (.array 2 e)) (hce : P.cellsOf e = 1)
    (h : DataW.trod enc P w base spare held fuel t [c0, c1] = some x) : ∃ y0 y1 n, fuel = n + 1 ∧ DataW.trod enc P w base spare held n e [c0] = some y0 ∧ DataW.trod enc P w base spare held n e [c1] = some y1 ∧ x = (.agg [y0.1, y1.1], y0.2 ++ y1.2) := by
  cases fuel with
  | zero => simp [DataW.trod] at h
  | succ n =>
    unfold DataW.trod at h
    rw [ht] at h
    have r2 : List.range 2 = [0, 1] := rfl
    simp [r2, hce] at h
    obtain ⟨_, h⟩ := h
    cases h0 : DataW.trod enc P w base spare held n e [c0] with
    | none => simp [h0] at h
    | some y0 =>
      cases h1 : DataW.trod enc P w base spare held n e [c1] with
      | none => simp [h0, h1] at h
      | some y1 =>
        simp [h0, h1] at h
        exact ⟨y0, y1, n, rfl, h0, h1, h.symm⟩
theorem trod_arr2m {w : World} {base : Nat} {spare : Nat → Bool} {held : Bool} {t e : TypeId} {n : Nat} {c0 c1 : Value} {y0 y1 : DataW H × List MemPlace} (ht : P.underlying t = some (.array 2 e)) (hce : P.cellsOf e = 1) (hct : P.cellsOf t = 2)
    (h0 : DataW.trod enc P w base spare held n e [c0] = some y0) (h1 : DataW.trod enc P w base spare held n e [c1] = some y1) : DataW.trod enc P w base spare held (n + 1) t [c0, c1] = some (.agg [y0.1, y1.1], y0.2 ++ y1.2) := by
  unfold DataW.trod
  rw [ht]
  have r2 : List.range 2 = [0, 1] := rfl
  simp [r2, hce, hct, h0, h1]
/-- Two slices of numbers in an array come in. -/
theorem open_2s {W : World} {base : Nat} {t s e : TypeId} (ht : P.underlying t = some (.array 2 s)) (hs : P.underlying s = some (.slice e)) (he : P.underlying e = some (.int .i64)) (hce : P.cellsOf e = 1) (hcs : P.cellsOf s = 1) (hct : P.cellsOf t = 2) (hts : P.cellTypes P.depth t = some [s, s])
    {v : Value} {d : DataW H} {p ps : List MemPlace} (hval : Value.okWide P W .any base t v) (hd : DataW.Trod enc P W 0 (fun _ => true) true t v d p) (hps : ∀ x ∈ p, x ∈ ps) (hnf : W.noneFrozen ps) :
    ∃ v0 v1 L0 L1, v = .agg #[v0, v1] ∧ SlArg W v0 L0 ∧ L0.length ≤ 9223372036854775807 ∧ SlArg W v1 L1 ∧ L1.length ≤ 9223372036854775807 ∧ ∀ W', Below W.heap.size W W' → DataW.Trod enc P W' 0 (fun b => decide (b < W.heap.size)) true t v d p := by
  have hval0 := hval
  unfold Value.okWide at hval
  rw [ht] at hval
  obtain ⟨cs, rfl, hsz, ts, hts', _, hcell⟩ := hval
  rw [hts] at hts'
  obtain rfl := Option.some.inj hts'
  rw [hct] at hsz
  obtain ⟨l⟩ := cs
  have hl : l.length = 2 := hsz
  match l, hl with
  | [c0, c1], _ =>
    have q0 : Value.okWide P W .any base s c0 := by
      obtain ⟨u, h1, h2⟩ := hcell 0 c0 rfl
      obtain rfl : s = u := Option.some.inj h1
      unfold Value.okWide; rw [hs]; exact h2
    have q1 : Value.okWide P W .any base s c1 := by
      obtain ⟨u, h1, h2⟩ := hcell 1 c1 rfl
      obtain rfl : s = u := Option.some.inj h1
      unfold Value.okWide; rw [hs]; exact h2
    obtain ⟨fuel, hf⟩ := hd
    have hf : DataW.trod enc P W 0 (fun _ => true) true fuel t [c0, c1] = some (d, p) := hf
    obtain ⟨y0, y1, n, rfl, h0, h1, hx⟩ := trod_arr2x ht hcs hf
    have hp : p = y0.2 ++ y1.2 := (Prod.ext_iff.1 hx).2
    have hdd : d = .agg [y0.1, y1.1] := (Prod.ext_iff.1 hx).1
    have t0 : DataW.Trod enc P W 0 (fun _ => true) true s c0 y0.1 y0.2 := by
      obtain ⟨a, b, c, rfl⟩ := okWide_slice hs q0
      exact ⟨n, h0⟩
    have t1 : DataW.Trod enc P W 0 (fun _ => true) true s c1 y1.1 y1.2 := by
      obtain ⟨a, b, c, rfl⟩ := okWide_slice hs q1
      exact ⟨n, h1⟩
    obtain ⟨L0, s0, _⟩ := trod_slArg hs he hce q0 t0 (fun x hx => hps x (by rw [hp]; exact List.mem_append_left _ hx)) hnf
    obtain ⟨L1, s1, _⟩ := trod_slArg hs he hce q1 t1 (fun x hx => hps x (by rw [hp]; exact List.mem_append_right _ hx)) hnf
    refine ⟨c0, c1, L0, L1, rfl, s0, slArg_len hs q0 s0, s1, slArg_len hs q1 s1, fun W' hb => ⟨n + 1, ?_⟩⟩
    have sm := trod_same (H := H) (enc := enc) (W' := W') hs (Plain.sameR (plain_int he)) (by omega) hb
    rw [hdd, hp]
    exact trod_arr2m ht hcs hct (sm n _ _ h0) (sm n _ _ h1)
end
end Go.Ev
