/-
  Orders: a graph of any numbers (tame); lists of arrows; Others.
  Orders (plain): an order by classes (Golumbic).
  Orders: the list of a relation's arrows; an order of a graph (oriented).
  Orders (plain): lists of arrows are graphs, and orders.
  Orders: Has, joined of the reference; Orient; CheckOrder.
  Orders (plain): layers of an order.
  Orders: layers, and a chain.
  Orders: the greatest; a longest chain; Chain, Layers.
  Orders (plain): colours.
  Orders: Colours; OrdersMirsky.
  Orders: functions of plain values as natives.
  Orders (plain): a map from arrows to arrows; a search, the nearest first.
  Orders: slices.Reverse; the way back (wayTo).
  Orders: what look of findClash does: a search, the nearest first.
  Orders: the reference's Forces and arrows.
  Orders: slices.DeleteFunc; the edges of a graph.
  Orders: slices.DeleteFunc, run; edges; Others; the reference's Others, Same.
-/
import Derived.Test.YtdmnejhjlmeodaaPf
namespace Go.Ev
open Go Go.RowKit
noncomputable def f11_r0 : List EOper := [⟨some (.ofNat 6), none, .as (.c (.i .i64 (.ofNat 0)))⟩, ⟨some (.ofNat 7), none, .as (.c .sn)⟩]
noncomputable def f11_r1 : List EOper := [⟨some (.ofNat 14), none, .mv (.t (.ofNat 0))⟩, ⟨some (.ofNat 15), none, .conv .u64 (.t (.ofNat 14))⟩, ⟨some (.ofNat 16), none, .mv (.t (.ofNat 2))⟩, ⟨some (.ofNat 17), none, .conv .u64 (.t (.ofNat 16))⟩, ⟨some (.ofNat 18), none, .bin .rem (.t (.ofNat 15)) (.t (.ofNat 17))⟩, ⟨some (.ofNat 19), none, .conv .i64 (.t (.ofNat 18))⟩, ⟨some (.ofNat 20), none, .bin .add (.c (.i .i64 (.ofNat 1))) (.t (.ofNat 19))⟩, ⟨some (.ofNat 0), none, .as (.t (.ofNat 20))⟩]
noncomputable def f11_r2 : List EOper := [⟨some (.ofNat 8), none, .as (.c .sn)⟩]
noncomputable def f11_r3 : List EOper := [⟨some (.ofNat 9), none, .as (.c (.i .i64 (.ofNat 0)))⟩]
noncomputable def f11_r4 : List EOper := [⟨some (.ofNat 21), none, .mv (.t (.ofNat 9))⟩, ⟨some (.ofNat 22), none, .mv (.t (.ofNat 0))⟩, ⟨some (.ofNat 23), none, .bin .lss (.t (.ofNat 21)) (.t (.ofNat 22))⟩]
noncomputable def f11_r5 : List EOper := [⟨some (.ofNat 26), none, .mv (.t (.ofNat 9))⟩, ⟨some (.ofNat 27), none, .bin .add (.t (.ofNat 26)) (.c (.i .i64 (.ofNat 1)))⟩, ⟨some (.ofNat 10), none, .as (.t (.ofNat 27))⟩]
noncomputable def f11_r6 : List EOper := [⟨some (.ofNat 28), none, .mv (.t (.ofNat 10))⟩, ⟨some (.ofNat 29), none, .mv (.t (.ofNat 0))⟩, ⟨some (.ofNat 30), none, .bin .lss (.t (.ofNat 28)) (.t (.ofNat 29))⟩]
noncomputable def f11_r7 : List EOper := [⟨some (.ofNat 11), none, .as (.c (.i .i64 (.ofNat 0)))⟩]
noncomputable def f11_r8 : List EOper := [⟨some (.ofNat 33), none, .mv (.t (.ofNat 11))⟩, ⟨some (.ofNat 34), none, .mv (.t (.ofNat 1))⟩, ⟨some (.ofNat 35), none, .len (.t (.ofNat 34))⟩, ⟨some (.ofNat 36), none, .bin .lss (.t (.ofNat 33)) (.t (.ofNat 35))⟩, ⟨some (.ofNat 37), none, .mv (.t (.ofNat 36))⟩, ⟨some (.ofNat 38), (some ((.ofNat 37), true)), .mv (.t (.ofNat 11))⟩, ⟨some (.ofNat 39), (some ((.ofNat 37), true)), .bin .lss (.t (.ofNat 38)) (.c (.i .i64 (.ofNat 25)))⟩, ⟨some (.ofNat 40), none, .pick (.t (.ofNat 37)) (.t (.ofNat 39)) (.c (.b false))⟩]
noncomputable def f11_r9 : List Stage := [⟨[⟨some (.ofNat 43), none, .mv (.t (.ofNat 1))⟩, ⟨some (.ofNat 44), none, .mv (.t (.ofNat 11))⟩, ⟨some (.ofNat 45), none, .iads 2 (.t (.ofNat 43)) (.t (.ofNat 44))⟩, ⟨some (.ofNat 46), none, .iadr 2 1 (.t (.ofNat 45)) (.c (.i .i64 (.ofNat 0)))⟩, ⟨some (.ofNat 47), none, .ld (.t (.ofNat 46))⟩, ⟨some (.ofNat 48), none, .conv .u64 (.t (.ofNat 47))⟩, ⟨some (.ofNat 49), none, .mv (.t (.ofNat 0))⟩, ⟨some (.ofNat 50), none, .conv .u64 (.t (.ofNat 49))⟩, ⟨some (.ofNat 51), none, .bin .rem (.t (.ofNat 48)) (.t (.ofNat 50))⟩, ⟨some (.ofNat 52), none, .conv .i64 (.t (.ofNat 51))⟩, ⟨some (.ofNat 53), none, .mv (.t (.ofNat 1))⟩, ⟨some (.ofNat 54), none, .mv (.t (.ofNat 11))⟩, ⟨some (.ofNat 55), none, .iads 2 (.t (.ofNat 53)) (.t (.ofNat 54))⟩, ⟨some (.ofNat 56), none, .iadr 2 1 (.t (.ofNat 55)) (.c (.i .i64 (.ofNat 1)))⟩, ⟨some (.ofNat 57), none, .ld (.t (.ofNat 56))⟩, ⟨some (.ofNat 58), none, .conv .u64 (.t (.ofNat 57))⟩, ⟨some (.ofNat 59), none, .mv (.t (.ofNat 0))⟩, ⟨some (.ofNat 60), none, .conv .u64 (.t (.ofNat 59))⟩, ⟨some (.ofNat 61), none, .bin .rem (.t (.ofNat 58)) (.t (.ofNat 60))⟩, ⟨some (.ofNat 62), none, .conv .i64 (.t (.ofNat 61))⟩], [], (some ⟨some (.ofNat 12), none, .as (.t (.ofNat 52))⟩), []⟩, ⟨[], [⟨some (.ofNat 53), none, .mv (.t (.ofNat 1))⟩, ⟨some (.ofNat 54), none, .mv (.t (.ofNat 11))⟩, ⟨some (.ofNat 55), none, .iads 2 (.t (.ofNat 53)) (.t (.ofNat 54))⟩, ⟨some (.ofNat 56), none, .iadr 2 1 (.t (.ofNat 55)) (.c (.i .i64 (.ofNat 1)))⟩, ⟨some (.ofNat 57), none, .ld (.t (.ofNat 56))⟩, ⟨some (.ofNat 58), none, .conv .u64 (.t (.ofNat 57))⟩, ⟨some (.ofNat 59), none, .mv (.t (.ofNat 0))⟩, ⟨some (.ofNat 60), none, .conv .u64 (.t (.ofNat 59))⟩, ⟨some (.ofNat 61), none, .bin .rem (.t (.ofNat 58)) (.t (.ofNat 60))⟩, ⟨some (.ofNat 62), none, .conv .i64 (.t (.ofNat 61))⟩], (some ⟨some (.ofNat 13), none, .as (.t (.ofNat 62))⟩), []⟩, ⟨[], [], none, []⟩]
noncomputable def f11_r10 : List EOper := [⟨some (.ofNat 63), none, .mv (.t (.ofNat 12))⟩, ⟨some (.ofNat 64), none, .mv (.t (.ofNat 13))⟩, ⟨some (.ofNat 65), none, .min (.t (.ofNat 63)) (.t (.ofNat 64))⟩, ⟨some (.ofNat 66), none, .mv (.t (.ofNat 9))⟩, ⟨some (.ofNat 67), none, .bin .eql (.t (.ofNat 65)) (.t (.ofNat 66))⟩, ⟨some (.ofNat 68), none, .mv (.t (.ofNat 67))⟩, ⟨some (.ofNat 69), (some ((.ofNat 68), true)), .mv (.t (.ofNat 12))⟩, ⟨some (.ofNat 70), (some ((.ofNat 68), true)), .mv (.t (.ofNat 13))⟩, ⟨some (.ofNat 71), (some ((.ofNat 68), true)), .max (.t (.ofNat 69)) (.t (.ofNat 70))⟩, ⟨some (.ofNat 72), (some ((.ofNat 68), true)), .mv (.t (.ofNat 10))⟩, ⟨some (.ofNat 73), (some ((.ofNat 68), true)), .bin .eql (.t (.ofNat 71)) (.t (.ofNat 72))⟩, ⟨some (.ofNat 74), none, .pick (.t (.ofNat 68)) (.t (.ofNat 73)) (.c (.b false))⟩]
noncomputable def f11_r11 : List EOper := [⟨some (.ofNat 75), none, .mv (.t (.ofNat 8))⟩, ⟨some (.ofNat 76), none, .mv (.t (.ofNat 9))⟩, ⟨some (.ofNat 77), none, .mv (.t (.ofNat 10))⟩, ⟨some (.ofNat 78), none, .build [(.i .i64 (.ofNat 0)), (.i .i64 (.ofNat 0))] [(0, 1, (.t (.ofNat 76))), (1, 1, (.t (.ofNat 77)))]⟩, ⟨some (.ofNat 79), none, .bslice 1 2 [(.i .i64 (.ofNat 0)), (.i .i64 (.ofNat 0))] [(0, 2, (.t (.ofNat 78)))]⟩, ⟨some (.ofNat 80), none, .app 2 (.t (.ofNat 75)) (.t (.ofNat 79))⟩, ⟨some (.ofNat 8), none, .as (.t (.ofNat 80))⟩]
noncomputable def f11_r12 : List EOper := [⟨some (.ofNat 41), none, .mv (.t (.ofNat 11))⟩, ⟨some (.ofNat 42), none, .bin .add (.t (.ofNat 41)) (.c (.i .i64 (.ofNat 1)))⟩, ⟨some (.ofNat 11), none, .as (.t (.ofNat 42))⟩]
noncomputable def f11_l0 : EC := (.seq (.seq (.reg f11_r8) (.cond (.t (.ofNat 40)) .skip (.exit 4))) (.seq (.block 5 (.seq (.draw f11_r9) (.seq (.reg f11_r10) (.cond (.t (.ofNat 74)) (.seq (.reg f11_r11) (.exit 4)) .skip)))) (.reg f11_r12)))
noncomputable def f11_r13 : List EOper := [⟨some (.ofNat 31), none, .mv (.t (.ofNat 10))⟩, ⟨some (.ofNat 32), none, .bin .add (.t (.ofNat 31)) (.c (.i .i64 (.ofNat 1)))⟩, ⟨some (.ofNat 10), none, .as (.t (.ofNat 32))⟩]
noncomputable def f11_l1 : EC := (.seq (.seq (.reg f11_r6) (.cond (.t (.ofNat 30)) .skip (.exit 2))) (.seq (.block 3 (.seq (.reg f11_r7) (.block 4 (.loop f11_l0)))) (.reg f11_r13)))
noncomputable def f11_r14 : List EOper := [⟨some (.ofNat 24), none, .mv (.t (.ofNat 9))⟩, ⟨some (.ofNat 25), none, .bin .add (.t (.ofNat 24)) (.c (.i .i64 (.ofNat 1)))⟩, ⟨some (.ofNat 9), none, .as (.t (.ofNat 25))⟩]
noncomputable def f11_l2 : EC := (.seq (.seq (.reg f11_r4) (.cond (.t (.ofNat 23)) .skip (.exit 0))) (.seq (.block 1 (.seq (.reg f11_r5) (.block 2 (.loop f11_l1)))) (.reg f11_r14)))
noncomputable def f11_r15 : List EOper := [⟨some (.ofNat 81), none, .mv (.t (.ofNat 0))⟩, ⟨some (.ofNat 82), none, .mv (.t (.ofNat 8))⟩, ⟨some (.ofNat 6), none, .as (.t (.ofNat 81))⟩, ⟨some (.ofNat 7), none, .as (.t (.ofNat 82))⟩]
noncomputable def f11_c : EC := (.seq (.reg f11_r0) (.seq (.reg f11_r1) (.seq (.reg f11_r2) (.seq (.seq (.reg f11_r3) (.block 0 (.loop f11_l2))) (.seq (.reg f11_r15) .ret)))))
noncomputable def f11 : EF := ⟨83, [.tmp (.ofNat 6), .tmp (.ofNat 7)], f11_c, none⟩
theorem f11_rs : f11.rs = [.tmp (.ofNat 6), .tmp (.ofNat 7)] := of_eq_true (eq_self _)
noncomputable def f58_r0 : List EOper := [⟨some (.ofNat 1), none, .box 49 (.t (.ofNat 0))⟩, ⟨some (.ofNat 2), none, .as (.c .sn)⟩]
noncomputable def f58_r1 : List EOper := [⟨some (.ofNat 3), none, .alloc 1 [.sn]⟩]
noncomputable def f58_r2 : List EOper := [⟨some (.ofNat 5), none, .ldn 49 (.t (.ofNat 1))⟩, ⟨some (.ofNat 6), none, .call (.c (.fn (.ofNat 84) [])) [(.t (.ofNat 5))]⟩]
noncomputable def f58_r3 : List EOper := [⟨some (.ofNat 4), none, .alloc 2 [(.i .i64 (.ofNat 0)), (.i .i64 (.ofNat 0))]⟩, ⟨none, none, .st 2 (.t (.ofNat 4)) (.t (.ofNat 7))⟩]
noncomputable def f58_a0 : EC := (.reg f58_r3)
noncomputable def f58_r4 : List Stage := [⟨[⟨some (.ofNat 8), none, .ld (.t (.ofNat 3))⟩, ⟨some (.ofNat 9), none, .ldn 2 (.t (.ofNat 4))⟩], [], (some ⟨some (.ofNat 10), none, .call (.c (.fn (.ofNat 78) [])) [(.t (.ofNat 9))]⟩), []⟩, ⟨[⟨some (.ofNat 11), none, .bslice 1 2 [(.i .i64 (.ofNat 0)), (.i .i64 (.ofNat 0))] [(0, 2, (.t (.ofNat 10)))]⟩], [⟨some (.ofNat 8), none, .ld (.t (.ofNat 3))⟩], (some ⟨some (.ofNat 12), none, .app 2 (.t (.ofNat 8)) (.t (.ofNat 11))⟩), [(.ofNat 11)]⟩, ⟨[], [], (some ⟨none, none, .st 1 (.t (.ofNat 3)) (.t (.ofNat 12))⟩), []⟩, ⟨[], [], none, []⟩]
noncomputable def f58_b0 : EC := (.block 1 (.draw f58_r4))
noncomputable def f58_r5 : List EOper := [⟨some (.ofNat 13), none, .ld (.t (.ofNat 3))⟩, ⟨some (.ofNat 2), none, .as (.t (.ofNat 13))⟩]
noncomputable def f58_c : EC := (.seq (.reg f58_r0) (.seq (.reg f58_r1) (.seq (.seq (.reg f58_r2) (.block 0 (.rangeF (.t (.ofNat 6)) [(.ofNat 7)] f58_a0 f58_b0))) (.seq (.reg f58_r5) .ret))))
noncomputable def f58 : EF := ⟨14, [.tmp (.ofNat 2)], f58_c, none⟩
theorem f58_rs : f58.rs = [.tmp (.ofNat 2)] := of_eq_true (eq_self _)
noncomputable def f83_r0 : List EOper := [⟨some (.ofNat 1), none, .box 2 (.t (.ofNat 0))⟩, ⟨some (.ofNat 2), none, .as (.c (.b false))⟩]
noncomputable def f83_r1 : List EOper := [⟨some (.ofNat 3), none, .iadr 2 1 (.t (.ofNat 1)) (.c (.i .i64 (.ofNat 0)))⟩, ⟨some (.ofNat 4), none, .ld (.t (.ofNat 3))⟩, ⟨some (.ofNat 5), none, .iadr 2 1 (.t (.ofNat 1)) (.c (.i .i64 (.ofNat 1)))⟩, ⟨some (.ofNat 6), none, .ld (.t (.ofNat 5))⟩, ⟨some (.ofNat 7), none, .bin .gtr (.t (.ofNat 4)) (.t (.ofNat 6))⟩, ⟨some (.ofNat 2), none, .as (.t (.ofNat 7))⟩]
noncomputable def f83_c : EC := (.seq (.reg f83_r0) (.seq (.reg f83_r1) .ret))
noncomputable def f83 : EF := ⟨8, [.tmp (.ofNat 2)], f83_c, none⟩
theorem f83_rs : f83.rs = [.tmp (.ofNat 2)] := of_eq_true (eq_self _)
noncomputable def f100_r0 : List EOper := [⟨some (.ofNat 4), none, .as (.c (.i .i64 (.ofNat 0)))⟩]
noncomputable def f100_r1 : List EOper := [⟨some (.ofNat 6), none, .mv (.t (.ofNat 0))⟩, ⟨some (.ofNat 7), none, .len (.t (.ofNat 6))⟩, ⟨some (.ofNat 8), none, .mv (.c (.i .i64 (.ofNat 0)))⟩]
noncomputable def f100_r2 : List EOper := [⟨some (.ofNat 9), none, .bin .lss (.t (.ofNat 8)) (.t (.ofNat 7))⟩]
noncomputable def f100_r3 : List EOper := [⟨some (.ofNat 10), none, .mv (.t (.ofNat 8))⟩, ⟨some (.ofNat 5), none, .as (.t (.ofNat 10))⟩]
noncomputable def f100_r4 : List EOper := [⟨some (.ofNat 11), none, .mv (.t (.ofNat 1))⟩, ⟨some (.ofNat 12), none, .mv (.t (.ofNat 0))⟩, ⟨some (.ofNat 13), none, .mv (.t (.ofNat 5))⟩, ⟨some (.ofNat 14), none, .iads 2 (.t (.ofNat 12)) (.t (.ofNat 13))⟩, ⟨some (.ofNat 15), none, .ldn 2 (.t (.ofNat 14))⟩, ⟨some (.ofNat 16), none, .call (.t (.ofNat 11)) [(.t (.ofNat 15))]⟩]
noncomputable def f100_r5 : List EOper := [⟨some (.ofNat 17), none, .mv (.t (.ofNat 5))⟩, ⟨some (.ofNat 4), none, .as (.t (.ofNat 17))⟩]
noncomputable def f100_r6 : List EOper := [⟨some (.ofNat 18), none, .bin .add (.t (.ofNat 8)) (.c (.i .i64 (.ofNat 1)))⟩, ⟨some (.ofNat 8), none, .mv (.t (.ofNat 18))⟩]
noncomputable def f100_l0 : EC := (.seq (.reg f100_r2) (.seq (.cond (.t (.ofNat 9)) .skip (.exit 0)) (.seq (.block 1 (.seq (.reg f100_r3) (.seq (.reg f100_r4) (.cond (.t (.ofNat 16)) (.seq (.reg f100_r5) .ret) .skip)))) (.reg f100_r6))))
noncomputable def f100_r7 : List EOper := [⟨some (.ofNat 4), none, .as (.c (.i .i64 (.negSucc 0)))⟩]
noncomputable def f100_c : EC := (.seq (.reg f100_r0) (.seq (.seq (.reg f100_r1) (.block 0 (.loop f100_l0))) (.seq (.reg f100_r7) .ret)))
noncomputable def f100 : EF := ⟨19, [.tmp (.ofNat 4)], f100_c, none⟩
theorem f100_rs : f100.rs = [.tmp (.ofNat 4)] := of_eq_true (eq_self _)
noncomputable def f82_r0 : List EOper := [⟨some (.ofNat 4), none, .as (.c .sn)⟩]
noncomputable def f82_r1 : List EOper := [⟨some (.ofNat 8), none, .mv (.t (.ofNat 0))⟩, ⟨some (.ofNat 9), none, .mv (.t (.ofNat 1))⟩, ⟨some (.ofNat 10), none, .call (.c (.fn (.ofNat 100) [])) [(.t (.ofNat 8)), (.t (.ofNat 9))]⟩, ⟨some (.ofNat 5), none, .as (.t (.ofNat 10))⟩]
noncomputable def f82_r2 : List EOper := [⟨some (.ofNat 11), none, .mv (.t (.ofNat 5))⟩, ⟨some (.ofNat 12), none, .bin .eql (.t (.ofNat 11)) (.c (.i .i64 (.negSucc 0)))⟩]
noncomputable def f82_r3 : List EOper := [⟨some (.ofNat 13), none, .mv (.t (.ofNat 0))⟩, ⟨some (.ofNat 4), none, .as (.t (.ofNat 13))⟩]
noncomputable def f82_r4 : List EOper := [⟨some (.ofNat 14), none, .mv (.t (.ofNat 5))⟩, ⟨some (.ofNat 15), none, .bin .add (.t (.ofNat 14)) (.c (.i .i64 (.ofNat 1)))⟩, ⟨some (.ofNat 6), none, .as (.t (.ofNat 15))⟩]
noncomputable def f82_r5 : List EOper := [⟨some (.ofNat 16), none, .mv (.t (.ofNat 6))⟩, ⟨some (.ofNat 17), none, .mv (.t (.ofNat 0))⟩, ⟨some (.ofNat 18), none, .len (.t (.ofNat 17))⟩, ⟨some (.ofNat 19), none, .bin .lss (.t (.ofNat 16)) (.t (.ofNat 18))⟩]
noncomputable def f82_r6 : List EOper := [⟨some (.ofNat 22), none, .mv (.t (.ofNat 0))⟩, ⟨some (.ofNat 23), none, .mv (.t (.ofNat 6))⟩, ⟨some (.ofNat 24), none, .iads 2 (.t (.ofNat 22)) (.t (.ofNat 23))⟩, ⟨some (.ofNat 25), none, .ldn 2 (.t (.ofNat 24))⟩, ⟨some (.ofNat 7), none, .alloc 2 [(.i .i64 (.ofNat 0)), (.i .i64 (.ofNat 0))]⟩, ⟨none, none, .st 2 (.t (.ofNat 7)) (.t (.ofNat 25))⟩]
noncomputable def f82_r7 : List EOper := [⟨some (.ofNat 26), none, .mv (.t (.ofNat 1))⟩, ⟨some (.ofNat 27), none, .ldn 2 (.t (.ofNat 7))⟩, ⟨some (.ofNat 28), none, .call (.t (.ofNat 26)) [(.t (.ofNat 27))]⟩, ⟨some (.ofNat 29), none, .not (.t (.ofNat 28))⟩]
noncomputable def f82_r8 : List EOper := [⟨some (.ofNat 30), none, .mv (.t (.ofNat 0))⟩, ⟨some (.ofNat 31), none, .mv (.t (.ofNat 5))⟩, ⟨some (.ofNat 32), none, .ldn 2 (.t (.ofNat 7))⟩, ⟨some (.ofNat 33), none, .iads 2 (.t (.ofNat 30)) (.t (.ofNat 31))⟩, ⟨none, none, .st 2 (.t (.ofNat 33)) (.t (.ofNat 32))⟩]
noncomputable def f82_r9 : List EOper := [⟨some (.ofNat 34), none, .mv (.t (.ofNat 5))⟩, ⟨some (.ofNat 35), none, .bin .add (.t (.ofNat 34)) (.c (.i .i64 (.ofNat 1)))⟩, ⟨some (.ofNat 5), none, .as (.t (.ofNat 35))⟩]
noncomputable def f82_r10 : List EOper := [⟨some (.ofNat 20), none, .mv (.t (.ofNat 6))⟩, ⟨some (.ofNat 21), none, .bin .add (.t (.ofNat 20)) (.c (.i .i64 (.ofNat 1)))⟩, ⟨some (.ofNat 6), none, .as (.t (.ofNat 21))⟩]
noncomputable def f82_l0 : EC := (.seq (.seq (.reg f82_r5) (.cond (.t (.ofNat 19)) .skip (.exit 0))) (.seq (.block 1 (.seq (.reg f82_r6) (.seq (.reg f82_r7) (.cond (.t (.ofNat 29)) (.seq (.reg f82_r8) (.reg f82_r9)) .skip)))) (.reg f82_r10)))
noncomputable def f82_r11 : List EOper := [⟨some (.ofNat 36), none, .mv (.t (.ofNat 0))⟩, ⟨some (.ofNat 37), none, .mv (.t (.ofNat 5))⟩, ⟨some (.ofNat 38), none, .slice 2 (.t (.ofNat 36)) (some (.t (.ofNat 37))) none none⟩, ⟨none, none, .clr 2 [(.i .i64 (.ofNat 0)), (.i .i64 (.ofNat 0))] (.t (.ofNat 38))⟩]
noncomputable def f82_r12 : List EOper := [⟨some (.ofNat 39), none, .mv (.t (.ofNat 0))⟩, ⟨some (.ofNat 40), none, .mv (.t (.ofNat 5))⟩, ⟨some (.ofNat 41), none, .slice 2 (.t (.ofNat 39)) none (some (.t (.ofNat 40))) none⟩, ⟨some (.ofNat 4), none, .as (.t (.ofNat 41))⟩]
noncomputable def f82_c : EC := (.seq (.reg f82_r0) (.seq (.reg f82_r1) (.seq (.seq (.reg f82_r2) (.cond (.t (.ofNat 12)) (.seq (.reg f82_r3) .ret) .skip)) (.seq (.seq (.reg f82_r4) (.block 0 (.loop f82_l0))) (.seq (.reg f82_r11) (.seq (.reg f82_r12) .ret))))))
noncomputable def f82 : EF := ⟨42, [.tmp (.ofNat 4)], f82_c, none⟩
theorem f82_rs : f82.rs = [.tmp (.ofNat 4)] := of_eq_true (eq_self _)
noncomputable def f50_r0 : List EOper := [⟨some (.ofNat 1), none, .box 49 (.t (.ofNat 0))⟩, ⟨some (.ofNat 2), none, .as (.c .sn)⟩]
noncomputable def f50_r1 : List EOper := [⟨some (.ofNat 3), none, .ldn 49 (.t (.ofNat 1))⟩, ⟨some (.ofNat 4), none, .call (.c (.fn (.ofNat 58) [])) [(.t (.ofNat 3))]⟩, ⟨some (.ofNat 5), none, .call (.c (.fn (.ofNat 82) [])) [(.t (.ofNat 4)), (.c (.fn (.ofNat 83) []))]⟩, ⟨some (.ofNat 2), none, .as (.t (.ofNat 5))⟩]
noncomputable def f50_c : EC := (.seq (.reg f50_r0) (.seq (.reg f50_r1) .ret))
noncomputable def f50 : EF := ⟨6, [.tmp (.ofNat 2)], f50_c, none⟩
theorem f50_rs : f50.rs = [.tmp (.ofNat 2)] := of_eq_true (eq_self _)
noncomputable def f12_r0 : List EOper := [⟨some (.ofNat 4), none, .as (.c .sn)⟩, ⟨some (.ofNat 5), none, .as (.c (.i .i64 (.ofNat 0)))⟩]
noncomputable def f12_r1 : List EOper := [⟨some (.ofNat 7), none, .mv (.t (.ofNat 0))⟩, ⟨some (.ofNat 8), none, .mv (.t (.ofNat 1))⟩, ⟨some (.ofNat 9), none, .call (.c (.fn (.ofNat 47) [])) [(.t (.ofNat 7)), (.t (.ofNat 8))]⟩, ⟨some (.ofNat 6), none, .as (.t (.ofNat 9))⟩]
noncomputable def f12_r2 : List EOper := [⟨some (.ofNat 10), none, .mv (.t (.ofNat 6))⟩, ⟨some (.ofNat 11), none, .bin .neq (.t (.ofNat 10)) (.c (.i .i64 (.ofNat 0)))⟩]
noncomputable def f12_r3 : List EOper := [⟨some (.ofNat 12), none, .mv (.t (.ofNat 6))⟩, ⟨some (.ofNat 4), none, .as (.c .sn)⟩, ⟨some (.ofNat 5), none, .as (.t (.ofNat 12))⟩]
noncomputable def f12_r4 : List EOper := [⟨some (.ofNat 13), none, .mv (.t (.ofNat 1))⟩, ⟨some (.ofNat 14), none, .call (.c (.fn (.ofNat 48) [])) [(.t (.ofNat 13))]⟩, ⟨some (.ofNat 15), none, .mv (.t (.ofNat 0))⟩, ⟨some (.ofNat 16), none, .call (.c (.fn (.ofNat 49) [])) [(.t (.ofNat 14)), (.t (.ofNat 15))]⟩, ⟨some (.ofNat 17), none, .call (.c (.fn (.ofNat 50) [])) [(.t (.ofNat 16))]⟩, ⟨some (.ofNat 4), none, .as (.t (.ofNat 17))⟩, ⟨some (.ofNat 5), none, .as (.c (.i .i64 (.ofNat 0)))⟩]
noncomputable def f12_c : EC := (.seq (.reg f12_r0) (.seq (.seq (.reg f12_r1) (.seq (.reg f12_r2) (.cond (.t (.ofNat 11)) (.seq (.reg f12_r3) .ret) .skip))) (.seq (.reg f12_r4) .ret)))
noncomputable def f12 : EF := ⟨18, [.tmp (.ofNat 4), .tmp (.ofNat 5)], f12_c, none⟩
theorem f12_rs : f12.rs = [.tmp (.ofNat 4), .tmp (.ofNat 5)] := of_eq_true (eq_self _)
section
variable {fs : T EF} {h : H}
theorem rem_kO (x : Int) {k : Nat} (hk : 0 < k) (hk2 : k ≤ 1000) : ∃ q : Nat, q < k ∧ fw .i64 ((fw .u64 x).tmod (k : Int)) = (q : Int) := by
  have h0 : 0 ≤ fw .u64 x := by rw [fw_eq]; exact Int.emod_nonneg _ (by decide)
  obtain ⟨m, hm⟩ := Int.eq_ofNat_of_zero_le h0
  have h1 : (fw .u64 x).tmod (k : Int) = ((m % k : Nat) : Int) := by rw [hm]; rfl
  have h2 : m % k < k := Nat.mod_lt _ hk
  exact ⟨m % k, by omega, by rw [h1, fw64 (by omega) (by omega)]⟩
/-- What a graph of any numbers has. -/
noncomputable def tmF (m : Nat) (l : List (Int × Int)) (i a b : Nat) : Bool := (l.take i).any fun x => decide (min (fw .i64 ((fw .u64 x.1).tmod (m : Int))) (fw .i64 ((fw .u64 x.2).tmod (m : Int))) = (a : Int)) && decide (max (fw .i64 ((fw .u64 x.1).tmod (m : Int))) (fw .i64 ((fw .u64 x.2).tmod (m : Int))) = (b : Int))
noncomputable def tmG (m : Nat) (l : List (Int × Int)) (a b : Nat) : Bool := decide (a < b ∧ b < m) && tmF m l (min l.length 25) a b
theorem tmG_gph {m : Nat} {l : List (Int × Int)} (h1 : 1 ≤ m) (h7 : m ≤ 7) : Gph m (tmG m l) := ⟨h1, h7, fun a b h => by unfold tmG at h; simp only [Bool.and_eq_true, decide_eq_true_eq] at h; exact h.1⟩
def f11_A (h : H) (v : V) (m w : Nat) (l : List (Int × Int)) (a b : Nat) (i : Nat) (fr : Fr) (h1 : H) : Prop := i ≤ min l.length 25 ∧ tmF m l i a b = false ∧ ∃ u, Sk 2 qE h1 u (arP (tmG m l) (7 * a + b)) ∧ Own h.nx.nat u ∧ Grow h.nx.nat h h1 ∧ fr.get (K.ofNat 0) = some (.i .i64 (m : Int)) ∧ fr.get (K.ofNat 1) = some (v) ∧ fr.get (K.ofNat 2) = some (.i .i64 (w : Int)) ∧ fr.get (K.ofNat 8) = some (u) ∧ fr.get (K.ofNat 9) = some (.i .i64 (a : Int)) ∧ fr.get (K.ofNat 10) = some (.i .i64 (b : Int)) ∧ fr.get (K.ofNat 11) = some (.i .i64 (i : Int))
def f11_B (h : H) (v : V) (m w : Nat) (l : List (Int × Int)) (a : Nat) (b : Nat) (fr : Fr) (h1 : H) : Prop := a < b ∧ b ≤ m ∧ ∃ u, Sk 2 qE h1 u (arP (tmG m l) (7 * a + b)) ∧ Own h.nx.nat u ∧ Grow h.nx.nat h h1 ∧ fr.get (K.ofNat 0) = some (.i .i64 (m : Int)) ∧ fr.get (K.ofNat 1) = some (v) ∧ fr.get (K.ofNat 2) = some (.i .i64 (w : Int)) ∧ fr.get (K.ofNat 8) = some (u) ∧ fr.get (K.ofNat 9) = some (.i .i64 (a : Int)) ∧ fr.get (K.ofNat 10) = some (.i .i64 (b : Int))
def f11_C (h : H) (v : V) (m w : Nat) (l : List (Int × Int)) (a : Nat) (fr : Fr) (h1 : H) : Prop := a ≤ m ∧ ∃ u, Sk 2 qE h1 u (arP (tmG m l) (7 * a)) ∧ Own h.nx.nat u ∧ Grow h.nx.nat h h1 ∧ fr.get (K.ofNat 0) = some (.i .i64 (m : Int)) ∧ fr.get (K.ofNat 1) = some (v) ∧ fr.get (K.ofNat 2) = some (.i .i64 (w : Int)) ∧ fr.get (K.ofNat 8) = some (u) ∧ fr.get (K.ofNat 9) = some (.i .i64 (a : Int))
theorem loop_monoO {ro : Option K} {c : EC} {Q Q' : Ex → Fr → H → Prop} {fr : Fr} {h : H} (hq : ∀ e fr h, Q e fr h → Q' e fr h) (hw : W fs ro (.loop c) Q fr h) : W fs ro (.loop c) Q' fr h := by
  obtain ⟨e, fr', h', r, q⟩ := hw
  exact ⟨e, fr', h', r, hq _ _ _ q⟩
def f11_Q (h : H) (v : V) (m w : Nat) (l : List (Int × Int)) (a b : Nat) (e : Ex) (fr : Fr) (h1 : H) : Prop := e = .exit 4 ∧ ∃ u, Sk 2 qE h1 u (arP (tmG m l) (7 * a + (b + 1))) ∧ Own h.nx.nat u ∧ Grow h.nx.nat h h1 ∧ fr.get (K.ofNat 0) = some (.i .i64 (m : Int)) ∧ fr.get (K.ofNat 1) = some (v) ∧ fr.get (K.ofNat 2) = some (.i .i64 (w : Int)) ∧ fr.get (K.ofNat 8) = some (u) ∧ fr.get (K.ofNat 9) = some (.i .i64 (a : Int)) ∧ fr.get (K.ofNat 10) = some (.i .i64 (b : Int))
theorem f11_ret {n : Int} {v : V} {w : Nat} {l : List (Int × Int)} (hv : Srp h v l) (hw : 1 ≤ w) (hw7 : w ≤ 7) (hc : HC h) : Ret fs f11 [.i .i64 n, v, .i .i64 (w : Int)] h fun r h' => ∃ (m : Nat) (u : V) (g : Nat → Nat → Bool), r = .tup [.i .i64 (m : Int), u] ∧ m ≤ w ∧ Gph m g ∧ Sk 2 qE h' u (arI g) ∧ Own h.nx.nat u ∧ Grow h.nx.nat h h' := by
  apply ret_of rfl
  show W fs none f11_c _ _ _
  unfold f11_c
  obtain ⟨q, hq6, hqe⟩ := rem_kO n (k := w) (by omega) (by omega)
  obtain ⟨m, hm⟩ : ∃ m : Nat, m = 1 + q := ⟨_, rfl⟩
  have em : 1 + (q : Int) = (m : Int) := by omega
  have hww : fw .u64 (w : Int) = (w : Int) := fwu64 (by omega) (by omega)
  have hrw : ∀ a, binV .rem (.i .u64 a) (.i .u64 (w : Int)) = some (.i .u64 (a.tmod (w : Int))) := fun a => bin_rem (by omega)
  simp (disch := omega) only [f11_r0, f11_r1, f11_r2, f11_r3, w_reg, w_seq, w_block, seqK_n, x_nil, x_mv, x_as, x_bin, x_conv, kx, rvP_ok, okv_some, ev_t, ev_c, getV_some, putD_some, bin_add, onI_i, frame_3, of0, of1, getK_set, Nat.reduceEqDiff, ↓reduceIte, hww, hrw, hqe, fw64, em]
  have hgp := tmG_gph (m := m) (l := l) (by omega) (by omega)
  have hb25 : ∀ i, tmF m l i = tmF m l i := fun _ => rfl
  refine W_loop (f11_C h v m w l) (fun a => m - a) ?_ 0 ⟨by omega, .sn, Sk.nil, Own.sn, Grow.refl _ _, by simp (disch := omega) only [getK_set, Nat.reduceEqDiff, ↓reduceIte, and_self, Int.natCast_zero]⟩
  rintro a fr h1 ⟨ha, u, hs, ho, hG, g0, g1, g2, g8, g9⟩
  unfold f11_l2
  by_cases hlt : a < m
  · have d0 : decide ((a : Int) < (m : Int)) = true := decide_eq_true (by omega)
    have e0 : arP (tmG m l) (7 * a + (a + 1)) = arP (tmG m l) (7 * a) := by
      have := arP_skip (g := tmG m l) (a := a) (b := 0) (c := a + 1) (by omega) (by omega) (fun d _ hd => by
        cases e : tmG m l a d with
        | false => rfl
        | true => have := (hgp.up _ _ e).1; omega)
      rw [this, Nat.add_zero]
    simp (disch := omega) only [f11_r4, f11_r5, w_skip, w_reg, w_seq, w_cond, w_block, seqK_n, ckB_b, cbB_b, true_and, x_nil, x_mv, x_as, x_bin, kx, rvP_ok, okv_some, ev_t, ev_c, getV_some, putD_some, bin_add, bin_lss, of1, getK_set, Nat.reduceEqDiff, ↓reduceIte, g0, g9, d0, fw64]
    refine W_loop (f11_B h v m w l a) (fun b => m + 1 - b) ?_ (a + 1) ⟨by omega, by omega, u, by rw [e0]; exact hs, ho, hG, by simp (disch := omega) only [getK_set, Nat.reduceEqDiff, ↓reduceIte, g0, g1, g2, g8, g9, and_self, Int.natCast_add, Int.natCast_one]⟩
    clear hs ho hG g0 g1 g2 g8 g9
    rintro b fr h2 ⟨hab, hb, u, hs, ho, hG, g0, g1, g2, g8, g9, g10⟩
    unfold f11_l1
    by_cases hlt2 : b < m
    · have d1 : decide ((b : Int) < (m : Int)) = true := decide_eq_true (by omega)
      have hsu := arP_succ (g := tmG m l) (a := a) (b := b) (by omega)
      have hgv : tmG m l a b = tmF m l (min l.length 25) a b := by unfold tmG; rw [decide_eq_true ⟨hab, hlt2⟩, Bool.true_and]
      simp (disch := omega) only [f11_r6, f11_r7, w_skip, w_reg, w_seq, w_cond, w_block, seqK_n, ckB_b, cbB_b, true_and, x_nil, x_mv, x_as, x_bin, kx, rvP_ok, okv_some, ev_t, ev_c, getV_some, putD_some, bin_lss, of0, getK_set, Nat.reduceEqDiff, ↓reduceIte, g0, g10, d1]
      refine loop_monoO (Q := f11_Q h v m w l a b) ?_ (W_loop (f11_A h v m w l a b) (fun i => l.length - i) ?_ 0 ⟨by omega, rfl, u, hs, ho, hG, by simp (disch := omega) only [getK_set, Nat.reduceEqDiff, ↓reduceIte, g0, g1, g2, g8, g9, g10, and_self, Int.natCast_zero]⟩)
      · clear hs ho hG g0 g1 g2 g8 g9 g10 fr
        rintro e fr h4 ⟨rfl, u, hs, ho, hG, g0, g1, g2, g8, g9, g10⟩
        simp (disch := omega) only [f11_r13, w_reg, seqK_n, atK_n, atK_e, loopK_n, x_nil, x_mv, x_as, x_bin, kx, rvP_ok, okv_some, ev_t, ev_c, getV_some, putD_some, bin_add, of1, getK_set, ↓reduceIte, g10, fw64]
        exact ⟨b + 1, by omega, by omega, by omega, u, hs, ho, hG, by simp (disch := omega) only [getK_set, Nat.reduceEqDiff, ↓reduceIte, g0, g1, g2, g8, g9, and_self, Int.natCast_add, Int.natCast_one]⟩
      clear hs ho hG g0 g1 g2 g8 g9 g10
      rintro i fr h3 ⟨hi, hno, u, hs, ho, hG, g0, g1, g2, g8, g9, g10, g11⟩
      have hc3 := hG.hc hc
      have hv3 := hv.grow hc hG
      unfold f11_l0
      have stop : min l.length 25 = i → arP (tmG m l) (7 * a + (b + 1)) = arP (tmG m l) (7 * a + b) := fun e => by rw [hsu, hgv, e, hno, if_neg (by simp), List.append_nil]
      by_cases hlt3 : i < l.length
      · have d2 : decide ((i : Int) < (l.length : Int)) = true := decide_eq_true (by omega)
        by_cases hE : i < 25
        · have d3 : decide ((i : Int) < 25) = true := decide_eq_true (by omega)
          obtain ⟨ide, qq, hp1, _, hp2, hp3⟩ := hv3.at2 hlt3
          have hvb := hv.beq
          have hmw : fw .u64 (m : Int) = (m : Int) := fwu64 (by omega) (by omega)
          have hrem : ∀ a, binV .rem (.i .u64 a) (.i .u64 (m : Int)) = some (.i .u64 (a.tmod (m : Int))) := fun a => bin_rem (by omega)
          have z0 : ∀ ff : Nat → RV, idxV (.i .i64 0) 2 ff = ff 0 := fun _ => rfl
          have z1 : ∀ ff : Nat → RV, idxV (.i .i64 1) 2 ff = ff 1 := fun _ => rfl
          obtain ⟨c, hc'⟩ : ∃ c, fw .i64 ((fw .u64 l[i].1).tmod (m : Int)) = c := ⟨_, rfl⟩
          obtain ⟨d, hd'⟩ : ∃ d, fw .i64 ((fw .u64 l[i].2).tmod (m : Int)) = d := ⟨_, rfl⟩
          have hstep : tmF m l (i + 1) a b = (decide (min c d = (a : Int)) && decide (max c d = (b : Int))) := by
            have hno' : (l.take i).any (fun x => decide (min (fw .i64 ((fw .u64 x.1).tmod (m : Int))) (fw .i64 ((fw .u64 x.2).tmod (m : Int))) = (a : Int)) && decide (max (fw .i64 ((fw .u64 x.1).tmod (m : Int))) (fw .i64 ((fw .u64 x.2).tmod (m : Int))) = (b : Int))) = false := hno
            unfold tmF
            rw [List.take_succ_eq_append_getElem hlt3, List.any_append, hno', Bool.false_or, ← hc', ← hd']
            simp
          simp (disch := omega) only [f11_r8, f11_r9, w_skip, w_reg, w_draw, w_seq, w_cond, w_block, seqK_n, ckB_b, cbB_b, okG_b, asG_t, true_and, x_nil, x_g, x_mv, x_as, x_pick, x_bin, x_len, kx, kg, xg_nil, xg_mv, xg_ld, xg_bin, xg_conv, xg_iadr, xg_iads, xd_cons, fresh_nil, stK_n, stK_s, stay_nil, stay_cons, again_ok, stay_mv, beq_i, stay_iads, stay_ld, stay_bin, beq_p, rvP_ok, okv_some, ev_t, ev_c, getV_some, putD_some, bin_lss, pick_b, onI_i, onP_p, of0, of1, getK_set, Nat.reduceEqDiff, ↓reduceIte, stay_iadr, stay_conv, of25, g0, g1, g11, hv3.len, d2, d3, hp1, z0, z1, hp2, hp3, hvb, hmw, hrem, hc', hd']
          cases d4 : decide (min c d = (a : Int)) with
          | false =>
            simp (disch := omega) only [f11_r10, f11_r12, w_skip, w_reg, w_cond, seqK_n, atK_n, loopK_n, ckB_b, cbB_b, okG_b, asG_t, true_and, x_nil, x_g, x_mv, x_as, x_pick, x_bin, x_min, kx, rvP_ok, okv_some, ev_t, ev_c, getV_some, putD_some, bin_add, bin_eql, pick_b, min_ii, of1, getK_set, Nat.reduceEqDiff, ↓reduceIte, Bool.false_eq_true, g9, g11, d4, fw64]
            exact ⟨i + 1, by omega, by omega, by rw [hstep, d4]; rfl, u, hs, ho, hG, by simp (disch := omega) only [getK_set, Nat.reduceEqDiff, ↓reduceIte, g0, g1, g2, g8, g9, g10, and_self, Int.natCast_add, Int.natCast_one]⟩
          | true =>
          cases d5 : decide (max c d = (b : Int)) with
          | false =>
            simp (disch := omega) only [f11_r10, f11_r12, w_skip, w_reg, w_cond, seqK_n, atK_n, loopK_n, ckB_b, cbB_b, okG_b, asG_t, true_and, x_nil, x_g, x_mv, x_as, x_pick, x_bin, x_min, x_max, kx, rvP_ok, okv_some, ev_t, ev_c, getV_some, putD_some, bin_add, bin_eql, pick_b, min_ii, max_ii, of1, getK_set, Nat.reduceEqDiff, ↓reduceIte, Bool.false_eq_true, g9, g10, g11, d4, d5, fw64]
            exact ⟨i + 1, by omega, by omega, by rw [hstep, d4, d5]; rfl, u, hs, ho, hG, by simp (disch := omega) only [getK_set, Nat.reduceEqDiff, ↓reduceIte, g0, g1, g2, g8, g9, g10, and_self, Int.natCast_add, Int.natCast_one]⟩
          | true =>
            have hl := arP_len (g := tmG m l) (i := 7 * a + b)
            obtain ⟨u', h4, a1, s1, o1, gr1, _⟩ := Sk.push qE_len (by omega) (x := ((a : Int), (b : Int))) hs ho hG.nx hc3 (by omega)
            have a1' : appV 2 (h3.new (.cells (1 * 2) [.i .i64 (a : Int), .i .i64 (b : Int)])) u (.sl h3.nx 0 1 2) = .ok u' h4 := a1
            have cp : cellsN 2 (.agg [.i .i64 (a : Int), .i .i64 (b : Int)]) = some [.i .i64 (a : Int), .i .i64 (b : Int)] := rfl
            have sp : setMany [V.i .i64 0, V.i .i64 0] 0 [V.i .i64 (a : Int), V.i .i64 (b : Int)] = [V.i .i64 (a : Int), V.i .i64 (b : Int)] := rfl
            have htr : tmG m l a b = true := by
              rw [hgv]
              have h1 : tmF m l (i + 1) a b = true := by rw [hstep, d4, d5]; rfl
              unfold tmF at h1 ⊢
              rw [List.any_eq_true] at h1 ⊢
              obtain ⟨x, hx, hy⟩ := h1
              refine ⟨x, ?_, hy⟩
              obtain ⟨j, hj, rfl⟩ := List.getElem_of_mem hx
              rw [List.length_take] at hj
              rw [List.getElem_take]
              exact List.mem_take_iff_getElem.2 ⟨j, by omega, rfl⟩
            rw [htr, if_pos rfl] at hsu
            simp (disch := omega) only [f11_r10, f11_r11, w_reg, w_seq, w_cond, w_exit, seqK_n, seqK_e, atK_e, loopK_e, ckB_b, cbB_b, okG_b, asG_t, true_and, x_nil, x_g, x_mv, x_as, x_pick, x_build, x_bslice, x_bin, x_app, x_min, x_max, kx, rvP_ok, okv_some, ev_t, ev_c, getV_some, putD_some, bin_eql, pick_b, oGet_s, min_ii, max_ii, cells1_i, of0, getK_set, Nat.reduceEqDiff, ↓reduceIte, set_2, fill_0, g8, g9, g10, d4, d5, set_2, fill_c, cp, sp, a1']
            exact ⟨rfl, u', by rw [hsu]; exact s1, o1, hG.trans gr1, by simp (disch := omega) only [getK_set, Nat.reduceEqDiff, ↓reduceIte, g0, g1, g2, g9, g10, and_self]⟩
        · have d3 : decide ((i : Int) < 25) = false := decide_eq_false (by omega)
          simp (disch := omega) only [f11_r8, w_reg, w_seq, w_cond, w_exit, seqK_n, seqK_e, loopK_e, ckB_b, cbB_b, okG_b, asG_t, true_and, x_nil, x_g, x_mv, x_pick, x_bin, x_len, kx, rvP_ok, okv_some, ev_t, ev_c, getV_some, putD_some, bin_lss, pick_b, getK_set, Nat.reduceEqDiff, ↓reduceIte, Bool.false_eq_true, of25, g1, g11, hv3.len, d2, d3]
          exact ⟨rfl, u, by rw [stop (by omega)]; exact hs, ho, hG, by simp (disch := omega) only [getK_set, Nat.reduceEqDiff, ↓reduceIte, g0, g1, g2, g8, g9, g10, and_self]⟩
      · have d2 : decide ((i : Int) < (l.length : Int)) = false := decide_eq_false (by omega)
        simp (disch := omega) only [f11_r8, w_reg, w_seq, w_cond, w_exit, seqK_n, seqK_e, loopK_e, ckB_b, cbB_b, okG_b, asG_t, true_and, x_nil, x_g, x_mv, x_pick, x_bin, x_len, kx, rvP_ok, okv_some, ev_t, ev_c, getV_some, putD_some, bin_lss, pick_b, getK_set, Nat.reduceEqDiff, ↓reduceIte, Bool.false_eq_true, of25, g1, g11, hv3.len, d2]
        exact ⟨rfl, u, by rw [stop (by omega)]; exact hs, ho, hG, by simp (disch := omega) only [getK_set, Nat.reduceEqDiff, ↓reduceIte, g0, g1, g2, g8, g9, g10, and_self]⟩
    · have d1 : decide ((b : Int) < (m : Int)) = false := decide_eq_false (by omega)
      have eb : b = m := by omega
      have e1 : arP (tmG m l) (7 * (a + 1)) = arP (tmG m l) (7 * a + b) := arP_row (by omega) (fun d hd _ => by
        cases e : tmG m l a d with
        | false => rfl
        | true => have := (hgp.up _ _ e).2; omega)
      simp (disch := omega) only [f11_r6, f11_r14, w_reg, w_seq, w_cond, w_exit, seqK_n, seqK_e, atK_n, atK_e, loopK_n, loopK_e, ckB_b, cbB_b, true_and, x_nil, x_mv, x_as, x_bin, kx, rvP_ok, okv_some, ev_t, ev_c, getV_some, putD_some, bin_add, bin_lss, of1, getK_set, Nat.reduceEqDiff, ↓reduceIte, Bool.false_eq_true, g0, g9, g10, d1, fw64]
      exact ⟨a + 1, by omega, by omega, u, by rw [e1]; exact hs, ho, hG, by simp (disch := omega) only [getK_set, Nat.reduceEqDiff, ↓reduceIte, g0, g1, g2, g8, and_self, Int.natCast_add, Int.natCast_one]⟩
  · have d0 : decide ((a : Int) < (m : Int)) = false := decide_eq_false (by omega)
    have ea : a = m := by omega
    have e1 : arP (tmG m l) (7 * a) = arI (tmG m l) := arP_end (by omega) (fun x d hx _ hd => by
      cases e : tmG m l x d with
      | false => rfl
      | true => have := hgp.up _ _ e; omega)
    rw [e1] at hs
    simp (disch := omega) only [f11_r4, f11_r15, f11_rs, w_reg, w_seq, w_cond, w_exit, w_ret, seqK_n, seqK_e, atK_e, loopK_e, ckB_b, cbB_b, true_and, retK_r, x_nil, x_mv, x_as, x_bin, kx, rvP_ok, okv_some, ev_t, getV_some, putD_some, bin_lss, oGet_s, readRs_nil, readRs_t, retV_2, Option.some.injEq, exists_eq_left', getK_set, Nat.reduceEqDiff, ↓reduceIte, Bool.false_eq_true, g0, g8, g9, d0]
    exact ⟨m, u, _, rfl, by omega, hgp, hs, ho, hG⟩
end
end Go.Ev
namespace Go.Ev
open Go Go.RowKit
def jn2 (C D : List Bool) : List Bool := jnR [C, D]
theorem jn2_iff {C D : List Bool} {a b : Nat} : rat (jn2 C D) a b = true ↔ rat C a b = true ∨ rat D a b = true := by
  unfold jn2 jnR
  rw [rat_rl]
  simp only [List.any_cons, List.any_nil, Bool.or_false, Bool.and_eq_true, decide_eq_true_eq, Bool.or_eq_true]
  exact ⟨fun h => h.2, fun h => ⟨by rcases h with h | h; exact rat_lt h; exact rat_lt h, h⟩⟩
theorem jnR_iff {Ls : List (List Bool)} {a b : Nat} : rat (jnR Ls) a b = true ↔ ∃ L ∈ Ls, rat L a b = true := by
  unfold jnR
  rw [rat_rl]
  simp only [Bool.and_eq_true, decide_eq_true_eq, List.any_eq_true]
  exact ⟨fun h => h.2, fun h => ⟨by obtain ⟨L, _, h⟩ := h; exact rat_lt h, h⟩⟩
theorem woR_iff {L M : List Bool} {a b : Nat} : rat (woR L M) a b = true ↔ rat L a b = true ∧ ¬ rat M a b = true := by
  unfold woR
  rw [rat_rl]
  simp only [Bool.and_eq_true, decide_eq_true_eq, Bool.not_eq_true', Bool.not_eq_true]
  exact ⟨fun h => h.2, fun h => ⟨rat_lt h.1, h⟩⟩
theorem turnR_iff {L : List Bool} {a b : Nat} : rat (turnR L) a b = true ↔ rat L b a = true := by
  unfold turnR
  rw [rat_rl]
  simp only [Bool.and_eq_true, decide_eq_true_eq]
  exact ⟨fun h => h.2, fun h => ⟨⟨(rat_lt h).2, (rat_lt h).1⟩, h⟩⟩
/-- A relation that is a graph's. -/
structure SymR (L : List Bool) : Prop where
  len : L.length = 49
  gr : Gr (Er L)
theorem frO_some {L : List Bool} {x : Nat × Nat} (h : frO L = some x) : x.1 < 7 ∧ x.2 < 7 ∧ rat L x.1 x.2 = true := by
  unfold frO at h
  exact arw_lt (List.mem_of_mem_head? (by rw [h]; rfl))
theorem frO_none {L : List Bool} (h : frO L = none) (a b : Nat) : ¬ rat L a b = true := by
  unfold frO at h
  rw [List.head?_eq_none_iff] at h
  intro hr
  have : (a, b) ∈ arw (rat L) := mem_arw.2 ⟨(rat_lt hr).1, (rat_lt hr).2, hr⟩
  rw [h] at this
  cases this
noncomputable def nxR (L : List Bool) (x : Nat × Nat) : List Bool := woR L (jn2 (clsR L x) (turnR (clsR L x)))
theorem nxR_len {L : List Bool} {x : Nat × Nat} : (nxR L x).length = 49 := by unfold nxR woR; exact rl_len
theorem nxR_iff {L : List Bool} {x : Nat × Nat} (hx : x.1 < 7 ∧ x.2 < 7) {a b : Nat} : rat (nxR L x) a b = true ↔ Wo (Er L) x.1 x.2 a b := by
  unfold nxR
  rw [woR_iff, jn2_iff, turnR_iff, clsR_iff hx, clsR_iff hx]
  exact and_congr Iff.rfl ⟨fun h => ⟨fun k => h (.inl k), fun k => h (.inr k)⟩, fun h k => k.elim h.1 h.2⟩
theorem SymR.next {L : List Bool} (s : SymR L) {x : Nat × Nat} (hx : x.1 < 7 ∧ x.2 < 7) : SymR (nxR L x) := by
  have g := Wo.gr s.gr (x := x.1) (y := x.2)
  exact ⟨nxR_len, ⟨fun a b h => (nxR_iff hx).2 (g.sym _ _ ((nxR_iff hx).1 h)), fun a h => g.irr a ((nxR_iff hx).1 h)⟩⟩
/-- How the search for an order goes. -/
inductive OrS : List Bool → Option (List (List Bool)) → Prop
  | done {L : List Bool} (h : frO L = none) : OrS L (some [])
  | clash {L : List Bool} {x : Nat × Nat} (h : frO L = some x) (h1 : clsR L x = turnR (clsR L x)) : OrS L none
  | step {L : List Bool} {x : Nat × Nat} {r : Option (List (List Bool))} (h : frO L = some x) (h1 : clsR L x ≠ turnR (clsR L x)) (h2 : OrS (nxR L x) r) : OrS L (r.map (clsR L x :: ·))
theorem OrS.one {L : List Bool} {r s : Option (List (List Bool))} (h : OrS L r) : OrS L s → r = s := by
  induction h generalizing s with
  | done h0 =>
    intro k
    cases k with
    | done _ => rfl
    | clash h1 _ => rw [h0] at h1; cases h1
    | step h1 _ _ => rw [h0] at h1; cases h1
  | clash h0 e0 =>
    intro k
    cases k with
    | done h1 => rw [h0] at h1; cases h1
    | clash _ _ => rfl
    | step h1 e1 _ => rw [h0] at h1; cases h1; exact absurd e0 e1
  | step h0 e0 _ ih =>
    intro k
    cases k with
    | done h1 => rw [h0] at h1; cases h1
    | clash h1 e1 => rw [h0] at h1; cases h1; exact absurd e1 e0
    | step h1 _ k2 => rw [h0] at h1; cases h1; rw [ih k2]
theorem cls_turn {L : List Bool} (s : SymR L) {x : Nat × Nat} (h : rat L x.1 x.2 = true) (hx : x.1 < 7 ∧ x.2 < 7) : clsR L x = turnR (clsR L x) ↔ Rch (Er L) x.1 x.2 x.2 x.1 := by
  constructor
  · intro e
    have h1 : rat (clsR L x) x.1 x.2 = true := (clsR_iff hx).2 .refl
    rw [e, turnR_iff] at h1
    exact (clsR_iff hx).1 h1
  · intro k
    refine rel_ext clsR_len rl_len fun a b _ _ => ?_
    rw [Bool.eq_iff_iff, turnR_iff, clsR_iff hx, clsR_iff hx]
    have h' : Er L x.2 x.1 := s.gr.sym _ _ h
    exact ⟨fun q => k.trans (q.inv s.gr), fun q => by
      have := (q.inv s.gr)
      exact k.trans this⟩
/-- What is found is an order; if nothing is, there is a clash. -/
theorem OrS.sound {L : List Bool} {r : Option (List (List Bool))} (h : OrS L r) (s : SymR L) : (∀ ps, r = some ps → Ord (Er L) (Er (jnR ps)) ∧ ∀ C ∈ ps, C.length = 49) ∧ (r = none → ¬ CF (Er L)) := by
  induction h with
  | @done L h0 =>
    refine ⟨fun ps e => ?_, fun e => by cases e⟩
    cases e
    have hj : ∀ a b, ¬ Er (jnR []) a b := fun a b h => by obtain ⟨L, hL, _⟩ := jnR_iff.1 h; cases hL
    exact ⟨⟨fun a b h => absurd h (hj a b), fun a b h => absurd h (frO_none h0 a b), fun a b h => absurd h (hj a b), fun a b c h => absurd h (hj a b)⟩, fun C hC => by cases hC⟩
  | @clash L x h0 e0 =>
    obtain ⟨hx1, hx2, hx⟩ := frO_some h0
    exact ⟨(fun ps e => by cases e), fun _ hC => hC _ _ hx ((cls_turn s hx ⟨hx1, hx2⟩).1 e0)⟩
  | @step L x r h0 e0 _ ih =>
    obtain ⟨hx1, hx2, hx⟩ := frO_some h0
    have hno : ¬ Rch (Er L) x.1 x.2 x.2 x.1 := fun k => e0 ((cls_turn s hx ⟨hx1, hx2⟩).2 k)
    obtain ⟨i1, i2⟩ := ih (s.next ⟨hx1, hx2⟩)
    have eW : Er (nxR L x) = Wo (Er L) x.1 x.2 := by
      funext a b; exact propext (nxR_iff ⟨hx1, hx2⟩)
    rw [eW] at i1 i2
    refine ⟨fun ps e => ?_, fun e => ?_⟩
    · cases r with
      | none => cases e
      | some qs =>
        cases e
        obtain ⟨o, hl⟩ := i1 qs rfl
        have := o.add s.gr hx hno
        have eF : (fun a b => Rch (Er L) x.1 x.2 a b ∨ Er (jnR qs) a b) = Er (jnR (clsR L x :: qs)) := by
          funext a b
          apply propext
          show _ ↔ rat (jnR (clsR L x :: qs)) a b = true
          rw [jnR_iff]
          constructor
          · rintro (h | h)
            · exact ⟨_, List.mem_cons_self, (clsR_iff ⟨hx1, hx2⟩).2 h⟩
            · obtain ⟨C, hC, h⟩ := jnR_iff.1 h; exact ⟨C, List.mem_cons_of_mem _ hC, h⟩
          · rintro ⟨C, hC, h⟩
            rcases List.mem_cons.1 hC with rfl | hC
            · exact .inl ((clsR_iff ⟨hx1, hx2⟩).1 h)
            · exact .inr (jnR_iff.2 ⟨C, hC, h⟩)
        rw [eF] at this
        refine ⟨this, fun C hC => ?_⟩
        rcases List.mem_cons.1 hC with rfl | hC
        · exact clsR_len
        · exact hl C hC
    · cases r with
      | none => exact fun hC => i2 rfl (hC.wo s.gr hx)
      | some qs => cases e
theorem nxR_cnt {L : List Bool} (s : SymR L) {x : Nat × Nat} (h : frO L = some x) : cntT (nxR L x) < cntT L := by
  obtain ⟨hx1, hx2, hx⟩ := frO_some h
  have e : ∀ (M : List Bool) (hM : M.length = 49) (i : Nat) (hi : i < M.length), M[i] = rat M (i / 7) (i % 7) := fun M hM i hi => by
    unfold rat
    rw [decide_eq_true (show i / 7 < 7 by omega), decide_eq_true (show i % 7 < 7 by omega), show 7 * (i / 7) + i % 7 = i by omega, List.getD_eq_getElem?_getD, List.getElem?_eq_getElem hi]
    rfl
  have hN : (nxR L x).length = 49 := nxR_len
  refine (cntT_lt (by rw [hN, s.len]) fun i h1 h2 hi => ?_).2 fun eq => ?_
  · rw [e _ hN] at hi
    rw [e _ s.len]
    exact ((nxR_iff ⟨hx1, hx2⟩).1 hi).1
  · have := (nxR_iff (L := L) ⟨hx1, hx2⟩ (a := x.1) (b := x.2)).1 (by rw [eq]; exact hx)
    exact this.2.1 .refl
/-- What the search gives. -/
noncomputable def orO (L : List Bool) : Option (List (List Bool)) := Classical.epsilon (OrS L)
theorem orO_eq {L : List Bool} {r : Option (List (List Bool))} (h : OrS L r) : orO L = r := (Classical.epsilon_spec (p := OrS L) ⟨r, h⟩).one h
noncomputable def orV (L : List Bool) : V := match orO L with
  | some ps => .tup [rV (jnR ps), .b true]
  | none => .tup [rV (rl fun _ _ => false), .b false]
end Go.Ev
namespace Go.Ev
open Go Go.RowKit
noncomputable def f60_r0 : List EOper := [⟨some (.ofNat 1), none, .box 49 (.t (.ofNat 0))⟩, ⟨some (.ofNat 2), none, .alloc 49 (List.replicate 49 (.b false))⟩, ⟨some (.ofNat 3), none, .as (.c (.b false))⟩]
noncomputable def f60_r1 : List EOper := [⟨some (.ofNat 4), none, .as (.c .sn)⟩]
noncomputable def f60_r2 : List EOper := [⟨some (.ofNat 10), none, .ldn 49 (.t (.ofNat 1))⟩, ⟨some (.ofNat 11), none, .call (.c (.fn (.ofNat 87) [])) [(.t (.ofNat 10))]⟩, ⟨some (.ofNat 9), none, .mv (.t (.ofNat 11))⟩, ⟨some (.ofNat 12), none, .ext (.t (.ofNat 9)) 0⟩, ⟨some (.ofNat 13), none, .ext (.t (.ofNat 9)) 1⟩, ⟨some (.ofNat 5), none, .alloc 2 [(.i .i64 (.ofNat 0)), (.i .i64 (.ofNat 0))]⟩, ⟨none, none, .st 2 (.t (.ofNat 5)) (.t (.ofNat 12))⟩, ⟨some (.ofNat 6), none, .as (.t (.ofNat 13))⟩]
noncomputable def f60_r3 : List EOper := [⟨some (.ofNat 14), none, .mv (.t (.ofNat 6))⟩]
noncomputable def f60_r4 : List EOper := [⟨some (.ofNat 20), none, .ldn 49 (.t (.ofNat 1))⟩, ⟨some (.ofNat 21), none, .ldn 2 (.t (.ofNat 5))⟩, ⟨some (.ofNat 22), none, .call (.c (.fn (.ofNat 57) [])) [(.t (.ofNat 20)), (.t (.ofNat 21))]⟩, ⟨some (.ofNat 7), none, .alloc 49 (List.replicate 49 (.b false))⟩, ⟨none, none, .st 49 (.t (.ofNat 7)) (.t (.ofNat 22))⟩]
noncomputable def f60_r5 : List EOper := [⟨some (.ofNat 23), none, .ldn 49 (.t (.ofNat 7))⟩, ⟨some (.ofNat 24), none, .call (.c (.fn (.ofNat 70) [])) [(.t (.ofNat 23))]⟩, ⟨some (.ofNat 8), none, .alloc 49 (List.replicate 49 (.b false))⟩, ⟨none, none, .st 49 (.t (.ofNat 8)) (.t (.ofNat 24))⟩]
noncomputable def f60_r6 : List EOper := [⟨some (.ofNat 25), none, .ldn 49 (.t (.ofNat 7))⟩, ⟨some (.ofNat 26), none, .ldn 49 (.t (.ofNat 8))⟩, ⟨some (.ofNat 27), none, .eqk (.many (List.replicate 49 none)) false (.t (.ofNat 25)) (.t (.ofNat 26))⟩]
noncomputable def f60_r7 : List EOper := [⟨some (.ofNat 28), none, .build (List.replicate 49 (.b false)) []⟩, ⟨none, none, .st 49 (.t (.ofNat 2)) (.t (.ofNat 28))⟩, ⟨some (.ofNat 3), none, .as (.c (.b false))⟩]
noncomputable def f60_r8 : List EOper := [⟨some (.ofNat 29), none, .mv (.t (.ofNat 4))⟩, ⟨some (.ofNat 30), none, .ldn 49 (.t (.ofNat 7))⟩, ⟨some (.ofNat 31), none, .bslice 1 49 (List.replicate 49 (.b false)) [(0, 49, (.t (.ofNat 30)))]⟩, ⟨some (.ofNat 32), none, .app 49 (.t (.ofNat 29)) (.t (.ofNat 31))⟩, ⟨some (.ofNat 4), none, .as (.t (.ofNat 32))⟩]
noncomputable def f60_r9 : List Stage := [⟨[⟨some (.ofNat 33), none, .ldn 49 (.t (.ofNat 1))⟩, ⟨some (.ofNat 34), none, .ldn 49 (.t (.ofNat 7))⟩, ⟨some (.ofNat 35), none, .ldn 49 (.t (.ofNat 8))⟩, ⟨some (.ofNat 36), none, .bslice 2 49 (List.replicate 98 (.b false)) [(0, 49, (.t (.ofNat 34))), (49, 49, (.t (.ofNat 35)))]⟩], [], (some ⟨some (.ofNat 37), none, .call (.c (.fn (.ofNat 69) [])) [(.t (.ofNat 36))]⟩), [(.ofNat 36)]⟩, ⟨[], [⟨some (.ofNat 33), none, .ldn 49 (.t (.ofNat 1))⟩], (some ⟨some (.ofNat 38), none, .call (.c (.fn (.ofNat 81) [])) [(.t (.ofNat 33)), (.t (.ofNat 37))]⟩), []⟩, ⟨[], [], (some ⟨none, none, .st 49 (.t (.ofNat 1)) (.t (.ofNat 38))⟩), []⟩, ⟨[], [], none, []⟩]
noncomputable def f60_r10 : List EOper := [⟨some (.ofNat 39), none, .ldn 2 (.t (.ofNat 5))⟩]
noncomputable def f60_r11 : List EOper := [⟨some (.ofNat 5), none, .alloc 2 [(.i .i64 (.ofNat 0)), (.i .i64 (.ofNat 0))]⟩, ⟨none, none, .st 2 (.t (.ofNat 5)) (.t (.ofNat 39))⟩]
noncomputable def f60_r12 : List EOper := [⟨some (.ofNat 16), none, .ldn 49 (.t (.ofNat 1))⟩, ⟨some (.ofNat 17), none, .call (.c (.fn (.ofNat 87) [])) [(.t (.ofNat 16))]⟩, ⟨some (.ofNat 15), none, .mv (.t (.ofNat 17))⟩, ⟨some (.ofNat 18), none, .ext (.t (.ofNat 15)) 0⟩, ⟨some (.ofNat 19), none, .ext (.t (.ofNat 15)) 1⟩, ⟨none, none, .st 2 (.t (.ofNat 5)) (.t (.ofNat 18))⟩, ⟨some (.ofNat 6), none, .as (.t (.ofNat 19))⟩]
noncomputable def f60_l0 : EC := (.seq (.seq (.reg f60_r3) (.cond (.t (.ofNat 14)) .skip (.exit 0))) (.seq (.block 1 (.seq (.reg f60_r4) (.seq (.reg f60_r5) (.seq (.seq (.reg f60_r6) (.cond (.t (.ofNat 27)) (.seq (.reg f60_r7) .ret) .skip)) (.seq (.reg f60_r8) (.draw f60_r9)))))) (.seq (.seq (.reg f60_r10) (.reg f60_r11)) (.reg f60_r12))))
noncomputable def f60_r13 : List EOper := [⟨some (.ofNat 40), none, .mv (.t (.ofNat 4))⟩, ⟨some (.ofNat 41), none, .call (.c (.fn (.ofNat 69) [])) [(.t (.ofNat 40))]⟩, ⟨none, none, .st 49 (.t (.ofNat 2)) (.t (.ofNat 41))⟩, ⟨some (.ofNat 3), none, .as (.c (.b true))⟩]
noncomputable def f60_c : EC := (.seq (.reg f60_r0) (.seq (.reg f60_r1) (.seq (.seq (.reg f60_r2) (.block 0 (.loop f60_l0))) (.seq (.reg f60_r13) .ret))))
noncomputable def f60 : EF := ⟨42, [.celln (.ofNat 2) 49, .tmp (.ofNat 3)], f60_c, none⟩
theorem f60_rs : f60.rs = [.celln (.ofNat 2) 49, .tmp (.ofNat 3)] := of_eq_true (eq_self _)
section
variable {fs : T EF} {h h' : H}
theorem f58_ret {L : List Bool} (k : Nat4 fs) (hL : L.length = 49) (hc : HC h) : Ret fs f58 [rV L] h fun r h' => Sk 2 qE h' r (arI (rat L)) ∧ Own h.nx.nat r ∧ Grow h.nx.nat h h' := by
  apply ret_of rfl
  show W fs none f58_c _ _ _
  unfold f58_c
  have c1 := rC_cells hL
  have n1 := nx_new h (.cells 49 (L.map V.b))
  have gr1 : Grow h.nx.nat h (h.new (.cells 49 (L.map V.b))) := Grow.new (Nat.le_refl _) _
  have e1 : (h.new (.cells 49 (L.map V.b))).get h.nx = rC L := get_new_same
  simp (disch := omega) only [f58_r0, w_reg, w_seq, seqK_n, x_nil, x_as, x_box, kx, rvP_ok, ev_t, ev_c, getV_some, putD_some, oGet_s, frame_1, getK_set, ↓reduceIte, c1]
  generalize h.new (.cells 49 (L.map V.b)) = h1 at *
  have n2 := nx_new h1 (.cells 1 [.sn])
  have gr2 : Grow h1.nx.nat h1 (h1.new (.cells 1 [.sn])) := Grow.new (Nat.le_refl _) _
  have e2 : (h1.new (.cells 1 [.sn])).get h1.nx = .cells 1 [.sn] := get_new_same
  simp (disch := omega) only [f58_r1, w_reg, w_seq, seqK_n, x_nil, x_alloc, putD_some]
  generalize h1.new (.cells 1 [.sn]) = h2 at *
  have hc2 := gr2.hc (gr1.hc hc)
  have l2 := rC_ldn hL ((gr2.old h.nx (by omega)).trans e1)
  simp (disch := omega) only [f58_r2, x_ldn, x_call, kx, rvP_ok, ev_t, ev_c, evs_nil, evs_cons, getV_some, putD_some, getK_set, Nat.reduceEqDiff, ↓reduceIte, l2]
  refine (callP_0 (ef := f84) k.c84 rfl (f84_ret hL)).mono ?_
  rintro r h3 ⟨rfl, rfl⟩
  have n3 := nx_new h2 (rC L)
  have gr3 : Grow h2.nx.nat h2 (h2.new (rC L)) := Grow.new (Nat.le_refl _) _
  have e3 : (h2.new (rC L)).get h2.nx = rC L := get_new_same
  have hc3 := gr3.hc hc2
  have e2' := (gr3.old h1.nx (by omega)).trans e2
  simp (disch := omega) only [w_block, seqK_n, x_nil, kx, putD_some]
  generalize h2.new (rC L) = h3 at *
  generalize hfr : T.set (K.ofNat 6) _ _ = fr
  have g3 : fr.get (K.ofNat 3) = some (.p h1.nx 0) := by rw [← hfr]; simp only [getK_set, Nat.reduceEqDiff, ↓reduceIte]
  have g6 : fr.get (K.ofNat 6) = some (.fn (K.ofNat 101) [.p h2.nx 0]) := by rw [← hfr]; simp only [getK_set, ↓reduceIte]
  clear hfr
  refine W_itr (by simp (disch := omega) only [ev_t, getV_some, g6]) (all_yieldsR hL k.c101) (fun id => id = h1.nx) (fun i h5 => ∃ u, h5.get h1.nx = .cells 1 [u] ∧ Sk 2 qE h5 u (((arw (rat L)).take i).map toI) ∧ Own (h3.nx.nat + 1) u) (fun _ _ => False) hc3 rfl (by rintro id rfl; omega)
    (fun h5 ks => (ks.old _ (by omega) (fun e => by have := congrArg K.nat e; omega)).trans e3) ?_ (fun _ _ _ h _ _ _ => h.elim) ?_ ?_ ?_ (fun _ _ _ h => h.elim)
  · rintro i h5 h6 ⟨u, q1, q2, q3⟩ hc5 hn ho
    exact ⟨u, by rw [ho _ (by omega) (kNe (by omega))]; exact q1, q2.same fun id off n sz e => ho _ (q2.lt hc5 _ _ _ _ e) (fun e2 => by have := q3 _ _ _ _ e; rw [e2] at this; omega), q3⟩
  · exact fun h5 hg => ⟨.sn, (hg.old _ (by omega)).trans e2', Sk.nil, Own.sn⟩
  · rintro i ⟨x, y⟩ h5 hx hk hn ⟨u, q1, q2, q3⟩
    obtain ⟨hst, gB, c7, n5⟩ := arr_var (h := h5) (x := x) (y := y)
    have b1 := (gB.old h1.nx (by omega)).trans q1
    have b2 := q2.grow hk.hc gB
    unfold f58_a0
    simp (disch := omega) only [f58_r3, w_reg, x_nil, x_alloc, x_st, kx, rvP_ok, ev_t, getV_some, putD_some, putD_none, of0, getK_set, Nat.reduceEqDiff, ↓reduceIte, hst, itA_n]
    generalize (h5.new (.cells 2 [.i .i64 0, .i .i64 0])).put h5.nx (.cells 2 [.i .i64 (x : Int), .i .i64 (y : Int)]) = h6 at *
    refine ⟨gB, fun h7 n7 hc7 o7 _ => ?_⟩
    have n7' : h7.nx.nat = h6.nx.nat := congrArg K.nat n7
    have l1 := ldn2 ((o7 _ (kNe hn).symm).trans c7)
    have b1' := (o7 h1.nx (kNe (by omega))).trans b1
    have l0 := load_p (off := 0) b1' (show nth [u] 0 = some u from rfl)
    have b2' : Sk 2 qE h7 u (((arw (rat L)).take i).map toI) := b2.same fun id off n sz e => o7 _ (fun e2 => by have := q3 _ _ _ _ e; rw [e2] at this; omega)
    have hlen : (((arw (rat L)).take i).map toI).length < 16777216 := by
      have := arI_len (g := rat L)
      unfold arI at this
      rw [List.length_map] at this ⊢
      rw [List.length_take]; omega
    obtain ⟨u', h8, a1, s1, o1, gr8, k8⟩ := Sk.push qE_len (by omega) (x := toI (x, y)) b2' q3 (by omega) hc7 hlen
    have a1' : appV 2 (h7.new (.cells (1 * 2) [.i .i64 (x : Int), .i .i64 (y : Int)])) u (.sl h7.nx 0 1 2) = .ok u' h8 := a1
    obtain ⟨k81, k82⟩ := k8 h1.nx (by omega) (q3.notIn (by omega))
    have hav : V.agg [.i .i64 (x : Int), .i .i64 (y : Int)] = pV (toI (x, y)) := rfl
    have cp : cellsN 2 (pV (toI (x, y))) = some [.i .i64 (x : Int), .i .i64 (y : Int)] := rfl
    have sp : setMany [V.i .i64 0, V.i .i64 0] 0 [V.i .i64 (x : Int), V.i .i64 (y : Int)] = [V.i .i64 (x : Int), V.i .i64 (y : Int)] := rfl
    have s8 : storeV h8 1 (.p h1.nx 0) u' = .ok undefV (h8.put h1.nx (.cells 1 [u'])) := st1 (k81.trans b1') s1.one
    have hbq := q2.beq
    unfold f58_b0
    simp (disch := omega) only [f58_r4, w_draw, w_block, true_and, x_nil, x_call, x_app, kx, kg, xg_nil, xg_ld, xg_ldn, xg_bslice, xd_cons, fresh_nil, stK_s, stay_nil, stay_cons, stay_ld, rvP_ok, ev_t, ev_c, evs_nil, evs_cons, getV_some, putD_some, oGet_s, of0, Option.some.injEq, exists_eq_left', getK_set, Nat.reduceEqDiff, ↓reduceIte, fill_0, g3, l0, l1, hav, k.n78, fill_c, cp, sp, hc7.dead]
    refine ⟨fresh_one (n := 1) (sz := 2) (by simp (disch := omega) only [getK_set, ↓reduceIte]), ?_⟩
    have gL : Grow h7.nx.nat h7 (h7.new (.cells (1 * 2) [.i .i64 (x : Int), .i .i64 (y : Int)])) := Grow.new (Nat.le_refl _) _
    have l0' := load_p (off := 0) ((gL.old h1.nx (by omega)).trans b1') (show nth [u] 0 = some u from rfl)
    simp (disch := omega) only [atK_n, true_and, x_nil, x_st, kx, xg_nil, xd_cons, fresh_nil, stK_n, stK_s, stay_nil, again_ok, rvP_ok, ev_t, getV_some, putD_some, putD_none, getK_set, Nat.reduceEqDiff, ↓reduceIte, g3, l0', hbq, a1', s8, itC_n, and_self]
    have g8n := gr8.nx
    refine ⟨⟨u', get_put_same, ?_, o1⟩, ?_⟩
    · rw [List.take_add_one, hx]
      simp only [Option.toList_some, List.map_append, List.map_cons, List.map_nil]
      exact s1.put k82 _
    · have h0 : Kr (fun id => id = h1.nx) h3.nx h7 h8 := Kr.of hc7 gr8 (by omega)
      exact h0.put (by omega) (.inl rfl) _
  · rintro h5 ⟨u, q1, q2, q3⟩ hk hn
    rw [List.take_length] at q2
    have l5 := load_p (off := 0) q1 (show nth [u] 0 = some u from rfl)
    simp (disch := omega) only [f58_r5, f58_rs, w_reg, w_seq, w_ret, seqK_n, atK_n, retK_r, x_nil, x_as, x_ld, kx, rvP_ok, ev_t, getV_some, putD_some, oGet_s, readRs_nil, readRs_t, retV_1, Option.some.injEq, exists_eq_left', getK_set, ↓reduceIte, g3, l5]
    exact ⟨q2, q3.low (by omega), gr1.trans ((gr2.low (by omega)).trans ((gr3.low (by omega)).trans (hk.toGrow (by rintro id rfl; omega) (by omega))))⟩
/-! ### Slices of relations that are gathered -/
noncomputable def eR (L : List Bool) : List V := (rl (rat L)).map V.b
theorem eR_len : ∀ x, (eR x).length = 49 := fun x => by simp [eR, rl_len]
theorem eR_eq {L : List Bool} (hL : L.length = 49) : eR L = L.map V.b := by unfold eR; rw [rl_rat hL]
theorem Rs.ofSk {v : V} {Ls : List (List Bool)} (s : Sk 49 eR h v Ls) (hl : ∀ L ∈ Ls, L.length = 49) : Rs h v Ls := by
  refine ⟨s.len, fun i hi => ?_⟩
  rcases s with ⟨_, rfl⟩ | ⟨id, off, m, cs, rfl, h1, h2, h3, h4⟩
  · simp at hi
  · have hh := flat_drop eR_len Ls i hi
    rw [← h4, List.drop_take, List.take_take, List.drop_drop, Nat.min_eq_left (by omega)] at hh
    refine ⟨id, off + i * 49, m, cs, fun h1 => by rw [iads_sl, idx_n hi], h1, ?_, ?_⟩
    · have : (i + 1) * 49 ≤ Ls.length * 49 := Nat.mul_le_mul_right _ hi
      omega
    · rw [takeN_eq, dropN_eq, hh, eR_eq (hl _ (List.getElem_mem hi))]
def f60_I (h0 : H) (id1 id2 : K) (L0 : List Bool) (s : List Bool × List (List Bool)) (fr : Fr) (h1 : H) : Prop := SymR s.1 ∧ (∀ C ∈ s.2, C.length = 49) ∧ cntT s.1 + s.2.length ≤ 49 ∧ (∀ r, OrS s.1 r → OrS L0 (r.map (s.2 ++ ·))) ∧ Kp id1 h0 h1 ∧ h1.get id1 = rC s.1 ∧
  ∃ u id5 x, Sk 49 eR h1 u s.2 ∧ Own (h0.nx.nat) u ∧ h0.nx.nat ≤ id5.nat ∧ id5.nat < h1.nx.nat ∧ NotIn id5 u ∧ h1.get id5 = .cells 2 [.i .i64 ((x : Nat × Nat).1 : Int), .i .i64 (x.2 : Int)] ∧ (∀ y, frO s.1 = some y → x = y) ∧ fr.get (K.ofNat 1) = some (.p id1 0) ∧ fr.get (K.ofNat 2) = some (.p id2 0) ∧ fr.get (K.ofNat 4) = some (u) ∧ fr.get (K.ofNat 5) = some (.p id5 0) ∧ fr.get (K.ofNat 6) = some (.b (frO s.1).isSome)
def frX (L : List Bool) : Nat × Nat := (frO L).getD (0, 0)
theorem frV_eq {L : List Bool} : frV L = .tup [aV (frX L), .b (frO L).isSome] := by
  unfold frV frX
  cases frO L <;> rfl
theorem zero49 : (V.agg (List.replicate 49 (.b false))) = rV (rl fun _ _ => false) := rfl
theorem set49a {L : List Bool} (hL : L.length = 49) : setMany (List.replicate 49 (.b false)) 0 (L.map V.b) = L.map V.b := by
  rw [setMany_eq _ _ _ (by simp [hL])]; simp [hL]
theorem f60_ret {L0 : List Bool} (k : Nat4 fs) (sy : SymR L0) (hc : HC h) : Ret fs f60 [rV L0] h fun r _ => r = orV L0 := by
  have hL := sy.len
  apply ret_of rfl
  show W fs none f60_c _ _ _
  unfold f60_c
  have c1 := rC_cells hL
  have n1 := nx_new h (.cells 49 (L0.map V.b))
  have gr1 : Grow h.nx.nat h (h.new (.cells 49 (L0.map V.b))) := Grow.new (Nat.le_refl _) _
  have e1 : (h.new (.cells 49 (L0.map V.b))).get h.nx = rC L0 := get_new_same
  simp (disch := omega) only [f60_r0, w_reg, w_seq, seqK_n, x_nil, x_as, x_alloc, x_box, kx, rvP_ok, ev_t, ev_c, getV_some, putD_some, oGet_s, frame_1, getK_set, ↓reduceIte, c1]
  generalize h.new (.cells 49 (L0.map V.b)) = h1 at *
  have n2 := nx_new h1 (.cells 49 (List.replicate 49 (.b false)))
  have gr2 : Grow h1.nx.nat h1 (h1.new (.cells 49 (List.replicate 49 (.b false)))) := Grow.new (Nat.le_refl _) _
  have e2 : (h1.new (.cells 49 (List.replicate 49 (.b false)))).get h1.nx = rC (rl fun _ _ => false) := by rw [rl_false]; exact get_new_same
  generalize h1.new (.cells 49 (List.replicate 49 (.b false))) = h2 at *
  have hc2 := gr2.hc (gr1.hc hc)
  have e1' := (gr2.old h.nx (by omega)).trans e1
  have e2' := e2
  have l2 := rC_ldn hL e1'
  obtain ⟨hst, gB, c7, n5⟩ := arr_var (h := h2) (x := (frX L0).1) (y := (frX L0).2)
  replace hst : storeV (h2.new (.cells 2 [.i .i64 0, .i .i64 0])) 2 (.p h2.nx 0) (aV (frX L0)) = _ := hst
  simp (disch := omega) only [f60_r1, f60_r2, w_reg, w_seq, w_block, seqK_n, x_nil, x_mv, x_as, x_alloc, x_ldn, x_st, x_ext, x_call, kx, rvP_ok, okv_some, ev_t, ev_c, evs_nil, evs_cons, getV_some, putD_some, putD_none, onTup_t, nth0, nth1, of0, getK_set, Nat.reduceEqDiff, ↓reduceIte, l2, k.n87 _ _ _ hL, frV_eq, hst]
  generalize (h2.new (.cells 2 [.i .i64 0, .i .i64 0])).put h2.nx (.cells 2 [.i .i64 ((frX L0).1 : Int), .i .i64 ((frX L0).2 : Int)]) = h3 at *
  have k3 : Kp h.nx h2 h3 := Kp.of hc2 gB (Nat.le_refl _)
  refine W_loop (f60_I h2 h.nx h1.nx L0) (fun s => cntT s.1) ?_ (L0, []) ⟨sy, fun C hC => (by cases hC), by have := cntT_le hL; simpa using this, fun r hr => by cases r <;> exact hr, k3, (gB.old h.nx (by omega)).trans e1', .sn, h2.nx, frX L0, Sk.nil, Own.sn, Nat.le_refl _, by omega, NotIn.sn, c7, fun y hy => by unfold frX; rw [hy]; rfl, by simp (disch := omega) only [getK_set, Nat.reduceEqDiff, ↓reduceIte, and_self]⟩
  clear c7 hst n5 gB k3 h3
  rintro ⟨L, P⟩ fr h3 ⟨sL, hP, hcn, hO, hk, hB, u, id5, x, hu, hou, h5a, h5b, h5n, e5, hx, g1, g2, g4, g5, g6⟩
  simp only at sL hP hcn hO hB hu hx g6
  have hkn := hk.nx
  have hLl := sL.len
  unfold f60_l0
  cases hf : frO L with
  | none =>
    rw [hf] at g6
    have g6 : fr.get (K.ofNat 6) = some (.b false) := g6
    have hor : orO L0 = some P := by
      have := orO_eq (hO _ (.done hf))
      simpa using this
    simp (disch := omega) only [f60_r3, f60_r13, w_reg, w_seq, w_cond, w_exit, seqK_n, seqK_e, atK_e, loopK_e, ckB_b, cbB_b, true_and, x_nil, x_mv, x_call, ev_t, ev_c, evs_nil, evs_cons, getV_some, putD_some, getK_set, Nat.reduceEqDiff, ↓reduceIte, Bool.false_eq_true, g4, g6]
    have hRs : Rs h3 u P := Rs.ofSk hu hP
    refine (callP_0 (ef := f69) k.c69 rfl (f69_ret k.c84 k.c101 hRs hP (by omega) hk.hc)).mono ?_
    rintro r h4 ⟨rfl, gr4⟩
    have hJ : (jnR P).length = 49 := rl_len
    have s4 := rC_stn hJ rl_len (M := rl fun _ _ => false) ((gr4.old h1.nx (by omega)).trans ((hk.old h1.nx (by omega) (kNe (by omega)).symm).trans e2'))
    have hr4 : readP (h4.put h1.nx (rC (jnR P))) (.p h1.nx 0) (many? 49) = some (rV (jnR P)) := rC_read hJ get_put_same
    simp (disch := omega) only [f60_rs, w_ret, seqK_n, retK_r, x_nil, x_as, x_st, kx, rvP_ok, ev_t, ev_c, getV_some, putD_some, putD_none, oGet_s, readRs_nil, readRs_t, readRs_n, retV_2, Option.some.injEq, exists_eq_left', getK_set, Nat.reduceEqDiff, ↓reduceIte, g2, s4, hr4]
    unfold orV
    rw [hor]
  | some y =>
    have hxy := hx y hf
    subst hxy
    rw [hf] at g6
    have g6 : fr.get (K.ofNat 6) = some (.b true) := g6
    obtain ⟨hx1, hx2, hxr⟩ := frO_some hf
    have l3 := rC_ldn hLl hB
    have l5 := ldn2 e5
    have hav : V.agg [.i .i64 (x.1 : Int), .i .i64 (x.2 : Int)] = aV x := rfl
    have hC : (clsR L x).length = 49 := clsR_len
    have hT : (turnR (clsR L x)).length = 49 := rl_len
    have hnx : nxR L x = woR L (jnR [clsR L x, turnR (clsR L x)]) := rfl
    have hct := nxR_cnt sL hf
    have hstep := fun r hne => OrS.step (r := r) hf hne
    have hclash := OrS.clash hf
    have sN := sL.next (x := x) ⟨hx1, hx2⟩
    have hcls := k.n57 L x
    generalize clsR L x = C at *
    have n4 := nx_new h3 (.cells 49 (List.replicate 49 (.b false)))
    have s4 := rC_stn hC rl_len (M := rl fun _ _ => false) (h := h3.new (.cells 49 (List.replicate 49 (.b false)))) (id := h3.nx) (by rw [rl_false]; exact get_new_same)
    have gr4 : Grow h3.nx.nat h3 ((h3.new (.cells 49 (List.replicate 49 (.b false)))).put h3.nx (rC C)) := (Grow.new (Nat.le_refl _) _).trans (Grow.put (Nat.le_refl _) (by omega) _)
    have n4' : ((h3.new (.cells 49 (List.replicate 49 (.b false)))).put h3.nx (rC C)).nx.nat = h3.nx.nat + 1 := n4
    have e4 : ((h3.new (.cells 49 (List.replicate 49 (.b false)))).put h3.nx (rC C)).get h3.nx = rC C := get_put_same
    simp (disch := omega) only [f60_r3, f60_r4, w_skip, w_reg, w_seq, w_cond, w_block, seqK_n, ckB_b, cbB_b, true_and, x_nil, x_mv, x_alloc, x_ldn, x_st, x_call, kx, rvP_ok, ev_t, ev_c, evs_nil, evs_cons, getV_some, putD_some, putD_none, getK_set, Nat.reduceEqDiff, ↓reduceIte, g1, g5, g6, l3, l5, hav, hcls _ _ hLl ⟨hx1, hx2⟩, s4]
    generalize (h3.new (.cells 49 (List.replicate 49 (.b false)))).put h3.nx (rC C) = h4 at *
    have l4 := rC_ldn hC e4
    have n6 := nx_new h4 (.cells 49 (List.replicate 49 (.b false)))
    have s6 := rC_stn hT rl_len (M := rl fun _ _ => false) (h := h4.new (.cells 49 (List.replicate 49 (.b false)))) (id := h4.nx) (by rw [rl_false]; exact get_new_same)
    have gr6 : Grow h4.nx.nat h4 ((h4.new (.cells 49 (List.replicate 49 (.b false)))).put h4.nx (rC (turnR C))) := (Grow.new (Nat.le_refl _) _).trans (Grow.put (Nat.le_refl _) (by omega) _)
    have n6' : ((h4.new (.cells 49 (List.replicate 49 (.b false)))).put h4.nx (rC (turnR C))).nx.nat = h4.nx.nat + 1 := n6
    have e6 : ((h4.new (.cells 49 (List.replicate 49 (.b false)))).put h4.nx (rC (turnR C))).get h4.nx = rC (turnR C) := get_put_same
    simp (disch := omega) only [f60_r5, w_reg, w_seq, seqK_n, x_nil, x_alloc, x_ldn, x_st, x_call, kx, rvP_ok, ev_t, ev_c, evs_nil, evs_cons, getV_some, putD_some, putD_none, getK_set, Nat.reduceEqDiff, ↓reduceIte, l4, k.n70 _ _ _ hC, s6]
    generalize (h4.new (.cells 49 (List.replicate 49 (.b false)))).put h4.nx (rC (turnR C)) = h5 at *
    have gA : Grow h3.nx.nat h3 h5 := gr4.trans (gr6.low (by omega))
    have hc5 := gA.hc hk.hc
    have lC := rC_ldn hC ((gr6.old h3.nx (by omega)).trans e4)
    have lT := rC_ldn hT e6
    have hq := keyEq_rel2 hC hT
    by_cases e : C = turnR C
    · have d0 : decide (C = turnR C) = true := decide_eq_true e
      have hor : orO L0 = none := by
        have := orO_eq (hO _ (hclash e))
        simpa using this
      rw [d0] at hq
      have s7 := rC_stn (L := rl fun _ _ => false) rl_len rl_len (M := rl fun _ _ => false) ((gA.old h1.nx (by omega)).trans ((hk.old h1.nx (by omega) (kNe (by omega)).symm).trans e2'))
      have hr7 : readP (h5.put h1.nx (rC (rl fun _ _ => false))) (.p h1.nx 0) (many? 49) = some (rV (rl fun _ _ => false)) := rC_read rl_len get_put_same
      simp (disch := omega) only [f60_r6, f60_r7, f60_rs, w_reg, w_seq, w_cond, w_ret, seqK_n, seqK_r, atK_r, loopK_r, ckB_b, cbB_b, true_and, retK_r, x_nil, x_as, x_build, x_ldn, x_st, x_eqk, kx, rvP_ok, okv_some, ev_t, ev_c, getV_some, putD_some, putD_none, oGet_s, readRs_nil, readRs_t, readRs_n, retV_2, Option.some.injEq, exists_eq_left', getK_set, Nat.reduceEqDiff, ↓reduceIte, fill_0, g2, lC, lT, hq, cond_false, zero49, s7, hr7]
      unfold orV
      rw [hor]
    · have d0 : decide (C = turnR C) = false := decide_eq_false e
      rw [d0] at hq
      have cC := rC_cells hC
      have cT := rC_cells hT
      have hu5 := hu.grow hk.hc gA
      obtain ⟨u', h7, a1, s1, o1, gr7, k7⟩ := Sk.push (b := h2.nx.nat) eR_len (by omega) (x := C) hu5 hou (by omega) hc5 (by omega)
      rw [eR_eq hC] at a1
      have hc7 := gr7.hc hc5
      have g7n := gr7.nx
      -- what is older than these parts
      have old7 : ∀ id : K, id.nat < h5.nx.nat → NotIn id u → h7.get id = h5.get id := fun id hi hn => (k7 id hi hn).1
      have nlt : ∀ id : K, id.nat < h2.nx.nat → NotIn id u := fun id hi => hou.notIn hi
      have nge : ∀ id : K, h3.nx.nat ≤ id.nat → NotIn id u := fun id hi off n sz ee => by have := hu.lt hk.hc _ _ _ _ ee; omega
      have e1_7 : h7.get h.nx = rC L := (old7 h.nx (by omega) (nlt _ (by omega))).trans ((gA.old h.nx (by omega)).trans hB)
      have eC_7 : h7.get h3.nx = rC C := (old7 h3.nx (by omega) (nge _ (Nat.le_refl _))).trans ((gr6.old h3.nx (by omega)).trans e4)
      have eT_7 : h7.get h4.nx = rC (turnR C) := (old7 h4.nx (by omega) (nge _ (by omega))).trans e6
      have e5_7 : h7.get id5 = .cells 2 [.i .i64 (x.1 : Int), .i .i64 (x.2 : Int)] := (old7 id5 (by omega) h5n).trans ((gA.old id5 (by omega)).trans e5)
      have gL : Grow h7.nx.nat h7 (h7.new (.cells (2 * 49) (C.map V.b ++ (turnR C).map V.b))) := Grow.new (Nat.le_refl _) _
      have lL7 := rC_ldn hLl e1_7
      have lC7 := rC_ldn hC eC_7
      have lT7 := rC_ldn hT eT_7
      simp (disch := omega) only [f60_r6, f60_r8, w_skip, w_reg, w_draw, w_seq, w_cond, seqK_n, ckB_b, cbB_b, true_and, x_nil, x_mv, x_as, x_bslice, x_ldn, x_eqk, x_app, kx, rvP_ok, okv_some, ev_t, getV_some, putD_some, oGet_s, getK_set, Nat.reduceEqDiff, ↓reduceIte, Bool.false_eq_true, fill_0, g4, lC, lT, hq, cond_false, fill_c, cC, set49a hC, a1]
      simp (disch := omega) only [f60_r9, true_and, x_call, kg, xg_nil, xg_ldn, xg_bslice, xd_cons, stK_s, stay_nil, rvP_ok, ev_t, ev_c, evs_nil, evs_cons, getV_some, putD_some, oGet_s, Option.some.injEq, exists_eq_left', getK_set, Nat.reduceEqDiff, ↓reduceIte, fill_0, g1, lL7, lC7, lT7, fill_c, cC, cT, set98a hC, set98b hC hT, hc7.dead]
      refine ⟨fresh_one (n := 2) (sz := 49) (by simp (disch := omega) only [getK_set, ↓reduceIte]), ?_⟩
      have hr8 := Rs.two (h := h7) hC hT
      have n8 := nx_new h7 (.cells (2 * 49) (C.map V.b ++ (turnR C).map V.b))
      have hc8 := gL.hc hc7
      generalize h7.new (.cells (2 * 49) (C.map V.b ++ (turnR C).map V.b)) = h8 at *
      have hall : ∀ z ∈ [C, turnR C], z.length = 49 := fun z hz => by
        simp only [List.mem_cons, List.not_mem_nil, or_false] at hz
        rcases hz with rfl | rfl
        · exact hC
        · exact hT
      refine (callP_0 (ef := f69) k.c69 rfl (f69_ret k.c84 k.c101 hr8 hall (by simp) hc8)).mono ?_
      rintro r h9 ⟨rfl, gr9⟩
      have gD : Grow h7.nx.nat h7 h9 := gL.trans (gr9.low (by omega))
      have hc9 := gr9.hc hc8
      have g9n := gr9.nx
      have hJ : (jnR [C, turnR C]).length = 49 := rl_len
      have hN : (woR L (jnR [C, turnR C])).length = 49 := rl_len
      have e1_9 := (gD.old h.nx (by omega)).trans e1_7
      have lL9 := rC_ldn hLl e1_9
      have s9 := rC_stn hN hLl e1_9
      have kk : Kp h.nx h2 h9 := ((hk.grow gA hkn).grow gr7 (Nat.le_refl _)).grow gD (by omega)
      have kP := kk.put (by have := hkn; omega) (rC (woR L (jnR [C, turnR C])))
      have e5_9 := (gD.old id5 (by omega)).trans e5_7
      have nid5 : id5 ≠ h.nx := fun e => by have := congrArg K.nat e; omega
      have e5_10 : (h9.put h.nx (rC (woR L (jnR [C, turnR C])))).get id5 = .cells 2 [.i .i64 (x.1 : Int), .i .i64 (x.2 : Int)] := by rw [get_put_other nid5]; exact e5_9
      have e1_10 : (h9.put h.nx (rC (woR L (jnR [C, turnR C])))).get h.nx = rC (woR L (jnR [C, turnR C])) := get_put_same
      have u_10 : Sk 49 eR (h9.put h.nx (rC (woR L (jnR [C, turnR C])))) u' (P ++ [C]) := (s1.grow hc7 gD).put (o1.notIn (by omega)) _
      have n10 : (h9.put h.nx (rC (woR L (jnR [C, turnR C])))).nx.nat = h9.nx.nat := rfl
      have hn81 := k.n81 L (jnR [C, turnR C])
      simp (disch := omega) only [w_reg, w_seq, seqK_n, atK_n, true_and, x_nil, x_st, x_call, kx, xg_nil, xd_cons, fresh_nil, stK_n, stK_s, stay_nil, stay_cons, again_ok, rvP_ok, ev_t, ev_c, evs_nil, evs_cons, getV_some, putD_some, putD_none, getK_set, Nat.reduceEqDiff, ↓reduceIte, stay_ldn, g1, lL9, beq_rV, hn81 _ _ hLl hJ, s9]
      generalize h9.put h.nx (rC (woR L (jnR [C, turnR C]))) = h10 at *
      have l10 := ldn2 e5_10
      obtain ⟨hst, gB, c7, n11⟩ := arr_var (h := h10) (x := x.1) (y := x.2)
      replace hst : storeV (h10.new (.cells 2 [.i .i64 0, .i .i64 0])) 2 (.p h10.nx 0) (aV x) = _ := hst
      simp (disch := omega) only [f60_r10, f60_r11, w_reg, seqK_n, x_nil, x_alloc, x_ldn, x_st, kx, rvP_ok, ev_t, getV_some, putD_some, putD_none, of0, getK_set, Nat.reduceEqDiff, ↓reduceIte, g5, l10, hav, hst]
      generalize (h10.new (.cells 2 [.i .i64 0, .i .i64 0])).put h10.nx (.cells 2 [.i .i64 (x.1 : Int), .i .i64 (x.2 : Int)]) = h11 at *
      have l11 := rC_ldn hN ((gB.old h.nx (by omega)).trans e1_10)
      have s11 : storeV h11 2 (.p h10.nx 0) (aV (frX (woR L (jnR [C, turnR C])))) = .ok undefV (h11.put h10.nx (.cells 2 [.i .i64 ((frX (woR L (jnR [C, turnR C]))).1 : Int), .i .i64 ((frX (woR L (jnR [C, turnR C]))).2 : Int)])) := st2 c7
      simp (disch := omega) only [f60_r12, loopK_n, x_nil, x_mv, x_as, x_ldn, x_st, x_ext, x_call, kx, rvP_ok, okv_some, ev_t, ev_c, evs_nil, evs_cons, getV_some, putD_some, putD_none, onTup_t, nth0, nth1, getK_set, Nat.reduceEqDiff, ↓reduceIte, g1, l11, k.n87 _ _ _ hN, frV_eq, s11]
      have gE : Grow h10.nx.nat h10 (h11.put h10.nx (.cells 2 [.i .i64 ((frX (woR L (jnR [C, turnR C]))).1 : Int), .i .i64 ((frX (woR L (jnR [C, turnR C]))).2 : Int)])) := gB.trans (Grow.put (Nat.le_refl _) (by omega) _)
      rw [hnx] at hct hstep sN
      refine ⟨(woR L (jnR [C, turnR C]), P ++ [C]), hct, sN, fun z hz => ?_, ?_, fun r hr => ?_, kP.grow gE (by omega), (gE.old h.nx (by omega)).trans e1_10, u', h10.nx, frX (woR L (jnR [C, turnR C])), u_10.grow kP.hc gE, o1, by omega, by rw [nx_put]; omega, fun off n sz ee => by have := u_10.lt kP.hc _ _ _ _ ee; omega, get_put_same, fun y hy => by unfold frX; rw [hy]; rfl, by simp (disch := omega) only [getK_set, Nat.reduceEqDiff, ↓reduceIte, g1, g2, and_self]⟩
      · rcases List.mem_append.1 hz with hz | hz
        · exact hP z hz
        · rw [List.mem_singleton.1 hz]; exact hC
      · simp only at hct hcn ⊢
        rw [List.length_append]
        show cntT (woR L (jnR [C, turnR C])) + (P.length + 1) ≤ 49
        omega
      · have := hO _ (hstep r e hr)
        cases r with
        | none => exact this
        | some qs =>
          simp only [Option.map_some] at this ⊢
          rw [List.append_assoc]; exact this
end
end Go.Ev
namespace Go.Ev
open Go Go.RowKit
theorem nd_arI {f : Nat → Nat → Bool} : Nd (arI f) := fun x hx => by
  obtain ⟨a, b, h1, h2, _, rfl⟩ := mem_arI.1 hx
  show ((0 : Int) ≤ (a : Int) ∧ (a : Int) < 7) ∧ ((0 : Int) ≤ (b : Int) ∧ (b : Int) < 7)
  omega
theorem relR_arI {L : List Bool} (hL : L.length = 49) : relR (arI (rat L)) = L := by
  refine rel_ext rl_len hL fun a b ha hb => ?_
  unfold relR
  rw [rat_rl, decide_eq_true ha, decide_eq_true hb, Bool.true_and, Bool.true_and, Bool.eq_iff_iff, decide_eq_true_eq, mem_arI']
  exact ⟨fun h => h.2.2, fun h => ⟨ha, hb, h⟩⟩
theorem relR_iff {L : List (Int × Int)} {a b : Nat} (hn : Nd L) : rat (relR L) a b = true ↔ ((a : Int), (b : Int)) ∈ L := by
  unfold relR
  rw [rat_rl]
  simp only [Bool.and_eq_true, decide_eq_true_eq]
  exact ⟨fun h => h.2, fun h => ⟨by have := hn _ h; simp only at this; omega, h⟩⟩
theorem gR_iff {L : List (Int × Int)} {a b : Nat} (hn : Nd L) : rat (gR L) a b = true ↔ ((a : Int), (b : Int)) ∈ L ∨ ((b : Int), (a : Int)) ∈ L := by
  unfold gR
  rw [show jnR [relR L, turnR (relR L)] = jn2 (relR L) (turnR (relR L)) from rfl, jn2_iff, turnR_iff, relR_iff hn, relR_iff hn]
theorem gR_arI {n : Nat} {g : Nat → Nat → Bool} (hg : Gph n g) {a b : Nat} : rat (gR (arI g)) a b = true ↔ sy g a b = true := by
  rw [gR_iff nd_arI, mem_arI', mem_arI']
  unfold sy
  rw [Bool.or_eq_true]
  have h7 := hg.n7
  exact or_congr ⟨fun h => h.2.2, fun h => by have := hg.up _ _ h; exact ⟨by omega, by omega, h⟩⟩ ⟨fun h => h.2.2, fun h => by have := hg.up _ _ h; exact ⟨by omega, by omega, h⟩⟩
theorem symR_g {n : Nat} {g : Nat → Nat → Bool} (hg : Gph n g) : SymR (gR (arI g)) := by
  refine ⟨gR_len, ⟨fun a b h => ?_, fun a h => ?_⟩⟩
  · have h := (gR_arI hg).1 h
    exact (gR_arI hg).2 (by unfold sy at h ⊢; rw [Bool.or_comm]; exact h)
  · have h := (gR_arI hg).1 h
    unfold sy at h
    rw [Bool.or_self] at h
    have := hg.up _ _ h
    omega
theorem Er_lt {n : Nat} {g : Nat → Nat → Bool} (hg : Gph n g) {a b : Nat} (h : Er (gR (arI g)) a b) : a < n ∧ b < n ∧ a ≠ b := by
  have h := (gR_arI hg).1 h
  unfold sy at h
  rcases Bool.or_eq_true _ _ ▸ h with h | h
  · have := hg.up _ _ h; omega
  · have := hg.up _ _ h; omega
/-- Pairs of a relation are rising. -/
theorem ris_arI {f : Nat → Nat → Bool} {n : Nat} (hf : ∀ a b, a < 7 → b < 7 → f a b = true → a < n ∧ b < n ∧ a ≠ b) : risB (n : Int) (arI f) = true := by
  unfold risB
  refine @decide_eq_true _ (Classical.propDecidable _) fun j hj => ?_
  have hl : (arI f).length = (arw f).length := by unfold arI; rw [List.length_map]
  have e : ∀ i (hi : i < (arw f).length), (arI f).getD i (0, 0) = toI (arw f)[i] := fun i hi => by
    rw [List.getD_eq_getElem?_getD]
    unfold arI
    rw [List.getElem?_map, List.getElem?_eq_getElem hi]; rfl
  refine ⟨?_, fun h0 => ?_⟩
  · rw [e j (by omega)]
    obtain ⟨h1, h2, h3⟩ := arw_lt (List.getElem_mem (show j < (arw f).length by omega))
    obtain ⟨q1, q2, q3⟩ := hf _ _ h1 h2 h3
    unfold okE nodeB toI
    rw [decide_eq_true (show (0 : Int) ≤ ((arw f)[j].1 : Int) ∧ ((arw f)[j].1 : Int) < (n : Int) by omega), decide_eq_true (show (0 : Int) ≤ ((arw f)[j].2 : Int) ∧ ((arw f)[j].2 : Int) < (n : Int) by omega), decide_eq_true (show ((arw f)[j].1 : Int) ≠ ((arw f)[j].2 : Int) by omega)]
    try rfl
  · rw [e j (by omega), e (j - 1) (by omega)]
    have hs := arw_sorted (g := f) (i := j - 1) (by omega)
    have ej : j - 1 + 1 = j := by omega
    simp only [ej] at hs
    obtain ⟨_, h2, _⟩ := arw_lt (List.getElem_mem (show j < (arw f).length by omega))
    obtain ⟨_, k2, _⟩ := arw_lt (List.getElem_mem (show j - 1 < (arw f).length by omega))
    unfold bfB toI
    by_cases e1 : (arw f)[j - 1].1 < (arw f)[j].1
    · rw [decide_eq_true (show ((arw f)[j - 1].1 : Int) < ((arw f)[j].1 : Int) by omega)]; rfl
    · rw [decide_eq_true (show ((arw f)[j - 1].1 : Int) = ((arw f)[j].1 : Int) by omega), decide_eq_true (show ((arw f)[j - 1].2 : Int) < ((arw f)[j].2 : Int) by omega)]
      simp
theorem chkG_g {n : Nat} {g : Nat → Nat → Bool} (hg : Gph n g) : chkG (n : Int) (arI g) = 0 := by
  have h1 := hg.n1; have h7 := hg.n7
  have hu : UpT (arI g) (arI g).length := fun j hj => by
    have hl : (arI g).length = (arw g).length := by unfold arI; rw [List.length_map]
    rw [List.getD_eq_getElem?_getD]
    unfold arI
    rw [List.getElem?_map, List.getElem?_eq_getElem (show j < (arw g).length by omega)]
    obtain ⟨_, _, h3⟩ := arw_lt (List.getElem_mem (show j < (arw g).length by omega))
    have := hg.up _ _ h3
    show ((arw g)[j].1 : Int) ≤ ((arw g)[j].2 : Int)
    omega
  unfold chkG
  rw [if_neg (by omega), if_pos ⟨ris_arI fun a b _ _ h => by have := hg.up _ _ h; omega, hu⟩]
open Classical in
noncomputable def ckO (n : Int) (L : List (Int × Int)) : Int := if n < 1 ∨ 7 < n then 1 else if risB n L = true ∧ trB (relR L) = true then 0 else 30
theorem trB_iff {L : List Bool} (hL : L.length = 49) : trB L = true ↔ ∀ a b c, rat L a b = true → rat L b c = true → rat L a c = true := by
  unfold trB
  rw [cvB_iff hL]
  exact ⟨fun h a b c h1 h2 => h a c (spR_iff.2 ⟨b, h1, h2⟩), fun h a c h1 => by obtain ⟨b, h2, h3⟩ := spR_iff.1 h1; exact h a b c h2 h3⟩
/-- An order of n nodes. -/
structure OrdN (n : Nat) (L : List Bool) : Prop where
  len : L.length = 49
  lt : ∀ a b, rat L a b = true → a < n ∧ b < n
  irr : ∀ a, ¬ rat L a a = true
  tr : ∀ a b c, rat L a b = true → rat L b c = true → rat L a c = true
theorem ckO_o {n : Nat} {L : List Bool} (h1 : 1 ≤ n) (h7 : n ≤ 7) (o : OrdN n L) : ckO (n : Int) (arI (rat L)) = 0 := by
  unfold ckO
  rw [if_neg (by omega), if_pos ⟨ris_arI fun a b _ _ h => by have := o.lt _ _ h; exact ⟨this.1, this.2, fun e => o.irr a (by rw [← e] at h; exact h)⟩, by rw [relR_arI o.len, trB_iff o.len]; exact o.tr⟩]
theorem ris_nd {n : Int} {L : List (Int × Int)} (hn : n ≤ 7) (h : risB n L = true) : Nd L := fun x hx => by
  unfold risB at h
  have h := @of_decide_eq_true _ (Classical.propDecidable _) h
  obtain ⟨i, hi, rfl⟩ := List.getElem_of_mem hx
  have := (h i hi).1
  rw [List.getD_eq_getElem?_getD, List.getElem?_eq_getElem hi] at this
  have this : okE n L[i] = true := this
  unfold okE nodeB at this
  simp only [Bool.and_eq_true, decide_eq_true_eq] at this
  omega
/-- What the search for an order finds is one. -/
theorem ord_n {n : Nat} {g : Nat → Nat → Bool} (hg : Gph n g) {L : List Bool} (hL : L.length = 49) (o : Ord (Er (gR (arI g))) (Er L)) : OrdN n L :=
  ⟨hL, fun _a _b h => ⟨(Er_lt hg (o.sub _ _ h)).1, (Er_lt hg (o.sub _ _ h)).2.1⟩, fun a h => (symR_g hg).gr.irr a (o.sub _ _ h), o.tr⟩
/-- The search gives an order, or none is there. -/
theorem OrS.total : ∀ (m : Nat) {L : List Bool}, SymR L → cntT L ≤ m → ∃ r, OrS L r := by
  intro m
  induction m with
  | zero =>
    intro L s hm
    cases hf : frO L with
    | none => exact ⟨_, .done hf⟩
    | some x => have := nxR_cnt s hf; omega
  | succ m ih =>
    intro L s hm
    cases hf : frO L with
    | none => exact ⟨_, .done hf⟩
    | some x =>
      by_cases e : clsR L x = turnR (clsR L x)
      · exact ⟨_, .clash hf e⟩
      · obtain ⟨h1, h2, _⟩ := frO_some hf
        obtain ⟨r, hr⟩ := ih (s.next ⟨h1, h2⟩) (by have := nxR_cnt s hf; omega)
        exact ⟨_, .step hf e hr⟩
theorem orO_spec {L : List Bool} (s : SymR L) : (∃ ps, orO L = some ps ∧ Ord (Er L) (Er (jnR ps))) ∨ (orO L = none ∧ ¬ CF (Er L)) := by
  obtain ⟨r, hr⟩ := OrS.total _ s (Nat.le_refl _)
  have h1 := orO_eq hr
  have h2 := hr.sound s
  cases r with
  | none => exact .inr ⟨h1, h2.2 rfl⟩
  | some ps => exact .inl ⟨ps, h1, (h2.1 ps rfl).1⟩
end Go.Ev
namespace Go.Ev
open Go Go.RowKit
noncomputable def f40_r0 : List EOper := [⟨some (.ofNat 3), none, .box 2 (.t (.ofNat 1))⟩, ⟨some (.ofNat 4), none, .as (.c (.b false))⟩]
noncomputable def f40_r1 : List EOper := [⟨some (.ofNat 5), none, .as (.c (.i .i64 (.ofNat 0)))⟩]
noncomputable def f40_r2 : List EOper := [⟨some (.ofNat 6), none, .mv (.t (.ofNat 5))⟩, ⟨some (.ofNat 7), none, .mv (.t (.ofNat 0))⟩, ⟨some (.ofNat 8), none, .len (.t (.ofNat 7))⟩, ⟨some (.ofNat 9), none, .bin .lss (.t (.ofNat 6)) (.t (.ofNat 8))⟩]
noncomputable def f40_r3 : List Stage := [⟨[⟨some (.ofNat 12), none, .mv (.t (.ofNat 0))⟩, ⟨some (.ofNat 13), none, .mv (.t (.ofNat 5))⟩, ⟨some (.ofNat 14), none, .iads 2 (.t (.ofNat 12)) (.t (.ofNat 13))⟩, ⟨some (.ofNat 15), none, .ldn 2 (.t (.ofNat 14))⟩, ⟨some (.ofNat 16), none, .ldn 2 (.t (.ofNat 3))⟩, ⟨some (.ofNat 17), none, .eqk (.many [(some .i64), (some .i64)]) false (.t (.ofNat 15)) (.t (.ofNat 16))⟩], [], none, []⟩]
noncomputable def f40_r4 : List EOper := [⟨some (.ofNat 4), none, .as (.c (.b true))⟩]
noncomputable def f40_r5 : List EOper := [⟨some (.ofNat 10), none, .mv (.t (.ofNat 5))⟩, ⟨some (.ofNat 11), none, .bin .add (.t (.ofNat 10)) (.c (.i .i64 (.ofNat 1)))⟩, ⟨some (.ofNat 5), none, .as (.t (.ofNat 11))⟩]
noncomputable def f40_l0 : EC := (.seq (.seq (.reg f40_r2) (.cond (.t (.ofNat 9)) .skip (.exit 0))) (.seq (.block 1 (.seq (.draw f40_r3) (.cond (.t (.ofNat 17)) (.seq (.reg f40_r4) .ret) .skip))) (.reg f40_r5)))
noncomputable def f40_r6 : List EOper := [⟨some (.ofNat 4), none, .as (.c (.b false))⟩]
noncomputable def f40_c : EC := (.seq (.reg f40_r0) (.seq (.seq (.reg f40_r1) (.block 0 (.loop f40_l0))) (.seq (.reg f40_r6) .ret)))
noncomputable def f40 : EF := ⟨18, [.tmp (.ofNat 4)], f40_c, none⟩
theorem f40_rs : f40.rs = [.tmp (.ofNat 4)] := of_eq_true (eq_self _)
noncomputable def f23_r0 : List EOper := [⟨some (.ofNat 4), none, .as (.c .sn)⟩, ⟨some (.ofNat 5), none, .as (.c (.b false))⟩, ⟨some (.ofNat 6), none, .as (.c (.i .i64 (.ofNat 0)))⟩]
noncomputable def f23_r1 : List EOper := [⟨some (.ofNat 10), none, .mv (.t (.ofNat 0))⟩, ⟨some (.ofNat 11), none, .mv (.t (.ofNat 1))⟩, ⟨some (.ofNat 12), none, .call (.c (.fn (.ofNat 47) [])) [(.t (.ofNat 10)), (.t (.ofNat 11))]⟩, ⟨some (.ofNat 7), none, .as (.t (.ofNat 12))⟩]
noncomputable def f23_r2 : List EOper := [⟨some (.ofNat 13), none, .mv (.t (.ofNat 7))⟩, ⟨some (.ofNat 14), none, .bin .neq (.t (.ofNat 13)) (.c (.i .i64 (.ofNat 0)))⟩]
noncomputable def f23_r3 : List EOper := [⟨some (.ofNat 15), none, .mv (.t (.ofNat 7))⟩, ⟨some (.ofNat 4), none, .as (.c .sn)⟩, ⟨some (.ofNat 5), none, .as (.c (.b false))⟩, ⟨some (.ofNat 6), none, .as (.t (.ofNat 15))⟩]
noncomputable def f23_r4 : List EOper := [⟨some (.ofNat 17), none, .mv (.t (.ofNat 1))⟩, ⟨some (.ofNat 18), none, .call (.c (.fn (.ofNat 48) [])) [(.t (.ofNat 17))]⟩, ⟨some (.ofNat 19), none, .call (.c (.fn (.ofNat 60) [])) [(.t (.ofNat 18))]⟩, ⟨some (.ofNat 16), none, .mv (.t (.ofNat 19))⟩, ⟨some (.ofNat 20), none, .ext (.t (.ofNat 16)) 0⟩, ⟨some (.ofNat 21), none, .ext (.t (.ofNat 16)) 1⟩, ⟨some (.ofNat 8), none, .alloc 49 (List.replicate 49 (.b false))⟩, ⟨none, none, .st 49 (.t (.ofNat 8)) (.t (.ofNat 20))⟩, ⟨some (.ofNat 9), none, .as (.t (.ofNat 21))⟩]
noncomputable def f23_r5 : List EOper := [⟨some (.ofNat 22), none, .ldn 49 (.t (.ofNat 8))⟩, ⟨some (.ofNat 23), none, .call (.c (.fn (.ofNat 58) [])) [(.t (.ofNat 22))]⟩, ⟨some (.ofNat 24), none, .mv (.t (.ofNat 9))⟩, ⟨some (.ofNat 4), none, .as (.t (.ofNat 23))⟩, ⟨some (.ofNat 5), none, .as (.t (.ofNat 24))⟩, ⟨some (.ofNat 6), none, .as (.c (.i .i64 (.ofNat 0)))⟩]
noncomputable def f23_c : EC := (.seq (.reg f23_r0) (.seq (.seq (.reg f23_r1) (.seq (.reg f23_r2) (.cond (.t (.ofNat 14)) (.seq (.reg f23_r3) .ret) .skip))) (.seq (.reg f23_r4) (.seq (.reg f23_r5) .ret))))
noncomputable def f23 : EF := ⟨25, [.tmp (.ofNat 4), .tmp (.ofNat 5), .tmp (.ofNat 6)], f23_c, none⟩
theorem f23_rs : f23.rs = [.tmp (.ofNat 4), .tmp (.ofNat 5), .tmp (.ofNat 6)] := of_eq_true (eq_self _)
noncomputable def f45_r0 : List EOper := [⟨some (.ofNat 4), none, .as (.c (.i .i64 (.ofNat 0)))⟩]
noncomputable def f45_r1 : List EOper := [⟨some (.ofNat 5), none, .mv (.t (.ofNat 0))⟩, ⟨some (.ofNat 6), none, .bin .lss (.t (.ofNat 5)) (.c (.i .i64 (.ofNat 1)))⟩, ⟨some (.ofNat 7), none, .mv (.t (.ofNat 6))⟩, ⟨some (.ofNat 8), (some ((.ofNat 7), false)), .mv (.t (.ofNat 0))⟩, ⟨some (.ofNat 9), (some ((.ofNat 7), false)), .bin .gtr (.t (.ofNat 8)) (.c (.i .i64 (.ofNat 7)))⟩, ⟨some (.ofNat 10), none, .pick (.t (.ofNat 7)) (.c (.b true)) (.t (.ofNat 9))⟩]
noncomputable def f45_r2 : List EOper := [⟨some (.ofNat 4), none, .as (.c (.i .i64 (.ofNat 1)))⟩]
noncomputable def f45_r3 : List EOper := [⟨some (.ofNat 11), none, .mv (.t (.ofNat 0))⟩, ⟨some (.ofNat 12), none, .mv (.t (.ofNat 1))⟩, ⟨some (.ofNat 13), none, .call (.c (.fn (.ofNat 75) [])) [(.t (.ofNat 11)), (.t (.ofNat 12))]⟩, ⟨some (.ofNat 14), none, .not (.t (.ofNat 13))⟩, ⟨some (.ofNat 15), none, .mv (.t (.ofNat 14))⟩, ⟨some (.ofNat 16), (some ((.ofNat 15), false)), .mv (.t (.ofNat 1))⟩, ⟨some (.ofNat 17), (some ((.ofNat 15), false)), .call (.c (.fn (.ofNat 71) [])) [(.t (.ofNat 16))]⟩, ⟨some (.ofNat 18), (some ((.ofNat 15), false)), .call (.c (.fn (.ofNat 76) [])) [(.t (.ofNat 17))]⟩, ⟨some (.ofNat 19), (some ((.ofNat 15), false)), .not (.t (.ofNat 18))⟩, ⟨some (.ofNat 20), none, .pick (.t (.ofNat 15)) (.c (.b true)) (.t (.ofNat 19))⟩]
noncomputable def f45_r4 : List EOper := [⟨some (.ofNat 4), none, .as (.c (.i .i64 (.ofNat 30)))⟩]
noncomputable def f45_r5 : List EOper := [⟨some (.ofNat 4), none, .as (.c (.i .i64 (.ofNat 0)))⟩]
noncomputable def f45_c : EC := (.seq (.reg f45_r0) (.seq (.seq (.reg f45_r1) (.cond (.t (.ofNat 10)) (.seq (.reg f45_r2) .ret) .skip)) (.seq (.seq (.reg f45_r3) (.cond (.t (.ofNat 20)) (.seq (.reg f45_r4) .ret) .skip)) (.seq (.reg f45_r5) .ret))))
noncomputable def f45 : EF := ⟨21, [.tmp (.ofNat 4)], f45_c, none⟩
theorem f45_rs : f45.rs = [.tmp (.ofNat 4)] := of_eq_true (eq_self _)
section
variable {fs : T EF} {h h' : H}
def inI (x : Int × Int) : Prop := inR .i64 x.1 = true ∧ inR .i64 x.2 = true
theorem inI_nat {a b : Nat} (ha : a < 7) (hb : b < 7) : inI ((a : Int), (b : Int)) := by
  have r : ∀ n : Nat, n < 7 → inR .i64 (n : Int) = true := fun n hn => by
    show Nat.ble n (kmax .i64) = true
    exact Nat.ble_eq_true_of_le (by show n ≤ 9223372036854775807; omega)
  exact ⟨r _ ha, r _ hb⟩
theorem inI_arI {f : Nat → Nat → Bool} : ∀ x ∈ arI f, inI x := fun x hx => by
  obtain ⟨a, b, h1, h2, _, rfl⟩ := mem_arI.1 hx
  exact inI_nat h1 h2
theorem keyEq_pVO {x y : Int × Int} (hx : inI x) (hy : inI y) : keyEq (.many [some .i64, some .i64]) (pV x) (pV y) = some (decide (x = y)) := by
  have := keyEq_2 hx.1 hx.2 hy.1 hy.2
  rw [show keyEq (.many [some .i64, some .i64]) (pV x) (pV y) = _ from this]
  congr 1
  rw [← Bool.decide_and]
  exact decide_eq_decide.2 ⟨fun h => Prod.ext h.1 h.2, fun h => by rw [h]; exact ⟨rfl, rfl⟩⟩
def f40_I (h0 : H) (id3 : K) (v : V) (L : List (Int × Int)) (x : Int × Int) (i : Nat) (fr : Fr) (h1 : H) : Prop := i ≤ L.length ∧ h1 = h0 ∧ x ∉ L.take i ∧ fr.get (K.ofNat 0) = some (v) ∧ fr.get (K.ofNat 3) = some (.p id3 0) ∧ fr.get (K.ofNat 5) = some (.i .i64 (i : Int))
theorem f40_ret {v : V} {L : List (Int × Int)} {x : Int × Int} (hv : Srp h v L) (hL : ∀ y ∈ L, inI y) (hx : inI x) (hb : L.length ≤ 1000000) (hc : HC h) : Ret fs f40 [v, pV x] h fun r h' => r = .b (decide (x ∈ L)) ∧ Grow h.nx.nat h h' := by
  apply ret_of rfl
  show W fs none f40_c _ _ _
  unfold f40_c
  have c1 : cellsN 2 (pV x) = some [.i .i64 x.1, .i .i64 x.2] := rfl
  have gr1 : Grow h.nx.nat h (h.new (.cells 2 [.i .i64 x.1, .i .i64 x.2])) := Grow.new (Nat.le_refl _) _
  have e1 : (h.new (.cells 2 [.i .i64 x.1, .i .i64 x.2])).get h.nx = .cells 2 [.i .i64 x.1, .i .i64 x.2] := get_new_same
  simp (disch := omega) only [f40_r0, f40_r1, w_reg, w_seq, w_block, seqK_n, x_nil, x_as, x_box, kx, rvP_ok, ev_t, ev_c, getV_some, putD_some, oGet_s, frame_2, of0, getK_set, ↓reduceIte, c1]
  generalize h.new (.cells 2 [.i .i64 x.1, .i .i64 x.2]) = h1 at *
  have hv1 := hv.grow hc gr1
  have hlen := hv1.len
  have l1 := ldn2 e1
  have hvb := hv.beq
  refine W_loop (f40_I h1 h.nx v L x) (fun i => L.length - i) ?_ 0 ⟨by omega, rfl, by simp, by simp (disch := omega) only [getK_set, Nat.reduceEqDiff, ↓reduceIte, and_self, Int.natCast_zero]⟩
  rintro i fr h2 ⟨hi, rfl, hn, g0, g3, g5⟩
  unfold f40_l0
  by_cases hlt : i < L.length
  · have d0 : decide ((i : Int) < (L.length : Int)) = true := decide_eq_true (by omega)
    obtain ⟨id, q, p1, p2, _⟩ := hv1.at2 hlt
    have hq := keyEq_pVO (hL _ (List.getElem_mem hlt)) hx
    have hav1 : V.agg [.i .i64 L[i].1, .i .i64 L[i].2] = pV L[i] := rfl
    have hav2 : V.agg [.i .i64 x.1, .i .i64 x.2] = pV x := rfl
    by_cases e : L[i] = x
    · have d1 : decide (L[i] = x) = true := decide_eq_true e
      rw [d1] at hq
      simp (disch := omega) only [f40_r2, f40_r3, f40_r4, f40_rs, w_skip, w_reg, w_draw, w_seq, w_cond, w_block, w_ret, seqK_n, seqK_r, atK_r, loopK_r, ckB_b, cbB_b, true_and, retK_r, x_nil, x_mv, x_as, x_bin, x_len, kx, kg, xg_nil, xg_mv, xg_ldn, xg_eqk, xg_iads, xd_cons, fresh_nil, stK_n, stay_nil, rvP_ok, okv_some, ev_t, ev_c, getV_some, putD_some, bin_lss, oGet_s, readRs_nil, readRs_t, retV_1, Option.some.injEq, exists_eq_left', getK_set, Nat.reduceEqDiff, ↓reduceIte, g0, g3, g5, hlen, d0, p1, p2, l1, hav1, hav2, hq, cond_false]
      exact ⟨by rw [decide_eq_true (show x ∈ L by rw [← e]; exact List.getElem_mem hlt)], gr1⟩
    · have d1 : decide (L[i] = x) = false := decide_eq_false e
      rw [d1] at hq
      simp (disch := omega) only [f40_r2, f40_r3, f40_r5, w_skip, w_reg, w_draw, w_seq, w_cond, w_block, seqK_n, atK_n, loopK_n, ckB_b, cbB_b, true_and, x_nil, x_mv, x_as, x_bin, x_len, kx, kg, xg_nil, xg_mv, xg_ldn, xg_eqk, xg_iads, xd_cons, fresh_nil, stK_n, stay_nil, rvP_ok, okv_some, ev_t, ev_c, getV_some, putD_some, bin_add, bin_lss, oGet_s, of1, getK_set, Nat.reduceEqDiff, ↓reduceIte, Bool.false_eq_true, g0, g3, g5, hlen, d0, p1, p2, l1, hav1, hav2, hq, cond_false, fw64]
      refine ⟨i + 1, by omega, hlt, rfl, ?_, by simp (disch := omega) only [getK_set, Nat.reduceEqDiff, ↓reduceIte, g0, g3, and_self, Int.natCast_add, Int.natCast_one]⟩
      rw [List.take_succ_eq_append_getElem hlt, List.mem_append, List.mem_singleton]
      exact fun h => h.elim hn (fun h => e h.symm)
  · have d0 : decide ((i : Int) < (L.length : Int)) = false := decide_eq_false (by omega)
    have ei : i = L.length := by omega
    subst ei
    rw [List.take_length] at hn
    simp (disch := omega) only [f40_r2, f40_r6, f40_rs, w_reg, w_seq, w_cond, w_exit, w_ret, seqK_n, seqK_e, atK_e, loopK_e, ckB_b, cbB_b, true_and, retK_r, x_nil, x_mv, x_as, x_bin, x_len, kx, rvP_ok, okv_some, ev_t, ev_c, getV_some, putD_some, bin_lss, oGet_s, readRs_nil, readRs_t, retV_1, Option.some.injEq, exists_eq_left', getK_set, Nat.reduceEqDiff, ↓reduceIte, Bool.false_eq_true, g0, g5, hlen, d0]
    exact ⟨by rw [decide_eq_false hn], gr1⟩
/-! ### Orient -/
structure CallsOr (fs : T EF) : Prop extends CallsCk fs where
  c47 : fs.get (K.ofNat 47) = some f47
  c48 : fs.get (K.ofNat 48) = some f48
  c58 : fs.get (K.ofNat 58) = some f58
  n60 : ∀ L h P, SymR L → CallP fs (.fn (K.ofNat 60) []) [rV L] h P = P (orV L) h
/-- What Orient gives. -/
structure OrI (g : Nat → Nat → Bool) (b : Bool) (F : List Bool) : Prop where
  len : F.length = 49
  yes : b = true → Ord (Er (gR (arI g))) (Er F)
  no : b = false → F = rl (fun _ _ => false) ∧ ¬ CF (Er (gR (arI g)))
theorem orI_of {n : Nat} {g : Nat → Nat → Bool} (hg : Gph n g) : ∃ b F, orV (gR (arI g)) = .tup [rV F, .b b] ∧ OrI g b F := by
  unfold orV
  rcases orO_spec (symR_g hg) with ⟨ps, e, o⟩ | ⟨e, o⟩
  · exact ⟨true, jnR ps, by rw [e], rl_len, fun _ => o, fun e => by cases e⟩
  · exact ⟨false, rl fun _ _ => false, by rw [e], rl_len, (fun e => by cases e), fun _ => ⟨rfl, o⟩⟩
theorem f23_ret {n : Nat} {v : V} {g : Nat → Nat → Bool} (k : CallsOr fs) (hg : Gph n g) (hv : Srp h v (arI g)) (hc : HC h) : Ret fs f23 [.i .i64 (n : Int), v] h fun r h' => ∃ b F u, r = .tup [u, .b b, .i .i64 0] ∧ OrI g b F ∧ Sk 2 qE h' u (arI (rat F)) ∧ Own h.nx.nat u ∧ Grow h.nx.nat h h' := by
  have hlb := arI_len (g := g)
  apply ret_of rfl
  show W fs none f23_c _ _ _
  unfold f23_c
  simp (disch := omega) only [f23_r0, f23_r1, w_reg, w_seq, seqK_n, x_nil, x_mv, x_as, x_call, ev_t, ev_c, evs_nil, evs_cons, getV_some, putD_some, frame_2, of0, getK_set, Nat.reduceEqDiff, ↓reduceIte]
  refine (callP_0 (ef := f47) k.c47 rfl (f47_ret k.toCallsCk hv (by omega) hc)).mono ?_
  rintro r h1 ⟨rfl, gr1⟩
  rw [chkG_g hg]
  have ne0 : decide ((0 : Int) ≠ 0) = false := rfl
  simp (disch := omega) only [f23_r2, f23_r4, w_skip, w_reg, w_seq, w_cond, seqK_n, ckB_b, cbB_b, true_and, x_nil, x_mv, x_as, x_bin, x_call, kx, rvP_ok, okv_some, ev_t, ev_c, evs_nil, evs_cons, getV_some, putD_some, bin_neq, of0, getK_set, Nat.reduceEqDiff, ↓reduceIte, Bool.false_eq_true, ne0]
  have hc1 := gr1.hc hc
  refine (callP_0 (ef := f48) k.c48 rfl (f48_ret k.toNat2 (hv.grow hc gr1) nd_arI (by omega) hc1)).mono ?_
  rintro r h2 ⟨rfl, gr2⟩
  have hc2 := gr2.hc hc1
  obtain ⟨b, F, hO, hF⟩ := orI_of hg
  have s2 := rC_stn hF.len rl_len (M := rl fun _ _ => false) (h := h2.new (.cells 49 (List.replicate 49 (.b false)))) (id := h2.nx) (by rw [rl_false]; exact get_new_same)
  have n3 := nx_new h2 (.cells 49 (List.replicate 49 (.b false)))
  have gr3 : Grow h2.nx.nat h2 ((h2.new (.cells 49 (List.replicate 49 (.b false)))).put h2.nx (rC F)) := (Grow.new (Nat.le_refl _) _).trans (Grow.put (Nat.le_refl _) (by omega) _)
  have e3 : ((h2.new (.cells 49 (List.replicate 49 (.b false)))).put h2.nx (rC F)).get h2.nx = rC F := get_put_same
  have l3 := rC_ldn hF.len e3
  simp (disch := omega) only [f23_r5, w_reg, w_seq, seqK_n, x_nil, x_mv, x_as, x_alloc, x_ldn, x_st, x_ext, x_call, kx, rvP_ok, okv_some, ev_t, ev_c, evs_nil, evs_cons, getV_some, putD_some, putD_none, onTup_t, nth0, nth1, of0, getK_set, Nat.reduceEqDiff, ↓reduceIte, k.n60 _ _ _ (symR_g hg), hO, s2, l3]
  generalize (h2.new (.cells 49 (List.replicate 49 (.b false)))).put h2.nx (rC F) = h3 at *
  have gA : Grow h.nx.nat h h3 := gr1.trans ((gr2.low gr1.nx).trans (gr3.low (by have := gr1.nx; have := gr2.nx; omega)))
  refine (callP_0 (ef := f58) k.c58 rfl (f58_ret k.toNat4 hF.len (gr3.hc hc2))).mono ?_
  rintro u h4 ⟨hs, ho, gr4⟩
  simp (disch := omega) only [f23_rs, w_ret, seqK_n, retK_r, x_nil, x_mv, x_as, kx, ev_t, ev_c, getV_some, putD_some, oGet_s, readRs_nil, readRs_t, retV_2, Option.some.injEq, exists_eq_left', getK_set, Nat.reduceEqDiff, ↓reduceIte]
  exact ⟨b, F, u, rfl, hF, hs, ho.low gA.nx, gA.trans (gr4.low gA.nx)⟩
theorem f45_ret {n : Int} {v : V} {L : List (Int × Int)} (k : CallsCk fs) (hv : Srp h v L) (hb : L.length ≤ 1000000) (hc : HC h) : Ret fs f45 [.i .i64 n, v] h fun r h' => r = .i .i64 (ckO n L) ∧ Grow h.nx.nat h h' := by
  apply ret_of rfl
  show W fs none f45_c _ _ _
  unfold f45_c
  by_cases hn : n < 1 ∨ 7 < n
  · have hg : ckO n L = 1 := by unfold ckO; rw [if_pos hn]
    by_cases h1 : n < 1
    · have d1 : decide (n < 1) = true := decide_eq_true h1
      simp (disch := omega) only [f45_r0, f45_r1, f45_r2, f45_rs, w_reg, w_seq, w_cond, w_ret, seqK_n, seqK_r, ckB_b, cbB_b, okG_b, asG_f, true_and, retK_r, x_nil, x_g, x_mv, x_as, x_pick, x_bin, kx, rvP_ok, okv_some, ev_t, ev_c, getV_some, putD_some, bin_lss, pick_b, oGet_s, readRs_nil, readRs_t, retV_1, frame_2, of0, of1, Option.some.injEq, exists_eq_left', getK_set, Nat.reduceEqDiff, ↓reduceIte, Bool.false_eq_true, Bool.not_true, of7, d1]
      exact ⟨by rw [hg], Grow.refl _ _⟩
    · have d1 : decide (n < 1) = false := decide_eq_false h1
      have d2 : decide (n > 7) = true := decide_eq_true (by omega)
      simp (disch := omega) only [f45_r0, f45_r1, f45_r2, f45_rs, w_reg, w_seq, w_cond, w_ret, seqK_n, seqK_r, ckB_b, cbB_b, okG_b, asG_f, true_and, retK_r, x_nil, x_g, x_mv, x_as, x_pick, x_bin, kx, rvP_ok, okv_some, ev_t, ev_c, getV_some, putD_some, bin_lss, bin_gtr, pick_b, oGet_s, readRs_nil, readRs_t, retV_1, frame_2, of0, of1, Option.some.injEq, exists_eq_left', getK_set, Nat.reduceEqDiff, ↓reduceIte, Bool.false_eq_true, Bool.not_false, of7, d1, d2]
      exact ⟨by rw [hg], Grow.refl _ _⟩
  · have d1 : decide (n < 1) = false := decide_eq_false (by omega)
    have d2 : decide (n > 7) = false := decide_eq_false (by omega)
    simp (disch := omega) only [f45_r0, f45_r1, f45_r3, w_skip, w_reg, w_seq, w_cond, seqK_n, ckB_b, cbB_b, okG_b, asG_f, true_and, x_nil, x_g, x_mv, x_as, x_pick, x_bin, x_call, kx, rvP_ok, okv_some, ev_t, ev_c, evs_nil, evs_cons, getV_some, putD_some, bin_lss, bin_gtr, pick_b, frame_2, of0, of1, getK_set, Nat.reduceEqDiff, ↓reduceIte, Bool.false_eq_true, Bool.not_false, of7, d1, d2]
    refine (callP_0 (ef := f75) k.c75 rfl (f75_ret k.toNat4 hv (by omega) hc)).mono ?_
    rintro r h1 ⟨rfl, hG⟩
    cases hr : risB n L with
    | false =>
      have hg : ckO n L = 30 := by unfold ckO; rw [if_neg hn, if_neg (by rw [hr]; simp)]
      simp (disch := omega) only [f45_r4, f45_rs, w_reg, w_seq, w_cond, w_ret, seqK_n, seqK_r, ckB_b, cbB_b, okG_b, asG_f, true_and, retK_r, x_nil, x_g, x_mv, x_as, x_pick, x_not, kx, rvP_ok, ev_t, ev_c, getV_some, putD_some, pick_b, onB_b, oGet_s, readRs_nil, readRs_t, retV_1, Option.some.injEq, exists_eq_left', getK_set, Nat.reduceEqDiff, ↓reduceIte, Bool.false_eq_true, Bool.not_true, Bool.not_false, of30]
      exact ⟨by rw [hg], hG⟩
    | true =>
      have hnd := ris_nd (by omega) hr
      have hR : (relR L).length = 49 := rl_len
      simp (disch := omega) only [okG_b, asG_f, true_and, x_g, x_mv, x_not, x_call, kx, rvP_ok, ev_t, ev_c, evs_nil, evs_cons, getV_some, putD_some, onB_b, getK_set, Nat.reduceEqDiff, ↓reduceIte, Bool.not_true, Bool.not_false]
      refine (callP_0 (ef := f71) k.c71 rfl (f71_ret (hv.grow hc hG) hnd hb (hG.hc hc))).mono ?_
      rintro r h2 ⟨rfl, hG2⟩
      have gA := hG.trans (hG2.low hG.nx)
      cases ht : trB (relR L) with
      | false =>
        have hg : ckO n L = 30 := by unfold ckO; rw [if_neg hn, if_neg (by rw [ht]; simp)]
        simp (disch := omega) only [f45_r4, f45_rs, w_reg, w_seq, w_cond, w_ret, seqK_n, seqK_r, ckB_b, cbB_b, okG_b, asG_f, true_and, retK_r, x_nil, x_g, x_as, x_pick, x_not, x_call, kx, rvP_ok, ev_t, ev_c, evs_nil, evs_cons, getV_some, putD_some, pick_b, onB_b, oGet_s, readRs_nil, readRs_t, retV_1, Option.some.injEq, exists_eq_left', getK_set, Nat.reduceEqDiff, ↓reduceIte, Bool.false_eq_true, Bool.not_false, of30, k.n76 _ _ _ hR, ht]
        exact ⟨by rw [hg], gA⟩
      | true =>
        have hg : ckO n L = 0 := by unfold ckO; rw [if_neg hn, if_pos ⟨hr, ht⟩]
        simp (disch := omega) only [f45_r5, f45_rs, w_skip, w_reg, w_seq, w_cond, w_ret, seqK_n, ckB_b, cbB_b, okG_b, asG_f, true_and, retK_r, x_nil, x_g, x_as, x_pick, x_not, x_call, kx, rvP_ok, ev_t, ev_c, evs_nil, evs_cons, getV_some, putD_some, pick_b, onB_b, oGet_s, readRs_nil, readRs_t, retV_1, of0, Option.some.injEq, exists_eq_left', getK_set, Nat.reduceEqDiff, ↓reduceIte, Bool.false_eq_true, Bool.not_true, Bool.not_false, k.n76 _ _ _ hR, ht]
        exact ⟨by rw [hg], gA⟩
end
end Go.Ev
namespace Go.Ev
open Go Go.RowKit
theorem nodup_leO {α : Type} [DecidableEq α] : ∀ {l m : List α}, l.Nodup → (∀ x ∈ l, x ∈ m) → l.length ≤ m.length
  | [], _, _, _ => Nat.zero_le _
  | x :: l, m, hn, hs => by
    rw [List.nodup_cons] at hn
    have hx : x ∈ m := hs x (by simp)
    have := nodup_leO (l := l) (m := m.erase x) hn.2 fun y hy => (List.mem_erase_of_ne (fun e : y = x => hn.1 (e ▸ hy))).2 (hs y (by simp [hy]))
    rw [List.length_erase_of_mem hx] at this
    have : 0 < m.length := List.length_pos_of_mem hx
    rw [List.length_cons]; omega
section
variable {L : List Bool} {n : Nat}
end
end Go.Ev
namespace Go.Ev
open Go Go.RowKit
section
variable {fs : T EF} {h h' : H}
end
end Go.Ev
namespace Go.Ev
open Go Go.RowKit
section
variable {fs : T EF} {h h' : H}
end
end Go.Ev
namespace Go.Ev
open Go Go.RowKit
section
variable {g : Nat → Nat → Bool} {k n : Nat}
end
end Go.Ev
namespace Go.Ev
open Go Go.RowKit
section
variable {fs : T EF} {h h' : H}
end
end Go.Ev
namespace Go.Ev
open Go Go.RowKit
theorem HC.empty : HC ⟨.e, .nil⟩ := fun _ _ => by show getB (T.get _ .nil) = _; rw [T.get_nil]; rfl
theorem pV_inj {x y : Int × Int} (h : pV x = pV y) : x = y := by
  unfold pV at h
  injection h with h
  injection h with h1 h
  injection h with h2 _
  injection h1 with _ h1
  injection h2 with _ h2
  exact Prod.ext h1 h2
theorem aV_inj {x y : Nat × Nat} (h : aV x = aV y) : x = y := by
  rw [aV_pV, aV_pV] at h
  have := pV_inj h
  injection this with h1 h2
  exact Prod.ext (by omega) (by omega)
theorem iV_inj {k : IntKind} {a b : Int} (h : V.i k a = V.i k b) : a = b := by injection h
section
variable {Y : Rig} {fs : T EF}
theorem frV_plain {L : List Bool} : (frV L).plainT = true := by unfold frV; split <;> rfl
theorem orV_plain {L : List Bool} : (orV L).plainT = true := by
  unfold orV
  split
  · show ([rV _, V.b true].all V.plain) = true
    simp only [List.all_cons, List.all_nil, rV_plain, Bool.true_and]; rfl
  · show ([rV _, V.b false].all V.plain) = true
    simp only [List.all_cons, List.all_nil, rV_plain, Bool.true_and]; rfl
theorem rV_plainT {L : List Bool} : (rV L).plainT = true := rV_plain (L := L)
def D96 : Type := {_x : Int × Int // True}
noncomputable def A96 : D96 → List V := fun ⟨x, _⟩ => [V.i .i64 x.1, V.i .i64 x.2]
noncomputable def F96 : D96 → V := fun ⟨x, _⟩ => V.b (nodeB x.1 x.2)
theorem I96 : ∀ x y, A96 x = A96 y → F96 x = F96 y := by
  rintro ⟨x, p⟩ ⟨y, q⟩ h
  have h : [V.i .i64 x.1, V.i .i64 x.2] = [V.i .i64 y.1, V.i .i64 y.2] := h
  injection h with h0 h
  have e0 := iV_inj h0
  injection h with h1 h
  have e1 := iV_inj h1
  have e : x = y := by
    exact Prod.ext e0 e1
  subst e
  rfl
theorem P96 : ∀ x, (A96 x).all V.plain = true := by
  rintro ⟨x, p⟩
  show ([V.i .i64 x.1, V.i .i64 x.2].all V.plain) = true
  first | rfl | (simp only [List.all_cons, List.all_nil, rV_plain, Bool.true_and, Bool.and_true]; done) | (simp only [List.all_cons, List.all_nil, rV_plain, Bool.true_and, Bool.and_true]; rfl)
theorem Q96 : ∀ x, (F96 x).plainT = true := fun ⟨_, _⟩ => rfl
theorem G96 (hfs : Fns Y fs) (hf : f96.nv = none ∧ ∃ fn c, FnOk Y (K.ofNat 96) f96 fn c) : ∀ args v, dataG A96 F96 args = some v → Gives Y (K.ofNat 96) args v := dataG_gives hfs hf P96 Q96 fun ⟨_, p⟩ => by have _ := p; exact f96_ret
theorem E96 {ef : EF} (hf : fs.get (K.ofNat 96) = some ef) (hn : ef.nv = some (flatG (dataG A96 F96))) (x : Int × Int) (p : True) (h : H) (P : V → H → Prop) : CallP fs (.fn (K.ofNat 96) []) (A96 ⟨x, p⟩) h P = P (F96 ⟨x, p⟩) h := callP_data hf hn I96 _ h P
def D77 : Type := {_x : Int × Int // True}
noncomputable def A77 : D77 → List V := fun ⟨x, _⟩ => [pV x]
noncomputable def F77 : D77 → V := fun ⟨x, _⟩ => pV (x.2, x.1)
theorem I77 : ∀ x y, A77 x = A77 y → F77 x = F77 y := by
  rintro ⟨x, p⟩ ⟨y, q⟩ h
  have h : [pV x] = [pV y] := h
  injection h with h0 h
  have e0 := pV_inj h0
  have e : x = y := by
    exact e0
  subst e
  rfl
theorem P77 : ∀ x, (A77 x).all V.plain = true := by
  rintro ⟨x, p⟩
  show ([pV x].all V.plain) = true
  first | rfl | (simp only [List.all_cons, List.all_nil, rV_plain, Bool.true_and, Bool.and_true]; done) | (simp only [List.all_cons, List.all_nil, rV_plain, Bool.true_and, Bool.and_true]; rfl)
theorem Q77 : ∀ x, (F77 x).plainT = true := fun ⟨_, _⟩ => rfl
theorem G77 (hfs : Fns Y fs) (hf : f77.nv = none ∧ ∃ fn c, FnOk Y (K.ofNat 77) f77 fn c) : ∀ args v, dataG A77 F77 args = some v → Gives Y (K.ofNat 77) args v := dataG_gives hfs hf P77 Q77 fun ⟨_, p⟩ => by have _ := p; exact f77_ret
theorem E77 {ef : EF} (hf : fs.get (K.ofNat 77) = some ef) (hn : ef.nv = some (flatG (dataG A77 F77))) (x : Int × Int) (p : True) (h : H) (P : V → H → Prop) : CallP fs (.fn (K.ofNat 77) []) (A77 ⟨x, p⟩) h P = P (F77 ⟨x, p⟩) h := callP_data hf hn I77 _ h P
def D78 : Type := {_x : Int × Int // True}
noncomputable def A78 : D78 → List V := fun ⟨x, _⟩ => [pV x]
noncomputable def F78 : D78 → V := fun ⟨x, _⟩ => pV x
theorem I78 : ∀ x y, A78 x = A78 y → F78 x = F78 y := by
  rintro ⟨x, p⟩ ⟨y, q⟩ h
  have h : [pV x] = [pV y] := h
  injection h with h0 h
theorem P78 : ∀ x, (A78 x).all V.plain = true := by
  rintro ⟨x, p⟩
  show ([pV x].all V.plain) = true
  first | rfl | (simp only [List.all_cons, List.all_nil, rV_plain, Bool.true_and, Bool.and_true]; done) | (simp only [List.all_cons, List.all_nil, rV_plain, Bool.true_and, Bool.and_true]; rfl)
theorem Q78 : ∀ x, (F78 x).plainT = true := fun ⟨_, _⟩ => rfl
theorem G78 (hfs : Fns Y fs) (hf : f78.nv = none ∧ ∃ fn c, FnOk Y (K.ofNat 78) f78 fn c) : ∀ args v, dataG A78 F78 args = some v → Gives Y (K.ofNat 78) args v := dataG_gives hfs hf P78 Q78 fun ⟨_, p⟩ => by have _ := p; exact f78_ret
theorem E78 {ef : EF} (hf : fs.get (K.ofNat 78) = some ef) (hn : ef.nv = some (flatG (dataG A78 F78))) (x : Int × Int) (p : True) (h : H) (P : V → H → Prop) : CallP fs (.fn (K.ofNat 78) []) (A78 ⟨x, p⟩) h P = P (F78 ⟨x, p⟩) h := callP_data hf hn I78 _ h P
def D56 : Type := {_x : Int × Int // True}
noncomputable def A56 : D56 → List V := fun ⟨x, _⟩ => [pV x]
noncomputable def F56 : D56 → V := fun ⟨x, _⟩ => pV x
theorem I56 : ∀ x y, A56 x = A56 y → F56 x = F56 y := by
  rintro ⟨x, p⟩ ⟨y, q⟩ h
  have h : [pV x] = [pV y] := h
  injection h with h0 h
theorem P56 : ∀ x, (A56 x).all V.plain = true := by
  rintro ⟨x, p⟩
  show ([pV x].all V.plain) = true
  first | rfl | (simp only [List.all_cons, List.all_nil, rV_plain, Bool.true_and, Bool.and_true]; done) | (simp only [List.all_cons, List.all_nil, rV_plain, Bool.true_and, Bool.and_true]; rfl)
theorem Q56 : ∀ x, (F56 x).plainT = true := fun ⟨_, _⟩ => rfl
theorem G56 (hfs : Fns Y fs) (hf : f56.nv = none ∧ ∃ fn c, FnOk Y (K.ofNat 56) f56 fn c) : ∀ args v, dataG A56 F56 args = some v → Gives Y (K.ofNat 56) args v := dataG_gives hfs hf P56 Q56 fun ⟨_, p⟩ => by have _ := p; exact f56_ret
theorem E56 {ef : EF} (hf : fs.get (K.ofNat 56) = some ef) (hn : ef.nv = some (flatG (dataG A56 F56))) (x : Int × Int) (p : True) (h : H) (P : V → H → Prop) : CallP fs (.fn (K.ofNat 56) []) (A56 ⟨x, p⟩) h P = P (F56 ⟨x, p⟩) h := callP_data hf hn I56 _ h P
def D70 : Type := {x : List Bool // x.length = 49}
noncomputable def A70 : D70 → List V := fun ⟨x, _⟩ => [rV x]
noncomputable def F70 : D70 → V := fun ⟨x, _⟩ => rV (turnR x)
theorem I70 : ∀ x y, A70 x = A70 y → F70 x = F70 y := by
  rintro ⟨x, p⟩ ⟨y, q⟩ h
  have h : [rV x] = [rV y] := h
  injection h with h0 h
  have e0 := rV_inj h0
  have e : x = y := by
    exact e0
  subst e
  rfl
theorem P70 : ∀ x, (A70 x).all V.plain = true := by
  rintro ⟨x, p⟩
  show ([rV x].all V.plain) = true
  first | rfl | (simp only [List.all_cons, List.all_nil, rV_plain, Bool.and_true]; done) | (simp only [List.all_cons, List.all_nil, rV_plain, Bool.true_and, Bool.and_true]; rfl)
theorem Q70 : ∀ x, (F70 x).plainT = true := fun ⟨_, _⟩ => rV_plainT
theorem G70 (h84 : fs.get (K.ofNat 84) = some f84) (h101 : fs.get (K.ofNat 101) = some f101) (hfs : Fns Y fs) (hf : f70.nv = none ∧ ∃ fn c, FnOk Y (K.ofNat 70) f70 fn c) : ∀ args v, dataG A70 F70 args = some v → Gives Y (K.ofNat 70) args v := dataG_gives hfs hf P70 Q70 fun ⟨_, p⟩ => by have _ := p; exact (f70_ret p h84 h101 HC.empty).mono fun _ _ h => h.1
theorem E70 {ef : EF} (hf : fs.get (K.ofNat 70) = some ef) (hn : ef.nv = some (flatG (dataG A70 F70))) (x : List Bool) (p : x.length = 49) (h : H) (P : V → H → Prop) : CallP fs (.fn (K.ofNat 70) []) (A70 ⟨x, p⟩) h P = P (F70 ⟨x, p⟩) h := callP_data hf hn I70 _ h P
def D81 : Type := {x : List Bool × List Bool // x.1.length = 49 ∧ x.2.length = 49}
noncomputable def A81 : D81 → List V := fun ⟨x, _⟩ => [rV x.1, rV x.2]
noncomputable def F81 : D81 → V := fun ⟨x, _⟩ => rV (woR x.1 x.2)
theorem I81 : ∀ x y, A81 x = A81 y → F81 x = F81 y := by
  rintro ⟨x, p⟩ ⟨y, q⟩ h
  have h : [rV x.1, rV x.2] = [rV y.1, rV y.2] := h
  injection h with h0 h
  have e0 := rV_inj h0
  injection h with h1 h
  have e1 := rV_inj h1
  have e : x = y := by
    exact Prod.ext e0 e1
  subst e
  rfl
theorem P81 : ∀ x, (A81 x).all V.plain = true := by
  rintro ⟨x, p⟩
  show ([rV x.1, rV x.2].all V.plain) = true
  first | rfl | (simp only [List.all_cons, List.all_nil, rV_plain, Bool.and_true]; done) | (simp only [List.all_cons, List.all_nil, rV_plain, Bool.true_and, Bool.and_true]; rfl)
theorem Q81 : ∀ x, (F81 x).plainT = true := fun ⟨_, _⟩ => rV_plainT
theorem G81 (h84 : fs.get (K.ofNat 84) = some f84) (h101 : fs.get (K.ofNat 101) = some f101) (hfs : Fns Y fs) (hf : f81.nv = none ∧ ∃ fn c, FnOk Y (K.ofNat 81) f81 fn c) : ∀ args v, dataG A81 F81 args = some v → Gives Y (K.ofNat 81) args v := dataG_gives hfs hf P81 Q81 fun ⟨_, p⟩ => by have _ := p; exact f81_ret p.1 p.2 h84 h101 HC.empty
theorem E81 {ef : EF} (hf : fs.get (K.ofNat 81) = some ef) (hn : ef.nv = some (flatG (dataG A81 F81))) (x : List Bool × List Bool) (p : x.1.length = 49 ∧ x.2.length = 49) (h : H) (P : V → H → Prop) : CallP fs (.fn (K.ofNat 81) []) (A81 ⟨x, p⟩) h P = P (F81 ⟨x, p⟩) h := callP_data hf hn I81 _ h P
def D85 : Type := {x : List Bool × (Int × Int) // x.1.length = 49}
noncomputable def A85 : D85 → List V := fun ⟨x, _⟩ => [rV x.1, pV x.2]
noncomputable def F85 : D85 → V := fun ⟨x, _⟩ => V.b (hasR x.1 x.2)
theorem I85 : ∀ x y, A85 x = A85 y → F85 x = F85 y := by
  rintro ⟨x, p⟩ ⟨y, q⟩ h
  have h : [rV x.1, pV x.2] = [rV y.1, pV y.2] := h
  injection h with h0 h
  have e0 := rV_inj h0
  injection h with h1 h
  have e1 := pV_inj h1
  have e : x = y := by
    exact Prod.ext e0 e1
  subst e
  rfl
theorem P85 : ∀ x, (A85 x).all V.plain = true := by
  rintro ⟨x, p⟩
  show ([rV x.1, pV x.2].all V.plain) = true
  first | rfl | (simp only [List.all_cons, List.all_nil, rV_plain, Bool.true_and, Bool.and_true]; done) | (simp only [List.all_cons, List.all_nil, rV_plain, Bool.true_and, Bool.and_true]; rfl)
theorem Q85 : ∀ x, (F85 x).plainT = true := fun ⟨_, _⟩ => rfl
theorem G85 (k : Nat1 fs) (hfs : Fns Y fs) (hf : f85.nv = none ∧ ∃ fn c, FnOk Y (K.ofNat 85) f85 fn c) : ∀ args v, dataG A85 F85 args = some v → Gives Y (K.ofNat 85) args v := dataG_gives hfs hf P85 Q85 fun ⟨_, p⟩ => by have _ := p; exact f85_ret k p
theorem E85 {ef : EF} (hf : fs.get (K.ofNat 85) = some ef) (hn : ef.nv = some (flatG (dataG A85 F85))) (x : List Bool × (Int × Int)) (p : x.1.length = 49) (h : H) (P : V → H → Prop) : CallP fs (.fn (K.ofNat 85) []) (A85 ⟨x, p⟩) h P = P (F85 ⟨x, p⟩) h := callP_data hf hn I85 _ h P
def D87 : Type := {x : List Bool // x.length = 49}
noncomputable def A87 : D87 → List V := fun ⟨x, _⟩ => [rV x]
noncomputable def F87 : D87 → V := fun ⟨x, _⟩ => frV x
theorem I87 : ∀ x y, A87 x = A87 y → F87 x = F87 y := by
  rintro ⟨x, p⟩ ⟨y, q⟩ h
  have h : [rV x] = [rV y] := h
  injection h with h0 h
  have e0 := rV_inj h0
  have e : x = y := by
    exact e0
  subst e
  rfl
theorem P87 : ∀ x, (A87 x).all V.plain = true := by
  rintro ⟨x, p⟩
  show ([rV x].all V.plain) = true
  first | rfl | (simp only [List.all_cons, List.all_nil, rV_plain, Bool.and_true]; done) | (simp only [List.all_cons, List.all_nil, rV_plain, Bool.true_and, Bool.and_true]; rfl)
theorem Q87 : ∀ x, (F87 x).plainT = true := fun ⟨_, _⟩ => frV_plain
theorem G87 (k : Nat2 fs) (hfs : Fns Y fs) (hf : f87.nv = none ∧ ∃ fn c, FnOk Y (K.ofNat 87) f87 fn c) : ∀ args v, dataG A87 F87 args = some v → Gives Y (K.ofNat 87) args v := dataG_gives hfs hf P87 Q87 fun ⟨_, p⟩ => by have _ := p; exact f87_ret k p HC.empty
theorem E87 {ef : EF} (hf : fs.get (K.ofNat 87) = some ef) (hn : ef.nv = some (flatG (dataG A87 F87))) (x : List Bool) (p : x.length = 49) (h : H) (P : V → H → Prop) : CallP fs (.fn (K.ofNat 87) []) (A87 ⟨x, p⟩) h P = P (F87 ⟨x, p⟩) h := callP_data hf hn I87 _ h P
def D92 : Type := {x : List Bool // x.length = 49}
noncomputable def A92 : D92 → List V := fun ⟨x, _⟩ => [rV x]
noncomputable def F92 : D92 → V := fun ⟨x, _⟩ => rV (spR x)
theorem I92 : ∀ x y, A92 x = A92 y → F92 x = F92 y := by
  rintro ⟨x, p⟩ ⟨y, q⟩ h
  have h : [rV x] = [rV y] := h
  injection h with h0 h
  have e0 := rV_inj h0
  have e : x = y := by
    exact e0
  subst e
  rfl
theorem P92 : ∀ x, (A92 x).all V.plain = true := by
  rintro ⟨x, p⟩
  show ([rV x].all V.plain) = true
  first | rfl | (simp only [List.all_cons, List.all_nil, rV_plain, Bool.and_true]; done) | (simp only [List.all_cons, List.all_nil, rV_plain, Bool.true_and, Bool.and_true]; rfl)
theorem Q92 : ∀ x, (F92 x).plainT = true := fun ⟨_, _⟩ => rV_plainT
theorem G92 (k : Nat2 fs) (hfs : Fns Y fs) (hf : f92.nv = none ∧ ∃ fn c, FnOk Y (K.ofNat 92) f92 fn c) : ∀ args v, dataG A92 F92 args = some v → Gives Y (K.ofNat 92) args v := dataG_gives hfs hf P92 Q92 fun ⟨_, p⟩ => by have _ := p; exact f92_ret k p HC.empty
theorem E92 {ef : EF} (hf : fs.get (K.ofNat 92) = some ef) (hn : ef.nv = some (flatG (dataG A92 F92))) (x : List Bool) (p : x.length = 49) (h : H) (P : V → H → Prop) : CallP fs (.fn (K.ofNat 92) []) (A92 ⟨x, p⟩) h P = P (F92 ⟨x, p⟩) h := callP_data hf hn I92 _ h P
def D91 : Type := {x : List Bool × List Bool // x.1.length = 49 ∧ x.2.length = 49}
noncomputable def A91 : D91 → List V := fun ⟨x, _⟩ => [rV x.1, rV x.2]
noncomputable def F91 : D91 → V := fun ⟨x, _⟩ => V.b (cvB x.1 x.2)
theorem I91 : ∀ x y, A91 x = A91 y → F91 x = F91 y := by
  rintro ⟨x, p⟩ ⟨y, q⟩ h
  have h : [rV x.1, rV x.2] = [rV y.1, rV y.2] := h
  injection h with h0 h
  have e0 := rV_inj h0
  injection h with h1 h
  have e1 := rV_inj h1
  have e : x = y := by
    exact Prod.ext e0 e1
  subst e
  rfl
theorem P91 : ∀ x, (A91 x).all V.plain = true := by
  rintro ⟨x, p⟩
  show ([rV x.1, rV x.2].all V.plain) = true
  first | rfl | (simp only [List.all_cons, List.all_nil, rV_plain, Bool.and_true]; done) | (simp only [List.all_cons, List.all_nil, rV_plain, Bool.true_and, Bool.and_true]; rfl)
theorem Q91 : ∀ x, (F91 x).plainT = true := fun ⟨_, _⟩ => rfl
theorem G91 (k : Nat2 fs) (hfs : Fns Y fs) (hf : f91.nv = none ∧ ∃ fn c, FnOk Y (K.ofNat 91) f91 fn c) : ∀ args v, dataG A91 F91 args = some v → Gives Y (K.ofNat 91) args v := dataG_gives hfs hf P91 Q91 fun ⟨_, p⟩ => by have _ := p; exact f91_ret k p.1 p.2 HC.empty
theorem E91 {ef : EF} (hf : fs.get (K.ofNat 91) = some ef) (hn : ef.nv = some (flatG (dataG A91 F91))) (x : List Bool × List Bool) (p : x.1.length = 49 ∧ x.2.length = 49) (h : H) (P : V → H → Prop) : CallP fs (.fn (K.ofNat 91) []) (A91 ⟨x, p⟩) h P = P (F91 ⟨x, p⟩) h := callP_data hf hn I91 _ h P
def D49 : Type := {x : List Bool × Nat // x.1.length = 49 ∧ x.2 ≤ 7}
noncomputable def A49 : D49 → List V := fun ⟨x, _⟩ => [rV x.1, V.i .i64 (x.2 : Int)]
noncomputable def F49 : D49 → V := fun ⟨x, _⟩ => rV (otR x.2 x.1)
theorem I49 : ∀ x y, A49 x = A49 y → F49 x = F49 y := by
  rintro ⟨x, p⟩ ⟨y, q⟩ h
  have h : [rV x.1, V.i .i64 (x.2 : Int)] = [rV y.1, V.i .i64 (y.2 : Int)] := h
  injection h with h0 h
  have e0 := rV_inj h0
  injection h with h1 h
  have e1 := iV_inj h1
  have e : x = y := by
    exact Prod.ext e0 (by omega)
  subst e
  rfl
theorem P49 : ∀ x, (A49 x).all V.plain = true := by
  rintro ⟨x, p⟩
  show ([rV x.1, V.i .i64 (x.2 : Int)].all V.plain) = true
  first | rfl | (simp only [List.all_cons, List.all_nil, rV_plain, Bool.true_and, Bool.and_true]; done) | (simp only [List.all_cons, List.all_nil, rV_plain, Bool.true_and, Bool.and_true]; rfl)
theorem Q49 : ∀ x, (F49 x).plainT = true := fun ⟨_, _⟩ => rV_plainT
theorem G49 (k : Nat2 fs) (hfs : Fns Y fs) (hf : f49.nv = none ∧ ∃ fn c, FnOk Y (K.ofNat 49) f49 fn c) : ∀ args v, dataG A49 F49 args = some v → Gives Y (K.ofNat 49) args v := dataG_gives hfs hf P49 Q49 fun ⟨_, p⟩ => by have _ := p; exact f49_ret k p.1 p.2 HC.empty
theorem E49 {ef : EF} (hf : fs.get (K.ofNat 49) = some ef) (hn : ef.nv = some (flatG (dataG A49 F49))) (x : List Bool × Nat) (p : x.1.length = 49 ∧ x.2 ≤ 7) (h : H) (P : V → H → Prop) : CallP fs (.fn (K.ofNat 49) []) (A49 ⟨x, p⟩) h P = P (F49 ⟨x, p⟩) h := callP_data hf hn I49 _ h P
def D57 : Type := {x : List Bool × (Nat × Nat) // x.1.length = 49 ∧ (x.2.1 < 7 ∧ x.2.2 < 7)}
noncomputable def A57 : D57 → List V := fun ⟨x, _⟩ => [rV x.1, aV x.2]
noncomputable def F57 : D57 → V := fun ⟨x, _⟩ => rV (clsR x.1 x.2)
theorem I57 : ∀ x y, A57 x = A57 y → F57 x = F57 y := by
  rintro ⟨x, p⟩ ⟨y, q⟩ h
  have h : [rV x.1, aV x.2] = [rV y.1, aV y.2] := h
  injection h with h0 h
  have e0 := rV_inj h0
  injection h with h1 h
  have e1 := aV_inj h1
  have e : x = y := by
    exact Prod.ext e0 e1
  subst e
  rfl
theorem P57 : ∀ x, (A57 x).all V.plain = true := by
  rintro ⟨x, p⟩
  show ([rV x.1, aV x.2].all V.plain) = true
  first | rfl | (simp only [List.all_cons, List.all_nil, rV_plain, Bool.true_and, Bool.and_true]; done) | (simp only [List.all_cons, List.all_nil, rV_plain, Bool.true_and, Bool.and_true]; rfl)
theorem Q57 : ∀ x, (F57 x).plainT = true := fun ⟨_, _⟩ => rV_plainT
theorem G57 (k : Nat3 fs) (h86 : fs.get (K.ofNat 86) = some f86) (h102 : fs.get (K.ofNat 102) = some f102) (hfs : Fns Y fs) (hf : f57.nv = none ∧ ∃ fn c, FnOk Y (K.ofNat 57) f57 fn c) : ∀ args v, dataG A57 F57 args = some v → Gives Y (K.ofNat 57) args v := dataG_gives hfs hf P57 Q57 fun ⟨_, p⟩ => by have _ := p; exact f57_ret k h86 h102 p.1 p.2 HC.empty
theorem E57 {ef : EF} (hf : fs.get (K.ofNat 57) = some ef) (hn : ef.nv = some (flatG (dataG A57 F57))) (x : List Bool × (Nat × Nat)) (p : x.1.length = 49 ∧ (x.2.1 < 7 ∧ x.2.2 < 7)) (h : H) (P : V → H → Prop) : CallP fs (.fn (K.ofNat 57) []) (A57 ⟨x, p⟩) h P = P (F57 ⟨x, p⟩) h := callP_data hf hn I57 _ h P
def D55 : Type := {x : List Bool × ((Nat × Nat) × (Nat × Nat)) // x.1.length = 49 ∧ ((x.2.1.1 < 7 ∧ x.2.1.2 < 7) ∧ (x.2.2.1 < 7 ∧ x.2.2.2 < 7))}
noncomputable def A55 : D55 → List V := fun ⟨x, _⟩ => [rV x.1, aV x.2.1, aV x.2.2]
noncomputable def F55 : D55 → V := fun ⟨x, _⟩ => V.b (decide (x.2.2 ∈ fcY x.1 x.2.1.1 x.2.1.2))
theorem I55 : ∀ x y, A55 x = A55 y → F55 x = F55 y := by
  rintro ⟨x, p⟩ ⟨y, q⟩ h
  have h : [rV x.1, aV x.2.1, aV x.2.2] = [rV y.1, aV y.2.1, aV y.2.2] := h
  injection h with h0 h
  have e0 := rV_inj h0
  injection h with h1 h
  have e1 := aV_inj h1
  injection h with h2 h
  have e2 := aV_inj h2
  have e : x = y := by
    exact Prod.ext e0 (Prod.ext e1 e2)
  subst e
  rfl
theorem P55 : ∀ x, (A55 x).all V.plain = true := by
  rintro ⟨x, p⟩
  show ([rV x.1, aV x.2.1, aV x.2.2].all V.plain) = true
  first | rfl | (simp only [List.all_cons, List.all_nil, rV_plain, Bool.true_and, Bool.and_true]; done) | (simp only [List.all_cons, List.all_nil, rV_plain, Bool.true_and, Bool.and_true]; rfl)
theorem Q55 : ∀ x, (F55 x).plainT = true := fun ⟨_, _⟩ => rfl
theorem G55 (h86 : fs.get (K.ofNat 86) = some f86) (h102 : fs.get (K.ofNat 102) = some f102) (hfs : Fns Y fs) (hf : f55.nv = none ∧ ∃ fn c, FnOk Y (K.ofNat 55) f55 fn c) : ∀ args v, dataG A55 F55 args = some v → Gives Y (K.ofNat 55) args v := dataG_gives hfs hf P55 Q55 fun ⟨_, p⟩ => by have _ := p; exact f55_ret h86 h102 p.1 p.2.1 p.2.2 HC.empty
theorem E55 {ef : EF} (hf : fs.get (K.ofNat 55) = some ef) (hn : ef.nv = some (flatG (dataG A55 F55))) (x : List Bool × ((Nat × Nat) × (Nat × Nat))) (p : x.1.length = 49 ∧ ((x.2.1.1 < 7 ∧ x.2.1.2 < 7) ∧ (x.2.2.1 < 7 ∧ x.2.2.2 < 7))) (h : H) (P : V → H → Prop) : CallP fs (.fn (K.ofNat 55) []) (A55 ⟨x, p⟩) h P = P (F55 ⟨x, p⟩) h := callP_data hf hn I55 _ h P
def D76 : Type := {x : List Bool // x.length = 49}
noncomputable def A76 : D76 → List V := fun ⟨x, _⟩ => [rV x]
noncomputable def F76 : D76 → V := fun ⟨x, _⟩ => V.b (trB x)
theorem I76 : ∀ x y, A76 x = A76 y → F76 x = F76 y := by
  rintro ⟨x, p⟩ ⟨y, q⟩ h
  have h : [rV x] = [rV y] := h
  injection h with h0 h
  have e0 := rV_inj h0
  have e : x = y := by
    exact e0
  subst e
  rfl
theorem P76 : ∀ x, (A76 x).all V.plain = true := by
  rintro ⟨x, p⟩
  show ([rV x].all V.plain) = true
  first | rfl | (simp only [List.all_cons, List.all_nil, rV_plain, Bool.and_true]; done) | (simp only [List.all_cons, List.all_nil, rV_plain, Bool.true_and, Bool.and_true]; rfl)
theorem Q76 : ∀ x, (F76 x).plainT = true := fun ⟨_, _⟩ => rfl
theorem G76 (k : Nat3 fs) (hfs : Fns Y fs) (hf : f76.nv = none ∧ ∃ fn c, FnOk Y (K.ofNat 76) f76 fn c) : ∀ args v, dataG A76 F76 args = some v → Gives Y (K.ofNat 76) args v := dataG_gives hfs hf P76 Q76 fun ⟨_, p⟩ => by have _ := p; exact f76_ret k p
theorem E76 {ef : EF} (hf : fs.get (K.ofNat 76) = some ef) (hn : ef.nv = some (flatG (dataG A76 F76))) (x : List Bool) (p : x.length = 49) (h : H) (P : V → H → Prop) : CallP fs (.fn (K.ofNat 76) []) (A76 ⟨x, p⟩) h P = P (F76 ⟨x, p⟩) h := callP_data hf hn I76 _ h P
def D80 : Type := {_x : (Int × Int) × (Int × Int) // True}
noncomputable def A80 : D80 → List V := fun ⟨x, _⟩ => [pV x.1, pV x.2]
noncomputable def F80 : D80 → V := fun ⟨x, _⟩ => V.b (bfB x.1 x.2)
theorem I80 : ∀ x y, A80 x = A80 y → F80 x = F80 y := by
  rintro ⟨x, p⟩ ⟨y, q⟩ h
  have h : [pV x.1, pV x.2] = [pV y.1, pV y.2] := h
  injection h with h0 h
  have e0 := pV_inj h0
  injection h with h1 h
  have e1 := pV_inj h1
  have e : x = y := by
    exact Prod.ext e0 e1
  subst e
  rfl
theorem P80 : ∀ x, (A80 x).all V.plain = true := by
  rintro ⟨x, p⟩
  show ([pV x.1, pV x.2].all V.plain) = true
  first | rfl | (simp only [List.all_cons, List.all_nil, rV_plain, Bool.true_and, Bool.and_true]; done) | (simp only [List.all_cons, List.all_nil, rV_plain, Bool.true_and, Bool.and_true]; rfl)
theorem Q80 : ∀ x, (F80 x).plainT = true := fun ⟨_, _⟩ => rfl
theorem G80 (h99 : fs.get (K.ofNat 99) = some f99) (h108 : fs.get (K.ofNat 108) = some f108) (h121 : fs.get (K.ofNat 121) = some f121) (hfs : Fns Y fs) (hf : f80.nv = none ∧ ∃ fn c, FnOk Y (K.ofNat 80) f80 fn c) : ∀ args v, dataG A80 F80 args = some v → Gives Y (K.ofNat 80) args v := dataG_gives hfs hf P80 Q80 fun ⟨_, p⟩ => by have _ := p; exact f80_ret h99 h108 h121
theorem E80 {ef : EF} (hf : fs.get (K.ofNat 80) = some ef) (hn : ef.nv = some (flatG (dataG A80 F80))) (x : (Int × Int) × (Int × Int)) (p : True) (h : H) (P : V → H → Prop) : CallP fs (.fn (K.ofNat 80) []) (A80 ⟨x, p⟩) h P = P (F80 ⟨x, p⟩) h := callP_data hf hn I80 _ h P
def D60 : Type := {x : List Bool // SymR x}
noncomputable def A60 : D60 → List V := fun ⟨x, _⟩ => [rV x]
noncomputable def F60 : D60 → V := fun ⟨x, _⟩ => orV x
theorem I60 : ∀ x y, A60 x = A60 y → F60 x = F60 y := by
  rintro ⟨x, p⟩ ⟨y, q⟩ h
  have h : [rV x] = [rV y] := h
  injection h with h0 h
  have e0 := rV_inj h0
  have e : x = y := by
    exact e0
  subst e
  rfl
theorem P60 : ∀ x, (A60 x).all V.plain = true := by
  rintro ⟨x, p⟩
  show ([rV x].all V.plain) = true
  first | rfl | (simp only [List.all_cons, List.all_nil, rV_plain, Bool.and_true]; done) | (simp only [List.all_cons, List.all_nil, rV_plain, Bool.true_and, Bool.and_true]; rfl)
theorem Q60 : ∀ x, (F60 x).plainT = true := fun ⟨_, _⟩ => orV_plain
theorem G60 (k : Nat4 fs) (hfs : Fns Y fs) (hf : f60.nv = none ∧ ∃ fn c, FnOk Y (K.ofNat 60) f60 fn c) : ∀ args v, dataG A60 F60 args = some v → Gives Y (K.ofNat 60) args v := dataG_gives hfs hf P60 Q60 fun ⟨_, p⟩ => by have _ := p; exact f60_ret k p HC.empty
theorem E60 {ef : EF} (hf : fs.get (K.ofNat 60) = some ef) (hn : ef.nv = some (flatG (dataG A60 F60))) (x : List Bool) (p : SymR x) (h : H) (P : V → H → Prop) : CallP fs (.fn (K.ofNat 60) []) (A60 ⟨x, p⟩) h P = P (F60 ⟨x, p⟩) h := callP_data hf hn I60 _ h P
end
end Go.Ev
namespace Go.Ev
open Go Go.RowKit
end Go.Ev
namespace Go.Ev
open Go Go.RowKit
section
variable {fs : T EF} {h h' : H}
end
end Go.Ev
namespace Go.Ev
open Go Go.RowKit
section
variable {fs : T EF} {h h' : H}
def swN (x : Nat × Nat) : Nat × Nat := (x.2, x.1)
end
end Go.Ev
namespace Go.Ev
open Go Go.RowKit
section
variable {fs : T EF} {h h' : H}
theorem inI_mm {a b : Nat} (ha : a < 7) (hb : b < 7) : inI (min (a : Int) (b : Int), max (a : Int) (b : Int)) := by
  by_cases h : a ≤ b
  · rw [show min (a : Int) (b : Int) = (a : Int) by omega, show max (a : Int) (b : Int) = (b : Int) by omega]; exact inI_nat ha hb
  · rw [show min (a : Int) (b : Int) = (b : Int) by omega, show max (a : Int) (b : Int) = (a : Int) by omega]; exact inI_nat hb ha
end
end Go.Ev
namespace Go.Ev
open Go Go.RowKit
section
variable {fs : T EF} {h h' : H} {b : Nat}
theorem rep_len2 : ∀ n : Nat, (rep [V.i .i64 0, V.i .i64 0] n).length = n * 2
  | 0 => rfl
  | n + 1 => by
    have : rep [V.i .i64 0, V.i .i64 0] (n + 1) = cat [V.i .i64 0, V.i .i64 0] (rep [V.i .i64 0, V.i .i64 0] n) := rfl
    rw [this, cat_eq, List.length_append, rep_len2 n]
    simp; omega
/-- clear(v[i:]), and v[:i]. -/
theorem Sk.clr {v : V} {L : List (Int × Int)} (hs : Sk 2 qE h v L) {i : Nat} (hi : i ≤ L.length) (ho : Own b v) (hc : HC h) :
    ∃ t r h', (∀ h1, sliceB 2 v (some (.i .i64 (i : Int))) none none h1 = .ok t h1) ∧ clrV 2 [.i .i64 0, .i .i64 0] h t = .ok undefV h' ∧ (∀ h1, sliceB 2 v none (some (.i .i64 (i : Int))) none h1 = .ok r h1) ∧ Sk 2 qE h' r (L.take i) ∧ Own b r ∧ Grow b h h' := by
  obtain ⟨r, r1, r2, r3, _⟩ := Sk.cut (kk := .i64) qE_len hs hi
  have hs0 := hs
  rcases hs with ⟨rfl, rfl⟩ | ⟨id, off, m, cs, rfl, hb, hll, hm, hx⟩
  · have hi0 : i = 0 := by simpa using hi
    subst hi0
    exact ⟨.sn, r, h, fun h1 => rfl, rfl, r1, r2, r3 _ ho, Grow.refl _ _⟩
  · have ht : ∀ h1, sliceB 2 (.sl id off L.length 2) (some (.i .i64 (i : Int))) none none h1 = .ok (.sl id (off + i * 2) (L.length - i) 2) h1 := fun h1 => by
      unfold sliceB
      show (bif Nat.beq 2 2 then cutV id off L.length 2 h1 i L.length none else RV.no) = _
      show cutV id off L.length 2 h1 i L.length none = _
      unfold cutV
      rw [Nat.ble_eq_true_of_le hi, Nat.ble_eq_true_of_le (Nat.le_refl _)]; rfl
    by_cases e : L.length - i = 0
    · refine ⟨_, r, h, ht, ?_, r1, r2, r3 _ ho, Grow.refl _ _⟩
      show (bif Nat.beq (L.length - i) 0 then RV.ok undefV h else _) = _
      rw [e]; rfl
    · have hid := hc.cells hb
      refine ⟨_, r, h.put id (.cells m (setMany cs (off + i * 2) (rep [V.i .i64 0, V.i .i64 0] (L.length - i)))), ht, ?_, r1, ?_, r3 _ ho, Grow.put (ho _ _ _ _ rfl) hid _⟩
      · show (bif Nat.beq (L.length - i) 0 then RV.ok undefV h else (h.get id).onW .no fun m cs => bif Nat.beq 2 2 && Nat.ble (off + i * 2 + (L.length - i) * 2) m then RV.ok undefV (h.put id (.cells m (setMany cs (off + i * 2) (rep [V.i .i64 0, V.i .i64 0] (L.length - i))))) else .no) = _
        rw [show Nat.beq (L.length - i) 0 = false by
          cases e2 : Nat.beq (L.length - i) 0 with
          | false => rfl
          | true => exact absurd (Nat.eq_of_beq_eq_true e2) e, hb]
        show (bif Nat.beq 2 2 && Nat.ble (off + i * 2 + (L.length - i) * 2) m then RV.ok undefV (h.put id (.cells m (setMany cs (off + i * 2) (rep [V.i .i64 0, V.i .i64 0] (L.length - i))))) else .no) = _
        rw [Nat.ble_eq_true_of_le (by omega)]; rfl
      · have er : r = .sl id off i 2 := by
          have h0 := r1 h
          have h3 : sliceB 2 (.sl id off L.length 2) none (some (.i .i64 (i : Int))) none h = .ok (.sl id (off + 0 * 2) (i - 0) 2) h := by
            unfold sliceB
            show (bif Nat.beq 2 2 then cutV id off L.length 2 h 0 i none else RV.no) = _
            show cutV id off L.length 2 h 0 i none = _
            unfold cutV
            rw [Nat.ble_eq_true_of_le (Nat.zero_le _), Nat.ble_eq_true_of_le hi]; rfl
          rw [h3] at h0
          injection h0 with h0
          rw [← h0]; simp
        subst er
        have hlen : (rep [V.i .i64 0, V.i .i64 0] (L.length - i)).length = (L.length - i) * 2 := rep_len2 _
        refine .inr ⟨id, off, m, _, by rw [List.length_take, Nat.min_eq_left hi], get_put_same, ?_, by rw [List.length_take, Nat.min_eq_left hi]; omega, ?_⟩
        · rw [setMany_eq _ _ _ (by rw [hlen]; omega)]; simp [hlen]; omega
        · rw [List.length_take, Nat.min_eq_left hi, setMany_eq _ _ _ (by rw [hlen]; omega), ← flat_take qE_len L i hi, ← hx, List.take_take, Nat.min_eq_left (by omega)]
          apply List.ext_getElem?
          intro t
          rw [List.getElem?_take, List.getElem?_take]
          by_cases h1 : t < i * 2
          · rw [if_pos h1, if_pos h1, List.getElem?_drop, List.getElem?_drop, List.append_assoc, List.getElem?_append_left (by rw [List.length_take]; omega), List.getElem?_take, if_pos (by omega)]
          · rw [if_neg h1, if_neg h1]
theorem f83_ret {x : Int × Int} (hc : HC h) : Ret fs f83 [pV x] h fun r h' => r = .b (decide (x.1 > x.2)) ∧ Grow h.nx.nat h h' := by
  have _ := hc
  apply ret_of rfl
  show W fs none f83_c _ _ _
  unfold f83_c
  have cx : cellsN 2 (pV x) = some [.i .i64 x.1, .i .i64 x.2] := rfl
  have g1 : Grow h.nx.nat h (h.new (.cells 2 [.i .i64 x.1, .i .i64 x.2])) := Grow.new (Nat.le_refl _) _
  have e1 : (h.new (.cells 2 [.i .i64 x.1, .i .i64 x.2])).get h.nx = .cells 2 [.i .i64 x.1, .i .i64 x.2] := get_new_same
  have l0 := ld20 e1
  have l1 := ld21 e1
  simp (disch := omega) only [f83_r0, f83_r1, f83_rs, w_reg, w_seq, w_ret, seqK_n, true_and, retK_r, x_nil, x_as, x_box, x_ld, x_bin, x_iadr, kx, rvP_ok, okv_some, ev_t, ev_c, getV_some, putD_some, bin_gtr, onP_p, oGet_s, readRs_nil, readRs_t, retV_1, frame_1, of0, of1, Option.some.injEq, exists_eq_left', getK_set, Nat.reduceEqDiff, ↓reduceIte, ix2_0, ix2_1, cx, l0, l1, true_and]
  exact g1
/-- What stays. -/
def kpB (x : Int × Int) : Bool := !decide (x.1 > x.2)
def f100_I (h0 : H) (v : V) (n : Nat) (L : List (Int × Int)) (i : Nat) (fr : Fr) (h1 : H) : Prop := i ≤ n ∧ (∀ j (hj : j < L.length), j < i → kpB L[j] = true) ∧ Grow h0.nx.nat h0 h1 ∧ fr.get (K.ofNat 0) = some (v) ∧ fr.get (K.ofNat 1) = some (.fn (K.ofNat 83) []) ∧ fr.get (K.ofNat 7) = some (.i .i64 (n : Int)) ∧ fr.get (K.ofNat 8) = some (.i .i64 (i : Int))
theorem f100_ret {v : V} {L : List (Int × Int)} (h83 : fs.get (.ofNat 83) = some f83) (hs : Sk 2 qE h v L) (hl : L.length ≤ 1000) (hc : HC h) : Ret fs f100 [v, .fn (.ofNat 83) []] h fun r h' => Grow h.nx.nat h h' ∧ ((r = .i .i64 (-1) ∧ ∀ x ∈ L, kpB x = true) ∨ ∃ i, ∃ hi : i < L.length, r = .i .i64 (i : Int) ∧ kpB L[i] = false ∧ ∀ j (hj : j < L.length), j < i → kpB L[j] = true) := by
  apply ret_of rfl
  show W fs none f100_c _ _ _
  unfold f100_c
  have hlen := hs.len
  simp (disch := omega) only [f100_r0, f100_r1, w_reg, w_seq, w_block, seqK_n, x_nil, x_mv, x_as, x_len, kx, rvP_ok, ev_t, ev_c, getV_some, putD_some, frame_2, of0, getK_set, Nat.reduceEqDiff, ↓reduceIte, hlen]
  refine W_loop (f100_I h v L.length L) (fun i => L.length - i) ?_ 0 ⟨by omega, fun j hj h0 => by omega, Grow.refl _ _, by simp (disch := omega) only [getK_set, Nat.reduceEqDiff, ↓reduceIte, and_self, Int.natCast_zero]⟩
  rintro i fr h1 ⟨hi, hk, hG, g0, g1, g7, g8⟩
  have hc1 := hG.hc hc
  unfold f100_l0
  by_cases hlt : i < L.length
  · have d0 : decide ((i : Int) < (L.length : Int)) = true := decide_eq_true (by omega)
    obtain ⟨p, pa, pb⟩ := (hs.grow hc hG).at2 hlt
    have hav : V.agg [.i .i64 L[i].1, .i .i64 L[i].2] = pV L[i] := rfl
    simp (disch := omega) only [f100_r2, f100_r3, f100_r4, w_skip, w_reg, w_seq, w_cond, w_block, seqK_n, ckB_b, cbB_b, true_and, x_nil, x_mv, x_as, x_ldn, x_bin, x_iads, x_call, kx, rvP_ok, okv_some, ev_t, evs_nil, evs_cons, getV_some, putD_some, bin_lss, getK_set, Nat.reduceEqDiff, ↓reduceIte, g0, g1, g7, g8, d0, pa, pb, hav]
    refine (callP_0 (ef := f83) h83 rfl (f83_ret (x := L[i]) hc1)).mono ?_
    rintro r h2 ⟨rfl, g2⟩
    have hG2 := hG.trans (g2.low hG.nx)
    cases hd : decide (L[i].1 > L[i].2) with
    | true =>
      simp (disch := omega) only [f100_r5, f100_rs, w_reg, w_seq, w_cond, w_ret, seqK_n, seqK_r, atK_r, loopK_r, ckB_b, cbB_b, true_and, retK_r, x_nil, x_mv, x_as, kx, ev_t, getV_some, putD_some, oGet_s, readRs_nil, readRs_t, retV_1, Option.some.injEq, exists_eq_left', getK_set, Nat.reduceEqDiff, ↓reduceIte]
      exact ⟨hG2, .inr ⟨i, hlt, rfl, by unfold kpB; rw [hd]; rfl, hk⟩⟩
    | false =>
      simp (disch := omega) only [f100_r6, w_skip, w_reg, w_cond, seqK_n, atK_n, loopK_n, ckB_b, cbB_b, true_and, x_nil, x_mv, x_bin, kx, rvP_ok, okv_some, ev_t, ev_c, getV_some, putD_some, bin_add, of1, getK_set, Nat.reduceEqDiff, ↓reduceIte, Bool.false_eq_true, g8, fw64]
      refine ⟨i + 1, by omega, by omega, fun j hj hji => ?_, hG2, by simp (disch := omega) only [getK_set, Nat.reduceEqDiff, ↓reduceIte, g0, g1, g7, and_self, Int.natCast_add, Int.natCast_one]⟩
      by_cases e : j = i
      · subst e; unfold kpB; rw [hd]; rfl
      · exact hk j hj (by omega)
  · have d0 : decide ((i : Int) < (L.length : Int)) = false := decide_eq_false (by omega)
    simp (disch := omega) only [f100_r2, f100_r7, f100_rs, w_reg, w_seq, w_cond, w_exit, w_ret, seqK_n, seqK_e, atK_e, loopK_e, ckB_b, cbB_b, true_and, retK_r, x_nil, x_as, x_bin, kx, rvP_ok, okv_some, ev_t, ev_c, getV_some, putD_some, bin_lss, oGet_s, readRs_nil, readRs_t, retV_1, Option.some.injEq, exists_eq_left', getK_set, ↓reduceIte, Bool.false_eq_true, g7, g8, d0]
    refine ⟨hG, .inl ⟨rfl, fun x hx => ?_⟩⟩
    obtain ⟨j, hj, rfl⟩ := List.getElem_of_mem hx
    exact hk j hj (by omega)
end
end Go.Ev
namespace Go.Ev
open Go Go.RowKit
section
variable {fs : T EF} {h h' : H} {b : Nat}
def f82_I (h0 : H) (b : Nat) (v : V) (L : List (Int × Int)) (j : Nat) (fr : Fr) (h1 : H) : Prop := j ≤ L.length ∧ ∃ M i, i ≤ j ∧ M.length = L.length ∧ M.take i = (L.take j).filter kpB ∧ M.drop j = L.drop j ∧ Sk 2 qE h1 v M ∧ Grow b h0 h1 ∧ fr.get (K.ofNat 0) = some (v) ∧ fr.get (K.ofNat 1) = some (.fn (K.ofNat 83) []) ∧ fr.get (K.ofNat 5) = some (.i .i64 (i : Int)) ∧ fr.get (K.ofNat 6) = some (.i .i64 (j : Int))
theorem f82_ret {v : V} {L : List (Int × Int)} (h83 : fs.get (.ofNat 83) = some f83) (h100 : fs.get (.ofNat 100) = some f100) (hs : Sk 2 qE h v L) (ho : Own b v) (hb : b ≤ h.nx.nat) (hl : L.length ≤ 1000) (hc : HC h) : Ret fs f82 [v, .fn (.ofNat 83) []] h fun r h' => Sk 2 qE h' r (L.filter kpB) ∧ Own b r ∧ Grow b h h' := by
  apply ret_of rfl
  show W fs none f82_c _ _ _
  unfold f82_c
  have hlen := hs.len
  simp (disch := omega) only [f82_r0, f82_r1, w_reg, w_seq, seqK_n, x_nil, x_mv, x_as, x_call, ev_t, ev_c, evs_nil, evs_cons, getV_some, putD_some, frame_2, getK_set, Nat.reduceEqDiff, ↓reduceIte]
  refine (callP_0 (ef := f100) h100 rfl (f100_ret h83 hs hl hc)).mono ?_
  rintro r h1 ⟨g1, hr⟩
  have hc1 := g1.hc hc
  have g1b : Grow b h h1 := g1.low hb
  have hs1 := hs.grow hc g1
  have em1 : (V.i .i64 (.negSucc 0)) = V.i .i64 (-1) := rfl
  rcases hr with ⟨rfl, hall⟩ | ⟨i, hi, rfl, hno, hbe⟩
  · have d0 : decide ((-1 : Int) = -1) = true := rfl
    simp (disch := omega) only [f82_r2, f82_r3, f82_rs, w_reg, w_seq, w_cond, w_ret, seqK_n, seqK_r, ckB_b, cbB_b, true_and, retK_r, x_nil, x_mv, x_as, x_bin, kx, rvP_ok, okv_some, ev_t, ev_c, getV_some, putD_some, bin_eql, oGet_s, readRs_nil, readRs_t, retV_1, Option.some.injEq, exists_eq_left', getK_set, Nat.reduceEqDiff, ↓reduceIte, decide_eq_true_eq, em1]
    exact ⟨by rw [List.filter_eq_self.2 hall]; exact hs1, ho, g1b⟩
  · have d0 : decide ((i : Int) = -1) = false := decide_eq_false (by omega)
    simp (disch := omega) only [f82_r2, f82_r4, w_skip, w_reg, w_seq, w_cond, w_block, seqK_n, ckB_b, cbB_b, true_and, x_nil, x_mv, x_as, x_bin, kx, rvP_ok, okv_some, ev_t, ev_c, getV_some, putD_some, bin_add, bin_eql, of1, getK_set, Nat.reduceEqDiff, ↓reduceIte, Bool.false_eq_true, em1, d0, fw64]
    have ht0 : L.take i = (L.take (i + 1)).filter kpB := by
      rw [List.take_succ_eq_append_getElem hi, List.filter_append, List.filter_eq_self.2 (fun x hx => ?_)]
      · simp [hno]
      · obtain ⟨j, hj, rfl⟩ := List.getElem_of_mem hx
        rw [List.length_take] at hj
        rw [List.getElem_take]
        exact hbe j (by omega) (by omega)
    refine W_loop (f82_I h b v L) (fun j => L.length - j) ?_ (i + 1) ⟨by omega, L, i, by omega, rfl, ht0, rfl, hs1, g1b, by simp (disch := omega) only [getK_set, Nat.reduceEqDiff, ↓reduceIte, and_self, Int.natCast_add, Int.natCast_one]⟩
    clear hno hbe ht0 hs1 g1b d0 g1 hc1 hi
    clear i h1
    rintro j fr h1 ⟨hj, M, i, hij, hM, htk, hdr, hsM, hG, g0, g1, g5, g6⟩
    have hc1 := hG.hc hc
    have hnx := hG.nx
    unfold f82_l0
    by_cases hlt : j < L.length
    · have d0 : decide ((j : Int) < (L.length : Int)) = true := decide_eq_true (by omega)
      have hjM : j < M.length := by omega
      have eM : M[j] = L[j] := by
        have h1 : (M.drop j)[0]'(by rw [List.length_drop]; omega) = (L.drop j)[0]'(by rw [List.length_drop]; omega) := by simp only [hdr]
        simpa using h1
      obtain ⟨p, pa, pb⟩ := hsM.at2 hjM
      rw [eM] at pb
      obtain ⟨x, hx⟩ : ∃ x, L[j] = x := ⟨_, rfl⟩
      rw [hx] at pb eM
      have pb : loadV h1 p (many? 2) = .ok (pV x) h1 := pb
      have n2 := nx_new h1 (.cells 2 [.i .i64 0, .i .i64 0])
      have s2 : storeV (h1.new (.cells 2 [.i .i64 0, .i .i64 0])) 2 (.p h1.nx 0) (pV x) = .ok undefV ((h1.new (.cells 2 [.i .i64 0, .i .i64 0])).put h1.nx (.cells 2 [.i .i64 x.1, .i .i64 x.2])) := st2 get_new_same
      have g2 : Grow h1.nx.nat h1 ((h1.new (.cells 2 [.i .i64 0, .i .i64 0])).put h1.nx (.cells 2 [.i .i64 x.1, .i .i64 x.2])) := (Grow.new (Nat.le_refl _) _).trans (Grow.put (Nat.le_refl _) (by omega) _)
      have e2 : ((h1.new (.cells 2 [.i .i64 0, .i .i64 0])).put h1.nx (.cells 2 [.i .i64 x.1, .i .i64 x.2])).get h1.nx = .cells 2 [.i .i64 x.1, .i .i64 x.2] := get_put_same
      have n2' : ((h1.new (.cells 2 [.i .i64 0, .i .i64 0])).put h1.nx (.cells 2 [.i .i64 x.1, .i .i64 x.2])).nx.nat = h1.nx.nat + 1 := n2
      have hav : V.agg [.i .i64 x.1, .i .i64 x.2] = pV x := rfl
      have l2 := ldn2 e2
      simp (disch := omega) only [f82_r5, f82_r6, f82_r7, w_skip, w_reg, w_seq, w_cond, w_block, seqK_n, ckB_b, cbB_b, true_and, x_nil, x_mv, x_alloc, x_ldn, x_st, x_bin, x_iads, x_call, x_len, kx, rvP_ok, okv_some, ev_t, evs_nil, evs_cons, getV_some, putD_some, putD_none, bin_lss, of0, getK_set, Nat.reduceEqDiff, ↓reduceIte, g0, g1, g6, hlen, d0, pa, pb, s2, l2, hav]
      generalize (h1.new (.cells 2 [.i .i64 0, .i .i64 0])).put h1.nx (.cells 2 [.i .i64 x.1, .i .i64 x.2]) = h2 at *
      have hc2 := g2.hc hc1
      refine (callP_0 (ef := f83) h83 rfl (f83_ret (x := x) hc2)).mono ?_
      rintro r h3 ⟨rfl, g3⟩
      have hc3 := g3.hc hc2
      have g13 : Grow h1.nx.nat h1 h3 := g2.trans (g3.low (by omega))
      have hs3 := hsM.grow hc1 g13
      have hG3 := hG.trans (g13.low (by omega))
      have hfs : (L.take (j + 1)).filter kpB = (L.take j).filter kpB ++ (if kpB x = true then [x] else []) := by
        rw [List.take_succ_eq_append_getElem hlt, List.filter_append, hx]
        by_cases h : kpB x = true
        · rw [if_pos h]; simp [h]
        · rw [if_neg h]; simp [h]
      have hdr1 : M.drop (j + 1) = L.drop (j + 1) := by
        have := congrArg (List.drop 1) hdr
        rwa [List.drop_drop, List.drop_drop] at this
      cases hd : decide (x.1 > x.2) with
      | true =>
        have hk : ¬ kpB x = true := by unfold kpB; rw [hd]; simp
        rw [if_neg hk, List.append_nil] at hfs
        simp (disch := omega) only [f82_r10, w_skip, w_reg, w_cond, seqK_n, atK_n, loopK_n, ckB_b, cbB_b, true_and, x_nil, x_mv, x_as, x_bin, x_not, kx, rvP_ok, okv_some, ev_t, ev_c, getV_some, putD_some, bin_add, onB_b, of1, getK_set, Nat.reduceEqDiff, ↓reduceIte, Bool.false_eq_true, Bool.not_true, g6, fw64]
        exact ⟨j + 1, by omega, by omega, M, i, by omega, hM, by rw [hfs]; exact htk, hdr1, hs3, hG3, by simp (disch := omega) only [getK_set, Nat.reduceEqDiff, ↓reduceIte, g0, g1, g5, and_self, Int.natCast_add, Int.natCast_one]⟩
      | false =>
        have hk : kpB x = true := by unfold kpB; rw [hd]; rfl
        rw [if_pos hk] at hfs
        have hiM : i < M.length := by omega
        obtain ⟨p4, id4, m4, cs4, a4, b4, c4, ⟨of4_, n4, z4, e4⟩, l4⟩ := hs3.st2 hiM (x := x) hc3
        have l3 := ldn2 ((g3.old h1.nx (by omega)).trans e2)
        have b4 : storeV h3 2 p4 (pV x) = .ok undefV (h3.put id4 (.cells m4 cs4)) := b4
        have g4 : Grow b h3 (h3.put id4 (.cells m4 cs4)) := Grow.put (ho _ _ _ _ e4) l4 _
        simp (disch := omega) only [f82_r8, f82_r9, f82_r10, w_reg, w_seq, w_cond, seqK_n, atK_n, loopK_n, ckB_b, cbB_b, true_and, x_nil, x_mv, x_as, x_ldn, x_st, x_bin, x_not, x_iads, kx, rvP_ok, okv_some, ev_t, ev_c, getV_some, putD_some, putD_none, bin_add, onB_b, of1, getK_set, Nat.reduceEqDiff, ↓reduceIte, Bool.not_false, g0, g5, g6, l3, hav, a4, b4, fw64]
        refine ⟨j + 1, by omega, by omega, M.set i x, i + 1, by omega, by rw [List.length_set]; exact hM, ?_, ?_, c4, hG3.trans g4, by simp (disch := omega) only [getK_set, Nat.reduceEqDiff, ↓reduceIte, g0, g1, and_self, Int.natCast_add, Int.natCast_one]⟩
        · rw [hfs, ← htk, List.take_succ_eq_append_getElem (by rw [List.length_set]; exact hiM), List.getElem_set_self, List.take_set_of_le (Nat.le_refl _)]
        · rw [List.drop_set_of_lt (by omega)]; exact hdr1
    · have d0 : decide ((j : Int) < (L.length : Int)) = false := decide_eq_false (by omega)
      have ej : j = L.length := by omega
      subst ej
      rw [List.take_length] at htk
      obtain ⟨t, r, h2, q1, q2, q3, q4, q5, q6⟩ := hsM.clr (i := i) (by omega) ho hc1
      simp (disch := omega) only [f82_r5, f82_r11, f82_r12, f82_rs, w_reg, w_seq, w_cond, w_exit, w_ret, seqK_n, seqK_e, atK_e, loopK_e, ckB_b, cbB_b, true_and, retK_r, x_nil, x_mv, x_as, x_bin, x_slice, sliceV_eq, Option.map_none, Option.map_some, x_len, kx, rvP_ok, okv_some, ev_t, getV_some, putD_some, putD_none, bin_lss, oGet_s, readRs_nil, readRs_t, retV_1, of0, Option.some.injEq, exists_eq_left', getK_set, Nat.reduceEqDiff, ↓reduceIte, Bool.false_eq_true, x_clr, g0, g5, g6, hlen, d0, q1, q2, q3]
      exact ⟨by rw [← htk]; exact q4, q5, hG.trans q6⟩
/-- The edges of a relation: those that rise. -/
theorem arI_filter {f : Nat → Nat → Bool} : (arI f).filter kpB = arI fun a b => f a b && decide (a ≤ b) := by
  unfold arI
  rw [List.filter_map, show (kpB ∘ toI) = fun p : Nat × Nat => decide (p.1 ≤ p.2) from ?_]
  · have : ∀ (p : Nat × Nat → Bool), (arw f).filter p = arw fun a b => f a b && p (a, b) := fun p => by
      unfold arw
      rw [List.filter_map, List.filter_filter]
      congr 1
      refine List.filter_congr fun i _ => ?_
      rw [Bool.and_comm]; rfl
    rw [this]
  · funext p
    show (!decide ((p.1 : Int) > (p.2 : Int))) = _
    rw [Bool.eq_iff_iff, Bool.not_eq_true', decide_eq_false_iff_not, decide_eq_true_eq]
    omega
structure CallsEd (fs : T EF) : Prop extends CallsOr fs where
  c50 : fs.get (K.ofNat 50) = some f50
  c82 : fs.get (K.ofNat 82) = some f82
  c83 : fs.get (K.ofNat 83) = some f83
  c100 : fs.get (K.ofNat 100) = some f100
theorem f50_ret {L : List Bool} (k : CallsEd fs) (hL : L.length = 49) (hc : HC h) : Ret fs f50 [rV L] h fun r h' => Sk 2 qE h' r (arI fun a b => rat L a b && decide (a ≤ b)) ∧ Own h.nx.nat r ∧ Grow h.nx.nat h h' := by
  apply ret_of rfl
  show W fs none f50_c _ _ _
  unfold f50_c
  have c1 := rC_cells hL
  have n1 := nx_new h (.cells 49 (L.map V.b))
  have g1 : Grow h.nx.nat h (h.new (.cells 49 (L.map V.b))) := Grow.new (Nat.le_refl _) _
  have e1 : (h.new (.cells 49 (L.map V.b))).get h.nx = rC L := get_new_same
  have l1 := rC_ldn hL e1
  simp (disch := omega) only [f50_r0, f50_r1, w_reg, w_seq, seqK_n, x_nil, x_as, x_box, x_ldn, x_call, kx, rvP_ok, ev_t, ev_c, evs_nil, evs_cons, getV_some, putD_some, oGet_s, frame_1, getK_set, Nat.reduceEqDiff, ↓reduceIte, c1, l1]
  generalize h.new (.cells 49 (L.map V.b)) = h1 at *
  have hc1 := g1.hc hc
  refine (callP_0 (ef := f58) k.c58 rfl (f58_ret k.toNat4 hL hc1)).mono ?_
  rintro u h2 ⟨hs, ho, g2⟩
  have hc2 := g2.hc hc1
  have hlb := arI_len (g := rat L)
  have gA : Grow h.nx.nat h h2 := g1.trans (g2.low (by omega))
  simp (disch := omega) only [x_call, kx, ev_t, ev_c, evs_nil, evs_cons, getV_some, putD_some, getK_set, ↓reduceIte]
  refine (callP_0 (ef := f82) k.c82 rfl (f82_ret (b := h.nx.nat) k.c83 k.c100 hs (ho.low (by omega)) gA.nx (by omega) hc2)).mono ?_
  rintro r h3 ⟨hs3, ho3, g3⟩
  rw [arI_filter] at hs3
  simp (disch := omega) only [f50_rs, w_ret, seqK_n, retK_r, x_nil, x_as, kx, ev_t, getV_some, putD_some, oGet_s, readRs_nil, readRs_t, retV_1, Option.some.injEq, exists_eq_left', getK_set, ↓reduceIte]
  exact ⟨hs3, ho3, gA.trans g3⟩
/-- The others of a graph. -/
def oth (n : Nat) (g : Nat → Nat → Bool) (a b : Nat) : Bool := decide (a < b ∧ b < n) && !g a b
theorem oth_gph {n : Nat} {g : Nat → Nat → Bool} (hg : Gph n g) : Gph n (oth n g) := ⟨hg.n1, hg.n7, fun a b h => by
  unfold oth at h
  rw [Bool.and_eq_true, decide_eq_true_eq] at h
  exact h.1⟩
end
end Go.Ev
